import PyProof.Rows.All
import Wide.All
import OpenK.AllK
import Wide.FinOn
import HandS.ForMost
import HandS.ForExc
import HandS.Codes
import HandS.Wide
import HandS.Conv
import HandS.TupAny
import HandS.TupMul
import HandS.IsInst
import HandS.ExcInit
import HandS.ExcIs
import HandS.ExcField
import HandS.Lambda
import HandS.EndTab
import HandS.Property
import HandS.ClsMeth
import HandS.FStr
import HandS.Walk
import HandS.Iter
import HandS.StrMore
import HandS.Style
import HandS.Evl
import HandS.Steps
import KE.GoesMore
import KE.OsScanText
import KE.KNestM
import PySem.Challenge.RW_wornbridges_k02_whole_texts_of_towns
set_option Elab.async false
set_option linter.all false
set_option maxRecDepth 100000
set_option maxHeartbeats 4000000
namespace Fm
open PySem PySem.Spec PyProof.Rows L2

/-- a value as a tree: tuples are values, what can change is a number -/
inductive Tr where
  | non | bl (b : Bool) | int (i : Int) | str (x : Str) | tup (ts : List Tr) | ref (n : Nat) | raw (v : V)
/-- what can change -/
inductive O where
  | lst (ts : List Tr)
  | ins (C : Addr) (fs : List (Str × Tr))
  | tab (P : Addr) (q : Str)
abbrev Mem := List O
abbrev Loc := List (Option Tr)

section
variable (K : PySem.W.Frag) (H : Hp) (ρ : List Addr)
mutual
def RT : Tr → V → Prop
  | .non, v => v = .non
  | .bl b, v => v = .bl b
  | .int i, v => v = .int i
  | .str x, v => v = .str x
  | .raw w, v => v = w
  | .ref n, v => ∃ a, ρ[n]? = some a ∧ v = .ref a
  | .tup ts, v => ∃ a xs, v = .ref a ∧ SqT K H a xs ∧ RTs ts xs
def RTs : List Tr → List V → Prop
  | [], xs => xs = []
  | t :: ts, xs => ∃ x ys, xs = x :: ys ∧ RT t x ∧ RTs ts ys
end
def RFs : List (Str × Tr) → List (Str × V) → Prop
  | [], gs => gs = []
  | p :: fs, gs => ∃ x hs, gs = (p.1, x) :: hs ∧ RT K H ρ p.2 x ∧ RFs fs hs
def RO : O → Addr → Prop
  | .lst ts, a => ∃ xs, H a = some (.lst xs) ∧ RTs K H ρ ts xs
  | .ins C fs, a => ∃ dx gs, H a = some (.ins C dx gs) ∧ H dx = some (.own a) ∧ RFs K H ρ fs gs
  | .tab P q, a => a = P ∧ LamX.TabS H P q
structure RM (M : Mem) : Prop where
  len : ρ.length = M.length
  at_ : ∀ (n : Nat) (o : O), M[n]? = some o → ∃ a, ρ[n]? = some a ∧ RO K H ρ o a
  nd : ρ.Nodup
def RL1 : Option Tr → Option V → Prop
  | none, _ => True
  | some t, v => ∃ x, v = some x ∧ RT K H ρ t x
def RL : Loc → L2.St → Prop
  | [], σ => σ = []
  | t :: L, σ => ∃ v τ, σ = v :: τ ∧ RL1 K H ρ t v ∧ RL L τ
end
/-- the heap has grown: the tuples stay, and what no number names -/
structure Grow (K : PySem.W.Frag) (H : Hp) (ρ : List Addr) (H' : Hp) (ρ' : List Addr) : Prop where
  ext : ∃ t, ρ' = ρ ++ t
  tup : ∀ a xs, SqT K H a xs → SqT K H' a xs
  oth : ∀ a o, H a = some o → a ∉ ρ → (∀ ps, o ≠ .tbl ps) → H' a = some o
  new : ∀ a, a ∈ ρ' → a ∉ ρ → ∀ o, H a = some o → ∃ ps, o = .tbl ps
  cod : ∀ c q, H c = some (LamX.CodeO c q) → H' c = some (LamX.CodeO c q)
/-- less: more numbers, the tuples stay -/
structure Gw (K : PySem.W.Frag) (H : Hp) (ρ : List Addr) (H' : Hp) (ρ' : List Addr) : Prop where
  ext : ∃ t, ρ' = ρ ++ t
  tup : ∀ a xs, SqT K H a xs → SqT K H' a xs
  cod : ∀ c q, H c = some (LamX.CodeO c q) → H' c = some (LamX.CodeO c q)
section
variable {K : PySem.W.Frag} {H H' H2 : Hp} {ρ ρ' ρ2 : List Addr}
theorem Grow.gw (g : Grow K H ρ H' ρ') : Gw K H ρ H' ρ' := ⟨g.ext, g.tup, g.cod⟩
theorem Grow.refl : Grow K H ρ H ρ := ⟨⟨[], by simp⟩, fun _ _ h => h, fun _ _ h _ _ => h, fun _ h n => absurd h n, fun _ _ h => h⟩
theorem Grow.trans (a : Grow K H ρ H' ρ') (b : Grow K H' ρ' H2 ρ2) : Grow K H ρ H2 ρ2 := by
  obtain ⟨t, e⟩ := a.ext
  obtain ⟨u, f⟩ := b.ext
  have key : ∀ x o, H x = some o → x ∉ ρ → (∀ ps, o ≠ .tbl ps) → x ∉ ρ' := fun x o h n nt z => by
    obtain ⟨ps, e⟩ := a.new x z n o h
    exact nt ps e
  refine ⟨⟨t ++ u, by rw [f, e, List.append_assoc]⟩, fun x xs h => b.tup _ _ (a.tup _ _ h), fun x o h n nt => b.oth _ _ (a.oth _ _ h n nt) (key x o h n nt) nt, fun x h n o ho => ?_, fun c q h => b.cod c q (a.cod c q h)⟩
  by_cases hx : x ∈ ρ'
  · exact a.new x hx n o ho
  · refine Classical.byContradiction fun nt => ?_
    have nt' : ∀ ps, o ≠ .tbl ps := fun ps e => nt ⟨ps, e⟩
    obtain ⟨ps, e⟩ := b.new x h hx o (a.oth x o ho n nt')
    exact nt' ps e
theorem ext_get (e : ∃ t, ρ' = ρ ++ t) {n : Nat} {a : Addr} (h : ρ[n]? = some a) : ρ'[n]? = some a := by
  obtain ⟨t, rfl⟩ := e
  rw [List.getElem?_append_left]
  · exact h
  · exact (List.getElem?_eq_some_iff.mp h).1
mutual
theorem RT.mono0 (g : Gw K H ρ H' ρ') : ∀ {t : Tr} {v : V}, RT K H ρ t v → RT K H' ρ' t v
  | .non, _, h => h
  | .bl _, _, h => h
  | .int _, _, h => h
  | .str _, _, h => h
  | .raw _, _, h => h
  | .ref n, _, h => by
    unfold RT at h ⊢
    obtain ⟨a, h1, h2⟩ := h
    exact ⟨a, ext_get g.ext h1, h2⟩
  | .tup ts, _, h => by
    unfold RT at h ⊢
    obtain ⟨a, xs, h1, h2, h3⟩ := h
    exact ⟨a, xs, h1, g.tup _ _ h2, RTs.mono0 g h3⟩
theorem RTs.mono0 (g : Gw K H ρ H' ρ') : ∀ {ts : List Tr} {vs : List V}, RTs K H ρ ts vs → RTs K H' ρ' ts vs
  | [], _, h => by
    unfold RTs at h ⊢
    exact h
  | t :: ts, _, h => by
    unfold RTs at h ⊢
    obtain ⟨x, ys, h1, h2, h3⟩ := h
    exact ⟨x, ys, h1, RT.mono0 g h2, RTs.mono0 g h3⟩
end
theorem RFs.mono0 (g : Gw K H ρ H' ρ') : ∀ {ts : List (Str × Tr)} {vs : List (Str × V)}, RFs K H ρ ts vs → RFs K H' ρ' ts vs
  | [], _, h => h
  | t :: ts, _, h => by
    obtain ⟨x, ys, h1, h2, h3⟩ := h
    exact ⟨x, ys, h1, RT.mono0 g h2, RFs.mono0 g h3⟩
theorem RL.mono0 (g : Gw K H ρ H' ρ') : ∀ {L : Loc} {σ : L2.St}, RL K H ρ L σ → RL K H' ρ' L σ
  | [], _, h => h
  | none :: L, _, h => by
    obtain ⟨v, τ, h1, h2, h3⟩ := h
    exact ⟨v, τ, h1, trivial, RL.mono0 g h3⟩
  | some t :: L, _, h => by
    obtain ⟨v, τ, h1, ⟨x, h4, h5⟩, h3⟩ := h
    exact ⟨v, τ, h1, ⟨x, h4, RT.mono0 g h5⟩, RL.mono0 g h3⟩
theorem RT.mono (g : Grow K H ρ H' ρ') {t : Tr} {v : V} (h : RT K H ρ t v) : RT K H' ρ' t v := RT.mono0 g.gw h
theorem RTs.mono (g : Grow K H ρ H' ρ') {t : List Tr} {v : List V} (h : RTs K H ρ t v) : RTs K H' ρ' t v := RTs.mono0 g.gw h
theorem RFs.mono (g : Grow K H ρ H' ρ') {t : List (Str × Tr)} {v : List (Str × V)} (h : RFs K H ρ t v) : RFs K H' ρ' t v := RFs.mono0 g.gw h
theorem RL.mono (g : Grow K H ρ H' ρ') {L : Loc} {σ : L2.St} (h : RL K H ρ L σ) : RL K H' ρ' L σ := RL.mono0 g.gw h
theorem RL.get : ∀ {L : Loc} {σ : L2.St} {i : Nat} {t : Tr}, RL K H ρ L σ → L[i]? = some (some t) → ∃ x, σ[i]? = some (some x) ∧ RT K H ρ t x
  | [], _, _, _, _, e => by simp at e
  | u :: L, _, 0, t, h, e => by
    obtain ⟨v, τ, rfl, h2, h3⟩ := h
    have e' : u = some t := by simpa using e
    subst e'
    obtain ⟨x, rfl, h4⟩ := h2
    exact ⟨x, rfl, h4⟩
  | u :: L, _, i + 1, t, h, e => by
    obtain ⟨v, τ, rfl, h2, h3⟩ := h
    obtain ⟨x, h4, h5⟩ := RL.get (i := i) h3 (by simpa using e)
    exact ⟨x, by simpa using h4, h5⟩
theorem RL.set {t : Tr} {x : V} (r : RT K H ρ t x) : ∀ {L : Loc} {σ : L2.St} (i : Nat), RL K H ρ L σ → RL K H ρ (L.set i (some t)) (σ.set i (some x))
  | [], _, _, h => by
    have h : _ = ([] : L2.St) := h
    subst h
    exact rfl
  | u :: L, _, 0, h => by
    obtain ⟨v, τ, rfl, h2, h3⟩ := h
    exact ⟨_, _, rfl, ⟨x, rfl, r⟩, h3⟩
  | u :: L, _, i + 1, h => by
    obtain ⟨v, τ, rfl, h2, h3⟩ := h
    exact ⟨_, _, rfl, h2, RL.set r i h3⟩
theorem RTs.len : ∀ {ts : List Tr} {xs : List V}, RTs K H ρ ts xs → xs.length = ts.length
  | [], _, h => by
    unfold RTs at h
    rw [h] <;> rfl
  | t :: ts, _, h => by
    unfold RTs at h
    obtain ⟨x, ys, rfl, _, h3⟩ := h
    simp [RTs.len h3]
theorem RTs.get : ∀ {ts : List Tr} {xs : List V} {i : Nat} {t : Tr}, RTs K H ρ ts xs → ts[i]? = some t → ∃ x, xs[i]? = some x ∧ RT K H ρ t x
  | [], _, _, _, _, e => by simp at e
  | u :: ts, _, 0, t, h, e => by
    unfold RTs at h
    obtain ⟨x, ys, rfl, h2, h3⟩ := h
    have e' : u = t := by simpa using e
    subst e'
    exact ⟨x, rfl, h2⟩
  | u :: ts, _, i + 1, t, h, e => by
    unfold RTs at h
    obtain ⟨x, ys, rfl, h2, h3⟩ := h
    obtain ⟨y, h4, h5⟩ := RTs.get (i := i) h3 (by simpa using e)
    exact ⟨y, by simpa using h4, h5⟩
theorem RTs.nil : RTs K H ρ [] [] := by unfold RTs; rfl
theorem RTs.cons {t : Tr} {x : V} {ts : List Tr} {xs : List V} (a : RT K H ρ t x) (b : RTs K H ρ ts xs) : RTs K H ρ (t :: ts) (x :: xs) := by
  unfold RTs; exact ⟨x, xs, rfl, a, b⟩
theorem RTs.app : ∀ {ts us : List Tr} {xs ys : List V}, RTs K H ρ ts xs → RTs K H ρ us ys → RTs K H ρ (ts ++ us) (xs ++ ys)
  | [], _, _, _, h, k => by
    unfold RTs at h
    subst h
    exact k
  | t :: ts, _, _, _, h, k => by
    unfold RTs at h
    obtain ⟨x, zs, rfl, h2, h3⟩ := h
    exact RTs.cons h2 (RTs.app h3 k)
theorem RTs.set {t : Tr} {x : V} (r : RT K H ρ t x) : ∀ {ts : List Tr} {xs : List V} (i : Nat), RTs K H ρ ts xs → RTs K H ρ (ts.set i t) (xs.set i x)
  | [], _, _, h => by
    unfold RTs at h
    subst h
    exact RTs.nil
  | u :: L, _, 0, h => by
    unfold RTs at h
    obtain ⟨v, τ, rfl, h2, h3⟩ := h
    exact RTs.cons r h3
  | u :: L, _, i + 1, h => by
    unfold RTs at h
    obtain ⟨v, τ, rfl, h2, h3⟩ := h
    exact RTs.cons h2 (RTs.set r i h3)
theorem RTs.take : ∀ {ts : List Tr} {xs : List V} (n : Nat), RTs K H ρ ts xs → RTs K H ρ (ts.take n) (xs.take n)
  | _, _, 0, _ => RTs.nil
  | [], _, n + 1, h => by
    unfold RTs at h
    subst h
    exact RTs.nil
  | t :: ts, _, n + 1, h => by
    unfold RTs at h
    obtain ⟨x, zs, rfl, h2, h3⟩ := h
    exact RTs.cons h2 (RTs.take n h3)
theorem RTs.drop : ∀ {ts : List Tr} {xs : List V} (n : Nat), RTs K H ρ ts xs → RTs K H ρ (ts.drop n) (xs.drop n)
  | _, _, 0, h => h
  | [], _, n + 1, h => by
    unfold RTs at h
    subst h
    exact RTs.nil
  | t :: ts, _, n + 1, h => by
    unfold RTs at h
    obtain ⟨x, zs, rfl, h2, h3⟩ := h
    exact RTs.drop n h3
theorem RO.mono0 (g : Gw K H ρ H' ρ') {o : O} {a : Addr} (k : H' a = H a) (kd : ∀ d, H d = some (.own a) → H' d = some (.own a)) (h : RO K H ρ o a) : RO K H' ρ' o a := by
  cases o with
  | lst ts =>
    obtain ⟨xs, h1, h2⟩ := h
    exact ⟨xs, by rw [k]; exact h1, RTs.mono0 g h2⟩
  | ins C fs =>
    obtain ⟨dx, gs, h1, h3, h2⟩ := h
    exact ⟨dx, gs, by rw [k]; exact h1, kd _ h3, RFs.mono0 g h2⟩
  | tab P q =>
    obtain ⟨rfl, ps, h1, h2, h3⟩ := h
    refine ⟨rfl, ps, by rw [k]; exact h1, h2, fun pos cv hc => ?_⟩
    obtain ⟨c, e1, e2⟩ := h3 pos cv hc
    exact ⟨c, e1, g.cod c q e2⟩
theorem RO.mono (g : Grow K H ρ H' ρ') {o : O} {a : Addr} (k : H' a = H a) (kd : ∀ d, H d = some (.own a) → H' d = some (.own a)) (h : RO K H ρ o a) : RO K H' ρ' o a := RO.mono0 g.gw k kd h
theorem RM.obj {M : Mem} (r : RM K H ρ M) {n : Nat} {a : Addr} (h : ρ[n]? = some a) : ∃ o, M[n]? = some o ∧ RO K H ρ o a := by
  have hn : n < M.length := by rw [← r.len]; exact (List.getElem?_eq_some_iff.mp h).1
  obtain ⟨b, h1, h2⟩ := r.at_ n M[n] (List.getElem?_eq_getElem hn)
  rw [h] at h1
  cases h1
  exact ⟨_, List.getElem?_eq_getElem hn, h2⟩
theorem RM.trk {M : Mem} (r : RM K H ρ M) {a : Addr} (h : a ∈ ρ) : (∃ xs, H a = some (.lst xs)) ∨ (∃ C dx gs, H a = some (.ins C dx gs)) ∨ ∃ ps, H a = some (.tbl ps) := by
  obtain ⟨n, hn⟩ := List.getElem?_of_mem h
  obtain ⟨o, _, h2⟩ := r.obj hn
  cases o with
  | lst ts =>
    obtain ⟨xs, h1, _⟩ := h2
    exact .inl ⟨xs, h1⟩
  | ins C fs =>
    obtain ⟨dx, gs, h1, _⟩ := h2
    exact .inr (.inl ⟨C, dx, gs, h1⟩)
  | tab P q =>
    obtain ⟨rfl, ps, h1, _⟩ := h2
    exact .inr (.inr ⟨ps, h1⟩)
theorem RM.fresh {M : Mem} (r : RM K H ρ M) {a : Addr} (h : H a = none) : a ∉ ρ := fun z => by
  rcases r.trk z with ⟨xs, e⟩ | ⟨C, dx, gs, e⟩ | ⟨ps, e⟩ <;> rw [h] at e <;> cases e
/-- a tuple stays where no tuple is written -/
theorem sqt_upd {a b : Addr} {o : HO} {xs : List V} (h : SqT K H a xs) (n : H b = none ∨ (∃ ys, H b = some (.lst ys)) ∨ ∃ C dx gs, H b = some (.ins C dx gs)) : SqT K (upd H b o) a xs := by
  have key : ∀ u, H a = some u → (∀ ys, u ≠ .lst ys) → (∀ C dx gs, u ≠ .ins C dx gs) → upd H b o a = some u := fun u hu n1 n2 => by
    refine (upd_ne fun e => ?_).trans hu
    subst e
    rcases n with n | ⟨ys, n⟩ | ⟨C, dx, gs, n⟩ <;> rw [hu] at n
    · cases n
    · exact n1 _ (Option.some.inj n)
    · exact n2 _ _ _ (Option.some.inj n)
  rcases h with (h | ⟨q, h⟩) | h
  · exact .inl (.inl (key _ h (fun _ z => nomatch z) (fun _ _ _ z => nomatch z)))
  · exact .inl (.inr ⟨q, key _ h (fun _ z => nomatch z) (fun _ _ _ z => nomatch z)⟩)
  · exact .inr h
theorem cod_upd {b : Addr} {o : HO} (n : H b = none ∨ (∃ ys, H b = some (.lst ys)) ∨ ∃ C dx gs, H b = some (.ins C dx gs)) (c : Addr) (q : Str) (h : H c = some (LamX.CodeO c q)) : upd H b o c = some (LamX.CodeO c q) := by
  refine (upd_ne fun e => ?_).trans h
  subst e
  rcases n with n | ⟨ys, n⟩ | ⟨C, dx, gs, n⟩ <;> rw [h] at n <;> unfold LamX.CodeO at n <;> cases n
/-- a new thing that no number names -/
theorem Grow.laid {p : Addr} {o : HO} (hp : H p = none) : Grow K H ρ (upd H p o) ρ :=
  ⟨⟨[], by simp⟩, fun _ _ h => sqt_upd h (.inl hp), fun a u h _ _ => by rw [upd_ne (ne_of_none h hp)]; exact h, fun _ h n => absurd h n, fun c q h => cod_upd (.inl hp) c q h⟩
theorem RM.grown {M : Mem} (r : RM K H ρ M) (g : Grow K H ρ H' ρ) (k : ∀ a, a ∈ ρ → H' a = H a) (kd : ∀ d a, H d = some (.own a) → H' d = some (.own a)) : RM K H' ρ M :=
  ⟨r.len, fun n o h => let ⟨a, h1, h2⟩ := r.at_ n o h; ⟨a, h1, h2.mono g (k a (List.mem_of_getElem? h1)) fun d q => kd d a q⟩, r.nd⟩
theorem RM.laid {M : Mem} {p : Addr} {o : HO} (r : RM K H ρ M) (hp : H p = none) : RM K (upd H p o) ρ M :=
  r.grown (Grow.laid hp) (fun a ha => upd_ne fun e => r.fresh hp (e ▸ ha)) fun d a q => by rw [upd_ne (ne_of_none q hp)]; exact q
/-- a new list -/
theorem Grow.list {M : Mem} (r : RM K H ρ M) {p : Addr} {o : HO} (hp : H p = none) : Grow K H ρ (upd H p o) (ρ ++ [p]) :=
  ⟨⟨[p], rfl⟩, fun _ _ h => sqt_upd h (.inl hp), fun a u h _ _ => by rw [upd_ne (ne_of_none h hp)]; exact h, fun a h n o ho => by
    rcases List.mem_append.mp h with h | h
    · exact absurd h n
    · rw [List.mem_singleton.mp h, hp] at ho
      (cases ho), fun c q h => cod_upd (.inl hp) c q h⟩
theorem RM.list {M : Mem} (r : RM K H ρ M) {p : Addr} {ts : List Tr} {xs : List V} (hp : H p = none) (h : RTs K H ρ ts xs) : RM K (upd H p (.lst xs)) (ρ ++ [p]) (M ++ [.lst ts]) := by
  have g := Grow.list (o := .lst xs) r hp
  have lt := r.len
  refine ⟨by simp [lt], fun n o e => ?_, ?_⟩
  · by_cases hn : n < M.length
    · rw [List.getElem?_append_left hn] at e
      obtain ⟨a, h1, h2⟩ := r.at_ n o e
      refine ⟨a, by rw [List.getElem?_append_left (by rw [lt]; exact hn)]; exact h1, h2.mono g (upd_ne fun e => r.fresh hp (e ▸ List.mem_of_getElem? h1)) fun d q => by rw [upd_ne (ne_of_none q hp)]; exact q⟩
    · rw [List.getElem?_append_right (by omega)] at e
      match hz : n - M.length, e with
      | 0, e =>
        cases e
        exact ⟨p, by rw [List.getElem?_append_right (by omega), lt, hz]; rfl, xs, upd_same, RTs.mono g h⟩
      | k + 1, e => simp at e
  · rw [List.nodup_append]
    exact ⟨r.nd, by simp, fun a ha b hb => by rw [List.mem_singleton.mp hb]; exact fun e => r.fresh hp (e ▸ ha)⟩
theorem RM.ref {M : Mem} (r : RM K H ρ M) {p : Addr} : (ρ ++ [p])[M.length]? = some p := by rw [← r.len]; simp
/-- a list is written -/
theorem Grow.wr {M : Mem} (r : RM K H ρ M) {p : Addr} {xs ys : List V} (hp : H p = some (.lst xs)) (hm : p ∈ ρ) : Grow K H ρ (upd H p (.lst ys)) ρ :=
  ⟨⟨[], by simp⟩, fun _ _ h => sqt_upd h (.inr (.inl ⟨xs, hp⟩)), fun a u h n _ => by rw [upd_ne (show a ≠ p from fun e => n (by rw [e]; exact hm))]; exact h, fun _ h n => absurd h n, fun c q h => cod_upd (.inr (.inl ⟨xs, hp⟩)) c q h⟩
theorem nodup_ix {l : List Addr} (nd : l.Nodup) {i j : Nat} {a : Addr} (h1 : l[i]? = some a) (h2 : l[j]? = some a) : i = j := by
  obtain ⟨a1, b1⟩ := List.getElem?_eq_some_iff.mp h1
  obtain ⟨a2, b2⟩ := List.getElem?_eq_some_iff.mp h2
  have nd := List.pairwise_iff_getElem.mp nd
  rcases Nat.lt_trichotomy i j with h | h | h
  · exact absurd (b1.trans b2.symm) (nd i j a1 a2 h)
  · exact h
  · exact absurd (b2.trans b1.symm) (nd j i a2 a1 h)
theorem RM.wr {M : Mem} (r : RM K H ρ M) {p : Addr} {n : Nat} {xs ys : List V} {us : List Tr} (hp : H p = some (.lst xs)) (hn : ρ[n]? = some p) (h : RTs K H ρ us ys) : RM K (upd H p (.lst ys)) ρ (M.set n (.lst us)) := by
  have g := Grow.wr (ys := ys) r hp (List.mem_of_getElem? hn)
  refine ⟨by simp [r.len], fun m o e => ?_, r.nd⟩
  by_cases hm : n = m
  · subst hm
    have hl : n < M.length := by rw [← r.len]; exact (List.getElem?_eq_some_iff.mp hn).1
    rw [List.getElem?_set_self hl] at e
    cases e
    exact ⟨p, hn, ys, upd_same, RTs.mono g h⟩
  · rw [List.getElem?_set_ne hm] at e
    obtain ⟨a, h1, h2⟩ := r.at_ m o e
    exact ⟨a, h1, h2.mono g (upd_ne fun e => hm (nodup_ix r.nd hn (e ▸ h1))) fun d q => by rw [upd_ne (ne_of q hp (fun z => nomatch z))]; exact q⟩
/-- an object's attribute is written -/
theorem Grow.wi {M : Mem} (r : RM K H ρ M) {p C dx : Addr} {gs hs : List (Str × V)} (hp : H p = some (.ins C dx gs)) (hm : p ∈ ρ) : Grow K H ρ (upd H p (.ins C dx hs)) ρ :=
  ⟨⟨[], by simp⟩, fun _ _ h => sqt_upd h (.inr (.inr ⟨C, dx, gs, hp⟩)), fun a u h n _ => by rw [upd_ne (show a ≠ p from fun e => n (by rw [e]; exact hm))]; exact h, fun _ h n => absurd h n, fun c q h => cod_upd (.inr (.inr ⟨C, dx, gs, hp⟩)) c q h⟩
theorem RM.wi {M : Mem} (r : RM K H ρ M) {p C dx : Addr} {n : Nat} {gs hs : List (Str × V)} {us : List (Str × Tr)} (hp : H p = some (.ins C dx gs)) (hd : H dx = some (.own p)) (hn : ρ[n]? = some p) (h : RFs K H ρ us hs) : RM K (upd H p (.ins C dx hs)) ρ (M.set n (.ins C us)) := by
  have g := Grow.wi (hs := hs) r hp (List.mem_of_getElem? hn)
  refine ⟨by simp [r.len], fun m o e => ?_, r.nd⟩
  by_cases hm : n = m
  · subst hm
    have hl : n < M.length := by rw [← r.len]; exact (List.getElem?_eq_some_iff.mp hn).1
    rw [List.getElem?_set_self hl] at e
    cases e
    exact ⟨p, hn, dx, hs, upd_same, by rw [upd_ne (ne_of hd hp (fun z => nomatch z))]; exact hd, RFs.mono g h⟩
  · rw [List.getElem?_set_ne hm] at e
    obtain ⟨a, h1, h2⟩ := r.at_ m o e
    exact ⟨a, h1, h2.mono g (upd_ne fun e => hm (nodup_ix r.nd hn (e ▸ h1))) fun d q => by rw [upd_ne (ne_of q hp (fun z => nomatch z))]; exact q⟩
end
end Fm

set_option Elab.async false
set_option linter.all false
set_option maxRecDepth 100000
set_option maxHeartbeats 4000000
namespace Fm
open PySem PySem.Spec PyProof.Rows L2
abbrev PF := Tr → Mem → Prop
abbrev PFs := List Tr → Mem → Prop
abbrev PB := Bool → Mem → Prop
abbrev FE := Loc → Mem → PF → Prop
abbrev FA := Loc → Mem → PFs → Prop
abbrev FT := Loc → Mem → PB → Prop
abbrev F2 := Tr → Tr → Mem → PF → Prop
abbrev F1 := Tr → Mem → PF → Prop
abbrev FC := List Tr → Mem → PF → Prop
section
variable (K : PySem.W.Frag) (H : Hp) (ρ : List Addr)
/-- what is known behind: whatever stands for the tree's outcome is wanted -/
def Out (P : PF) (Q : VK) : Prop := ∀ v x H' ρ' M', Grow K H ρ H' ρ' → RM K H' ρ' M' → RT K H' ρ' v x → P v M' → Q x H'
def OutS (P : PFs) (Q : List V → Hp → Prop) : Prop := ∀ vs xs H' ρ' M', Grow K H ρ H' ρ' → RM K H' ρ' M' → RTs K H' ρ' vs xs → P vs M' → Q xs H'
def OutB (P : PB) (Q : Bool → Hp → Prop) : Prop := ∀ b H' ρ' M', Grow K H ρ H' ρ' → RM K H' ρ' M' → P b M' → Q b H'
def OutO (P : Option Int → Mem → Prop) (Q : Option Int → Hp → Prop) : Prop := ∀ b H' ρ' M', Grow K H ρ H' ρ' → RM K H' ρ' M' → P b M' → Q b H'
end
section
variable {K : PySem.W.Frag} {H H' : Hp} {ρ ρ' : List Addr}
theorem Out.step {P : PF} {Q : VK} (g : Grow K H ρ H' ρ') (o : Out K H ρ P Q) : Out K H' ρ' P Q := fun v x H2 ρ2 M2 g2 m r p => o v x H2 ρ2 M2 (g.trans g2) m r p
theorem OutS.step {P : PFs} {Q : List V → Hp → Prop} (g : Grow K H ρ H' ρ') (o : OutS K H ρ P Q) : OutS K H' ρ' P Q := fun v x H2 ρ2 M2 g2 m r p => o v x H2 ρ2 M2 (g.trans g2) m r p
theorem OutB.step {P : PB} {Q : Bool → Hp → Prop} (g : Grow K H ρ H' ρ') (o : OutB K H ρ P Q) : OutB K H' ρ' P Q := fun b H2 ρ2 M2 g2 m p => o b H2 ρ2 M2 (g.trans g2) m p
theorem OutO.step {P : Option Int → Mem → Prop} {Q : Option Int → Hp → Prop} (g : Grow K H ρ H' ρ') (o : OutO K H ρ P Q) : OutO K H' ρ' P Q := fun b H2 ρ2 M2 g2 m p => o b H2 ρ2 M2 (g.trans g2) m p
end
/-- where a def was entered: the heap, the numbers' addresses -/
abbrev Bs := Hp × List Addr
/-- the slots, and that all has grown since the entry -/
structure RX (K : PySem.W.Frag) (B : Bs) (H : Hp) (ρ : List Addr) (L : Loc) (σ : L2.St) : Prop where
  rl : RL K H ρ L σ
  gr : Grow K B.1 B.2 H ρ
theorem RX.mono {K : PySem.W.Frag} {B : Bs} {H H' : Hp} {ρ ρ' : List Addr} {L : Loc} {σ : L2.St} (x : RX K B H ρ L σ) (g : Grow K H ρ H' ρ') : RX K B H' ρ' L σ := ⟨x.rl.mono g, x.gr.trans g⟩
theorem RX.get {K : PySem.W.Frag} {B : Bs} {H : Hp} {ρ : List Addr} {L : Loc} {σ : L2.St} {i : Nat} {t : Tr} (x : RX K B H ρ L σ) (e : L[i]? = some (some t)) : ∃ v, σ[i]? = some (some v) ∧ RT K H ρ t v := x.rl.get e
structure SimE (K : PySem.W.Frag) (B : Bs) (te : TE) (fe : FE) : Prop where
  run : ∀ {σ H ρ L M P Q}, RX K B H ρ L σ → RM K H ρ M → fe L M P → Out K H ρ P Q → te σ H Q
structure SimA (K : PySem.W.Frag) (B : Bs) (ta : TA) (fa : FA) : Prop where
  run : ∀ {σ H ρ L M P Q}, RX K B H ρ L σ → RM K H ρ M → fa L M P → OutS K H ρ P Q → ta σ H Q
structure SimT (K : PySem.W.Frag) (B : Bs) (tt : TT) (ft : FT) : Prop where
  run : ∀ {σ H ρ L M P Q}, RX K B H ρ L σ → RM K H ρ M → ft L M P → OutB K H ρ P Q → tt σ H Q
structure SimO (K : PySem.W.Frag) (B : Bs) (tt : TO) (ft : Loc → Mem → (Option Int → Mem → Prop) → Prop) : Prop where
  run : ∀ {σ H ρ L M P Q}, RX K B H ρ L σ → RM K H ρ M → ft L M P → OutO K H ρ P Q → tt σ H Q
/-- by values -/
structure Sim2 (K : PySem.W.Frag) (r : R2) (fr : F2) : Prop where
  run : ∀ {H ρ M x y xv yv P Q}, RM K H ρ M → RT K H ρ x xv → RT K H ρ y yv → fr x y M P → Out K H ρ P Q → r xv yv H Q
structure Sim1 (K : PySem.W.Frag) (r : V → Hp → VK → Prop) (fr : F1) : Prop where
  run : ∀ {H ρ M x xv P Q}, RM K H ρ M → RT K H ρ x xv → fr x M P → Out K H ρ P Q → r xv H Q
structure SimC (K : PySem.W.Frag) (r : List V → Hp → VK → Prop) (fr : FC) : Prop where
  run : ∀ {H ρ M xs xvs P Q}, RM K H ρ M → RTs K H ρ xs xvs → fr xs M P → Out K H ρ P Q → r xvs H Q
structure SimM (K : PySem.W.Frag) (r : V → List V → Hp → VK → Prop) (fr : Tr → FC) : Prop where
  run : ∀ {H ρ M x xv xs xvs P Q}, RM K H ρ M → RT K H ρ x xv → RTs K H ρ xs xvs → fr x xs M P → Out K H ρ P Q → r xv xvs H Q
/-! ### expressions -/
def fVar (i : Nat) : FE := fun L M P => ∃ t, L[i]? = some (some t) ∧ P t M
def fC (t : Tr) : FE := fun _ M P => P t M
def fOp (fr : F2) (fa fb : FE) : FE := fun L M P => fa L M fun x M1 => fb L M1 fun y M2 => fr x y M2 P
def fUn (fr : F1) (fa : FE) : FE := fun L M P => fa L M fun x M1 => fr x M1 P
def fNil : FA := fun _ M P => P [] M
def fCons (fa : FE) (fr : FA) : FA := fun L M P => fa L M fun x M1 => fr L M1 fun xs M2 => P (x :: xs) M2
def fTup (fa : FA) : FE := fun L M P => fa L M fun xs M1 => xs.length ≤ sizeLine ∧ P (.tup xs) M1
def fLst (fa : FA) : FE := fun L M P => fa L M fun xs M1 => xs.length ≤ sizeLine ∧ P (.ref M1.length) (M1 ++ [.lst xs])
def fCB (fr : FC) (fa : FA) : FE := fun L M P => fa L M fun xs M1 => fr xs M1 P
def fIf (ft : FT) (fa fb : FE) : FE := fun L M P => ft L M fun c M1 => if c = true then fa L M1 P else fb L M1 P
def fTest (fe : FE) : FT := fun L M P => fe L M fun x M1 => ∃ k, x = .bl k ∧ P k M1
def fNot (ft : FT) : FT := fun L M P => ft L M fun c M1 => P (!c) M1
def fAnd (ft fu : FT) : FT := fun L M P => ft L M fun c M1 => if c = true then fu L M1 P else P false M1
def fOr (ft fu : FT) : FT := fun L M P => ft L M fun c M1 => if c = true then P true M1 else fu L M1 P
def fAndV (fa fb : FE) : FE := fun L M P => fa L M fun x M1 => ∃ c, x = .bl c ∧ if c = true then fb L M1 P else P (.bl false) M1
def fOrV (fa fb : FE) : FE := fun L M P => fa L M fun x M1 => ∃ c, x = .bl c ∧ if c = true then P (.bl true) M1 else fb L M1 P
def fNotV (fa : FE) : FE := fun L M P => fa L M fun x M1 => ∃ c, x = .bl c ∧ P (.bl (!c)) M1
def fChain (r r' : F2) (fa fb fc : FE) : FE := fun L M P => fa L M fun x M1 => fb L M1 fun y M2 => r x y M2 fun z M3 => ∃ k, z = .bl k ∧ (if k = true then fc L M3 fun w M4 => r' y w M4 P else P (.bl false) M3)
def fNoPart : Loc → Mem → (Option Int → Mem → Prop) → Prop := fun _ M P => P none M
def fPart (fe : FE) : Loc → Mem → (Option Int → Mem → Prop) → Prop := fun L M P => fe L M fun x M1 => ∃ i, x = .int i ∧ P (some i) M1
section
variable {K : PySem.W.Frag} {B : Bs} {te ta tb tc : TE} {fe fa fb fc : FE} {as : TA} {fs : FA} {t u : TT} {ft fu : FT} {r r' : R2} {fr fr' : F2}
theorem sim_var {i : Nat} : SimE K B (tVar i) (fVar i) := ⟨fun hl hm ⟨_, h, p⟩ o => let ⟨x, h1, h2⟩ := hl.get h; ⟨x, h1, o _ _ _ _ _ Grow.refl hm h2 p⟩⟩
theorem sim_raw {v : V} : SimE K B (tC v) (fC (.raw v)) := ⟨fun _ hm p o => o _ _ _ _ _ Grow.refl hm (by unfold RT; rfl) p⟩
theorem sim_int {i : Int} : SimE K B (tC (.int i)) (fC (.int i)) := ⟨fun _ hm p o => o _ _ _ _ _ Grow.refl hm (by unfold RT; rfl) p⟩
theorem sim_str {z : Str} : SimE K B (tC (.str z)) (fC (.str z)) := ⟨fun _ hm p o => o _ _ _ _ _ Grow.refl hm (by unfold RT; rfl) p⟩
theorem sim_bl {b : Bool} : SimE K B (tC (.bl b)) (fC (.bl b)) := ⟨fun _ hm p o => o _ _ _ _ _ Grow.refl hm (by unfold RT; rfl) p⟩
theorem sim_non : SimE K B (tC .non) (fC .non) := ⟨fun _ hm p o => o _ _ _ _ _ Grow.refl hm (by unfold RT; rfl) p⟩
theorem sim_op (s : Sim2 K r fr) (a : SimE K B ta fa) (b : SimE K B tb fb) : SimE K B (tOp r ta tb) (fOp fr fa fb) :=
  ⟨fun hl hm h o => a.run hl hm h fun x xv H1 ρ1 M1 g1 m1 rx h1 => b.run (hl.mono g1) m1 h1 fun y yv H2 ρ2 M2 g2 m2 ry h2 => s.run m2 (rx.mono g2) ry h2 (o.step (g1.trans g2))⟩
theorem sim_un {r : V → Hp → VK → Prop} {fr : F1} (s : Sim1 K r fr) (a : SimE K B ta fa) : SimE K B (tUn r ta) (fUn fr fa) :=
  ⟨fun hl hm h o => a.run hl hm h fun x xv H1 ρ1 M1 g1 m1 rx h1 => s.run m1 rx h1 (o.step g1)⟩
theorem sim_nil : SimA K B tNil fNil := ⟨fun _ hm p o => o _ _ _ _ _ Grow.refl hm RTs.nil p⟩
theorem sim_cons (a : SimE K B ta fa) (s : SimA K B as fs) : SimA K B (tCons ta as) (fCons fa fs) :=
  ⟨fun hl hm h o => a.run hl hm h fun x xv H1 ρ1 M1 g1 m1 rx h1 => s.run (hl.mono g1) m1 h1 fun y yv H2 ρ2 M2 g2 m2 ry h2 => o _ _ _ _ _ (g1.trans g2) m2 (RTs.cons (rx.mono g2) ry) h2⟩
theorem sim_tup (s : SimA K B as fs) : SimE K B (tTup as) (fTup fs) :=
  ⟨fun hl hm h o => s.run hl hm h fun ys yv H2 ρ2 M2 g2 m2 ry ⟨z, h2⟩ => ⟨by rw [ry.len]; exact z, fun p hp => o _ _ _ _ _ (g2.trans (Grow.laid hp)) (m2.laid hp) (by unfold RT; exact ⟨p, yv, rfl, .inl (.inl upd_same), ry.mono (Grow.laid hp)⟩) h2⟩⟩
theorem sim_lst (s : SimA K B as fs) : SimE K B (tLst as) (fLst fs) :=
  ⟨fun hl hm h o => s.run hl hm h fun ys yv H2 ρ2 M2 g2 m2 ry ⟨z, h2⟩ => ⟨by rw [ry.len]; exact z, fun p hp => o _ _ _ _ _ (g2.trans (Grow.list m2 hp)) (m2.list hp ry) (by unfold RT; exact ⟨p, m2.ref, rfl⟩) h2⟩⟩
theorem sim_CB {r : List V → Hp → VK → Prop} {fr : FC} (c : SimC K r fr) (s : SimA K B as fs) : SimE K B (tCB r as) (fCB fr fs) :=
  ⟨fun hl hm h o => s.run hl hm h fun ys yv H2 ρ2 M2 g2 m2 ry h2 => c.run m2 ry h2 (o.step g2)⟩
theorem sim_if (s : SimT K B t ft) (a : SimE K B ta fa) (b : SimE K B tb fb) : SimE K B (tIf t ta tb) (fIf ft fa fb) :=
  ⟨fun hl hm h o => s.run hl hm h fun c H1 ρ1 M1 g1 m1 h1 => by
    cases c with
    | true => rw [if_pos rfl] at h1 ⊢; exact a.run (hl.mono g1) m1 h1 (o.step g1)
    | false => rw [if_neg (by decide)] at h1 ⊢; exact b.run (hl.mono g1) m1 h1 (o.step g1)⟩
theorem RT.bl_inv {H : Hp} {ρ : List Addr} {k : Bool} {x : V} (h : RT K H ρ (.bl k) x) : x = .bl k := by unfold RT at h; exact h
theorem RT.int_inv {H : Hp} {ρ : List Addr} {k : Int} {x : V} (h : RT K H ρ (.int k) x) : x = .int k := by unfold RT at h; exact h
theorem RT.str_inv {H : Hp} {ρ : List Addr} {k : Str} {x : V} (h : RT K H ρ (.str k) x) : x = .str k := by unfold RT at h; exact h
theorem RT.non_inv {H : Hp} {ρ : List Addr} {x : V} (h : RT K H ρ .non x) : x = .non := by unfold RT at h; exact h
theorem RT.raw_inv {H : Hp} {ρ : List Addr} {w x : V} (h : RT K H ρ (.raw w) x) : x = w := by unfold RT at h; exact h
theorem RT.int_ {H : Hp} {ρ : List Addr} {k : Int} : RT K H ρ (.int k) (.int k) := by unfold RT; rfl
theorem RT.bl_ {H : Hp} {ρ : List Addr} {k : Bool} : RT K H ρ (.bl k) (.bl k) := by unfold RT; rfl
theorem RT.str_ {H : Hp} {ρ : List Addr} {k : Str} : RT K H ρ (.str k) (.str k) := by unfold RT; rfl
theorem RT.non_ {H : Hp} {ρ : List Addr} : RT K H ρ .non .non := by unfold RT; rfl
theorem RT.tup_inv {H : Hp} {ρ : List Addr} {ts : List Tr} {x : V} (h : RT K H ρ (.tup ts) x) : ∃ a xs, x = .ref a ∧ SqT K H a xs ∧ RTs K H ρ ts xs := by unfold RT at h; exact h
theorem RT.ref_inv {H : Hp} {ρ : List Addr} {n : Nat} {x : V} (h : RT K H ρ (.ref n) x) : ∃ a, ρ[n]? = some a ∧ x = .ref a := by unfold RT at h; exact h
theorem sim_test (a : SimE K B te fe) : SimT K B (tTest te) (fTest fe) := ⟨fun hl hm h o => a.run hl hm h fun x xv H1 ρ1 M1 g1 m1 rx ⟨k, e, h1⟩ => by subst e; exact ⟨k, rx.bl_inv, o _ _ _ _ g1 m1 h1⟩⟩
theorem sim_B (a : SimE K B te fe) : SimT K B (tB te) (fTest fe) := ⟨fun hl hm h o => a.run hl hm h fun x xv H1 ρ1 M1 g1 m1 rx ⟨k, e, h1⟩ => by subst e; exact ⟨k, rx.bl_inv, o _ _ _ _ g1 m1 h1⟩⟩
theorem sim_not (a : SimT K B t ft) : SimT K B (tNot t) (fNot ft) := ⟨fun hl hm h o => a.run hl hm h fun b H1 ρ1 M1 g1 m1 h1 => o _ _ _ _ g1 m1 h1⟩
theorem sim_and (a : SimT K B t ft) (b : SimT K B u fu) : SimT K B (tAnd t u) (fAnd ft fu) := ⟨fun hl hm h o => a.run hl hm h fun c H1 ρ1 M1 g1 m1 h1 => by
  cases c with
  | true => rw [if_pos rfl] at h1 ⊢; exact b.run (hl.mono g1) m1 h1 (o.step g1)
  | false => rw [if_neg (by decide)] at h1 ⊢; exact o _ _ _ _ g1 m1 h1⟩
theorem sim_or (a : SimT K B t ft) (b : SimT K B u fu) : SimT K B (tOr t u) (fOr ft fu) := ⟨fun hl hm h o => a.run hl hm h fun c H1 ρ1 M1 g1 m1 h1 => by
  cases c with
  | true => rw [if_pos rfl] at h1 ⊢; exact o _ _ _ _ g1 m1 h1
  | false => rw [if_neg (by decide)] at h1 ⊢; exact b.run (hl.mono g1) m1 h1 (o.step g1)⟩
theorem sim_andV (a : SimE K B ta fa) (b : SimE K B tb fb) : SimE K B (tAndV ta tb) (fAndV fa fb) := ⟨fun hl hm h o => a.run hl hm h fun x xv H1 ρ1 M1 g1 m1 rx ⟨c, e, h1⟩ => by
  subst e
  refine ⟨c, rx.bl_inv, ?_⟩
  cases c with
  | true => rw [if_pos rfl] at h1 ⊢; exact b.run (hl.mono g1) m1 h1 (o.step g1)
  | false => rw [if_neg (by decide)] at h1 ⊢; exact o _ _ _ _ _ g1 m1 RT.bl_ h1⟩
theorem sim_orV (a : SimE K B ta fa) (b : SimE K B tb fb) : SimE K B (tOrV ta tb) (fOrV fa fb) := ⟨fun hl hm h o => a.run hl hm h fun x xv H1 ρ1 M1 g1 m1 rx ⟨c, e, h1⟩ => by
  subst e
  refine ⟨c, rx.bl_inv, ?_⟩
  cases c with
  | true => rw [if_pos rfl] at h1 ⊢; exact o _ _ _ _ _ g1 m1 RT.bl_ h1
  | false => rw [if_neg (by decide)] at h1 ⊢; exact b.run (hl.mono g1) m1 h1 (o.step g1)⟩
theorem sim_notV (a : SimE K B ta fa) : SimE K B (tNotV ta) (fNotV fa) := ⟨fun hl hm h o => a.run hl hm h fun x xv H1 ρ1 M1 g1 m1 rx ⟨c, e, h1⟩ => by
  subst e
  exact ⟨c, rx.bl_inv, o _ _ _ _ _ g1 m1 RT.bl_ h1⟩⟩
theorem sim_chain (s : Sim2 K r fr) (s' : Sim2 K r' fr') (a : SimE K B ta fa) (b : SimE K B tb fb) (c : SimE K B tc fc) : SimE K B (tChain r r' ta tb tc) (fChain fr fr' fa fb fc) :=
  ⟨fun hl hm h o => a.run hl hm h fun x xv H1 ρ1 M1 g1 m1 rx h1 => b.run (hl.mono g1) m1 h1 fun y yv H2 ρ2 M2 g2 m2 ry h2 => s.run m2 (rx.mono g2) ry h2 fun z zv H3 ρ3 M3 g3 m3 rz ⟨k, e, h3⟩ => by
    subst e
    refine ⟨k, rz.bl_inv, ?_⟩
    have g := (g1.trans g2).trans g3
    cases k with
    | true => rw [if_pos rfl] at h3 ⊢; exact c.run (hl.mono g) m3 h3 fun w wv H4 ρ4 M4 g4 m4 rw_ h4 => s'.run m4 (ry.mono (g3.trans g4)) rw_ h4 (o.step (g.trans g4))
    | false => rw [if_neg (by decide)] at h3 ⊢; exact o _ _ _ _ _ g m3 RT.bl_ h3⟩
theorem sim_nopart : SimO K B tNoPart fNoPart := ⟨fun _ hm p o => o _ _ _ _ Grow.refl hm p⟩
theorem sim_part (a : SimE K B te fe) : SimO K B (tPart te) (fPart fe) := ⟨fun hl hm h o => a.run hl hm h fun x xv H1 ρ1 M1 g1 m1 rx ⟨i, e, h1⟩ => by subst e; exact ⟨i, rx.int_inv, o _ _ _ _ g1 m1 h1⟩⟩
end
/-! ### operators -/
def fI (C : Int → Int → Prop) (g : Int → Int → Tr) : F2 := fun x y M P => ∃ i j, x = .int i ∧ y = .int j ∧ C i j ∧ P (g i j) M
def fI0 (g : Int → Int → Tr) : F2 := fun x y M P => ∃ i j, x = .int i ∧ y = .int j ∧ P (g i j) M
def fU (g : Int → Tr) : F1 := fun x M P => ∃ i, x = .int i ∧ P (g i) M
/-- == of plain values -/
def eqS : Tr → Tr → Option Bool
  | .non, .non => some true | .non, .int _ => some false | .int _, .non => some false | .non, .bl _ => some false | .bl _, .non => some false | .non, .str _ => some false | .str _, .non => some false
  | .int i, .int j => some (decide (i = j)) | .bl a, .bl b => some (decide (a = b)) | .str a, .str b => some (decide (a = b))
  | .int _, .str _ => some false | .str _, .int _ => some false | .bl _, .str _ => some false | .str _, .bl _ => some false
  | _, _ => none
def fEq : F2 := fun x y M P => ∃ b, eqS x y = some b ∧ P (.bl b) M
def fNe : F2 := fun x y M P => ∃ b, eqS x y = some b ∧ P (.bl (!b)) M
def isN : Tr → Bool
  | .non => true
  | _ => false
def noRaw : Tr → Bool
  | .raw _ => false
  | _ => true
def fIsN : F2 := fun x y M P => y = .non ∧ noRaw x = true ∧ P (.bl (isN x)) M
def fNotN : F2 := fun x y M P => y = .non ∧ noRaw x = true ∧ P (.bl (!isN x)) M
/-- the list at a number, the tuple -/
def lstAt (M : Mem) : Tr → Option (List Tr)
  | .ref n => match M[n]? with
    | some (.lst ts) => some ts
    | _ => none
  | _ => none
def seqAt (M : Mem) : Tr → Option (List Tr)
  | .tup ts => some ts
  | t => lstAt M t
def tupOf : Tr → Option (List Tr)
  | .tup ts => some ts
  | _ => none
def fIxL : F2 := fun x y M P => ∃ ts i v, lstAt M x = some ts ∧ y = .int i ∧ atI ts i = some v ∧ P v M
def fIxT : F2 := fun x y M P => ∃ ts i v, tupOf x = some ts ∧ y = .int i ∧ atI ts i = some v ∧ P v M
def fIxS : F2 := fun x y M P => ∃ z i c, x = .str z ∧ y = .int i ∧ z.length ≤ sizeLine ∧ atI z.cps.toList i = some c ∧ P (.str ⟨#[c]⟩) M
section
variable {K : PySem.W.Frag} {B : Bs} {H : Hp} {ρ : List Addr} {M : Mem}
theorem s_Ii {C : Int → Int → Prop} {g : Int → Int → Int} : Sim2 K (rI C fun i j => .int (g i j)) (fI C fun i j => .int (g i j)) :=
  ⟨fun hm rx ry ⟨i, j, e1, e2, c, p⟩ o => by subst e1; subst e2; exact ⟨i, j, rx.int_inv, ry.int_inv, c, o _ _ _ _ _ Grow.refl hm RT.int_ p⟩⟩
theorem s_I0i {g : Int → Int → Int} : Sim2 K (rI0 fun i j => .int (g i j)) (fI0 fun i j => .int (g i j)) :=
  ⟨fun hm rx ry ⟨i, j, e1, e2, p⟩ o => by subst e1; subst e2; exact ⟨i, j, rx.int_inv, ry.int_inv, o _ _ _ _ _ Grow.refl hm RT.int_ p⟩⟩
theorem s_I0b {g : Int → Int → Bool} : Sim2 K (rI0 fun i j => .bl (g i j)) (fI0 fun i j => .bl (g i j)) :=
  ⟨fun hm rx ry ⟨i, j, e1, e2, p⟩ o => by subst e1; subst e2; exact ⟨i, j, rx.int_inv, ry.int_inv, o _ _ _ _ _ Grow.refl hm RT.bl_ p⟩⟩
theorem s_Ui {g : Int → Int} : Sim1 K (rU fun i => .int (g i)) (fU fun i => .int (g i)) :=
  ⟨fun hm rx ⟨i, e1, p⟩ o => by subst e1; exact ⟨i, rx.int_inv, o _ _ _ _ _ Grow.refl hm RT.int_ p⟩⟩
theorem eqS_ok {x y : Tr} {xv yv : V} {b : Bool} (rx : RT K H ρ x xv) (ry : RT K H ρ y yv) (e : eqS x y = some b) : scal xv yv = true ∧ decide (xv = yv) = b := by
  unfold eqS at e
  split at e <;> (try (cases e; done)) <;> unfold RT at rx ry <;> subst rx <;> subst ry <;> (have e := Option.some.inj e; subst e; refine ⟨rfl, ?_⟩) <;> first
    | decide
    | exact decide_eq_false (fun z => nomatch z)
    | (rw [decide_eq_decide]; exact ⟨fun z => by injection z, fun z => by rw [z]⟩)
theorem s_eq : Sim2 K rEq fEq := ⟨fun hm rx ry ⟨b, e, p⟩ o => by
  obtain ⟨h1, h2⟩ := eqS_ok rx ry e
  exact ⟨h1, by rw [h2]; exact o _ _ _ _ _ Grow.refl hm RT.bl_ p⟩⟩
theorem s_ne : Sim2 K rNe fNe := ⟨fun hm rx ry ⟨b, e, p⟩ o => by
  obtain ⟨h1, h2⟩ := eqS_ok rx ry e
  exact ⟨h1, by rw [h2]; exact o _ _ _ _ _ Grow.refl hm RT.bl_ p⟩⟩
theorem isN_ok {x : Tr} {xv : V} (rx : RT K H ρ x xv) (n : noRaw x = true) : decide (xv = .non) = isN x := by
  cases x with
  | non => unfold RT at rx; rw [rx]; rfl
  | bl b => unfold RT at rx; rw [rx]; exact decide_eq_false (fun z => nomatch z)
  | int b => unfold RT at rx; rw [rx]; exact decide_eq_false (fun z => nomatch z)
  | str b => unfold RT at rx; rw [rx]; exact decide_eq_false (fun z => nomatch z)
  | tup ts => obtain ⟨a, xs, e, _⟩ := rx.tup_inv; rw [e]; exact decide_eq_false (fun z => nomatch z)
  | ref k => obtain ⟨a, _, e⟩ := rx.ref_inv; rw [e]; exact decide_eq_false (fun z => nomatch z)
  | raw v => cases n
theorem s_isN : Sim2 K (fun x y H Q => y = V.non ∧ Q (V.bl (decide (x = V.non))) H) fIsN := ⟨fun hm rx ry ⟨e, n, p⟩ o => by
  subst e
  exact ⟨ry.non_inv, by rw [isN_ok rx n]; exact o _ _ _ _ _ Grow.refl hm RT.bl_ p⟩⟩
theorem s_notN : Sim2 K (fun x y H Q => y = V.non ∧ Q (V.bl (!decide (x = V.non))) H) fNotN := ⟨fun hm rx ry ⟨e, n, p⟩ o => by
  subst e
  exact ⟨ry.non_inv, by rw [isN_ok rx n]; exact o _ _ _ _ _ Grow.refl hm RT.bl_ p⟩⟩
theorem lstAt_ok {x : Tr} {xv : V} {ts : List Tr} (hm : RM K H ρ M) (rx : RT K H ρ x xv) (e : lstAt M x = some ts) : ∃ n a xs, x = .ref n ∧ ρ[n]? = some a ∧ M[n]? = some (.lst ts) ∧ xv = .ref a ∧ H a = some (.lst xs) ∧ RTs K H ρ ts xs := by
  cases x with
  | ref n =>
    simp only [lstAt] at e
    split at e
    · rename_i us hu
      cases e
      obtain ⟨a, h1, xs, h2, h3⟩ := hm.at_ n _ hu
      obtain ⟨b, h4, h5⟩ := rx.ref_inv
      rw [h1] at h4
      cases h4
      exact ⟨n, a, xs, rfl, h1, hu, h5, h2, h3⟩
    · cases e
  | _ => cases e
theorem tupOf_ok {x : Tr} {xv : V} {ts : List Tr} (rx : RT K H ρ x xv) (e : tupOf x = some ts) : ∃ a xs, xv = .ref a ∧ SqT K H a xs ∧ RTs K H ρ ts xs := by
  cases x with
  | tup us => cases e; exact rx.tup_inv
  | _ => cases e
theorem seqAt_ok {x : Tr} {xv : V} {ts : List Tr} (hm : RM K H ρ M) (rx : RT K H ρ x xv) (e : seqAt M x = some ts) : ∃ a xs, xv = .ref a ∧ (SqL K H a xs ∨ SqT K H a xs) ∧ RTs K H ρ ts xs := by
  cases x with
  | tup us =>
    have e : some us = some ts := e
    cases e
    obtain ⟨a, xs, h1, h2, h3⟩ := rx.tup_inv
    exact ⟨a, xs, h1, .inr h2, h3⟩
  | _ =>
    obtain ⟨n, a, xs, _, _, _, h1, h2, h3⟩ := lstAt_ok (ts := ts) hm rx e
    exact ⟨a, xs, h1, .inl (.inl (.inl h2)), h3⟩
theorem RTs.atI {ts : List Tr} {xs : List V} {i : Int} {t : Tr} (r : RTs K H ρ ts xs) (e : L2.atI ts i = some t) : ∃ x, L2.atI xs i = some x ∧ RT K H ρ t x := by
  unfold L2.atI at e ⊢
  rw [r.len]
  cases h : ixN ts.length i with
  | none => rw [h] at e; cases e
  | some j =>
    rw [h] at e
    exact r.get e
theorem s_ixL : Sim2 K (rIxL K) fIxL := ⟨fun hm rx ry ⟨ts, i, v, e1, e2, e3, p⟩ o => by
  subst e2
  obtain ⟨n, a, xs, _, _, _, h1, h2, h3⟩ := lstAt_ok hm rx e1
  obtain ⟨x, h4, h5⟩ := h3.atI e3
  exact ⟨a, xs, i, x, h1, ry.int_inv, .inl (.inl h2), h4, o _ _ _ _ _ Grow.refl hm h5 p⟩⟩
theorem s_ixT : Sim2 K (rIxT K) fIxT := ⟨fun hm rx ry ⟨ts, i, v, e1, e2, e3, p⟩ o => by
  subst e2
  obtain ⟨a, xs, h1, h2, h3⟩ := tupOf_ok rx e1
  obtain ⟨x, h4, h5⟩ := h3.atI e3
  exact ⟨a, xs, i, x, h1, ry.int_inv, h2, h4, o _ _ _ _ _ Grow.refl hm h5 p⟩⟩
theorem s_ixS : Sim2 K rIxS fIxS := ⟨fun hm rx ry ⟨z, i, c, e1, e2, e3, e4, p⟩ o => by
  subst e1; subst e2
  exact ⟨z, i, c, rx.str_inv, ry.int_inv, e3, e4, o _ _ _ _ _ Grow.refl hm RT.str_ p⟩⟩
end
end Fm

set_option Elab.async false
set_option linter.all false
set_option maxRecDepth 100000
set_option maxHeartbeats 4000000
namespace Fm
open PySem PySem.Spec PyProof.Rows L2
/-! ### sequences -/
def cutT (xs : List Tr) (lo hi : Option Int) : List Tr := (xs.drop (HT.sIx xs.length 0 lo)).take (HT.sIx xs.length xs.length hi - HT.sIx xs.length 0 lo)
abbrev FSl := Tr → Option Int → Option Int → Mem → PF → Prop
def fCat : F2 := fun x y M P => ∃ xs ys, lstAt M x = some xs ∧ lstAt M y = some ys ∧ xs.length + ys.length ≤ sizeLine ∧ P (.ref M.length) (M ++ [.lst (xs ++ ys)])
def fCatA : F2 := fun x y M P => ∃ xs ys, tupOf x = some xs ∧ tupOf y = some ys ∧ xs.length + ys.length ≤ sizeLine ∧ P (.tup (xs ++ ys)) M
def fRep : F2 := fun x y M P => ∃ xs k, lstAt M x = some xs ∧ y = .int k ∧ -(2 ^ 63) ≤ k ∧ k < 2 ^ 63 ∧ xs.length * k.toNat ≤ sizeLine ∧ P (.ref M.length) (M ++ [.lst (List.replicate k.toNat xs).flatten])
def fRepT : F2 := fun x y M P => ∃ xs k, tupOf x = some xs ∧ y = .int k ∧ xs ≠ [] ∧ 2 ≤ k ∧ k ≤ 1000 ∧ xs.length ≤ 1000 ∧ P (.tup (List.replicate k.toNat xs).flatten) M
def fSlL : FSl := fun x lo hi M P => ∃ xs, lstAt M x = some xs ∧ P (.ref M.length) (M ++ [.lst (cutT xs lo hi)])
def fSlA : FSl := fun x lo hi M P => ∃ xs, tupOf x = some xs ∧ P (.tup (cutT xs lo hi)) M
def fSlS : FSl := fun x lo hi M P => ∃ z, x = .str z ∧ z.length ≤ sizeLine ∧ P (.str (cutS z lo hi)) M
def fSl (r : FSl) (fe : FE) (fl fh : Loc → Mem → (Option Int → Mem → Prop) → Prop) : FE := fun L M P => fe L M fun x M1 => fl L M1 fun lo M2 => fh L M2 fun hi M3 => r x lo hi M3 P
structure SimSl (K : PySem.W.Frag) (r : V → Option Int → Option Int → Hp → VK → Prop) (fr : FSl) : Prop where
  run : ∀ {H ρ M x xv lo hi P Q}, RM K H ρ M → RT K H ρ x xv → fr x lo hi M P → Out K H ρ P Q → r xv lo hi H Q
def fLen : FC := fun xs M P => ∃ x ts, xs = [x] ∧ seqAt M x = some ts ∧ P (.int ts.length) M
def fLenS : FC := fun xs M P => ∃ z, xs = [.str z] ∧ z.length ≤ sizeLine ∧ P (.int z.length) M
def fList : FC := fun xs M P => ∃ x ts, xs = [x] ∧ seqAt M x = some ts ∧ P (.ref M.length) (M ++ [.lst ts])
def fTuple : FC := fun xs M P => ∃ x ts, xs = [x] ∧ seqAt M x = some ts ∧ P (.tup ts) M
def fInt1 : FC := fun xs M P => (∃ i, xs = [.int i] ∧ P (.int i) M) ∨ ∃ k, xs = [.bl k] ∧ P (.int (if k then 1 else 0)) M
def fIntS : FC := fun xs M P => ∃ a n, xs = [.str a] ∧ PySem.intText? a = some n ∧ a.length ≤ 640 ∧ P (.int n) M
def fStrI : FC := fun xs M P => ∃ i : Int, xs = [.int i] ∧ i.natAbs.log2 < 1920 ∧ P (.str (toString i)) M
def fMax2 : FC := fun xs M P => ∃ i j, xs = [.int i, .int j] ∧ P (.int (if j > i then j else i)) M
def fMin2 : FC := fun xs M P => ∃ i j, xs = [.int i, .int j] ∧ P (.int (if j < i then j else i)) M
def refAt (M : Mem) : Tr → Option (Nat × List Tr)
  | .ref n => match M[n]? with
    | some (.lst ts) => some (n, ts)
    | _ => none
  | _ => none
def fAppend : Tr → FC := fun x xs M P => ∃ n ts y, refAt M x = some (n, ts) ∧ xs = [y] ∧ ts.length < sizeLine ∧ P .non (M.set n (.lst (ts ++ [y])))
def fExtend : Tr → FC := fun x xs M P => ∃ n ts y us, refAt M x = some (n, ts) ∧ xs = [y] ∧ lstAt M y = some us ∧ ts.length + us.length ≤ sizeLine ∧ P .non (M.set n (.lst (ts ++ us)))
def flatT : Tr → Bool
  | .non => true | .bl _ => true | .int _ => true | .str _ => true
  | _ => false
def eqvT : Tr → Tr → Bool
  | .non, .non => true
  | .bl a, .bl b => a == b
  | .bl a, .int b => (if a then 1 else 0) == b
  | .int a, .bl b => a == (if b then 1 else 0)
  | .int a, .int b => a == b
  | .str a, .str b => a == b
  | _, _ => false
def fIn (neg : Bool) : F2 := fun x y M P => ∃ ts, seqAt M y = some ts ∧ flatT x = true ∧ ts.all flatT = true ∧ P (.bl (if neg then !(ts.any fun y => eqvT y x) else ts.any fun y => eqvT y x)) M
section
variable {K : PySem.W.Frag} {B : Bs} {H : Hp} {ρ : List Addr} {M : Mem} {te : TE} {fe : FE} {tl th : TO} {fl fh : Loc → Mem → (Option Int → Mem → Prop) → Prop}
theorem refAt_ok {x : Tr} {xv : V} {n : Nat} {ts : List Tr} (hm : RM K H ρ M) (rx : RT K H ρ x xv) (e : refAt M x = some (n, ts)) : ∃ a xs, x = .ref n ∧ ρ[n]? = some a ∧ M[n]? = some (.lst ts) ∧ xv = .ref a ∧ H a = some (.lst xs) ∧ RTs K H ρ ts xs := by
  cases x with
  | ref m =>
    simp only [refAt] at e
    split at e
    · rename_i us hu
      cases e
      obtain ⟨a, h1, xs, h2, h3⟩ := hm.at_ n _ hu
      obtain ⟨b, h4, h5⟩ := rx.ref_inv
      rw [h1] at h4
      cases h4
      exact ⟨a, xs, rfl, h1, hu, h5, h2, h3⟩
    · cases e
  | _ => cases e
theorem RTs.one {t : Tr} {xs : List V} (h : RTs K H ρ [t] xs) : ∃ x, xs = [x] ∧ RT K H ρ t x := by
  unfold RTs at h
  obtain ⟨x, ys, rfl, h1, h2⟩ := h
  unfold RTs at h2
  subst h2
  exact ⟨x, rfl, h1⟩
theorem RTs.two {t u : Tr} {xs : List V} (h : RTs K H ρ [t, u] xs) : ∃ x y, xs = [x, y] ∧ RT K H ρ t x ∧ RT K H ρ u y := by
  unfold RTs at h
  obtain ⟨x, ys, rfl, h1, h2⟩ := h
  obtain ⟨y, rfl, h3⟩ := h2.one
  exact ⟨x, y, rfl, h1, h3⟩
theorem RTs.rep {ts : List Tr} {xs : List V} (h : RTs K H ρ ts xs) : ∀ n : Nat, RTs K H ρ (List.replicate n ts).flatten (List.replicate n xs).flatten
  | 0 => RTs.nil
  | n + 1 => by rw [List.replicate_succ, List.replicate_succ, List.flatten_cons, List.flatten_cons]; exact h.app (RTs.rep h n)
theorem RTs.cut {ts : List Tr} {xs : List V} (h : RTs K H ρ ts xs) (lo hi : Option Int) : RTs K H ρ (cutT ts lo hi) (cutV xs lo hi) := by
  unfold cutT cutV
  rw [h.len]
  exact (h.drop _).take _
theorem out_list {P : PF} {Q : VK} {ts : List Tr} {xs : List V} (hm : RM K H ρ M) (h : RTs K H ρ ts xs) (o : Out K H ρ P Q) (p : P (.ref M.length) (M ++ [.lst ts])) : ∀ l, H l = none → Q (.ref l) (upd H l (.lst xs)) :=
  fun l hl => o _ _ _ _ _ (Grow.list hm hl) (hm.list hl h) (by unfold RT; exact ⟨l, hm.ref, rfl⟩) p
theorem out_tup {P : PF} {Q : VK} {ts : List Tr} {xs : List V} (hm : RM K H ρ M) (h : RTs K H ρ ts xs) (o : Out K H ρ P Q) (p : P (.tup ts) M) : ∀ l, H l = none → Q (.ref l) (upd H l (.tup xs)) :=
  fun l hl => o _ _ _ _ _ (Grow.laid hl) (hm.laid hl) (by unfold RT; exact ⟨l, xs, rfl, .inl (.inl upd_same), h.mono (Grow.laid hl)⟩) p
theorem out_old {P : PF} {Q : VK} {ts : List Tr} {xs : List V} {a : Addr} (hm : RM K H ρ M) (h : RTs K H ρ ts xs) (ha : SqT K H a xs) (o : Out K H ρ P Q) (p : P (.tup ts) M) : Q (.ref a) H :=
  o _ _ _ _ _ Grow.refl hm (by unfold RT; exact ⟨a, xs, rfl, ha, h⟩) p
theorem s_cat : Sim2 K rCat fCat := ⟨fun hm rx ry ⟨xs, ys, e1, e2, z, p⟩ o => by
  obtain ⟨n, a, us, _, _, _, h1, h2, h3⟩ := lstAt_ok hm rx e1
  obtain ⟨m, b, ws, _, _, _, k1, k2, k3⟩ := lstAt_ok hm ry e2
  exact ⟨a, b, us, ws, h1, k1, h2, k2, by rw [h3.len, k3.len]; exact z, out_list hm (h3.app k3) o p⟩⟩
theorem s_rep : Sim2 K rRep fRep := ⟨fun hm rx ry ⟨xs, k, e1, e2, k0, k1, z, p⟩ o => by
  subst e2
  obtain ⟨n, a, us, _, _, _, h1, h2, h3⟩ := lstAt_ok hm rx e1
  exact ⟨a, k, us, h1, ry.int_inv, h2, k0, k1, by rw [h3.len]; exact z, out_list hm (h3.rep _) o p⟩⟩
theorem s_catA : Sim2 K (rCatA K) fCatA := ⟨fun hm rx ry ⟨xs, ys, e1, e2, z, p⟩ o => by
  obtain ⟨a, us, h1, h2, h3⟩ := tupOf_ok rx e1
  obtain ⟨b, ws, k1, k2, k3⟩ := tupOf_ok ry e2
  refine ⟨a, b, us, ws, h1, k1, h2, k2, by rw [h3.len, k3.len]; exact z, fun e => ?_, fun _ e => ?_, fun _ _ l hl => out_tup hm (h3.app k3) o p l hl⟩
  · exact out_old hm (h3.app k3) (by rw [e]; exact k2) o p
  · exact out_old hm (h3.app k3) (by rw [e, List.append_nil]; exact h2) o p⟩
theorem s_repT : Sim2 K (rRepT K) fRepT := ⟨fun hm rx ry ⟨xs, k, e1, e2, n0, k0, k1, z, p⟩ o => by
  subst e2
  obtain ⟨a, us, h1, h2, h3⟩ := tupOf_ok rx e1
  have n1 : us ≠ [] := fun e => n0 (List.length_eq_zero_iff.mp (by rw [← h3.len, e]; rfl))
  exact ⟨a, k, us, h1, ry.int_inv, h2, n1, k0, k1, by rw [h3.len]; exact z, out_tup hm (h3.rep _) o p⟩⟩
theorem s_slL : SimSl K (rSlL K) fSlL := ⟨fun hm rx ⟨xs, e1, p⟩ o => by
  obtain ⟨n, a, us, _, _, _, h1, h2, h3⟩ := lstAt_ok hm rx e1
  exact ⟨a, us, h1, .inl (.inl h2), out_list hm (h3.cut _ _) o p⟩⟩
theorem s_slA : SimSl K (rSlA K) fSlA := ⟨fun hm rx ⟨xs, e1, p⟩ o => by
  obtain ⟨a, us, h1, h2, h3⟩ := tupOf_ok rx e1
  refine ⟨a, us, h1, h2, fun h => ?_, fun _ l hl => out_tup hm (h3.cut _ _) o p l hl⟩
  refine out_old hm (h3.cut _ _) ?_ o p
  unfold cutV
  rw [h.1, h.2, List.drop_zero, Nat.sub_zero, List.take_length]
  exact h2⟩
theorem s_slS : SimSl K rSlS fSlS := ⟨fun hm rx ⟨z, e1, hz, p⟩ o => by
  subst e1
  exact ⟨z, rx.str_inv, hz, o _ _ _ _ _ Grow.refl hm RT.str_ p⟩⟩
theorem sim_sl {r : V → Option Int → Option Int → Hp → VK → Prop} {fr : FSl} (s : SimSl K r fr) (a : SimE K B te fe) (b : SimO K B tl fl) (c : SimO K B th fh) : SimE K B (tSl r te tl th) (fSl fr fe fl fh) :=
  ⟨fun hl hm h o => a.run hl hm h fun x xv H1 ρ1 M1 g1 m1 rx h1 => b.run (hl.mono g1) m1 h1 fun lo H2 ρ2 M2 g2 m2 h2 => c.run (hl.mono (g1.trans g2)) m2 h2 fun hi H3 ρ3 M3 g3 m3 h3 => s.run m3 (rx.mono (g2.trans g3)) h3 (o.step ((g1.trans g2).trans g3))⟩
theorem c_len : SimC K (fun xs H Q => ∃ p ys, xs = [V.ref p] ∧ (SqL K H p ys ∨ SqT K H p ys) ∧ Q (V.int ys.length) H) fLen := ⟨fun hm rx ⟨x, ts, e1, e2, p⟩ o => by
  subst e1
  obtain ⟨xv, rfl, r⟩ := rx.one
  obtain ⟨a, us, rfl, h2, h3⟩ := seqAt_ok hm r e2
  exact ⟨a, us, rfl, h2, by rw [h3.len]; exact o _ _ _ _ _ Grow.refl hm RT.int_ p⟩⟩
theorem c_lenS : SimC K (fun xs H Q => ∃ z : Str, xs = [V.str z] ∧ z.length ≤ sizeLine ∧ Q (V.int z.length) H) fLenS := ⟨fun hm rx ⟨z, e1, e2, p⟩ o => by
  subst e1
  obtain ⟨xv, rfl, r⟩ := rx.one
  exact ⟨z, by rw [r.str_inv], e2, o _ _ _ _ _ Grow.refl hm RT.int_ p⟩⟩
theorem c_list : SimC K (fun xs H Q => ∃ p ys, xs = [V.ref p] ∧ (SqL K H p ys ∨ SqT K H p ys) ∧ ∀ l, H l = none → Q (V.ref l) (upd H l (.lst ys))) fList := ⟨fun hm rx ⟨x, ts, e1, e2, p⟩ o => by
  subst e1
  obtain ⟨xv, rfl, r⟩ := rx.one
  obtain ⟨a, us, rfl, h2, h3⟩ := seqAt_ok hm r e2
  exact ⟨a, us, rfl, h2, out_list hm h3 o p⟩⟩
theorem c_tuple : SimC K (fun xs H Q => ∃ p ys, xs = [V.ref p] ∧ ((SqL K H p ys ∧ ∀ l, H l = none → Q (V.ref l) (upd H l (.tup ys))) ∨ (SqT K H p ys ∧ Q (V.ref p) H))) fTuple := ⟨fun hm rx ⟨x, ts, e1, e2, p⟩ o => by
  subst e1
  obtain ⟨xv, rfl, r⟩ := rx.one
  obtain ⟨a, us, rfl, h2, h3⟩ := seqAt_ok hm r e2
  rcases h2 with h2 | h2
  · exact ⟨a, us, rfl, .inl ⟨h2, out_tup hm h3 o p⟩⟩
  · exact ⟨a, us, rfl, .inr ⟨h2, out_old hm h3 h2 o p⟩⟩⟩
theorem c_int1 : SimC K (fun xs H Q => (∃ i, xs = [V.int i] ∧ Q (V.int i) H) ∨ ∃ k : Bool, xs = [V.bl k] ∧ Q (V.int (if k then 1 else 0)) H) fInt1 := ⟨fun hm rx h o => by
  rcases h with ⟨i, rfl, p⟩ | ⟨i, rfl, p⟩
  · obtain ⟨xv, rfl, r⟩ := rx.one
    exact .inl ⟨i, by rw [r.int_inv], o _ _ _ _ _ Grow.refl hm RT.int_ p⟩
  · obtain ⟨xv, rfl, r⟩ := rx.one
    exact .inr ⟨i, by rw [r.bl_inv], o _ _ _ _ _ Grow.refl hm RT.int_ p⟩⟩
theorem c_intS : SimC K (fun xs H Q => ∃ (a : Str) (n : Int), xs = [V.str a] ∧ PySem.intText? a = some n ∧ a.length ≤ 640 ∧ Q (V.int n) H) fIntS := ⟨fun hm rx ⟨a, n, e1, e2, z, p⟩ o => by
  subst e1
  obtain ⟨xv, rfl, r⟩ := rx.one
  exact ⟨a, n, by rw [r.str_inv], e2, z, o _ _ _ _ _ Grow.refl hm RT.int_ p⟩⟩
theorem c_strI : SimC K (fun xs H Q => ∃ i : Int, xs = [V.int i] ∧ i.natAbs.log2 < 1920 ∧ Q (V.str (toString i)) H) fStrI := ⟨fun hm rx ⟨i, e1, z, p⟩ o => by
  subst e1
  obtain ⟨xv, rfl, r⟩ := rx.one
  exact ⟨i, by rw [r.int_inv], z, o _ _ _ _ _ Grow.refl hm RT.str_ p⟩⟩
theorem c_max2 : SimC K (fun xs H Q => ∃ i j, xs = [V.int i, V.int j] ∧ Q (V.int (if j > i then j else i)) H) fMax2 := ⟨fun hm rx ⟨i, j, e1, p⟩ o => by
  subst e1
  obtain ⟨x, y, rfl, r1, r2⟩ := rx.two
  exact ⟨i, j, by rw [r1.int_inv, r2.int_inv], o _ _ _ _ _ Grow.refl hm RT.int_ p⟩⟩
theorem c_min2 : SimC K (fun xs H Q => ∃ i j, xs = [V.int i, V.int j] ∧ Q (V.int (if j < i then j else i)) H) fMin2 := ⟨fun hm rx ⟨i, j, e1, p⟩ o => by
  subst e1
  obtain ⟨x, y, rfl, r1, r2⟩ := rx.two
  exact ⟨i, j, by rw [r1.int_inv, r2.int_inv], o _ _ _ _ _ Grow.refl hm RT.int_ p⟩⟩
theorem m_append : SimM K rAppend fAppend := ⟨fun hm rx ry ⟨n, ts, y, e1, e2, z, p⟩ o => by
  subst e2
  obtain ⟨a, us, rfl, h1, h2, rfl, h3, h4⟩ := refAt_ok hm rx e1
  obtain ⟨yv, rfl, r⟩ := ry.one
  exact ⟨a, us, yv, rfl, rfl, h3, by rw [h4.len]; exact z, o _ _ _ _ _ (Grow.wr hm h3 (List.mem_of_getElem? h1)) (hm.wr h3 h1 (h4.app (RTs.cons r RTs.nil))) RT.non_ p⟩⟩
theorem m_extend : SimM K rExtend fExtend := ⟨fun hm rx ry ⟨n, ts, y, ws, e1, e2, e3, z, p⟩ o => by
  subst e2
  obtain ⟨a, us, rfl, h1, h2, rfl, h3, h4⟩ := refAt_ok hm rx e1
  obtain ⟨yv, rfl, r⟩ := ry.one
  obtain ⟨m, b, vs, _, _, _, rfl, k2, k3⟩ := lstAt_ok hm r e3
  exact ⟨a, b, us, vs, rfl, rfl, h3, k2, by rw [h4.len, k3.len]; exact z, o _ _ _ _ _ (Grow.wr hm h3 (List.mem_of_getElem? h1)) (hm.wr h3 h1 (h4.app k3)) RT.non_ p⟩⟩
theorem flat_ok {t : Tr} {v : V} (r : RT K H ρ t v) (f : flatT t = true) : flatV v = true := by
  cases t <;> first | (cases f; done) | (unfold RT at r; rw [r]; rfl)
theorem flats_ok : ∀ {ts : List Tr} {vs : List V}, RTs K H ρ ts vs → ts.all flatT = true → vs.all flatV = true
  | [], _, r, _ => by unfold RTs at r; rw [r]; rfl
  | t :: ts, _, r, f => by
    unfold RTs at r
    obtain ⟨x, ys, rfl, h1, h2⟩ := r
    rw [List.all_cons, Bool.and_eq_true] at f ⊢
    exact ⟨flat_ok h1 f.1, flats_ok h2 f.2⟩
theorem eqvT_ok {t u : Tr} {v w : V} (r : RT K H ρ t v) (s : RT K H ρ u w) (f : flatT t = true) (g : flatT u = true) : eqV v w = eqvT t u := by
  cases t <;> (try (cases f; done)) <;> cases u <;> (try (cases g; done)) <;> (unfold RT at r s; rw [r, s]; rfl)
theorem any_ok {u : Tr} {w : V} (s : RT K H ρ u w) (g : flatT u = true) : ∀ {ts : List Tr} {vs : List V}, RTs K H ρ ts vs → ts.all flatT = true → inV w vs = ts.any fun y => eqvT y u
  | [], _, r, _ => by unfold RTs at r; rw [r]; rfl
  | t :: ts, _, r, f => by
    unfold RTs at r
    obtain ⟨x, ys, rfl, h1, h2⟩ := r
    rw [List.all_cons, Bool.and_eq_true] at f
    have ih := any_ok s g h2 f.2
    unfold inV at ih ⊢
    rw [List.any_cons, List.any_cons, eqvT_ok h1 s f.1 g, ih]
theorem s_in {neg : Bool} : Sim2 K (rIn K neg) (fIn neg) := ⟨fun hm rx ry ⟨ts, e1, f1, f2, p⟩ o => by
  obtain ⟨a, us, rfl, h2, h3⟩ := seqAt_ok hm ry e1
  exact ⟨a, us, rfl, h2, flat_ok rx f1, flats_ok h3 f2, by rw [any_ok rx f1 h3 f2]; exact o _ _ _ _ _ Grow.refl hm RT.bl_ p⟩⟩
end
/-! ### methods of built-in things -/
def fBM (fr : Tr → FC) (fo : FE) (fa : FA) : FE := fun L M P => fo L M fun x M1 => (lstAt M1 x).isSome = true ∧ fa L M1 fun xs M2 => fr x xs M2 P
def isStr : Tr → Bool
  | .str _ => true
  | _ => false
def fMS (fr : Tr → FC) (fo : FE) (fa : FA) : FE := fun L M P => fo L M fun x M1 => isStr x = true ∧ fa L M1 fun xs M2 => fr x xs M2 P
section
variable {K : PySem.W.Frag} {B : Bs} {to : TE} {fo : FE} {ta : TA} {fa : FA} {te : TE} {fe : FE} {r : V → List V → Hp → VK → Prop} {fr : Tr → FC}
theorem sim_BML (s : SimM K r fr) (a : SimE K B to fo) (b : SimA K B ta fa) : SimE K B (tBM K "list" r to ta) (fBM fr fo fa) :=
  ⟨fun hl hm h o => a.run hl hm h fun x xv H1 ρ1 M1 g1 m1 rx ⟨e, h1⟩ => by
    obtain ⟨ts, ht⟩ := Option.isSome_iff_exists.mp e
    obtain ⟨n, a, us, _, _, _, rfl, h2, h3⟩ := lstAt_ok m1 rx ht
    exact ⟨.inl ⟨rfl, _, .inl (.inl h2)⟩, b.run (hl.mono g1) m1 h1 fun xs xvs H2 ρ2 M2 g2 m2 rxs h2 => s.run m2 (rx.mono g2) rxs h2 (o.step (g1.trans g2))⟩⟩
theorem sim_M1 (s : SimM K r fr) (a : SimE K B to fo) (b : SimE K B te fe) : SimE K B (tM1 r to te) (fMS fr fo (fCons fe fNil)) :=
  ⟨fun hl hm h o => a.run hl hm h fun x xv H1 ρ1 M1 g1 m1 rx ⟨e, h1⟩ => by
    cases x with
    | str z => exact ⟨⟨z, rx.str_inv⟩, b.run (hl.mono g1) m1 h1 fun y yv H2 ρ2 M2 g2 m2 ry h2 => s.run m2 (rx.mono g2) (RTs.cons ry RTs.nil) h2 (o.step (g1.trans g2))⟩
    | _ => cases e⟩
theorem sim_M0 (s : SimM K r fr) (a : SimE K B to fo) : SimE K B (tM0 r to) (fMS fr fo fNil) :=
  ⟨fun hl hm h o => a.run hl hm h fun x xv H1 ρ1 M1 g1 m1 rx ⟨e, h1⟩ => by
    cases x with
    | str z => exact ⟨⟨z, rx.str_inv⟩, s.run m1 rx RTs.nil h1 (o.step g1)⟩
    | _ => cases e⟩
end
end Fm

set_option Elab.async false
set_option linter.all false
set_option maxRecDepth 100000
set_option maxHeartbeats 4000000
namespace Fm
open PySem PySem.Spec PyProof.Rows L2
/-! ### forgetting: what lies behind place n -/
mutual
def Tr.bel (n : Nat) : Tr → Bool
  | .ref k => decide (k < n)
  | .tup ts => Tr.bels n ts
  | _ => true
def Tr.bels (n : Nat) : List Tr → Bool
  | [] => true
  | t :: ts => Tr.bel n t && Tr.bels n ts
end
def belF (n : Nat) : List (Str × Tr) → Bool
  | [] => true
  | p :: fs => Tr.bel n p.2 && belF n fs
def O.bel (n : Nat) : O → Bool
  | .lst ts => Tr.bels n ts
  | .ins _ fs => belF n fs
  | .tab _ _ => true
def belM (n : Nat) : Mem → Bool
  | [] => true
  | o :: M => O.bel n o && belM n M
def belL (n : Nat) : Loc → Bool
  | [] => true
  | none :: L => belL n L
  | some t :: L => Tr.bel n t && belL n L
/-- fewer slots are known -/
def LocLe : Loc → Loc → Prop
  | [], L => L = []
  | none :: L', L => ∃ u L1, L = u :: L1 ∧ LocLe L' L1
  | some t :: L', L => ∃ L1, L = some t :: L1 ∧ LocLe L' L1
theorem LocLe.refl : ∀ L : Loc, LocLe L L
  | [] => rfl
  | none :: L => ⟨none, L, rfl, LocLe.refl L⟩
  | some t :: L => ⟨L, rfl, LocLe.refl L⟩
section
variable {K : PySem.W.Frag} {B : Bs} {H H' : Hp} {ρ ρ' : List Addr} {n : Nat}
mutual
theorem RT.cut : ∀ {t : Tr} {v : V}, RT K H ρ t v → Tr.bel n t = true → RT K H (ρ.take n) t v
  | .non, _, h, _ => h
  | .bl _, _, h, _ => h
  | .int _, _, h, _ => h
  | .str _, _, h, _ => h
  | .raw _, _, h, _ => h
  | .ref k, _, h, b => by
    unfold RT at h ⊢
    obtain ⟨a, h1, h2⟩ := h
    unfold Tr.bel at b
    exact ⟨a, by rw [List.getElem?_take, if_pos (of_decide_eq_true b)]; exact h1, h2⟩
  | .tup ts, _, h, b => by
    unfold RT at h ⊢
    obtain ⟨a, xs, h1, h2, h3⟩ := h
    unfold Tr.bel at b
    exact ⟨a, xs, h1, h2, RTs.cutN h3 b⟩
theorem RTs.cutN : ∀ {ts : List Tr} {vs : List V}, RTs K H ρ ts vs → Tr.bels n ts = true → RTs K H (ρ.take n) ts vs
  | [], _, h, _ => by
    unfold RTs at h ⊢
    exact h
  | t :: ts, _, h, b => by
    unfold RTs at h ⊢
    obtain ⟨x, ys, h1, h2, h3⟩ := h
    unfold Tr.bels at b
    rw [Bool.and_eq_true] at b
    exact ⟨x, ys, h1, RT.cut h2 b.1, RTs.cutN h3 b.2⟩
end
theorem RFs.cut : ∀ {ts : List (Str × Tr)} {vs : List (Str × V)}, RFs K H ρ ts vs → belF n ts = true → RFs K H (ρ.take n) ts vs
  | [], _, h, _ => h
  | t :: ts, _, h, b => by
    obtain ⟨x, ys, h1, h2, h3⟩ := h
    unfold belF at b
    rw [Bool.and_eq_true] at b
    exact ⟨x, ys, h1, RT.cut h2 b.1, RFs.cut h3 b.2⟩
theorem RL.cut : ∀ {L : Loc} {σ : L2.St}, RL K H ρ L σ → belL n L = true → RL K H (ρ.take n) L σ
  | [], _, h, _ => h
  | none :: L, _, h, b => by
    obtain ⟨v, τ, h1, h2, h3⟩ := h
    unfold belL at b
    exact ⟨v, τ, h1, trivial, RL.cut h3 b⟩
  | some t :: L, _, h, b => by
    obtain ⟨v, τ, h1, ⟨x, h4, h5⟩, h3⟩ := h
    unfold belL at b
    rw [Bool.and_eq_true] at b
    exact ⟨v, τ, h1, ⟨x, h4, RT.cut h5 b.1⟩, RL.cut h3 b.2⟩
theorem RL.le : ∀ {L' L : Loc} {σ : L2.St}, LocLe L' L → RL K H ρ L σ → RL K H ρ L' σ
  | [], _, _, e, h => by
    have e : _ = ([] : Loc) := e
    subst e
    exact h
  | none :: L', _, _, e, h => by
    obtain ⟨u, L1, rfl, e⟩ := e
    obtain ⟨v, τ, h1, h2, h3⟩ := h
    exact ⟨v, τ, h1, trivial, RL.le e h3⟩
  | some t :: L', _, _, e, h => by
    obtain ⟨L1, rfl, e⟩ := e
    obtain ⟨v, τ, h1, h2, h3⟩ := h
    exact ⟨v, τ, h1, h2, RL.le e h3⟩
theorem belM_get : ∀ {M : Mem} {k : Nat} {o : O}, belM n M = true → M[k]? = some o → O.bel n o = true
  | [], _, _, _, e => by simp at e
  | u :: M, 0, o, b, e => by
    have e' : u = o := by simpa using e
    subst e'
    unfold belM at b
    rw [Bool.and_eq_true] at b
    exact b.1
  | u :: M, k + 1, o, b, e => by
    unfold belM at b
    rw [Bool.and_eq_true] at b
    exact belM_get b.2 (by simpa using e)
theorem RM.cut {M : Mem} (r : RM K H ρ M) (b : belM n (M.take n) = true) : RM K H (ρ.take n) (M.take n) := by
  refine ⟨by rw [List.length_take, List.length_take, r.len], fun k o e => ?_, r.nd.sublist (List.take_sublist _ _)⟩
  have eb := belM_get b e
  rw [List.getElem?_take] at e
  split at e
  · rename_i hk
    obtain ⟨a, h1, h2⟩ := r.at_ k o e
    refine ⟨a, by rw [List.getElem?_take, if_pos hk]; exact h1, ?_⟩
    cases o with
    | lst ts =>
      obtain ⟨xs, h3, h4⟩ := h2
      exact ⟨xs, h3, RTs.cutN h4 eb⟩
    | ins C fs =>
      obtain ⟨dx, gs, h3, h5, h4⟩ := h2
      exact ⟨dx, gs, h3, h5, RFs.cut h4 eb⟩
    | tab P q => exact h2
  · cases e
theorem Grow.cut (g : Grow K H ρ H' ρ') (h : ρ.length ≤ n) : Grow K H ρ H' (ρ'.take n) := by
  obtain ⟨t, e⟩ := g.ext
  refine ⟨⟨t.take (n - ρ.length), ?_⟩, g.tup, g.oth, fun a ha hn => g.new a (List.mem_of_mem_take ha) hn, g.cod⟩
  rw [e, List.take_append, List.take_of_length_le h]
end
/-- the wish J holds of what is left when something is forgotten, not what stands before place k -/
def Forget (k : Nat) (J : Loc → Mem → Prop) : Loc → Mem → Prop := fun L M => ∃ n L', k ≤ n ∧ LocLe L' L ∧ belL n L' = true ∧ belM n (M.take n) = true ∧ J L' (M.take n)
theorem Tr.bel_mono {n m : Nat} (h : n ≤ m) : ∀ {t : Tr}, Tr.bel n t = true → Tr.bel m t = true := by
  intro t
  refine Tr.rec (motive_1 := fun t => Tr.bel n t = true → Tr.bel m t = true) (motive_2 := fun ts => Tr.bels n ts = true → Tr.bels m ts = true) ?_ ?_ ?_ ?_ ?_ ?_ ?_ ?_ ?_ t
  · intro _; rfl
  · intro _ _; rfl
  · intro _ _; rfl
  · intro _ _; rfl
  · intro ts ih b
    unfold Tr.bel at b ⊢
    exact ih b
  · intro k b
    unfold Tr.bel at b ⊢
    exact decide_eq_true (Nat.lt_of_lt_of_le (of_decide_eq_true b) h)
  · intro _ _; rfl
  · intro _; rfl
  · intro t ts h1 h2 b
    unfold Tr.bels at b ⊢
    rw [Bool.and_eq_true] at b ⊢
    exact ⟨h1 b.1, h2 b.2⟩
theorem RT.bel_len {K : PySem.W.Frag} {H : Hp} {ρ : List Addr} : ∀ {t : Tr} {v : V}, RT K H ρ t v → Tr.bel ρ.length t = true := by
  intro t
  refine Tr.rec (motive_1 := fun t => ∀ {v : V}, RT K H ρ t v → Tr.bel ρ.length t = true) (motive_2 := fun ts => ∀ {vs : List V}, RTs K H ρ ts vs → Tr.bels ρ.length ts = true) ?_ ?_ ?_ ?_ ?_ ?_ ?_ ?_ ?_ t
  · intro _ _; rfl
  · intro _ _ _; rfl
  · intro _ _ _; rfl
  · intro _ _ _; rfl
  · intro ts ih v h
    unfold RT at h
    obtain ⟨a, xs, _, _, h3⟩ := h
    unfold Tr.bel
    exact ih h3
  · intro k v h
    unfold RT at h
    obtain ⟨a, h1, _⟩ := h
    unfold Tr.bel
    exact decide_eq_true (List.getElem?_eq_some_iff.mp h1).1
  · intro _ _ _; rfl
  · intro _ _; rfl
  · intro t ts h1 h2 vs h
    unfold RTs at h
    obtain ⟨x, ys, _, h3, h4⟩ := h
    unfold Tr.bels
    rw [Bool.and_eq_true]
    exact ⟨h1 h3, h2 h4⟩
/-! ### calls -/
abbrev PXF := Addr → List (Str × Tr) → Mem → Prop
abbrev FSp := List Tr → Mem → PF → PXF → Prop
/-- the exception's own fields -/
def XR (K : PySem.W.Frag) (H : Hp) (ρ : List Addr) (fs : List (Str × Tr)) (d : Option Addr) : Prop := (fs = [] ∧ d = none) ∨ ∃ dd gs, d = some dd ∧ H dd = some (.xd gs) ∧ RFs K H ρ fs gs
def OutX (K : PySem.W.Frag) (H : Hp) (ρ : List Addr) (P : PXF) (E : XK) : Prop := ∀ C fs d H' ρ' M', Grow K H ρ H' ρ' → RM K H' ρ' M' → XR K H' ρ' fs d → P C fs M' → E (.ref C) d H'
theorem OutX.step {K : PySem.W.Frag} {H H' : Hp} {ρ ρ' : List Addr} {P : PXF} {E : XK} (g : Grow K H ρ H' ρ') (o : OutX K H ρ P E) : OutX K H' ρ' P E := fun C fs d H2 ρ2 M2 g2 m x p => o C fs d H2 ρ2 M2 (g.trans g2) m x p
structure SimSp (K : PySem.W.Frag) (sp : Sp) (fsp : FSp) : Prop where
  run : ∀ {H ρ M ts vs P PX Q E}, RTs K H ρ ts vs → RM K H ρ M → fsp ts M P PX → Out K H ρ P Q → OutX K H ρ PX E → sp vs H Q E
/-- a promise said of trees -/
def spF (K : PySem.W.Frag) (fsp : FSp) : Sp := fun vs H Q E => ∃ ts ρ M P PX, RTs K H ρ ts vs ∧ RM K H ρ M ∧ fsp ts M P PX ∧ Out K H ρ P Q ∧ OutX K H ρ PX E
theorem simSpF {K : PySem.W.Frag} {fsp : FSp} : SimSp K (spF K fsp) fsp := ⟨fun r m h o x => ⟨_, _, _, _, _, r, m, h, o, x⟩⟩
def noX : PXF := fun _ _ _ => False
theorem outX_no {K : PySem.W.Frag} {H : Hp} {ρ : List Addr} {E : XK} : OutX K H ρ noX E := fun _ _ _ _ _ _ _ _ _ p => p.elim
def fCall (fsp : FSp) (PX : PXF) (fa : FA) : FE := fun L M P => fa L M fun ts M1 => fsp ts M1 P PX
section
variable {K : PySem.W.Frag} {B : Bs} {ta : TA} {fa : FA} {sp : Sp} {fsp : FSp} {E : XK}
/-- a call that raises nothing -/
theorem sim_call (s : SimSp K sp fsp) (a : SimA K B ta fa) : SimE K B (tCall sp [] E ta) (fCall fsp noX fa) :=
  ⟨fun hl hm h o => a.run hl hm h fun ts xs H1 ρ1 M1 g1 m1 rx h1 => s.run (by rw [List.append_nil]; exact rx) m1 h1 (o.step g1) outX_no⟩
/-- a call out of which an exception may leave -/
theorem sim_callX {PX : PXF} (hE : OutX K B.1 B.2 PX E) (s : SimSp K sp fsp) (a : SimA K B ta fa) : SimE K B (tCall sp [] E ta) (fCall fsp PX fa) :=
  ⟨fun hl hm h o => a.run hl hm h fun ts xs H1 ρ1 M1 g1 m1 rx h1 => s.run (by rw [List.append_nil]; exact rx) m1 h1 (o.step g1) (hE.step (hl.gr.trans g1))⟩
end
/-! ### statements -/
structure FEnds where
  nx : Loc → Mem → Prop
  rt : PF
  bk : Loc → Mem → Prop := fun _ _ => False
  ct : Loc → Mem → Prop := fun _ _ => False
abbrev FS := FEnds → Loc → Mem → Prop
abbrev FG := Tr → Loc → Mem → (Loc → Mem → Prop) → Prop
def OutL (K : PySem.W.Frag) (B : Bs) (H : Hp) (ρ : List Addr) (P : Loc → Mem → Prop) (Q : L2.St → Hp → Prop) : Prop := ∀ L σ H' ρ' M', Grow K H ρ H' ρ' → RX K B H' ρ' L σ → RM K H' ρ' M' → P L M' → Q σ H'
theorem OutL.step {K : PySem.W.Frag} {B : Bs} {H H' : Hp} {ρ ρ' : List Addr} {P : Loc → Mem → Prop} {Q : L2.St → Hp → Prop} (g : Grow K H ρ H' ρ') (o : OutL K B H ρ P Q) : OutL K B H' ρ' P Q := fun L σ H2 ρ2 M2 g2 l m p => o L σ H2 ρ2 M2 (g.trans g2) l m p
structure EndR (K : PySem.W.Frag) (B : Bs) (H : Hp) (ρ : List Addr) (D' : FEnds) (D : Ends) : Prop where
  nx : OutL K B H ρ D'.nx D.nx
  rt : Out K H ρ D'.rt D.rt
  bk : OutL K B H ρ D'.bk D.bk
  ct : OutL K B H ρ D'.ct D.ct
theorem EndR.step {K : PySem.W.Frag} {B : Bs} {H H' : Hp} {ρ ρ' : List Addr} {D' : FEnds} {D : Ends} (g : Grow K H ρ H' ρ') (o : EndR K B H ρ D' D) : EndR K B H' ρ' D' D := ⟨o.nx.step g, o.rt.step g, o.bk.step g, o.ct.step g⟩
structure SimS (K : PySem.W.Frag) (B : Bs) (ts : TS) (fs : FS) : Prop where
  run : ∀ {σ H ρ L M D' D}, RX K B H ρ L σ → RM K H ρ M → fs D' L M → EndR K B H ρ D' D → ts D σ H
structure SimG (K : PySem.W.Frag) (B : Bs) (g : TG) (fg : FG) : Prop where
  run : ∀ {σ H ρ L M x xv P Q}, RX K B H ρ L σ → RM K H ρ M → RT K H ρ x xv → fg x L M P → OutL K B H ρ P Q → g xv σ H Q
structure SimGs (K : PySem.W.Frag) (B : Bs) (g : TGs) (fg : List Tr → Loc → Mem → (Loc → Mem → Prop) → Prop) : Prop where
  run : ∀ {σ H ρ L M xs xvs P Q}, RX K B H ρ L σ → RM K H ρ M → RTs K H ρ xs xvs → fg xs L M P → OutL K B H ρ P Q → g xvs σ H Q
def fName (i : Nat) : FG := fun t L M P => P (L.set i (some t)) M
def fGNil : List Tr → Loc → Mem → (Loc → Mem → Prop) → Prop := fun ts L M P => ts = [] ∧ P L M
def fGCons (f : FG) (fs : List Tr → Loc → Mem → (Loc → Mem → Prop) → Prop) : List Tr → Loc → Mem → (Loc → Mem → Prop) → Prop := fun ts L M P => ∃ t us, ts = t :: us ∧ f t L M fun L1 M1 => fs us L1 M1 P
def fGTup (n : Nat) (fs : List Tr → Loc → Mem → (Loc → Mem → Prop) → Prop) : FG := fun t L M P => ∃ ts, tupOf t = some ts ∧ ts.length = n ∧ fs ts L M P
def fSetL : Tr → Tr → Tr → Mem → (Mem → Prop) → Prop := fun o i v M P => ∃ n ts k j, refAt M o = some (n, ts) ∧ i = .int k ∧ ixN ts.length k = some j ∧ P (M.set n (.lst (ts.set j v)))
def fGSub (fo fi : FE) (fset : Tr → Tr → Tr → Mem → (Mem → Prop) → Prop) : FG := fun v L M P => fo L M fun o M1 => fi L M1 fun i M2 => fset o i v M2 fun M3 => P L M3
structure SimSet (K : PySem.W.Frag) (t : TSet) (f : Tr → Tr → Tr → Mem → (Mem → Prop) → Prop) : Prop where
  run : ∀ {H ρ M o i v ov iv vv P Q}, RM K H ρ M → RT K H ρ o ov → RT K H ρ i iv → RT K H ρ v vv → f o i v M P → (∀ H' ρ' M', Grow K H ρ H' ρ' → RM K H' ρ' M' → P M' → Q H') → t ov iv vv H Q
def fNext : FS := fun D L M => D.nx L M
def fSeq (f g : FS) : FS := fun D L M => f { D with nx := g D } L M
def fCut (f g : FS) : FS := fun D L M => ∃ J, f { D with nx := J } L M ∧ ∀ L' M', J L' M' → g D L' M'
def fBreak : FS := fun D L M => D.bk L M
def fCont : FS := fun D L M => D.ct L M
def fDrop (fe : FE) : FS := fun D L M => fe L M fun _ M1 => D.nx L M1
def fRet (fe : FE) : FS := fun D L M => fe L M D.rt
def fRetN : FS := fun D _ M => D.rt .non M
def fIfS (ft : FT) (f g : FS) : FS := fun D L M => ft L M fun b M1 => if b = true then f D L M1 else g D L M1
def fNever : FS := fun _ _ _ => False
def fAsg (fe : FE) (fg : FG) : FS := fun D L M => fe L M fun x M1 => fg x L M1 D.nx
def fPar (i j : Nat) (fa : FA) : FS := fun D L M => fa L M fun vs M1 => ∃ v w, vs = [v, w] ∧ D.nx ((L.set i (some v)).set j (some w)) M1
def fAug (i : Nat) (fe : FE) (f2 : F2) : FS := fun D L M => ∃ x, L[i]? = some (some x) ∧ fe L M fun y M1 => f2 x y M1 fun z M2 => D.nx (L.set i (some z)) M2
section
variable {K : PySem.W.Frag} {B : Bs} {te to ti : TE} {fe fo fi : FE} {g : TG} {fg : FG} {gs : TGs} {fgs : List Tr → Loc → Mem → (Loc → Mem → Prop) → Prop} {t u : TS} {f f' : FS} {tt : TT} {ft : FT} {ta : TA} {fa : FA}
theorem RX.set {H : Hp} {ρ : List Addr} {L : Loc} {σ : L2.St} {t : Tr} {v : V} (x : RX K B H ρ L σ) (r : RT K H ρ t v) (i : Nat) : RX K B H ρ (L.set i (some t)) (σ.set i (some v)) := ⟨x.rl.set r i, x.gr⟩
theorem sim_name {i : Nat} : SimG K B (gName i) (fName i) := ⟨fun hl hm rx p o => o _ _ _ _ _ Grow.refl (hl.set rx i) hm p⟩
theorem sim_gnil : SimGs K B gNil fGNil := ⟨fun hl hm rx ⟨e, p⟩ o => by
  subst e
  unfold RTs at rx
  exact ⟨rx, o _ _ _ _ _ Grow.refl hl hm p⟩⟩
theorem sim_gcons (a : SimG K B g fg) (b : SimGs K B gs fgs) : SimGs K B (gCons g gs) (fGCons fg fgs) := ⟨fun hl hm rx ⟨t, us, e, p⟩ o => by
  subst e
  unfold RTs at rx
  obtain ⟨x, ys, rfl, r1, r2⟩ := rx
  exact ⟨x, ys, rfl, a.run hl hm r1 p fun L1 σ1 H1 ρ1 M1 g1 l1 m1 p1 => b.run l1 m1 (r2.mono g1) p1 (o.step g1)⟩⟩
theorem sim_gtup {n : Nat} (b : SimGs K B gs fgs) : SimG K B (gTup K n gs) (fGTup n fgs) := ⟨fun hl hm rx ⟨ts, e, en, p⟩ o => by
  obtain ⟨a, xs, h1, h2, h3⟩ := tupOf_ok rx e
  exact ⟨a, xs, h1, h2, by rw [h3.len]; exact en, b.run hl hm h3 p o⟩⟩
theorem set_list : SimSet K rSetL fSetL := ⟨fun hm ro ri rv ⟨n, ts, k, j, e1, e2, e3, p⟩ o => by
  subst e2
  obtain ⟨a, us, rfl, h1, h2, rfl, h3, h4⟩ := refAt_ok hm ro e1
  exact ⟨a, us, k, j, rfl, ri.int_inv, h3, by rw [h4.len]; exact e3, o _ _ _ (Grow.wr hm h3 (List.mem_of_getElem? h1)) (hm.wr h3 h1 (h4.set rv j)) p⟩⟩
theorem sim_gsub {s : TSet} {fs : Tr → Tr → Tr → Mem → (Mem → Prop) → Prop} (z : SimSet K s fs) (a : SimE K B to fo) (b : SimE K B ti fi) : SimG K B (gSub to ti s) (fGSub fo fi fs) :=
  ⟨fun hl hm rx h o => a.run hl hm h fun x xv H1 ρ1 M1 g1 m1 r1 h1 => b.run (hl.mono g1) m1 h1 fun y yv H2 ρ2 M2 g2 m2 r2 h2 => z.run m2 (r1.mono g2) r2 (rx.mono (g1.trans g2)) h2 fun H3 ρ3 M3 g3 m3 p => o _ _ _ _ _ ((g1.trans g2).trans g3) (hl.mono ((g1.trans g2).trans g3)) m3 p⟩
theorem sim_next : SimS K B tNext fNext := ⟨fun hl hm p e => e.nx _ _ _ _ _ Grow.refl hl hm p⟩
theorem sim_seq (a : SimS K B t f) (b : SimS K B u f') : SimS K B (tSeq t u) (fSeq f f') :=
  ⟨fun hl hm p e => a.run hl hm p ⟨fun L σ H1 ρ1 M1 g1 l1 m1 p1 => b.run l1 m1 p1 (e.step g1), e.rt, e.bk, e.ct⟩⟩
theorem sim_cut (a : SimS K B t f) (b : SimS K B u f') : SimS K B (C8.tCut t u) (fCut f f') :=
  ⟨fun {σ H ρ L M D' D} hl hm ⟨J, p, q⟩ e => ⟨u D, a.run hl hm p ⟨fun L σ H1 ρ1 M1 g1 l1 m1 p1 => b.run l1 m1 (q _ _ p1) (e.step g1), e.rt, e.bk, e.ct⟩, fun _ _ h => h⟩⟩
theorem sim_break : SimS K B tBreak fBreak := ⟨fun hl hm p e => e.bk _ _ _ _ _ Grow.refl hl hm p⟩
theorem sim_cont : SimS K B tCont fCont := ⟨fun hl hm p e => e.ct _ _ _ _ _ Grow.refl hl hm p⟩
theorem sim_drop (a : SimE K B te fe) : SimS K B (tDrop te) (fDrop fe) := ⟨fun hl hm p e => a.run hl hm p fun _ _ H1 ρ1 M1 g1 m1 _ p1 => e.nx _ _ _ _ _ g1 (hl.mono g1) m1 p1⟩
theorem sim_ret (a : SimE K B te fe) : SimS K B (tRet te) (fRet fe) := ⟨fun hl hm p e => a.run hl hm p e.rt⟩
theorem sim_retN : SimS K B tRetN fRetN := ⟨fun hl hm p e => e.rt _ _ _ _ _ Grow.refl hm RT.non_ p⟩
theorem sim_ifS (c : SimT K B tt ft) (a : SimS K B t f) (b : SimS K B u f') : SimS K B (tIfS tt t u) (fIfS ft f f') := ⟨fun hl hm p e => c.run hl hm p fun k H1 ρ1 M1 g1 m1 h1 => by
  cases k with
  | true => rw [if_pos rfl] at h1 ⊢; exact a.run (hl.mono g1) m1 h1 (e.step g1)
  | false => rw [if_neg (by decide)] at h1 ⊢; exact b.run (hl.mono g1) m1 h1 (e.step g1)⟩
theorem sim_never : SimS K B tNever fNever := ⟨fun _ _ p _ => p⟩
theorem sim_asg (a : SimE K B te fe) (b : SimG K B g fg) : SimS K B (tAsg te g) (fAsg fe fg) :=
  ⟨fun hl hm p e => a.run hl hm p fun x xv H1 ρ1 M1 g1 m1 r1 p1 => b.run (hl.mono g1) m1 r1 p1 (e.nx.step g1)⟩
theorem sim_par {i j : Nat} (a : SimA K B ta fa) : SimS K B (tPar i j ta) (fPar i j fa) := ⟨fun hl hm p e => a.run hl hm p fun xs xvs H1 ρ1 M1 g1 m1 r1 ⟨v, w, e1, p1⟩ => by
  subst e1
  obtain ⟨x, y, rfl, r2, r3⟩ := r1.two
  exact ⟨x, y, rfl, e.nx _ _ _ _ _ g1 (((hl.mono g1).set r2 i).set r3 j) m1 p1⟩⟩
theorem sim_aug {i : Nat} {ip : TIp} {f2 : F2} (s : Sim2 K ip f2) (a : SimE K B te fe) : SimS K B (tAug i te ip) (fAug i fe f2) := ⟨fun hl hm ⟨x, e1, p⟩ e => by
  obtain ⟨v, h1, h2⟩ := hl.get e1
  exact ⟨v, h1, a.run hl hm p fun y yv H1 ρ1 M1 g1 m1 r1 p1 => s.run m1 (h2.mono g1) r1 p1 fun z zv H2 ρ2 M2 g2 m2 r2 p2 => e.nx _ _ _ _ _ (g1.trans g2) ((hl.mono (g1.trans g2)).set r2 i) m2 p2⟩⟩
end
end Fm

set_option Elab.async false
set_option linter.all false
set_option maxRecDepth 100000
set_option maxHeartbeats 4000000
namespace Fm
open PySem PySem.Spec PyProof.Rows L2
/-! ### what a for walks -/
structure FIt where
  items : List Tr
  ok : Mem → Prop
abbrev FI := Loc → Mem → (FIt → Mem → Prop) → Prop
structure ItSim (K : PySem.W.Frag) (it : FIt) (J : It) (S : Hp → List Addr → Prop) : Prop where
  st : ∀ {H ρ H' ρ'}, Grow K H ρ H' ρ' → S H ρ → S H' ρ'
  stop : ∀ {H ρ M}, S H ρ → RM K H ρ M → it.ok M → J.stop it.items.length H
  go : ∀ {H ρ M} {i : Nat} {t : Tr}, S H ρ → RM K H ρ M → it.ok M → it.items[i]? = some t → J.go i H
  yld : ∀ {H ρ M} {i : Nat} {t : Tr} {x H'}, S H ρ → RM K H ρ M → it.ok M → it.items[i]? = some t → J.yld i H x H' → Grow K H ρ H' ρ ∧ RM K H' ρ M ∧ RT K H' ρ t x
structure SimI (K : PySem.W.Frag) (B : Bs) (wi : TI) (fi : FI) : Prop where
  run : ∀ {σ H ρ L M R R'}, RX K B H ρ L σ → RM K H ρ M → fi L M R → (∀ it J S H' ρ' M', Grow K H ρ H' ρ' → RM K H' ρ' M' → ItSim K it J S → S H' ρ' → R it M' → R' J H') → wi σ H R'
def fIL (fe : FE) : FI := fun L M R => fe L M fun x M1 => ∃ ts, lstAt M1 x = some ts ∧ R ⟨ts, fun M => lstAt M x = some ts⟩ M1
def fIT (fe : FE) : FI := fun L M R => fe L M fun x M1 => ∃ ts, tupOf x = some ts ∧ R ⟨ts, fun _ => True⟩ M1
def rngT (lo : Int) (n : Nat) : List Tr := (List.range n).map fun (k : Nat) => Tr.int (lo + (k : Int))
def fIR1 (fa : FA) : FI := fun L M R => fa L M fun vs M1 => ∃ j : Int, vs = [.int j] ∧ -(2 ^ 62) ≤ j ∧ j < 2 ^ 62 ∧ R ⟨rngT 0 j.toNat, fun _ => True⟩ M1
def fIR2 (fa : FA) : FI := fun L M R => fa L M fun vs M1 => ∃ i j : Int, vs = [.int i, .int j] ∧ (-(2 ^ 62) ≤ i ∧ i < 2 ^ 62 ∧ -(2 ^ 62) ≤ j ∧ j < 2 ^ 62) ∧ R ⟨rngT i (j - i).toNat, fun _ => True⟩ M1
def chrsT (x : Str) : List Tr := x.cps.toList.map fun (c : Nat) => Tr.str ⟨#[c]⟩
def fIS (fe : FE) : FI := fun L M R => fe L M fun x M1 => ∃ z, x = .str z ∧ R ⟨chrsT z, fun _ => True⟩ M1
def enumT (k : Nat) : List Tr → List Tr
  | [] => []
  | t :: ts => .tup [.int (k : Int), t] :: enumT (k + 1) ts
theorem enumT_get : ∀ {ts : List Tr} {k i : Nat} {t : Tr}, (enumT k ts)[i]? = some t → ∃ u, ts[i]? = some u ∧ t = .tup [.int ((k + i : Nat) : Int), u]
  | [], _, _, _, e => by simp [enumT] at e
  | u :: ts, k, 0, t, e => by
    simp only [enumT, List.getElem?_cons_zero] at e
    cases e
    exact ⟨u, rfl, rfl⟩
  | u :: ts, k, i + 1, t, e => by
    simp only [enumT, List.getElem?_cons_succ] at e
    obtain ⟨v, h1, h2⟩ := enumT_get e
    refine ⟨v, by simpa using h1, ?_⟩
    rw [h2]
    congr 4
    omega
theorem enumT_len : ∀ (ts : List Tr) (k : Nat), (enumT k ts).length = ts.length
  | [], _ => rfl
  | t :: ts, k => by simp [enumT, enumT_len ts]
def zipT : List Tr → List Tr → List Tr
  | a :: r, b :: s => .tup [a, b] :: zipT r s
  | _, _ => []
theorem zipT_len : ∀ (xs ys : List Tr), (zipT xs ys).length = min xs.length ys.length
  | [], _ => by simp [zipT]
  | _ :: _, [] => by simp [zipT]
  | a :: r, b :: s => by simp [zipT, zipT_len r s, Nat.succ_min_succ]
theorem zipT_get : ∀ {xs ys : List Tr} {i : Nat} {t : Tr}, (zipT xs ys)[i]? = some t → ∃ a b, xs[i]? = some a ∧ ys[i]? = some b ∧ t = .tup [a, b]
  | [], _, _, _, e => by simp [zipT] at e
  | _ :: _, [], _, _, e => by simp [zipT] at e
  | a :: r, b :: s, 0, t, e => by
    simp only [zipT, List.getElem?_cons_zero] at e
    cases e
    exact ⟨a, b, rfl, rfl, rfl⟩
  | a :: r, b :: s, i + 1, t, e => by
    simp only [zipT, List.getElem?_cons_succ] at e
    obtain ⟨u, v, h1, h2, h3⟩ := zipT_get e
    exact ⟨u, v, by simpa using h1, by simpa using h2, h3⟩
def fIEn (fa : FA) : FI := fun L M R => fa L M fun vs M1 => ∃ x ts, vs = [x] ∧ lstAt M1 x = some ts ∧ R ⟨enumT 0 ts, fun M => lstAt M x = some ts⟩ M1
def fIZ (fa : FA) : FI := fun L M R => fa L M fun vs M1 => ∃ x y ts us, vs = [x, y] ∧ lstAt M1 x = some ts ∧ lstAt M1 y = some us ∧ R ⟨zipT ts us, fun M => lstAt M x = some ts ∧ lstAt M y = some us⟩ M1
section
variable {K : PySem.W.Frag} {B : Bs} {te : TE} {fe : FE} {ta : TA} {fa : FA}
theorem lst_again {H H' : Hp} {ρ ρ' : List Addr} {M M' : Mem} {x : Tr} {a : Addr} {ts : List Tr} (g : ∃ n, x = .ref n ∧ ρ[n]? = some a) (hm : RM K H ρ M) (e : lstAt M x = some ts) : ∃ xs, H a = some (.lst xs) ∧ RTs K H ρ ts xs := by
  obtain ⟨n, rfl, hn⟩ := g
  obtain ⟨k, b, xs, h0, h1, _, h2, h3, h4⟩ := lstAt_ok hm (xv := .ref a) (by unfold RT; exact ⟨a, hn, rfl⟩) e
  cases h2
  exact ⟨xs, h3, h4⟩
theorem i_list (a : SimE K B te fe) : SimI K B (iList K te) (fIL fe) := ⟨fun hl hm h k => a.run hl hm h fun x xv H1 ρ1 M1 g1 m1 rx ⟨ts, e, r⟩ => by
  obtain ⟨n, b, xs, rfl, hn, _, rfl, h3, h4⟩ := lstAt_ok m1 rx e
  refine ⟨b, rfl, ⟨xs, .inl (.inl h3)⟩, k _ _ (fun H ρ => ∃ m, Tr.ref n = .ref m ∧ ρ[m]? = some b) H1 ρ1 M1 g1 m1 ⟨fun g ⟨m, e, z⟩ => ⟨m, e, ext_get g.ext z⟩, fun s hm e => ?_, fun s hm e ei => ?_, fun s hm e ei y => ?_⟩ ⟨n, rfl, hn⟩ r⟩
  · obtain ⟨xs, h1, h2⟩ := lst_again (ρ' := []) (M' := []) (H' := fun _ => none) s hm e
    exact ⟨xs, .inl (.inl h1), by rw [h2.len]; exact Nat.le_refl _⟩
  · obtain ⟨xs, h1, h2⟩ := lst_again (ρ' := []) (M' := []) (H' := fun _ => none) s hm e
    obtain ⟨x, h3, _⟩ := h2.get ei
    exact ⟨xs, x, .inl (.inl h1), h3⟩
  · obtain ⟨xs, h1, h2⟩ := lst_again (ρ' := []) (M' := []) (H' := fun _ => none) s hm e
    obtain ⟨x, h3, h4⟩ := h2.get ei
    obtain ⟨rfl, y⟩ := y
    have := y xs (.inl (.inl h1))
    rw [h3] at this
    cases this
    exact ⟨Grow.refl, hm, h4⟩⟩
theorem i_tup (a : SimE K B te fe) : SimI K B (iTup K te) (fIT fe) := ⟨fun hl hm h k => a.run hl hm h fun x xv H1 ρ1 M1 g1 m1 rx ⟨ts, e, r⟩ => by
  obtain ⟨b, xs, rfl, h3, h4⟩ := tupOf_ok rx e
  refine ⟨b, rfl, ⟨xs, h3⟩, k _ _ (fun H ρ => SqT K H b xs ∧ RTs K H ρ ts xs) H1 ρ1 M1 g1 m1 ⟨fun g ⟨s1, s2⟩ => ⟨g.tup _ _ s1, s2.mono g⟩, fun s hm e => ?_, fun s hm e ei => ?_, fun s hm e ei y => ?_⟩ ⟨h3, h4⟩ r⟩
  · exact ⟨xs, s.1, by rw [s.2.len]; exact Nat.le_refl _⟩
  · obtain ⟨x, h3, _⟩ := s.2.get ei
    exact ⟨xs, x, s.1, h3⟩
  · obtain ⟨x, h3, h4⟩ := s.2.get ei
    obtain ⟨rfl, y⟩ := y
    have := y xs s.1
    rw [h3] at this
    cases this
    exact ⟨Grow.refl, hm, h4⟩⟩
theorem rngT_get {lo : Int} {n i : Nat} {t : Tr} (e : (rngT lo n)[i]? = some t) : i < n ∧ t = .int (lo + (i : Int)) := by
  unfold rngT at e
  by_cases h : i < n
  · rw [List.getElem?_map, List.getElem?_range h] at e
    cases e
    exact ⟨h, rfl⟩
  · rw [List.getElem?_eq_none (by rw [List.length_map, List.length_range]; omega)] at e
    cases e
theorem rngT_len (lo : Int) (n : Nat) : (rngT lo n).length = n := by unfold rngT; rw [List.length_map, List.length_range]
theorem itr_sim {lo : Int} {n : Nat} : ItSim K ⟨rngT lo n, fun _ => True⟩ (Itr lo n) (fun _ _ => True) :=
  ⟨fun _ s => s, fun _ _ _ => by show n ≤ (rngT lo n).length; rw [rngT_len]; exact Nat.le_refl _, fun _ _ _ e => (rngT_get e).1, fun _ hm _ e y => by
    obtain ⟨rfl, rfl⟩ := y
    rw [(rngT_get e).2]
    exact ⟨Grow.refl, hm, RT.int_⟩⟩
theorem i_rng1 (a : SimA K B ta fa) : SimI K B (iRng1 ta) (fIR1 fa) := ⟨fun hl hm h k => a.run hl hm h fun xs xvs H1 ρ1 M1 g1 m1 rx ⟨j, e, q1, q2, r⟩ => by
  subst e
  obtain ⟨xv, rfl, r1⟩ := rx.one
  exact ⟨j, by rw [r1.int_inv], q1, q2, k _ _ _ H1 ρ1 M1 g1 m1 itr_sim trivial r⟩⟩
theorem i_rng2 (a : SimA K B ta fa) : SimI K B (iRng2 ta) (fIR2 fa) := ⟨fun hl hm h k => a.run hl hm h fun xs xvs H1 ρ1 M1 g1 m1 rx ⟨i, j, e, q, r⟩ => by
  subst e
  obtain ⟨x, y, rfl, r1, r2⟩ := rx.two
  exact ⟨i, j, by rw [r1.int_inv, r2.int_inv], q, k _ _ _ H1 ρ1 M1 g1 m1 itr_sim trivial r⟩⟩
theorem i_str (a : SimE K B te fe) : SimI K B (iStr te) (fIS fe) := ⟨fun hl hm h k => a.run hl hm h fun x xv H1 ρ1 M1 g1 m1 rx ⟨z, e, r⟩ => by
  subst e
  refine ⟨z, rx.str_inv, k _ _ (fun _ _ => True) H1 ρ1 M1 g1 m1 ⟨fun _ s => s, fun _ _ _ => ?_, fun {H ρ M i t} _ _ _ e => ?_, fun {H ρ M i t x H'} _ hm _ e y => ?_⟩ trivial r⟩
  · show z.cps.size ≤ (chrsT z).length
    unfold chrsT
    rw [List.length_map, Array.length_toList]
    exact Nat.le_refl _
  · show i < z.cps.size
    have h := (List.getElem?_eq_some_iff.mp e).1
    have h2 : (chrsT z).length = z.cps.size := by unfold chrsT; rw [List.length_map, Array.length_toList]
    have h : i < (chrsT z).length := h
    omega
  · obtain ⟨rfl, c, h1, rfl⟩ := y
    have e : (chrsT z)[i]? = some t := e
    unfold chrsT at e
    rw [List.getElem?_map, Array.getElem?_toList, h1] at e
    cases e
    exact ⟨Grow.refl, hm, RT.str_⟩⟩

theorem pair_new {H : Hp} {ρ : List Addr} {M : Mem} {p : Addr} {a b : Tr} {x y : V} (hm : RM K H ρ M) (hp : H p = none) (r1 : RT K H ρ a x) (r2 : RT K H ρ b y) : Grow K H ρ (upd H p (.tup [x, y])) ρ ∧ RM K (upd H p (.tup [x, y])) ρ M ∧ RT K (upd H p (.tup [x, y])) ρ (.tup [a, b]) (.ref p) :=
  ⟨Grow.laid hp, hm.laid hp, by unfold RT; exact ⟨p, _, rfl, .inl (.inl upd_same), RTs.cons (r1.mono (Grow.laid hp)) (RTs.cons (r2.mono (Grow.laid hp)) RTs.nil)⟩⟩
theorem i_enum (a : SimA K B ta fa) : SimI K B (iEnum K ta) (fIEn fa) := ⟨fun hl hm h k => a.run hl hm h fun xs xvs H1 ρ1 M1 g1 m1 rx ⟨x, ts, e, e1, r⟩ => by
  subst e
  obtain ⟨xv, rfl, r1⟩ := rx.one
  obtain ⟨n, b, us, rfl, hn, _, rfl, h3, h4⟩ := lstAt_ok m1 r1 e1
  refine ⟨b, us, rfl, .inl (.inl h3), k _ _ (fun H ρ => ∃ m, Tr.ref n = .ref m ∧ ρ[m]? = some b) H1 ρ1 M1 g1 m1 ⟨fun g ⟨m, e, z⟩ => ⟨m, e, ext_get g.ext z⟩, fun s hm e => ?_, fun s hm e ei => ?_, fun s hm e ei y => ?_⟩ ⟨n, rfl, hn⟩ r⟩
  · obtain ⟨xs, h1, h2⟩ := lst_again (ρ' := []) (M' := []) (H' := fun _ => none) s hm e
    exact ⟨xs, .inl (.inl h1), by rw [h2.len]; show _ ≤ (enumT 0 ts).length; rw [enumT_len]; exact Nat.le_refl _⟩
  · obtain ⟨xs, h1, h2⟩ := lst_again (ρ' := []) (M' := []) (H' := fun _ => none) s hm e
    obtain ⟨u, hu, _⟩ := enumT_get ei
    obtain ⟨x, h3, _⟩ := h2.get hu
    exact ⟨xs, x, .inl (.inl h1), h3⟩
  · obtain ⟨xs, h1, h2⟩ := lst_again (ρ' := []) (M' := []) (H' := fun _ => none) s hm e
    obtain ⟨u, hu, e2⟩ := enumT_get ei
    obtain ⟨x, h3, h5⟩ := h2.get hu
    obtain ⟨p, w, rfl, hp, rfl, y⟩ := y
    have := y xs (.inl (.inl h1))
    rw [h3] at this
    cases this
    rw [e2, Nat.zero_add]
    exact pair_new hm hp RT.int_ h5⟩
theorem i_zip (a : SimA K B ta fa) : SimI K B (iZip K ta) (fIZ fa) := ⟨fun hl hm h k => a.run hl hm h fun xs xvs H1 ρ1 M1 g1 m1 rx ⟨x, y, ts, us, e, e1, e2, r⟩ => by
  subst e
  obtain ⟨xv, yv, rfl, r1, r2⟩ := rx.two
  obtain ⟨n, b, xs, rfl, hn, _, rfl, h3, h4⟩ := lstAt_ok m1 r1 e1
  obtain ⟨n', b', ys, rfl, hn', _, rfl, h3', h4'⟩ := lstAt_ok m1 r2 e2
  refine ⟨b, b', xs, ys, rfl, .inl (.inl h3), .inl (.inl h3'), k _ _ (fun H ρ => (∃ m, Tr.ref n = .ref m ∧ ρ[m]? = some b) ∧ ∃ m, Tr.ref n' = .ref m ∧ ρ[m]? = some b') H1 ρ1 M1 g1 m1
    ⟨fun g ⟨⟨m, e, z⟩, ⟨m', e', z'⟩⟩ => ⟨⟨m, e, ext_get g.ext z⟩, ⟨m', e', ext_get g.ext z'⟩⟩, fun s hm e => ?_, fun s hm e ei => ?_, fun s hm e ei y => ?_⟩ ⟨⟨n, rfl, hn⟩, ⟨n', rfl, hn'⟩⟩ r⟩
  · obtain ⟨xs, h1, h2⟩ := lst_again (ρ' := []) (M' := []) (H' := fun _ => none) s.1 hm e.1
    obtain ⟨ys, h1', h2'⟩ := lst_again (ρ' := []) (M' := []) (H' := fun _ => none) s.2 hm e.2
    refine ⟨xs, ys, .inl (.inl h1), .inl (.inl h1'), ?_⟩
    rw [h2.len, h2'.len]
    show _ ≤ (zipT ts us).length ∨ _ ≤ (zipT ts us).length
    rw [zipT_len]
    omega
  · obtain ⟨xs, h1, h2⟩ := lst_again (ρ' := []) (M' := []) (H' := fun _ => none) s.1 hm e.1
    obtain ⟨ys, h1', h2'⟩ := lst_again (ρ' := []) (M' := []) (H' := fun _ => none) s.2 hm e.2
    obtain ⟨u, v, hu, hv, _⟩ := zipT_get ei
    obtain ⟨x, h3, _⟩ := h2.get hu
    obtain ⟨y, h3', _⟩ := h2'.get hv
    exact ⟨xs, ys, x, y, .inl (.inl h1), .inl (.inl h1'), h3, h3'⟩
  · obtain ⟨xs, h1, h2⟩ := lst_again (ρ' := []) (M' := []) (H' := fun _ => none) s.1 hm e.1
    obtain ⟨ys, h1', h2'⟩ := lst_again (ρ' := []) (M' := []) (H' := fun _ => none) s.2 hm e.2
    obtain ⟨u, v, hu, hv, e3⟩ := zipT_get ei
    obtain ⟨x, h3, h5⟩ := h2.get hu
    obtain ⟨x', h3', h5'⟩ := h2'.get hv
    obtain ⟨p, w, w', rfl, hp, rfl, z, z'⟩ := y
    have q1 := z xs (.inl (.inl h1))
    have q2 := z' ys (.inl (.inl h1'))
    rw [h3] at q1
    rw [h3'] at q2
    cases q1
    cases q2
    rw [e3]
    exact pair_new hm hp h5 h5'⟩
end
/-! ### for, while, comprehensions -/
theorem forget_at {K : PySem.W.Frag} {B : Bs} {H : Hp} {ρ : List Addr} {L : Loc} {σ : L2.St} {M : Mem} {k : Nat} {J : Loc → Mem → Prop} (hl : RX K B H ρ L σ) (hm : RM K H ρ M) (f : Forget k J L M) (hB : B.2.length ≤ k) :
    ∃ ρ' L' M', RX K B H ρ' L' σ ∧ RM K H ρ' M' ∧ J L' M' ∧ ∀ {H0 : Hp} {ρ0 : List Addr}, ρ0.length ≤ k → Grow K H0 ρ0 H ρ → Grow K H0 ρ0 H ρ' := by
  obtain ⟨n, L', hn, le, bl, bm, j⟩ := f
  exact ⟨ρ.take n, L', M.take n, ⟨(hl.rl.le le).cut bl, hl.gr.cut (Nat.le_trans hB hn)⟩, hm.cut bm, j, fun h g => g.cut (Nat.le_trans h hn)⟩
def fFor (fi : FI) (fg : FG) (fb : FS) : FS := fun D L M => fi L M fun it M1 => ∃ I : Nat → Loc → Mem → Prop, I 0 L M1 ∧ (∀ i L2 M2, i ≤ it.items.length → I i L2 M2 → it.ok M2) ∧
  (∀ (i : Nat) (t : Tr) L2 M2, it.items[i]? = some t → I i L2 M2 → fg t L2 M2 fun L3 M3 => fb { D with nx := Forget M1.length (I (i + 1)), ct := Forget M1.length (I (i + 1)), bk := D.nx } L3 M3) ∧ (∀ L2 M2, I it.items.length L2 M2 → D.nx L2 M2)
def fWhile (ft : FT) (fb : FS) : FS := fun D L M => ∃ W : Nat → Loc → Mem → Prop, (∃ m, W m L M) ∧ ∀ m L1 M1, W m L1 M1 → ft L1 M1 fun b M2 =>
  if b = true then fb { D with nx := Forget M.length (fun L' M' => ∃ m', m' < m ∧ W m' L' M'), ct := Forget M.length (fun L' M' => ∃ m', m' < m ∧ W m' L' M'), bk := D.nx } L1 M2 else D.nx L1 M2
section
variable {K : PySem.W.Frag} {B : Bs} {wi : TI} {fi : FI} {g : TG} {fg : FG} {tb : TS} {fb : FS} {tt : TT} {ft : FT} {te : TE} {fe : FE}
theorem base_len {H : Hp} {ρ : List Addr} {L : Loc} {σ : L2.St} {M : Mem} (hl : RX K B H ρ L σ) (hm : RM K H ρ M) : B.2.length ≤ M.length := by
  obtain ⟨t, e⟩ := hl.gr.ext
  rw [← hm.len, e, List.length_append]
  exact Nat.le_add_right _ _
theorem sim_for (hi : SimI K B wi fi) (hg : SimG K B g fg) (hb : SimS K B tb fb) : SimS K B (tFor wi g tb) (fFor fi fg fb) := ⟨fun {σ H ρ L M D' D} hl hm h e => hi.run hl hm h fun it J S H1 ρ1 M1 g1 m1 is s1 ⟨I, i0, iok, ist, ien⟩ => by
  have hB := base_len (hl.mono g1) m1
  have hk : ρ1.length ≤ M1.length := Nat.le_of_eq m1.len
  refine ⟨fun i m σ H => m = it.items.length - i ∧ i ≤ it.items.length ∧ ∃ ρ L M, Grow K H1 ρ1 H ρ ∧ RX K B H ρ L σ ∧ RM K H ρ M ∧ I i L M, ⟨it.items.length, by omega, Nat.zero_le _, ρ1, L, M1, Grow.refl, hl.mono g1, m1, i0⟩, ?_⟩
  rintro i m σ2 H2 ⟨rfl, hi', ρ2, L2, M2, g2, l2, m2, iv⟩
  have s2 := is.st g2 s1
  have ok2 := iok i L2 M2 hi' iv
  by_cases hlt : i < it.items.length
  · obtain ⟨t, et⟩ : ∃ t, it.items[i]? = some t := ⟨_, List.getElem?_eq_getElem hlt⟩
    refine .inr ⟨is.go s2 m2 ok2 et, fun σ H => ∃ ρ L M, Grow K H1 ρ1 H ρ ∧ RX K B H ρ L σ ∧ RM K H ρ M ∧ I (i + 1) L M, fun σ' H' z => ⟨it.items.length - (i + 1), by omega, rfl, hlt, z⟩, fun x H3 y => ?_⟩
    obtain ⟨g3, m3, rx⟩ := is.yld s2 m2 ok2 et y
    refine hg.run (l2.mono g3) m3 rx (ist i t L2 M2 et iv) fun L4 σ4 H4 ρ4 M4 g4 l4 m4 p4 => hb.run l4 m4 p4 ?_
    have g24 := (g2.trans g3).trans g4
    have nx : OutL K B H4 ρ4 (Forget M1.length (I (i + 1))) (fun σ H => ∃ ρ L M, Grow K H1 ρ1 H ρ ∧ RX K B H ρ L σ ∧ RM K H ρ M ∧ I (i + 1) L M) := fun L5 σ5 H5 ρ5 M5 g5 l5 m5 p5 => by
      obtain ⟨ρ6, L6, M6, l6, m6, j6, up⟩ := forget_at l5 m5 p5 hB
      exact ⟨ρ6, L6, M6, up hk (g24.trans g5), l6, m6, j6⟩
    exact ⟨nx, e.rt.step (g1.trans g24), e.nx.step (g1.trans g24), nx⟩
  · have e1 : i = it.items.length := by omega
    subst e1
    exact .inl ⟨is.stop s2 m2 ok2, e.nx _ _ _ _ _ (g1.trans g2) l2 m2 (ien L2 M2 iv)⟩⟩
theorem sim_while (hc : SimT K B tt ft) (hb : SimS K B tb fb) : SimS K B (tWhile tt tb) (fWhile ft fb) := ⟨fun {σ H ρ L M D' D} hl hm ⟨W, ⟨m0, w0⟩, st⟩ e => by
  have hB := base_len hl hm
  have hk : ρ.length ≤ M.length := Nat.le_of_eq hm.len
  refine ⟨fun m σ1 H1 => ∃ ρ1 L1 M1, Grow K H ρ H1 ρ1 ∧ RX K B H1 ρ1 L1 σ1 ∧ RM K H1 ρ1 M1 ∧ W m L1 M1, ⟨m0, ρ, L, M, Grow.refl, hl, hm, w0⟩, ?_⟩
  rintro m σ1 H1 ⟨ρ1, L1, M1, g1, l1, m1, w1⟩
  refine hc.run l1 m1 (st m L1 M1 w1) fun b H2 ρ2 M2 g2 m2 p2 => ?_
  cases b with
  | false =>
    rw [if_neg (by decide)] at p2
    exact e.nx _ _ _ _ _ (g1.trans g2) (l1.mono g2) m2 p2
  | true =>
    rw [if_pos rfl] at p2
    refine ⟨fun σ3 H3 => ∃ m', m' < m ∧ ∃ ρ1 L1 M1, Grow K H ρ H3 ρ1 ∧ RX K B H3 ρ1 L1 σ3 ∧ RM K H3 ρ1 M1 ∧ W m' L1 M1, fun _ _ z => z, hb.run (l1.mono g2) m2 p2 ?_⟩
    have nx : OutL K B H2 ρ2 (Forget M.length (fun L' M' => ∃ m', m' < m ∧ W m' L' M')) (fun σ3 H3 => ∃ m', m' < m ∧ ∃ ρ1 L1 M1, Grow K H ρ H3 ρ1 ∧ RX K B H3 ρ1 L1 σ3 ∧ RM K H3 ρ1 M1 ∧ W m' L1 M1) := fun L5 σ5 H5 ρ5 M5 g5 l5 m5 p5 => by
      obtain ⟨ρ6, L6, M6, l6, m6, ⟨m', hm', j6⟩, up⟩ := forget_at l5 m5 p5 hB
      exact ⟨m', hm', ρ6, L6, M6, up hk ((g1.trans g2).trans g5), l6, m6, j6⟩
    exact ⟨nx, e.rt.step (g1.trans g2), e.nx.step (g1.trans g2), nx⟩⟩
end
end Fm

set_option Elab.async false
set_option linter.all false
set_option maxRecDepth 100000
set_option maxHeartbeats 4000000
namespace Fm
open PySem PySem.Spec PyProof.Rows L2
/-! ### list comprehensions -/
def wipeF (L : Loc) : List Nat → Loc
  | [] => L
  | v :: vs => (wipeF L vs).set v none
def ForgetA (k : Nat) (J : List Tr → Mem → Prop) : List Tr → Mem → Prop := fun acc M => ∃ n, k ≤ n ∧ Tr.bels n acc = true ∧ belM n (M.take n) = true ∧ J acc (M.take n)
def fLc (fi : FI) (fg : FG) (ft : FT) (fe : FE) (vs : List Nat) : FE := fun L M P => fi L M fun it M1 => ∃ I : Nat → List Tr → Mem → Prop, I 0 [] M1 ∧ (∀ i acc M2, i ≤ it.items.length → I i acc M2 → it.ok M2) ∧
  (∀ (i : Nat) (t : Tr) acc M2, it.items[i]? = some t → I i acc M2 → fg t (wipeF L vs) M2 fun L3 M3 => ft L3 M3 fun b M4 => if b = true then fe L3 M4 fun y M5 => acc.length < sizeLine ∧ ForgetA M1.length (I (i + 1)) (acc ++ [y]) M5 else ForgetA M1.length (I (i + 1)) acc M4) ∧
  (∀ acc M2, I it.items.length acc M2 → P (.ref M2.length) (M2 ++ [.lst acc]))
structure SimGw (K : PySem.W.Frag) (B : Bs) (vs : List Nat) (g : TG) (fg : FG) : Prop where
  run : ∀ {σ H ρ L M x xv P Q}, RX K B H ρ L σ → RM K H ρ M → RT K H ρ x xv → fg x L M P → (∀ L' σ' H' ρ' M', Grow K H ρ H' ρ' → RX K B H' ρ' L' σ' → RM K H' ρ' M' → wipe σ' vs = wipe σ vs → P L' M' → Q σ' H') → g xv σ H Q
structure SimGsw (K : PySem.W.Frag) (B : Bs) (vs : List Nat) (g : TGs) (fg : List Tr → Loc → Mem → (Loc → Mem → Prop) → Prop) : Prop where
  run : ∀ {σ H ρ L M xs xvs P Q}, RX K B H ρ L σ → RM K H ρ M → RTs K H ρ xs xvs → fg xs L M P → (∀ L' σ' H' ρ' M', Grow K H ρ H' ρ' → RX K B H' ρ' L' σ' → RM K H' ρ' M' → wipe σ' vs = wipe σ vs → P L' M' → Q σ' H') → g xvs σ H Q
theorem wipe_at (σ : L2.St) (j : Nat) : ∀ vs : List Nat, (wipe σ vs)[j]? = if j ∈ vs then σ[j]?.map (fun _ => none) else σ[j]?
  | [] => by simp [wipe]
  | v :: vs => by
    unfold wipe
    have ih := wipe_at σ j vs
    by_cases h : v = j
    · subst h
      rw [if_pos List.mem_cons_self, List.getElem?_set, if_pos rfl, wipe_length]
      by_cases hl : v < σ.length
      · rw [if_pos hl, List.getElem?_eq_getElem hl]; rfl
      · rw [if_neg hl, List.getElem?_eq_none (by omega)]; rfl
    · rw [List.getElem?_set_ne h, ih]
      by_cases hj : j ∈ vs
      · rw [if_pos hj, if_pos (List.mem_cons_of_mem _ hj)]
      · rw [if_neg hj, if_neg (fun z => by
          rcases List.mem_cons.mp z with z | z
          · exact h z.symm
          · exact hj z)]
theorem wipe_set {σ : L2.St} {vs : List Nat} {i : Nat} {x : Option V} (h : i ∈ vs) : wipe (σ.set i x) vs = wipe σ vs := by
  refine List.ext_getElem? fun j => ?_
  rw [wipe_at, wipe_at]
  by_cases hj : j ∈ vs
  · rw [if_pos hj, if_pos hj, List.getElem?_set]
    split
    · split
      · rename_i h1 h2
        subst h1
        rw [List.getElem?_eq_getElem h2]; rfl
      · rename_i h1 h2
        subst h1
        rw [List.getElem?_eq_none (by omega)]
    · rfl
  · rw [if_neg hj, if_neg hj, List.getElem?_set_ne (show i ≠ j from fun z => hj (by rw [← z]; exact h))]
theorem wipe_idem {σ : L2.St} {vs : List Nat} : wipe (wipe σ vs) vs = wipe σ vs := by
  refine List.ext_getElem? fun j => ?_
  rw [wipe_at, wipe_at]
  by_cases hj : j ∈ vs
  · rw [if_pos hj, if_pos hj]
    cases σ[j]? <;> rfl
  · rw [if_neg hj, if_neg hj]
section
variable {K : PySem.W.Frag} {B : Bs} {H H1 H' : Hp} {ρ ρ1 ρ' : List Addr}
theorem RL.setNone : ∀ {L : Loc} {σ : L2.St} (i : Nat) (x : Option V), RL K H ρ L σ → RL K H ρ (L.set i none) (σ.set i x)
  | [], _, _, _, h => by
    have h : _ = ([] : L2.St) := h
    subst h
    exact rfl
  | u :: L, _, 0, x, h => by
    obtain ⟨v, τ, rfl, h2, h3⟩ := h
    exact ⟨_, _, rfl, trivial, h3⟩
  | u :: L, _, i + 1, x, h => by
    obtain ⟨v, τ, rfl, h2, h3⟩ := h
    exact ⟨_, _, rfl, h2, RL.setNone i x h3⟩
theorem RL.wipe {L : Loc} {σ : L2.St} (h : RL K H ρ L σ) : ∀ vs : List Nat, RL K H ρ (wipeF L vs) (L2.wipe σ vs)
  | [] => h
  | v :: vs => RL.setNone v none (RL.wipe h vs)
theorem RX.wipe {L : Loc} {σ : L2.St} (h : RX K B H ρ L σ) (vs : List Nat) : RX K B H ρ (wipeF L vs) (L2.wipe σ vs) := ⟨h.rl.wipe vs, h.gr⟩
theorem sim_namew {vs : List Nat} {i : Nat} (hi : i ∈ vs) : SimGw K B vs (gName i) (fName i) := ⟨fun hl hm rx p o => o _ _ _ _ _ Grow.refl (hl.set rx i) hm (wipe_set hi) p⟩
theorem sim_gnilw {vs : List Nat} : SimGsw K B vs gNil fGNil := ⟨fun hl hm rx ⟨e, p⟩ o => by
  subst e
  unfold RTs at rx
  exact ⟨rx, o _ _ _ _ _ Grow.refl hl hm rfl p⟩⟩
theorem sim_gconsw {vs : List Nat} {g : TG} {fg : FG} {gs : TGs} {fgs : List Tr → Loc → Mem → (Loc → Mem → Prop) → Prop} (a : SimGw K B vs g fg) (b : SimGsw K B vs gs fgs) : SimGsw K B vs (gCons g gs) (fGCons fg fgs) := ⟨fun hl hm rx ⟨t, us, e, p⟩ o => by
  subst e
  unfold RTs at rx
  obtain ⟨x, ys, rfl, r1, r2⟩ := rx
  exact ⟨x, ys, rfl, a.run hl hm r1 p fun L1 σ1 H1 ρ1 M1 g1 l1 m1 w1 p1 => b.run l1 m1 (r2.mono g1) p1 fun L2 σ2 H2 ρ2 M2 g2 l2 m2 w2 p2 => o _ _ _ _ _ (g1.trans g2) l2 m2 (w2.trans w1) p2⟩⟩
theorem sim_gtupw {vs : List Nat} {n : Nat} {gs : TGs} {fgs : List Tr → Loc → Mem → (Loc → Mem → Prop) → Prop} (b : SimGsw K B vs gs fgs) : SimGw K B vs (gTup K n gs) (fGTup n fgs) := ⟨fun hl hm rx ⟨ts, e, en, p⟩ o => by
  obtain ⟨a, xs, h1, h2, h3⟩ := tupOf_ok rx e
  exact ⟨a, xs, h1, h2, by rw [h3.len]; exact en, b.run hl hm h3 p o⟩⟩
theorem notin_grow {D : Addr} {xs : List V} (g : Grow K H ρ H' ρ') (hD : H D = some (.lst xs)) (n : D ∉ ρ) : D ∉ ρ' := fun z => by
  obtain ⟨ps, e⟩ := g.new D z n _ hD
  cases e
theorem oth_lst {D : Addr} {xs : List V} (g : Grow K H ρ H' ρ') (hD : H D = some (.lst xs)) (n : D ∉ ρ) : H' D = some (.lst xs) := g.oth _ _ hD n (fun _ z => nomatch z)
theorem Grow.updD {D : Addr} {xs ys : List V} (g : Grow K H1 ρ1 H ρ) (h1 : H1 D = none) (hD : H D = some (.lst xs)) : Grow K H1 ρ1 (upd H D (.lst ys)) ρ :=
  ⟨g.ext, fun _ _ h => sqt_upd (g.tup _ _ h) (.inr (.inl ⟨xs, hD⟩)), fun a o h n nt => by rw [upd_ne (ne_of_none h h1)]; exact g.oth a o h n nt, g.new, fun c q h => cod_upd (.inr (.inl ⟨xs, hD⟩)) c q (g.cod c q h)⟩
theorem RM.updD {M : Mem} {D : Addr} {xs ys : List V} (r : RM K H ρ M) (hD : H D = some (.lst xs)) (n : D ∉ ρ) : RM K (upd H D (.lst ys)) ρ M := by
  have g : Gw K H ρ (upd H D (.lst ys)) ρ := ⟨⟨[], by simp⟩, fun _ _ h => sqt_upd h (.inr (.inl ⟨xs, hD⟩)), fun c q h => cod_upd (.inr (.inl ⟨xs, hD⟩)) c q h⟩
  exact ⟨r.len, fun k o e => let ⟨a, h1, h2⟩ := r.at_ k o e; ⟨a, h1, h2.mono0 g (upd_ne fun z => n (z ▸ List.mem_of_getElem? h1)) fun d q => by rw [upd_ne (ne_of q hD (fun z => nomatch z))]; exact q⟩, r.nd⟩
theorem RTs.updD {D : Addr} {xs ys : List V} {ts : List Tr} {vs : List V} (h : RTs K H ρ ts vs) (hD : H D = some (.lst xs)) : RTs K (upd H D (.lst ys)) ρ ts vs :=
  RTs.mono0 ⟨⟨[], by simp⟩, fun _ _ h => sqt_upd h (.inr (.inl ⟨xs, hD⟩)), fun c q h => cod_upd (.inr (.inl ⟨xs, hD⟩)) c q h⟩ h
theorem RM.addD {M : Mem} {D : Addr} {xs : List V} {ts : List Tr} (r : RM K H ρ M) (hD : H D = some (.lst xs)) (n : D ∉ ρ) (h : RTs K H ρ ts xs) : RM K H (ρ ++ [D]) (M ++ [.lst ts]) := by
  have g : Gw K H ρ H (ρ ++ [D]) := ⟨⟨[D], rfl⟩, fun _ _ h => h, fun _ _ h => h⟩
  have lt := r.len
  refine ⟨by simp [lt], fun k o e => ?_, ?_⟩
  · by_cases hn : k < M.length
    · rw [List.getElem?_append_left hn] at e
      obtain ⟨a, h1, h2⟩ := r.at_ k o e
      exact ⟨a, by rw [List.getElem?_append_left (by rw [lt]; exact hn)]; exact h1, h2.mono0 g rfl fun d q => q⟩
    · rw [List.getElem?_append_right (by omega)] at e
      match hz : k - M.length, e with
      | 0, e =>
        cases e
        exact ⟨D, by rw [List.getElem?_append_right (by omega), lt, hz]; rfl, xs, hD, RTs.mono0 g h⟩
      | j + 1, e => simp at e
  · rw [List.nodup_append]
    exact ⟨r.nd, by simp, fun a ha b hb => by rw [List.mem_singleton.mp hb]; exact fun e => n (e ▸ ha)⟩
variable {wi : TI} {fi : FI} {g : TG} {fg : FG} {tt : TT} {ft : FT} {te : TE} {fe : FE} {vs : List Nat}
theorem sim_lc (hi : SimI K B wi fi) (hg : SimGw K B vs g fg) (ht : SimT K B tt ft) (he : SimE K B te fe) : SimE K B (tLc wi g tt te vs) (fLc fi fg ft fe vs) := ⟨fun {σ H ρ L M P Q} hl hm h o => hi.run hl hm h fun it J S H1 ρ1 M1 g1 m1 is s1 ⟨I, i0, iok, ist, ien⟩ => by
  intro D hD
  have hB := base_len (hl.mono g1) m1
  have hk : ρ1.length ≤ M1.length := Nat.le_of_eq m1.len
  let W : Nat → Nat → Hp → Prop := fun i m H2 => m = it.items.length - i ∧ i ≤ it.items.length ∧ ∃ acc xs ρ2 M2, H2 D = some (.lst xs) ∧ D ∉ ρ2 ∧ Grow K H1 ρ1 H2 ρ2 ∧ RM K H2 ρ2 M2 ∧ RTs K H2 ρ2 acc xs ∧ I i acc M2
  refine ⟨W, ⟨it.items.length, by omega, Nat.zero_le _, [], [], ρ1, M1, upd_same, m1.fresh hD, Grow.laid hD, m1.laid hD, RTs.nil, i0⟩, ?_⟩
  rintro i m H2 ⟨rfl, hi', acc, xs, ρ2, M2, hD2, nD2, g2, m2, ra, iv⟩
  have s2 := is.st g2 s1
  have ok2 := iok i acc M2 hi' iv
  by_cases hlt : i < it.items.length
  · obtain ⟨t, et⟩ : ∃ t, it.items[i]? = some t := ⟨_, List.getElem?_eq_getElem hlt⟩
    refine .inr ⟨is.go s2 m2 ok2 et, W (i + 1) (it.items.length - (i + 1)), fun H' z => ⟨it.items.length - (i + 1), by omega, z⟩, fun x H3 y => ?_⟩
    obtain ⟨g3, m3, rx⟩ := is.yld s2 m2 ok2 et y
    refine hg.run ((hl.mono (g1.trans (g2.trans g3))).wipe vs) m3 rx (ist i t acc M2 et iv) fun L4 σ4 H4 ρ4 M4 g4 l4 m4 w4 p4 => ⟨w4.trans wipe_idem, ht.run l4 m4 p4 fun b H5 ρ5 M5 g5 m5 p5 => ?_⟩
    have g25 := (g3.trans g4).trans g5
    have hD5 := oth_lst g25 hD2 nD2
    have nD5 := notin_grow g25 hD2 nD2
    have ra5 := ra.mono g25
    cases b with
    | false =>
      rw [if_neg (by decide)] at p5 ⊢
      obtain ⟨n, hn, ba, bm, j⟩ := p5
      exact ⟨rfl, hlt, acc, xs, ρ5.take n, M5.take n, hD5, fun z => nD5 (List.mem_of_mem_take z), (g2.trans g25).cut (Nat.le_trans hk hn), m5.cut bm, RTs.cutN ra5 ba, j⟩
    | true =>
      rw [if_pos rfl] at p5 ⊢
      refine he.run (l4.mono g5) m5 p5 fun v xv H6 ρ6 M6 g6 m6 ry ⟨z, n, hn, ba, bm, j⟩ => ?_
      have hD6 := oth_lst g6 hD5 nD5
      have nD6 := notin_grow g6 hD5 nD5
      have ra6 := (ra5.mono g6).app (RTs.cons ry RTs.nil)
      refine ⟨xs, hD6, by rw [ra.len]; exact z, rfl, hlt, acc ++ [v], xs ++ [xv], ρ6.take n, M6.take n, upd_same, fun z => nD6 (List.mem_of_mem_take z), (((g2.trans g25).trans g6).cut (Nat.le_trans hk hn)).updD hD hD6, (m6.cut bm).updD hD6 (fun z => nD6 (List.mem_of_mem_take z)), (RTs.cutN ra6 ba).updD hD6, j⟩
  · have e1 : i = it.items.length := by omega
    subst e1
    refine .inl ⟨is.stop s2 m2 ok2, o (.ref M2.length) (.ref D) H2 (ρ2 ++ [D]) (M2 ++ [.lst acc]) (g1.trans ?_) (m2.addD hD2 nD2 ra) (by unfold RT; exact ⟨D, m2.ref, rfl⟩) (ien acc M2 iv)⟩
    obtain ⟨t, e⟩ := g2.ext
    exact ⟨⟨t ++ [D], by rw [e, List.append_assoc]⟩, g2.tup, g2.oth, fun a ha hn o ho => by
      rcases List.mem_append.mp ha with ha | ha
      · exact g2.new a ha hn o ho
      · rw [List.mem_singleton.mp ha, hD] at ho
        (cases ho), g2.cod⟩⟩
theorem sim_yes : SimT K B tYes (fun _ M P => P true M) := ⟨fun _ hm p o => o _ _ _ _ Grow.refl hm p⟩
end
/-! ### a def's body -/
def startL (N : List Str) (ts : List Tr) : Loc := ts.map some ++ List.replicate (N.length - ts.length) none
/-- what is handed back; what lies behind place n is forgotten -/
def Keep (k : Nat) (P : PF) : PF := fun v M => ∃ n, k ≤ n ∧ Tr.bel n v = true ∧ belM n (M.take n) = true ∧ P v (M.take n)
def KeepX (k : Nat) (P : PXF) : PXF := fun C fs M => ∃ n, k ≤ n ∧ belF n fs = true ∧ belM n (M.take n) = true ∧ P C fs (M.take n)
section
variable {K : PySem.W.Frag} {H : Hp} {ρ : List Addr}
theorem RL.nones : ∀ (n : Nat) (xs : List (Option V)), xs.length = n → RL K H ρ (List.replicate n none) xs
  | 0, [], _ => rfl
  | n + 1, x :: xs, h => ⟨x, xs, rfl, trivial, RL.nones n xs (by simpa using h)⟩
theorem RL.start : ∀ {ts : List Tr} {vs : List V} {L : Loc} {τ : L2.St}, RTs K H ρ ts vs → RL K H ρ L τ → RL K H ρ (ts.map some ++ L) (vs.map some ++ τ)
  | [], _, _, _, h, k => by
    unfold RTs at h
    subst h
    exact k
  | t :: ts, _, _, _, h, k => by
    unfold RTs at h
    obtain ⟨x, ys, rfl, h1, h2⟩ := h
    exact ⟨some x, _, rfl, ⟨x, rfl, h1⟩, RL.start h2 k⟩
theorem out_keep {P : PF} {Q : VK} (o : Out K H ρ P Q) : Out K H ρ (Keep ρ.length P) Q := fun v x H' ρ' M' g m r ⟨n, hn, b, bm, p⟩ => o v x H' (ρ'.take n) (M'.take n) (g.cut hn) (m.cut bm) (r.cut b) p
theorem XR.cut {fs : List (Str × Tr)} {d : Option Addr} {n : Nat} (x : XR K H ρ fs d) (b : belF n fs = true) : XR K H (ρ.take n) fs d := by
  rcases x with x | ⟨dd, gs, h1, h2, h3⟩
  · exact .inl x
  · exact .inr ⟨dd, gs, h1, h2, h3.cut b⟩
theorem outX_keep {P : PXF} {E : XK} (o : OutX K H ρ P E) : OutX K H ρ (KeepX ρ.length P) E := fun C fs d H' ρ' M' g m r ⟨n, hn, b, bm, p⟩ => o C fs d H' (ρ'.take n) (M'.take n) (g.cut hn) (m.cut bm) (r.cut b) p
/-- a def's body, said of trees: the wish of its caller, from the promise -/
theorem run_body {N : List Str} {t : TS} {fs : PXF → FS} {fsp : FSp} {vs : List V} {Q : VK} {E : XK} (h : spF K fsp vs H Q E)
    (sim : ∀ (B : Bs) (PX : PXF), OutX K B.1 B.2 PX E → SimS K B t (fs PX))
    (sp : ∀ ts M P PX, fsp ts M P PX → fs (KeepX M.length PX) { nx := fun _ M' => Keep M.length P .non M', rt := Keep M.length P } (startL N ts) M) :
    t { nx := fun _ H' => Q .non H', rt := Q } (L2.start N vs) H := by
  obtain ⟨ts, ρ, M, P, PX, r, m, h, o, ox⟩ := h
  have s := sim (H, ρ) (KeepX M.length PX) (by rw [← m.len]; exact outX_keep ox)
  have hl : RX K (H, ρ) H ρ (startL N ts) (L2.start N vs) := ⟨by
    unfold startL L2.start
    rw [← r.len]
    exact RL.start r (RL.nones _ _ (by simp)), Grow.refl⟩
  have o' : Out K H ρ (Keep M.length P) Q := by rw [← m.len]; exact out_keep o
  exact s.run hl m (sp ts M P PX h) ⟨fun L σ H' ρ' M' g _ m' p => o' .non .non H' ρ' M' g m' RT.non_ p, o', fun _ _ _ _ _ _ _ _ p => p.elim, fun _ _ _ _ _ _ _ _ p => p.elim⟩
end
end Fm

set_option Elab.async false
set_option linter.all false
set_option maxRecDepth 100000
set_option maxHeartbeats 4000000
namespace Fm
open PySem PySem.Spec PyProof.Rows L2
/-! ### texts -/
def fAddS : F2 := fun x y M P => ∃ i j, x = .str i ∧ y = .str j ∧ i.length + j.length ≤ sizeLine ∧ P (.str (i ++ j)) M
def fLeS : F2 := fun x y M P => ∃ i j : Str, x = .str i ∧ y = .str j ∧ P (.bl (!decide (j.cps.toList < i.cps.toList))) M
def fLtS : F2 := fun x y M P => ∃ i j : Str, x = .str i ∧ y = .str j ∧ P (.bl (decide (i.cps.toList < j.cps.toList))) M
def fM0b (g : Str → Bool) : Tr → FC := fun x xs M P => ∃ a, x = .str a ∧ xs = [] ∧ P (.bl (g a)) M
def fM1b (g : Str → Str → Bool) : Tr → FC := fun x xs M P => ∃ a b, x = .str a ∧ xs = [.str b] ∧ P (.bl (g a b)) M
def fSplit : Tr → FC := fun x xs M P => ∃ a b, x = .str a ∧ xs = [.str b] ∧ (b.length == 0) = false ∧ a.length + 2 ≤ sizeLine ∧ P (.ref M.length) (M ++ [.lst ((Txt.split a b).map Tr.str)])
def fJoin : Tr → FC := fun x xs M P => ∃ a y, ∃ ys : List Str, x = .str a ∧ xs = [y] ∧ seqAt M y = some (ys.map Tr.str) ∧ (ys.map (·.length)).sum + ys.length * a.length ≤ 16777216 ∧ P (.str (Txt.join a ys)) M
def fmtS : Tr → Str
  | .str y => y
  | .int i => toString i
  | _ => Str.empty
def fmtOk : Tr → Prop
  | .str y => y.length ≤ sizeLine
  | .int i => i.natAbs.log2 < 1920
  | _ => False
theorem fmtS_i (i : Int) : fmtS (.int i) = toString i := rfl
theorem fmtS_s (i : Str) : fmtS (.str i) = i := rfl
theorem fmtOk_i (i : Int) : fmtOk (.int i) = (i.natAbs.log2 < 1920) := rfl
theorem fmtOk_s (i : Str) : fmtOk (.str i) = (i.length ≤ sizeLine) := rfl
def fFmt (fe : FE) : FE := fun L M P => fe L M fun x M1 => fmtOk x ∧ P (.str (fmtS x)) M1
def fJs : List FE → Str → Loc → Mem → (Str → Mem → Prop) → Prop
  | [], acc, _, M, P => P acc M
  | f :: fs, acc, L, M, P => f L M fun x M1 => ∃ y : Str, x = .str y ∧ (acc ++ y).length ≤ sizeLine ∧ fJs fs (acc ++ y) L M1 P
def fJoined (fs : List FE) : FE := fun L M P => fJs fs Str.empty L M fun out M1 => P (.str out) M1
def fBM0S (fr : Tr → FC) (fo : FE) : FE := fun L M P => fo L M fun x M1 => isStr x = true ∧ fr x [] M1 P
def fBMS (fr : Tr → FC) (fo : FE) (fa : FA) : FE := fun L M P => fo L M fun x M1 => isStr x = true ∧ fa L M1 fun xs M2 => fr x xs M2 P
section
variable {K : PySem.W.Frag} {B : Bs} {H : Hp} {ρ : List Addr} {to te : TE} {fo fe : FE} {ta : TA} {fa : FA} {r : V → List V → Hp → VK → Prop} {fr : Tr → FC}
theorem s_addS : Sim2 K (fun x y H Q => ∃ i j : Str, x = V.str i ∧ y = V.str j ∧ i.length + j.length ≤ sizeLine ∧ Q (V.str (i ++ j)) H) fAddS := ⟨fun hm rx ry ⟨i, j, e1, e2, z, p⟩ o => by
  subst e1; subst e2
  exact ⟨i, j, rx.str_inv, ry.str_inv, z, o _ _ _ _ _ Grow.refl hm RT.str_ p⟩⟩
theorem s_leS : Sim2 K (fun x y H Q => ∃ i j : Str, x = V.str i ∧ y = V.str j ∧ Q (V.bl (!decide (j.cps.toList < i.cps.toList))) H) fLeS := ⟨fun hm rx ry ⟨i, j, e1, e2, p⟩ o => by
  subst e1; subst e2
  exact ⟨i, j, rx.str_inv, ry.str_inv, o _ _ _ _ _ Grow.refl hm RT.bl_ p⟩⟩
theorem s_ltS : Sim2 K (fun x y H Q => ∃ i j : Str, x = V.str i ∧ y = V.str j ∧ Q (V.bl (decide (i.cps.toList < j.cps.toList))) H) fLtS := ⟨fun hm rx ry ⟨i, j, e1, e2, p⟩ o => by
  subst e1; subst e2
  exact ⟨i, j, rx.str_inv, ry.str_inv, o _ _ _ _ _ Grow.refl hm RT.bl_ p⟩⟩
theorem m_0b {g : Str → Bool} : SimM K (fun x xs H Q => ∃ a, x = V.str a ∧ xs = [] ∧ True ∧ Q (V.bl (g a)) H) (fM0b g) := ⟨fun hm rx rxs ⟨a, e1, e2, p⟩ o => by
  subst e1; subst e2
  unfold RTs at rxs
  exact ⟨a, rx.str_inv, rxs, trivial, o _ _ _ _ _ Grow.refl hm RT.bl_ p⟩⟩
theorem m_1b {g : Str → Str → Bool} : SimM K (fun x xs H Q => ∃ a b, x = V.str a ∧ xs = [V.str b] ∧ Q (V.bl (g a b)) H) (fM1b g) := ⟨fun hm rx rxs ⟨a, b, e1, e2, p⟩ o => by
  subst e1; subst e2
  obtain ⟨y, rfl, ry⟩ := rxs.one
  exact ⟨a, b, rx.str_inv, by rw [ry.str_inv], o _ _ _ _ _ Grow.refl hm RT.bl_ p⟩⟩
theorem RTs.strs : ∀ ys : List Str, RTs K H ρ (ys.map Tr.str) (ys.map V.str)
  | [] => RTs.nil
  | y :: ys => RTs.cons RT.str_ (RTs.strs ys)
theorem RTs.strs_inv : ∀ {ys : List Str} {vs : List V}, RTs K H ρ (ys.map Tr.str) vs → vs = ys.map V.str
  | [], _, h => by unfold RTs at h; exact h
  | y :: ys, _, h => by
    unfold RTs at h
    obtain ⟨x, zs, rfl, h1, h2⟩ := h
    rw [h1.str_inv, RTs.strs_inv (ys := ys) h2]
    rfl
theorem m_split : SimM K (fun x xs H Q => ∃ a b, x = V.str a ∧ xs = [V.str b] ∧ (b.length == 0) = false ∧ a.length + 2 ≤ sizeLine ∧ rNewStrs (Txt.split a b) H Q) fSplit := ⟨fun hm rx rxs ⟨a, b, e1, e2, h1, h2, p⟩ o => by
  subst e1; subst e2
  obtain ⟨y, rfl, ry⟩ := rxs.one
  exact ⟨a, b, rx.str_inv, by rw [ry.str_inv], h1, h2, out_list hm (RTs.strs _) o p⟩⟩
theorem m_join : SimM K (fun x xs H Q => ∃ a p, ∃ ys : List Str, x = V.str a ∧ xs = [V.ref p] ∧ (SqL K H p (ys.map V.str) ∨ SqT K H p (ys.map V.str)) ∧ (ys.map (·.length)).sum + ys.length * a.length ≤ 16777216 ∧ Q (V.str (Txt.join a ys)) H) fJoin := ⟨fun hm rx rxs ⟨a, y, ys, e1, e2, e3, z, p⟩ o => by
  subst e1; subst e2
  obtain ⟨yv, rfl, ry⟩ := rxs.one
  obtain ⟨b, us, rfl, h2, h3⟩ := seqAt_ok hm ry e3
  rw [h3.strs_inv] at h2
  exact ⟨a, b, ys, rx.str_inv, rfl, h2, z, o _ _ _ _ _ Grow.refl hm RT.str_ p⟩⟩
theorem sim_BM0S (s : SimM K r fr) (a : SimE K B to fo) : SimE K B (tBM0 K "str" r to) (fBM0S fr fo) :=
  ⟨fun hl hm h o => a.run hl hm h fun x xv H1 ρ1 M1 g1 m1 rx ⟨e, h1⟩ => by
    cases x with
    | str z => exact ⟨by rw [rx.str_inv]; rfl, s.run m1 rx RTs.nil h1 (o.step g1)⟩
    | _ => cases e⟩
theorem sim_BMS (s : SimM K r fr) (a : SimE K B to fo) (b : SimA K B ta fa) : SimE K B (tBM K "str" r to ta) (fBMS fr fo fa) :=
  ⟨fun hl hm h o => a.run hl hm h fun x xv H1 ρ1 M1 g1 m1 rx ⟨e, h1⟩ => by
    cases x with
    | str z => exact ⟨by rw [rx.str_inv]; rfl, b.run (hl.mono g1) m1 h1 fun xs xvs H2 ρ2 M2 g2 m2 rxs h2 => s.run m2 (rx.mono g2) rxs h2 (o.step (g1.trans g2))⟩
    | _ => cases e⟩
theorem sim_fmt (a : SimE K B te fe) : SimE K B (tFmt te) (fFmt fe) := ⟨fun hl hm h o => a.run hl hm h fun x xv H1 ρ1 M1 g1 m1 rx ⟨z, p⟩ => by
  cases x with
  | str y => exact .inl ⟨y, rx.str_inv, z, o _ _ _ _ _ g1 m1 RT.str_ p⟩
  | int i => exact .inr ⟨i, rx.int_inv, z, o _ _ _ _ _ g1 m1 RT.str_ p⟩
  | _ => exact z.elim⟩
/-- the parts of a joined text -/
inductive SimJ (K : PySem.W.Frag) (B : Bs) : List TE → List FE → Prop where
  | nil : SimJ K B [] []
  | cons {te : TE} {fe : FE} {ts : List TE} {fs : List FE} (a : SimE K B te fe) (b : SimJ K B ts fs) : SimJ K B (te :: ts) (fe :: fs)
theorem js_run {ts : List TE} {fs : List FE} (s : SimJ K B ts fs) : ∀ {acc : Str} {σ : L2.St} {H : Hp} {ρ : List Addr} {L : Loc} {M : Mem} {P : Str → Mem → Prop} {Q : Str → Hp → Prop}, RX K B H ρ L σ → RM K H ρ M → fJs fs acc L M P →
    (∀ out H' ρ' M', Grow K H ρ H' ρ' → RM K H' ρ' M' → P out M' → Q out H') → tJs ts acc σ H Q := by
  induction s with
  | nil => intro acc σ H ρ L M P Q hl hm p o; exact o _ _ _ _ Grow.refl hm p
  | cons a b ih =>
    intro acc σ H ρ L M P Q hl hm p o
    refine a.run hl hm p fun x xv H1 ρ1 M1 g1 m1 rx ⟨y, e, z, p1⟩ => ?_
    subst e
    exact ⟨y, rx.str_inv, z, ih (hl.mono g1) m1 p1 fun out H' ρ' M' g m p => o out H' ρ' M' (g1.trans g) m p⟩
theorem sim_joined {ts : List TE} {fs : List FE} (s : SimJ K B ts fs) : SimE K B (fun σ H Q => tJs ts Str.empty σ H fun out H1 => Q (V.str out) H1) (fJoined fs) :=
  ⟨fun hl hm p o => js_run s hl hm p fun out H' ρ' M' g m p => o _ _ _ _ _ g m RT.str_ p⟩
end
end Fm
namespace Fm
open PySem PySem.Spec PyProof.Rows L2
theorem nox_K {CX : CXT} {P : Program} {w : World} {K : PySem.W.Frag} {mg : Str → Option Value} {base : Heap} {N : List Str} {qual : Str} {scope : Scope} {f : Addr} {cd : Value} {A : Around} {outer : List Env} {s : Shared} {H : Hp} {E : XK} : (cxOf CX P w K mg base N qual scope f cd A outer s H E).nox.K = K := rfl
theorem cx_K {CX : CXT} {P : Program} {w : World} {K : PySem.W.Frag} {mg : Str → Option Value} {base : Heap} {N : List Str} {qual : Str} {scope : Scope} {f : Addr} {cd : Value} {A : Around} {outer : List Env} {s : Shared} {H : Hp} {E : XK} : (cxOf CX P w K mg base N qual scope f cd A outer s H E).K = K := rfl
section
variable {K : PySem.W.Frag} {H : Hp} {ρ : List Addr} {M : Mem}
theorem keepX_of {PX : PXF} {E : XK} (m : RM K H ρ M) (ox : OutX K H ρ PX E) : OutX K (H, ρ).1 (H, ρ).2 (KeepX M.length PX) E := by rw [← m.len]; exact outX_keep ox
theorem run_in {N : List Str} {t : TS} {f : FS} {ts : List Tr} {vs : List V} {P : PF} {Q : VK} (r : RTs K H ρ ts vs) (m : RM K H ρ M) (o : Out K H ρ P Q) (sim : SimS K (H, ρ) t f)
    (sp : f { nx := fun _ M' => Keep M.length P .non M', rt := Keep M.length P } (startL N ts) M) : t { nx := fun _ H' => Q .non H', rt := Q } (L2.start N vs) H := by
  have hl : RX K (H, ρ) H ρ (startL N ts) (L2.start N vs) := ⟨by
    unfold startL L2.start
    rw [← r.len]
    exact RL.start r (RL.nones _ _ (by simp)), Grow.refl⟩
  have o' : Out K H ρ (Keep M.length P) Q := by rw [← m.len]; exact out_keep o
  exact sim.run hl m sp ⟨fun L σ H' ρ' M' g _ m' p => o' .non .non H' ρ' M' g m' RT.non_ p, o', fun _ _ _ _ _ _ _ _ p => p.elim, fun _ _ _ _ _ _ _ _ p => p.elim⟩
/-- nothing is left behind: what the def has made is forgotten -/
theorem keep_all {P : PF} {v : Tr} {M' : Mem} {k : Nat} (hk : k ≤ M'.length) (b : Tr.bel k v = true) (bm : belM k (M'.take k) = true) (p : P v (M'.take k)) : Keep k P v M' := ⟨k, Nat.le_refl _, b, bm, p⟩
end
mutual
theorem RT.belT {K : PySem.W.Frag} {H : Hp} {ρ : List Addr} : ∀ {t : Tr} {v : V}, RT K H ρ t v → Tr.bel ρ.length t = true
  | .non, _, _ => rfl
  | .bl _, _, _ => rfl
  | .int _, _, _ => rfl
  | .str _, _, _ => rfl
  | .raw _, _, _ => rfl
  | .ref k, _, h => by
    unfold RT at h
    obtain ⟨a, h1, _⟩ := h
    unfold Tr.bel
    exact decide_eq_true (List.getElem?_eq_some_iff.mp h1).1
  | .tup ts, _, h => by
    unfold RT at h
    obtain ⟨a, xs, _, _, h3⟩ := h
    unfold Tr.bel
    exact RTs.belT h3
theorem RTs.belT {K : PySem.W.Frag} {H : Hp} {ρ : List Addr} : ∀ {ts : List Tr} {vs : List V}, RTs K H ρ ts vs → Tr.bels ρ.length ts = true
  | [], _, _ => rfl
  | t :: ts, _, h => by
    unfold RTs at h
    obtain ⟨x, ys, _, h3, h4⟩ := h
    unfold Tr.bels
    rw [Bool.and_eq_true]
    exact ⟨RT.belT h3, RTs.belT h4⟩
end
theorem RFs.belT {K : PySem.W.Frag} {H : Hp} {ρ : List Addr} : ∀ {fs : List (Str × Tr)} {gs : List (Str × V)}, RFs K H ρ fs gs → belF ρ.length fs = true
  | [], _, _ => rfl
  | t :: ts, _, h => by
    obtain ⟨x, ys, _, h3, h4⟩ := h
    unfold belF
    rw [Bool.and_eq_true]
    exact ⟨RT.belT h3, RFs.belT h4⟩
theorem belM_of {n : Nat} : ∀ {M : Mem}, (∀ (k : Nat) (o : O), M[k]? = some o → O.bel n o = true) → belM n M = true
  | [], _ => rfl
  | o :: M, h => by
    unfold belM
    rw [Bool.and_eq_true]
    exact ⟨h 0 o rfl, belM_of fun k u e => h (k + 1) u (by simpa using e)⟩
/-- a memory that is held has no number beyond itself -/
theorem RM.belM {K : PySem.W.Frag} {H : Hp} {ρ : List Addr} {M : Mem} (r : RM K H ρ M) : Fm.belM M.length M = true := belM_of fun k o e => by
  obtain ⟨a, _, h⟩ := r.at_ k o e
  rw [← r.len]
  cases o with
  | lst ts =>
    obtain ⟨xs, _, h2⟩ := h
    exact RTs.belT h2
  | ins C fs =>
    obtain ⟨dx, gs, _, _, h2⟩ := h
    exact RFs.belT h2
  | tab P q => rfl
end Fm
namespace Fm
open PySem PySem.Spec PyProof.Rows L2
theorem keep_app {K : PySem.W.Frag} {H : Hp} {ρ : List Addr} {M g : Mem} {P : PF} {v : Tr} (m : RM K H ρ M) (b : Tr.bel M.length v = true) (p : P v M) : Keep M.length P v (M ++ g) :=
  ⟨M.length, Nat.le_refl _, b, by rw [List.take_left]; exact m.belM, by rw [List.take_left]; exact p⟩
theorem keep_same {K : PySem.W.Frag} {H : Hp} {ρ : List Addr} {M : Mem} {P : PF} {v : Tr} (m : RM K H ρ M) (b : Tr.bel M.length v = true) (p : P v M) : Keep M.length P v M :=
  ⟨M.length, Nat.le_refl _, b, by rw [List.take_length]; exact m.belM, by rw [List.take_length]; exact p⟩
/-- all is kept -/
theorem keep_whole {M M' : Mem} {P : PF} {v : Tr} (h : M.length ≤ M'.length) (b : Tr.bel M'.length v = true) (bm : belM M'.length M' = true) (p : P v M') : Keep M.length P v M' :=
  ⟨M'.length, h, b, by rw [List.take_length]; exact bm, by rw [List.take_length]; exact p⟩
theorem belM_app {n : Nat} : ∀ {M g : Mem}, belM n (M ++ g) = (belM n M && belM n g)
  | [], g => by simp [belM]
  | o :: M, g => by simp [belM, belM_app (M := M), Bool.and_assoc]
theorem Tr.bels_mono {n m : Nat} (h : n ≤ m) : ∀ {ts : List Tr}, Tr.bels n ts = true → Tr.bels m ts = true
  | [], _ => rfl
  | t :: ts, b => by
    unfold Tr.bels at b ⊢
    rw [Bool.and_eq_true] at b ⊢
    exact ⟨Tr.bel_mono h b.1, Tr.bels_mono h b.2⟩
theorem belF_mono {n m : Nat} (h : n ≤ m) : ∀ {ts : List (Str × Tr)}, belF n ts = true → belF m ts = true
  | [], _ => rfl
  | t :: ts, b => by
    unfold belF at b ⊢
    rw [Bool.and_eq_true] at b ⊢
    exact ⟨Tr.bel_mono h b.1, belF_mono h b.2⟩
theorem belM_mono {n m : Nat} (h : n ≤ m) : ∀ {M : Mem}, belM n M = true → belM m M = true
  | [], _ => rfl
  | .lst ts :: M, b => by
    unfold belM at b ⊢
    rw [Bool.and_eq_true] at b ⊢
    exact ⟨Tr.bels_mono h b.1, belM_mono h b.2⟩
  | .ins C fs :: M, b => by
    unfold belM at b ⊢
    rw [Bool.and_eq_true] at b ⊢
    exact ⟨belF_mono h b.1, belM_mono h b.2⟩
  | .tab P q :: M, b => by
    unfold belM at b ⊢
    rw [Bool.and_eq_true] at b ⊢
    exact ⟨rfl, belM_mono h b.2⟩
theorem bels_strs {n : Nat} : ∀ ys : List Str, Tr.bels n (ys.map Tr.str) = true
  | [] => rfl
  | y :: ys => by
    rw [List.map_cons]
    unfold Tr.bels
    rw [Bool.and_eq_true]
    exact ⟨rfl, bels_strs ys⟩
theorem bels_ints {n : Nat} : ∀ ys : List Int, Tr.bels n (ys.map Tr.int) = true
  | [] => rfl
  | y :: ys => by
    rw [List.map_cons]
    unfold Tr.bels
    rw [Bool.and_eq_true]
    exact ⟨rfl, bels_ints ys⟩
theorem lstAt_of {M : Mem} {n : Nat} {ts : List Tr} (h : M[n]? = some (.lst ts)) : lstAt M (.ref n) = some ts := by simp only [lstAt, h]
theorem seqAt_of {M : Mem} {n : Nat} {ts : List Tr} (h : M[n]? = some (.lst ts)) : seqAt M (.ref n) = some ts := lstAt_of h
theorem refAt_of {M : Mem} {n : Nat} {ts : List Tr} (h : M[n]? = some (.lst ts)) : refAt M (.ref n) = some (n, ts) := by simp only [refAt, h]
/-- what stands behind M -/
theorem at_0 {M g : Mem} {o : O} : (M ++ o :: g)[M.length]? = some o := by rw [List.getElem?_append_right (Nat.le_refl _), Nat.sub_self]; rfl
theorem at_k {M g : Mem} {k : Nat} : (M ++ g)[M.length + k]? = g[k]? := by rw [List.getElem?_append_right (Nat.le_add_right _ _), Nat.add_sub_cancel_left]
theorem set_k {M g : Mem} {k : Nat} {o : O} : (M ++ g).set (M.length + k) o = M ++ g.set k o := by rw [List.set_append_right _ _ (Nat.le_add_right _ _), Nat.add_sub_cancel_left]
theorem set_0 {M g : Mem} {o u : O} : (M ++ u :: g).set M.length o = M ++ o :: g := by rw [List.set_append_right _ _ (Nat.le_refl _), Nat.sub_self]; rfl
end Fm
namespace Fm
open PySem PySem.Spec PyProof.Rows L2
def lstO : Option O → Option (List Tr)
  | some (.lst ts) => some ts
  | _ => none
theorem lstO_lst (ts : List Tr) : lstO (some (.lst ts)) = some ts := rfl
theorem lstAt_ref (M : Mem) (n : Nat) : lstAt M (.ref n) = lstO (M[n]?) := by
  simp only [lstAt]
  cases M[n]? with
  | none => rfl
  | some o => cases o <;> rfl
theorem seqAt_ref (M : Mem) (n : Nat) : seqAt M (.ref n) = lstO (M[n]?) := lstAt_ref M n
theorem seqAt_tup (M : Mem) (ts : List Tr) : seqAt M (.tup ts) = some ts := rfl
theorem refAt_ref (M : Mem) (n : Nat) : refAt M (.ref n) = (lstO (M[n]?)).map fun ts => (n, ts) := by
  simp only [refAt]
  cases M[n]? with
  | none => rfl
  | some o => cases o <;> rfl
theorem app_assoc2 (M : Mem) (a b : List O) : (M ++ a) ++ b = M ++ (a ++ b) := List.append_assoc ..
theorem len_app1 (M : Mem) (g : List O) : List.length (M ++ g) = List.length M + List.length g := List.length_append
theorem at_kk {M g : Mem} {k : Nat} : (M ++ g)[List.length M + k]? = g[k]? := at_k
theorem at_00 {M g : Mem} : (M ++ g)[List.length M]? = g[0]? := by
  have := at_k (M := M) (g := g) (k := 0)
  simpa using this
theorem set_00 {M g : Mem} {o : O} : (M ++ g).set (List.length M) o = M ++ g.set 0 o := by
  have := set_k (M := M) (g := g) (k := 0) (o := o)
  simpa using this
theorem at_left {M g : Mem} {n : Nat} {o : O} (h : M[n]? = some o) : (M ++ g)[n]? = some o := by
  rw [List.getElem?_append_left (List.getElem?_eq_some_iff.mp h).1]; exact h
theorem int_cast_inj {a b : Nat} : ((a : Int) = (b : Int)) = (a = b) := propext Int.ofNat_inj
end Fm
namespace Fm
open PySem PySem.Spec PyProof.Rows L2
theorem asg_len (env : Env) : ∀ ts : List Expr, (assignEach ts env).length = ts.length
  | [] => by simp [assignEach]
  | t :: ts => by cases t <;> simp [assignEach, asg_len env ts]
theorem belM_ext {M g : Mem} (hM : belM M.length M = true) (hg : belM (M.length + g.length) g = true) : belM (List.length M + List.length g) (M ++ g) = true := by
  rw [belM_app, Bool.and_eq_true]
  exact ⟨belM_mono (Nat.le_add_right _ _) hM, hg⟩
/-- nothing is forgotten -/
theorem forget_not {k : Nat} {J : Loc → Mem → Prop} {L : Loc} {M g : Mem} (hk : k ≤ List.length M + List.length g) (j : J L (M ++ g)) (bl : belL (List.length M + List.length g) L = true) (hM : belM M.length M = true) (hg : belM (M.length + g.length) g = true) : Forget k J L (M ++ g) :=
  ⟨List.length M + List.length g, L, hk, LocLe.refl L, bl, by rw [List.take_of_length_le (by rw [List.length_append]; exact Nat.le_refl _)]; exact belM_ext hM hg, by rw [List.take_of_length_le (by rw [List.length_append]; exact Nat.le_refl _)]; exact j⟩
/-- what lies behind M ++ g is forgotten -/
theorem forget_to {k : Nat} {J : Loc → Mem → Prop} {L L' : Loc} {M g h : Mem} (hk : k ≤ List.length M + List.length g) (le : LocLe L' L) (j : J L' (M ++ g)) (bl : belL (List.length M + List.length g) L' = true) (hM : belM M.length M = true) (hg : belM (M.length + g.length) g = true) : Forget k J L (M ++ (g ++ h)) :=
  ⟨List.length M + List.length g, L', hk, le, bl, by rw [← List.append_assoc, ← List.length_append, List.take_left, List.length_append]; exact belM_ext hM hg, by rw [← List.append_assoc, ← List.length_append, List.take_left]; exact j⟩
theorem zip_strs {ws ps : List Str} {i : Nat} {t : Tr} (e : (zipT (ws.map Tr.str) (ps.map Tr.str))[i]? = some t) : ∃ w p, ws[i]? = some w ∧ ps[i]? = some p ∧ t = .tup [.str w, .str p] := by
  obtain ⟨a, b, h1, h2, rfl⟩ := zipT_get e
  rw [List.getElem?_map] at h1 h2
  cases e1 : ws[i]? with
  | none => rw [e1] at h1; cases h1
  | some w =>
    cases e2 : ps[i]? with
    | none => rw [e2] at h2; cases h2
    | some p =>
      rw [e1] at h1
      rw [e2] at h2
      cases h1
      cases h2
      exact ⟨w, p, rfl, rfl, rfl⟩
theorem drop_at {α : Type} {l : List α} {i : Nat} {x : α} (h : l[i]? = some x) : l.drop i = x :: l.drop (i + 1) := by
  obtain ⟨h1, h2⟩ := List.getElem?_eq_some_iff.mp h
  rw [List.drop_eq_getElem_cons h1, h2]
end Fm
namespace Fm
open PySem PySem.Spec PyProof.Rows L2
theorem tupOf_tup (ts : List Tr) : tupOf (.tup ts) = some ts := rfl
theorem eqS_ii (i j : Int) : eqS (.int i) (.int j) = some (decide (i = j)) := rfl
theorem eqS_ss (i j : Str) : eqS (.str i) (.str j) = some (decide (i = j)) := rfl
theorem eqS_bb (i j : Bool) : eqS (.bl i) (.bl j) = some (decide (i = j)) := rfl
theorem eqS_ni (i : Int) : eqS .non (.int i) = some false := rfl
theorem eqS_in (i : Int) : eqS (.int i) .non = some false := rfl
theorem eqS_nn : eqS .non .non = some true := rfl
theorem isStr_s (z : Str) : isStr (.str z) = true := rfl
theorem isN_n : isN .non = true := rfl
theorem isN_i (i : Int) : isN (.int i) = false := rfl
theorem isN_b (i : Bool) : isN (.bl i) = false := rfl
theorem isN_s (i : Str) : isN (.str i) = false := rfl
theorem isN_t (i : List Tr) : isN (.tup i) = false := rfl
theorem isN_r (i : Nat) : isN (.ref i) = false := rfl
theorem noRaw_n : noRaw .non = true := rfl
theorem noRaw_i (i : Int) : noRaw (.int i) = true := rfl
theorem noRaw_b (i : Bool) : noRaw (.bl i) = true := rfl
theorem noRaw_s (i : Str) : noRaw (.str i) = true := rfl
theorem noRaw_t (i : List Tr) : noRaw (.tup i) = true := rfl
theorem noRaw_r (i : Nat) : noRaw (.ref i) = true := rfl
end Fm

set_option Elab.async false
set_option linter.all false
set_option maxRecDepth 100000
set_option maxHeartbeats 4000000
namespace Fm
open PySem PySem.Spec PyProof.Rows L2
/-! ### objects -/
def insAt (M : Mem) : Tr → Option (Nat × Addr × List (Str × Tr))
  | .ref n => match M[n]? with
    | some (.ins C fs) => some (n, C, fs)
    | _ => none
  | _ => none
def insO : Option O → Option (Addr × List (Str × Tr))
  | some (.ins C fs) => some (C, fs)
  | _ => none
theorem insO_ins (C : Addr) (fs : List (Str × Tr)) : insO (some (.ins C fs)) = some (C, fs) := rfl
theorem insAt_ref (M : Mem) (n : Nat) : insAt M (.ref n) = (insO (M[n]?)).map fun p => (n, p.1, p.2) := by
  simp only [insAt]
  cases M[n]? with
  | none => rfl
  | some o => cases o <;> rfl
def putT (f : Str) (v : Tr) : List (Str × Tr) → List (Str × Tr)
  | [] => [(f, v)]
  | (g, x) :: r => if g = f then (g, v) :: r else (g, x) :: putT f v r
def fFld (K : PySem.W.Frag) (fe : FE) (f : Str) : FE := fun L M P => fe L M fun x M1 => ∃ n C fs v, insAt M1 x = some (n, C, fs) ∧ Cls K C ∧ NoAttr K C f ∧ fs.lookup f = some v ∧ P v M1
def fCon (K : PySem.W.Frag) (fe : FE) (f : Str) : FE := fun L M P => fe L M fun x M1 => ∃ n C fs v i u, insAt M1 x = some (n, C, fs) ∧ Cls K C ∧ Con K C f (.int i) u ∧ fs.lookup f = none ∧ v = Tr.int i ∧ P v M1
def fSetFld (K : PySem.W.Frag) (fa fv : FE) (f : Str) : FS := fun D L M => fv L M fun y M1 => fa L M1 fun x M2 => ∃ n C fs, insAt M2 x = some (n, C, fs) ∧ Cls K C ∧ NoAttr K C f ∧ fs.length < 1000 ∧ D.nx L (M2.set n (.ins C (putT f y fs)))
def fMake (C : Addr) (fsp : FSp) (PX : PXF) (fa : FA) : FE := fun L M P => fa L M fun ts M1 => fsp (.ref M1.length :: ts) (M1 ++ [.ins C []]) (fun v M2 => v = .non ∧ P (.ref M1.length) M2) PX
def fProp (C : Addr) (fsp : FSp) (PX : PXF) (fe : FE) : FE := fun L M P => fe L M fun x M1 => ∃ n fs, insAt M1 x = some (n, C, fs) ∧ fsp [x] M1 P PX
def fMeth (C : Addr) (m : Str) (fsp : FSp) (PX : PXF) (fe : FE) (fa : FA) : FE := fun L M P => fe L M fun x M1 => ∃ n fs, insAt M1 x = some (n, C, fs) ∧ fs.lookup m = none ∧ fa L M1 fun ts M2 => fsp (x :: ts) M2 P PX
def fCMeth (C : Addr) (fsp : FSp) (PX : PXF) (fe : FE) (fa : FA) : FE := fun L M P => fe L M fun x M1 => x = .raw (.ref C) ∧ fa L M1 fun ts M2 => fsp (.raw (.ref C) :: ts) M2 P PX
section
variable {K : PySem.W.Frag} {B : Bs} {H H' : Hp} {ρ : List Addr} {M : Mem}
theorem insAt_ok {x : Tr} {xv : V} {n : Nat} {C : Addr} {fs : List (Str × Tr)} (hm : RM K H ρ M) (rx : RT K H ρ x xv) (e : insAt M x = some (n, C, fs)) : ∃ a dx gs, x = .ref n ∧ ρ[n]? = some a ∧ M[n]? = some (.ins C fs) ∧ xv = .ref a ∧ H a = some (.ins C dx gs) ∧ H dx = some (.own a) ∧ RFs K H ρ fs gs := by
  cases x with
  | ref m =>
    simp only [insAt] at e
    split at e
    · rename_i C' us hu
      cases e
      obtain ⟨a, h1, dx, gs, h2, h3, h4⟩ := hm.at_ n _ hu
      obtain ⟨b, h5, h6⟩ := rx.ref_inv
      rw [h1] at h5
      cases h5
      exact ⟨a, dx, gs, rfl, h1, hu, h6, h2, h3, h4⟩
    · cases e
  | _ => cases e
theorem RFs.look : ∀ {fs : List (Str × Tr)} {gs : List (Str × V)} {f : Str} {t : Tr}, RFs K H ρ fs gs → fs.lookup f = some t → ∃ v, gs.lookup f = some v ∧ RT K H ρ t v
  | [], _, _, _, _, e => by cases e
  | p :: fs, _, f, t, h, e => by
    obtain ⟨x, hs, rfl, h1, h2⟩ := h
    rw [List.lookup_cons] at e ⊢
    cases hf : (f == p.1) with
    | true =>
      simp only [hf] at e ⊢
      cases e
      exact ⟨x, rfl, h1⟩
    | false =>
      simp only [hf] at e ⊢
      exact RFs.look h2 e
theorem RFs.lookN : ∀ {fs : List (Str × Tr)} {gs : List (Str × V)} {f : Str}, RFs K H ρ fs gs → fs.lookup f = none → gs.lookup f = none
  | [], _, _, h, _ => by
    have h : _ = ([] : List (Str × V)) := h
    subst h
    rfl
  | p :: fs, _, f, h, e => by
    obtain ⟨x, hs, rfl, h1, h2⟩ := h
    rw [List.lookup_cons] at e ⊢
    cases hf : (f == p.1) with
    | true =>
      simp only [hf] at e
      cases e
    | false =>
      simp only [hf] at e ⊢
      exact RFs.lookN h2 e
theorem RFs.put {f : Str} {t : Tr} {v : V} (r : RT K H ρ t v) : ∀ {fs : List (Str × Tr)} {gs : List (Str × V)}, RFs K H ρ fs gs → RFs K H ρ (putT f t fs) (putF f v gs)
  | [], _, h => by
    have h : _ = ([] : List (Str × V)) := h
    subst h
    exact ⟨v, [], rfl, r, rfl⟩
  | p :: fs, _, h => by
    obtain ⟨x, hs, rfl, h1, h2⟩ := h
    obtain ⟨g, u⟩ := p
    unfold putT putF
    by_cases hf : g = f
    · rw [if_pos hf, if_pos hf]
      exact ⟨v, hs, rfl, r, h2⟩
    · rw [if_neg hf, if_neg hf]
      exact ⟨x, _, rfl, h1, RFs.put r h2⟩
theorem RFs.len : ∀ {fs : List (Str × Tr)} {gs : List (Str × V)}, RFs K H ρ fs gs → gs.length = fs.length
  | [], _, h => by
    have h : _ = ([] : List (Str × V)) := h
    subst h
    rfl
  | p :: fs, _, h => by
    obtain ⟨x, hs, rfl, h1, h2⟩ := h
    simp [RFs.len h2]
variable {te ta tv : TE} {fe fa fv : FE} {as : TA} {fs : FA} {sp : Sp} {fsp : FSp} {E : XK} {PX : PXF} {C : Addr}
theorem sim_fld {f : Str} (a : SimE K B te fe) : SimE K B (tFld K te f) (fFld K fe f) := ⟨fun hl hm h o => a.run hl hm h fun x xv H1 ρ1 M1 g1 m1 rx ⟨n, C, fs, v, e, c, na, lk, p⟩ => by
  obtain ⟨b, dx, gs, rfl, h1, h2, rfl, h3, h4, h5⟩ := insAt_ok m1 rx e
  obtain ⟨w, k1, k2⟩ := h5.look lk
  exact ⟨b, C, dx, gs, w, rfl, h3, c, na, k1, o _ _ _ _ _ g1 m1 k2 p⟩⟩
theorem sim_con {f : Str} (a : SimE K B te fe) : SimE K B (tCon K te f) (fCon K fe f) := ⟨fun hl hm h o => a.run hl hm h fun x xv H1 ρ1 M1 g1 m1 rx ⟨n, C, fs, v, i, u, e, c, co, lk, ev, p⟩ => by
  subst ev
  obtain ⟨b, dx, gs, rfl, h1, h2, rfl, h3, h4, h5⟩ := insAt_ok m1 rx e
  exact ⟨b, C, dx, gs, .int i, u, rfl, h3, c, co, h5.lookN lk, o _ _ _ _ _ g1 m1 RT.int_ p⟩⟩
theorem sim_setFld {f : Str} (a : SimE K B ta fa) (b : SimE K B tv fv) : SimS K B (sFld K ta tv f) (fSetFld K fa fv f) := ⟨fun hl hm h e => b.run hl hm h fun y yv H1 ρ1 M1 g1 m1 ry h1 => a.run (hl.mono g1) m1 h1 fun x xv H2 ρ2 M2 g2 m2 rx ⟨n, C, fs, ei, c, na, z, p⟩ => by
  obtain ⟨b, dx, gs, rfl, h1, h2, rfl, h3, h4, h5⟩ := insAt_ok m2 rx ei
  have g3 := Grow.wi (hs := putF f yv gs) m2 h3 (List.mem_of_getElem? h1)
  exact ⟨b, C, dx, gs, rfl, h3, c, na, by rw [h5.len]; exact z, e.nx _ _ _ _ _ ((g1.trans g2).trans g3) (hl.mono ((g1.trans g2).trans g3)) (m2.wi h3 h4 h1 (RFs.put (ry.mono g2) h5)) p⟩⟩
theorem RM.ins {x dx : Addr} (r : RM K H ρ M) (hx : H x = none) (hd : H dx = none) (n : dx ≠ x) : Grow K H ρ (upd (upd H dx (.own x)) x (.ins C dx [])) (ρ ++ [x]) ∧ RM K (upd (upd H dx (.own x)) x (.ins C dx [])) (ρ ++ [x]) (M ++ [.ins C []]) := by
  have g1 : Grow K H ρ (upd H dx (.own x)) ρ := Grow.laid hd
  have m1 : RM K (upd H dx (.own x)) ρ M := r.laid hd
  have hx1 : upd H dx (.own x) x = none := by rw [upd_ne (Ne.symm n)]; exact hx
  have g2 := Grow.list (o := .ins C dx []) m1 hx1
  have lt := r.len
  refine ⟨g1.trans g2, by simp [lt], fun k o e => ?_, ?_⟩
  · by_cases hn : k < M.length
    · rw [List.getElem?_append_left hn] at e
      obtain ⟨a, h1, h2⟩ := m1.at_ k o e
      refine ⟨a, by rw [List.getElem?_append_left (by rw [lt]; exact hn)]; exact h1, h2.mono g2 (upd_ne fun e => m1.fresh hx1 (e ▸ List.mem_of_getElem? h1)) fun d q => by rw [upd_ne (ne_of_none q hx1)]; exact q⟩
    · rw [List.getElem?_append_right (by omega)] at e
      match hz : k - M.length, e with
      | 0, e =>
        cases e
        refine ⟨x, by rw [List.getElem?_append_right (by omega), lt, hz]; rfl, dx, [], upd_same, ?_, rfl⟩
        rw [upd_ne n, upd_same]
      | j + 1, e => simp at e
  · rw [List.nodup_append]
    exact ⟨r.nd, by simp, fun a ha b hb => by rw [List.mem_singleton.mp hb]; exact fun e => r.fresh hx (e ▸ ha)⟩
theorem sim_makeX (hE : OutX K B.1 B.2 PX E) (s : SimSp K sp fsp) (a : SimA K B as fs) : SimE K B (tMake C sp [] E as) (fMake C fsp PX fs) :=
  ⟨fun hl hm h o => a.run hl hm h fun ts xs H1 ρ1 M1 g1 m1 rx h1 => fun x dx hx hd n => by
    obtain ⟨g2, m2⟩ := m1.ins (C := C) hx hd n
    have rself : RT K (upd (upd H1 dx (.own x)) x (.ins C dx [])) (ρ1 ++ [x]) (.ref M1.length) (.ref x) := by unfold RT; exact ⟨x, m1.ref, rfl⟩
    refine s.run (P := fun v M2 => v = .non ∧ _) (RTs.cons rself (by rw [List.append_nil]; exact rx.mono g2)) m2 h1 (fun v xv H3 ρ3 M3 g3 m3 rv ⟨ev, p⟩ => ?_) (hE.step ((hl.gr.trans g1).trans g2))
    subst ev
    exact ⟨rv.non_inv, o _ _ _ _ _ ((g1.trans g2).trans g3) m3 (rself.mono g3) p⟩⟩
theorem sim_make (s : SimSp K sp fsp) (a : SimA K B as fs) : SimE K B (tMake C sp [] E as) (fMake C fsp noX fs) := sim_makeX outX_no s a
theorem sim_prop (s : SimSp K sp fsp) (a : SimE K B te fe) : SimE K B (tProp C sp [] E te) (fProp C fsp noX fe) := ⟨fun hl hm h o => a.run hl hm h fun x xv H1 ρ1 M1 g1 m1 rx ⟨n, fs, e, p⟩ => by
  obtain ⟨b, dx, gs, rfl, h1, h2, rfl, h3, h4, h5⟩ := insAt_ok m1 rx e
  exact ⟨b, dx, gs, rfl, h3, s.run (RTs.cons rx RTs.nil) m1 p (o.step g1) outX_no⟩⟩
theorem sim_methX {m : Str} (hE : OutX K B.1 B.2 PX E) (s : SimSp K sp fsp) (a : SimE K B te fe) (b : SimA K B as fs) : SimE K B (tMeth C m sp [] E te as) (fMeth C m fsp PX fe fs) := ⟨fun hl hm h o => a.run hl hm h fun x xv H1 ρ1 M1 g1 m1 rx ⟨n, fs, e, lk, p⟩ => by
  obtain ⟨b', dx, gs, rfl, h1, h2, rfl, h3, h4, h5⟩ := insAt_ok m1 rx e
  exact ⟨b', dx, gs, rfl, h3, h5.lookN lk, b.run (hl.mono g1) m1 p fun ts xs H2 ρ2 M2 g2 m2 rts p2 => s.run (RTs.cons (rx.mono g2) (by rw [List.append_nil]; exact rts)) m2 p2 (o.step (g1.trans g2)) (hE.step ((hl.gr.trans g1).trans g2))⟩⟩
theorem sim_meth {m : Str} (s : SimSp K sp fsp) (a : SimE K B te fe) (b : SimA K B as fs) : SimE K B (tMeth C m sp [] E te as) (fMeth C m fsp noX fe fs) := sim_methX outX_no s a b
theorem sim_cmethX (hE : OutX K B.1 B.2 PX E) (s : SimSp K sp fsp) (a : SimE K B te fe) (b : SimA K B as fs) : SimE K B (ClX.tCMeth C sp E te as) (fCMeth C fsp PX fe fs) := ⟨fun hl hm h o => a.run hl hm h fun x xv H1 ρ1 M1 g1 m1 rx ⟨e, p⟩ => by
  subst e
  exact ⟨rx.raw_inv, b.run (hl.mono g1) m1 p fun ts xs H2 ρ2 M2 g2 m2 rts p2 => s.run (RTs.cons (by unfold RT; rfl) rts) m2 p2 (o.step (g1.trans g2)) (hE.step ((hl.gr.trans g1).trans g2))⟩⟩
theorem sim_cmeth (s : SimSp K sp fsp) (a : SimE K B te fe) (b : SimA K B as fs) : SimE K B (ClX.tCMeth C sp E te as) (fCMeth C fsp noX fe fs) := sim_cmethX outX_no s a b
end
/-! ### isinstance -/
def tyN (M : Mem) : Tr → Option String
  | .non => some "NoneType"
  | .bl _ => some "bool"
  | .int _ => some "int"
  | .str _ => some "str"
  | .tup _ => some "tuple"
  | t => match lstAt M t with
    | some _ => some "list"
    | none => none
def fIsi : FC := fun xs M P => ∃ x b a r, xs = [x, .raw (.ty b)] ∧ tyN M x = some a ∧ kitB a b = some r ∧ P (.bl r) M
def fIsiT (b c : String) (fe : FE) : FE := fun L M P => fe L M fun x M1 => ∃ a r s, tyN M1 x = some a ∧ kitB a b = some r ∧ kitB a c = some s ∧ P (.bl (r || s)) M1
section
variable {K : PySem.W.Frag} {B : Bs} {H : Hp} {ρ : List Addr} {M : Mem} {te : TE} {fe : FE}
theorem sq_ty {a : Addr} {xs : List V} (h : SqT K H a xs) : TyX K H (.ref a) (.type "tuple") := by
  rcases h with (h | ⟨o, h⟩) | ⟨o, its, n, h, c, _⟩
  · exact .base (.tup h)
  · exact .fTuple h
  · exact .kTuple h c
theorem ty_ok {x : Tr} {xv : V} {a : String} (hm : RM K H ρ M) (rx : RT K H ρ x xv) (e : tyN M x = some a) : TyX K H xv (.type a) := by
  cases x with
  | non => cases e; rw [rx.non_inv]; exact .base .non
  | bl b => cases e; rw [rx.bl_inv]; exact .base (.bl b)
  | int b => cases e; rw [rx.int_inv]; exact .base (.int b)
  | str b => cases e; rw [rx.str_inv]; exact .base (.str b)
  | tup ts =>
    cases e
    obtain ⟨p, xs, rfl, h2, _⟩ := rx.tup_inv
    exact sq_ty h2
  | ref n =>
    simp only [tyN] at e
    split at e
    · rename_i ts hts
      cases e
      obtain ⟨n, p, xs, _, _, _, rfl, h3, _⟩ := lstAt_ok hm rx hts
      exact .base (.lst h3)
    · cases e
  | raw v => simp [tyN, lstAt] at e
theorem kitA2 {a b c : String} {r s : Bool} (h1 : kitB a b = some r) (h2 : kitB a c = some s) : PySem.W.kitAny K (.type a) [.type b, .type c] = some (r || s) := by
  refine kitAny_cons (kit_ty h1) (fun e => ?_) fun e => by rw [e] <;> rfl
  subst e
  refine kitAny_cons (kit_ty h2) (fun e => ?_) fun e => by rw [e] <;> rfl
  subst e
  exact kitAny_nil
theorem c_isi : SimC K (rIsi K) fIsi := ⟨fun hm rx ⟨x, b, a, r, e, ty, k, p⟩ o => by
  subst e
  obtain ⟨xv, cv, rfl, r1, r2⟩ := rx.two
  rw [r2.raw_inv]
  exact ⟨xv, .ty b, .type a, .type b, r, rfl, .ty b, ty_ok hm r1 ty, kit_ty k, o _ _ _ _ _ Grow.refl hm RT.bl_ p⟩⟩
theorem sim_isiT {b c : String} (s : SimE K B te fe) : SimE K B (tCB (rIsiT K) (tCons te (tCons (tTup (tCons (tC (.ty b)) (tCons (tC (.ty c)) tNil))) tNil))) (fIsiT b c fe) := ⟨fun hl hm h o => s.run hl hm h fun x xv H1 ρ1 M1 g1 m1 rx ⟨a, r, s, ty, k1, k2, p⟩ => by
  refine ⟨by show 2 ≤ sizeLine; rw [sizeLine_eq]; decide, fun q hq => ?_⟩
  have g2 := Grow.laid (K := K) (ρ := ρ1) (o := .tup [.ty b, .ty c]) hq
  exact ⟨xv, q, [.ty b, .ty c], .type a, [.type b, .type c], r || s, rfl, upd_same, .cons (.ty b) (.cons (.ty c) .nil), ty_ok (m1.laid hq) (rx.mono g2) ty, kitA2 k1 k2, o _ _ _ _ _ (g1.trans g2) (m1.laid hq) RT.bl_ p⟩⟩
end
/-! ### == of data -/
mutual
inductive Da (M : Mem) : Tr → PyData → Prop
  | non : Da M .non .none
  | bl (b : Bool) : Da M (.bl b) (.bool b)
  | int (i : Int) : Da M (.int i) (.int i)
  | str (x : Str) : Da M (.str x) (.str x)
  | lst {t : Tr} {ts : List Tr} {ds : List PyData} : lstAt M t = some ts → DaAll M ts ds → Da M t (.list ds)
  | tup {ts : List Tr} {ds : List PyData} : DaAll M ts ds → Da M (.tup ts) (.tuple ds)
inductive DaAll (M : Mem) : List Tr → List PyData → Prop
  | nil : DaAll M [] []
  | cons {v : Tr} {vs : List Tr} {d : PyData} {ds : List PyData} : Da M v d → DaAll M vs ds → DaAll M (v :: vs) (d :: ds)
end
section
variable {K : PySem.W.Frag} {B : Bs} {H : Hp} {ρ : List Addr} {M : Mem}
mutual
theorem Da.dp (hm : RM K H ρ M) : ∀ {t : Tr} {d : PyData} {v : V}, Da M t d → RT K H ρ t v → Dp K H v d
  | _, _, _, .non, r => by rw [r.non_inv]; exact .non
  | _, _, _, .bl b, r => by rw [r.bl_inv]; exact .bl b
  | _, _, _, .int i, r => by rw [r.int_inv]; exact .int i
  | _, _, _, .str x, r => by rw [r.str_inv]; exact .str x
  | _, _, _, .lst e a, r => by
    obtain ⟨n, p, xs, _, _, _, rfl, h3, h4⟩ := lstAt_ok hm r e
    exact .lst (.inl (.inl h3)) (DaAll.dp hm a h4)
  | _, _, _, .tup a, r => by
    obtain ⟨p, xs, rfl, h2, h3⟩ := r.tup_inv
    exact .tup h2 (DaAll.dp hm a h3)
theorem DaAll.dp (hm : RM K H ρ M) : ∀ {ts : List Tr} {ds : List PyData} {vs : List V}, DaAll M ts ds → RTs K H ρ ts vs → DpAll K H vs ds
  | _, _, _, .nil, r => by unfold RTs at r; rw [r]; exact .nil
  | _, _, _, .cons a b, r => by
    unfold RTs at r
    obtain ⟨x, ys, rfl, h1, h2⟩ := r
    exact .cons (Da.dp hm a h1) (DaAll.dp hm b h2)
end
def fEqD : F2 := fun x y M P => ∃ d e, Da M x d ∧ Da M y e ∧ SeqAt.shaped d = true ∧ SeqAt.shaped e = true ∧ P (.bl (PyData.eqv d e)) M
def fNeD : F2 := fun x y M P => ∃ d e, Da M x d ∧ Da M y e ∧ SeqAt.shaped d = true ∧ SeqAt.shaped e = true ∧ P (.bl (!PyData.eqv d e)) M
theorem s_eqD : Sim2 K (rEqD K) fEqD := ⟨fun hm rx ry ⟨d, e, h1, h2, s1, s2, p⟩ o => ⟨d, e, h1.dp hm rx, h2.dp hm ry, s1, s2, o _ _ _ _ _ Grow.refl hm RT.bl_ p⟩⟩
theorem s_neD : Sim2 K (rNeD K) fNeD := ⟨fun hm rx ry ⟨d, e, h1, h2, s1, s2, p⟩ o => ⟨d, e, h1.dp hm rx, h2.dp hm ry, s1, s2, o _ _ _ _ _ Grow.refl hm RT.bl_ p⟩⟩
end
end Fm

set_option Elab.async false
set_option linter.all false
set_option maxRecDepth 100000
set_option maxHeartbeats 4000000
namespace Fm
open PySem PySem.Spec PyProof.Rows L2
/-! ### comprehensions whose elements leave nothing behind -/
section
variable {L : Loc} {M : Mem} {P : PF} {fg : FG} {ft : FT} {fe : FE} {vs : List Nat}
/-- one turn: what the element is (none: passed by) -/
def LcStep (F : Tr → Option Tr) (fg : FG) (ft : FT) (fe : FE) (vs : List Nat) (L : Loc) (M : Mem) (t : Tr) : Prop :=
  ∀ (R : Tr → Mem → Prop) (N : Mem → Prop), (∀ y, F t = some y → R y M ∧ ∀ g, R y (M ++ g)) → (F t = none → N M ∧ ∀ g, N (M ++ g)) →
    fg t (wipeF L vs) M fun L3 M3 => ft L3 M3 fun b M4 => if b = true then fe L3 M4 fun y M5 => R y M5 else N M4
theorem bels_all {n : Nat} : ∀ {ts : List Tr}, (∀ t ∈ ts, Tr.bel n t = true) → Tr.bels n ts = true
  | [], _ => rfl
  | t :: ts, h => by
    unfold Tr.bels
    rw [Bool.and_eq_true]
    exact ⟨h t List.mem_cons_self, bels_all fun u hu => h u (List.mem_cons_of_mem _ hu)⟩
theorem lc_core {it : FIt} (F : Tr → Option Tr) (hok : it.ok M) (hM : belM M.length M = true) (hn : it.items.length ≤ sizeLine) (hF : ∀ t ∈ it.items, ∀ y, F t = some y → Tr.bel M.length y = true)
    (step : ∀ t ∈ it.items, LcStep F fg ft fe vs L M t) (fin : P (.ref M.length) (M ++ [.lst (it.items.filterMap F)])) :
    ∃ I : Nat → List Tr → Mem → Prop, I 0 [] M ∧ (∀ i acc M2, i ≤ it.items.length → I i acc M2 → it.ok M2) ∧
  (∀ (i : Nat) (t : Tr) acc M2, it.items[i]? = some t → I i acc M2 → fg t (wipeF L vs) M2 fun L3 M3 => ft L3 M3 fun b M4 => if b = true then fe L3 M4 fun y M5 => acc.length < sizeLine ∧ ForgetA M.length (I (i + 1)) (acc ++ [y]) M5 else ForgetA M.length (I (i + 1)) acc M4) ∧
  (∀ acc M2, I it.items.length acc M2 → P (.ref M2.length) (M2 ++ [.lst acc])) := by
  have hb : ∀ i, Tr.bels M.length ((it.items.take i).filterMap F) = true := fun i => bels_all fun u hu => by
    obtain ⟨t, ht, e⟩ := List.mem_filterMap.mp hu
    exact hF t (List.mem_of_mem_take ht) u e
  refine ⟨fun i acc M2 => M2 = M ∧ acc = (it.items.take i).filterMap F, ⟨rfl, rfl⟩, fun i acc M2 _ ⟨e, _⟩ => e ▸ hok, ?_, ?_⟩
  · rintro i t acc M2 ht ⟨rfl, rfl⟩
    have hi := (List.getElem?_eq_some_iff.mp ht).1
    have snoc : (it.items.take (i + 1)).filterMap F = (it.items.take i).filterMap F ++ (F t).toList := by
      rw [List.take_succ, ht, List.filterMap_append]
      congr 1
    have hl : ((it.items.take i).filterMap F).length < sizeLine := by
      have h1 := List.length_filterMap_le F (it.items.take i)
      rw [List.length_take] at h1
      omega
    have hb1 := hb (i + 1)
    refine step t (List.mem_of_getElem? ht) _ _ (fun y hy => ?_) fun hy => ?_
    · have key : ∀ g, ForgetA M2.length (fun acc M3 => M3 = M2 ∧ acc = (it.items.take (i + 1)).filterMap F) ((it.items.take i).filterMap F ++ [y]) (M2 ++ g) := fun g =>
        ⟨M2.length, Nat.le_refl _, by rw [snoc, hy] at hb1; exact hb1, by rw [List.take_left]; exact hM, by rw [List.take_left], by rw [snoc, hy]; rfl⟩
      exact ⟨⟨hl, by have := key []; rwa [List.append_nil] at this⟩, fun g => ⟨hl, key g⟩⟩
    · have key : ∀ g, ForgetA M2.length (fun acc M3 => M3 = M2 ∧ acc = (it.items.take (i + 1)).filterMap F) ((it.items.take i).filterMap F) (M2 ++ g) := fun g =>
        ⟨M2.length, Nat.le_refl _, hb i, by rw [List.take_left]; exact hM, by rw [List.take_left], by rw [snoc, hy]; simp⟩
      exact ⟨by have := key []; rwa [List.append_nil] at this, key⟩
  · rintro acc M2 ⟨rfl, rfl⟩
    rw [List.take_length]
    exact fin
theorem lc_T {i : Nat} {ts : List Tr} (F : Tr → Option Tr) (hv : L[i]? = some (some (.tup ts))) (hM : belM M.length M = true) (hn : ts.length ≤ sizeLine) (hF : ∀ t ∈ ts, ∀ y, F t = some y → Tr.bel M.length y = true)
    (step : ∀ t ∈ ts, LcStep F fg ft fe vs L M t) (fin : P (.ref M.length) (M ++ [.lst (ts.filterMap F)])) : fLc (fIT (fVar i)) fg ft fe vs L M P :=
  ⟨.tup ts, hv, ts, rfl, lc_core F trivial hM hn hF step fin⟩
theorem lc_S {i : Nat} {z : Str} (F : Tr → Option Tr) (hv : L[i]? = some (some (.str z))) (hM : belM M.length M = true) (hn : z.length ≤ sizeLine) (hF : ∀ t ∈ chrsT z, ∀ y, F t = some y → Tr.bel M.length y = true)
    (step : ∀ t ∈ chrsT z, LcStep F fg ft fe vs L M t) (fin : P (.ref M.length) (M ++ [.lst ((chrsT z).filterMap F)])) : fLc (fIS (fVar i)) fg ft fe vs L M P :=
  ⟨.str z, hv, z, rfl, lc_core (it := ⟨chrsT z, fun _ => True⟩) F trivial hM (by show (chrsT z).length ≤ _; unfold chrsT; rw [List.length_map]; exact hn) hF step fin⟩
theorem lc_L {i : Nat} {x : Tr} {ts : List Tr} (F : Tr → Option Tr) (hv : L[i]? = some (some x)) (hx : lstAt M x = some ts) (hM : belM M.length M = true) (hn : ts.length ≤ sizeLine) (hF : ∀ t ∈ ts, ∀ y, F t = some y → Tr.bel M.length y = true)
    (step : ∀ t ∈ ts, LcStep F fg ft fe vs L M t) (fin : P (.ref M.length) (M ++ [.lst (ts.filterMap F)])) : fLc (fIL (fVar i)) fg ft fe vs L M P :=
  ⟨x, hv, ts, hx, lc_core (it := ⟨ts, fun M => lstAt M x = some ts⟩) F hx hM hn hF step fin⟩
end
end Fm

set_option Elab.async false
set_option linter.all false
set_option maxRecDepth 100000
set_option maxHeartbeats 4000000
namespace Fm
open PySem PySem.Spec PyProof.Rows L2
/-! ### a cut that forgets; xs[::-1] -/
def fCutF (f g : FS) : FS := fun D L M => ∃ J : Loc → Mem → Prop, f { D with nx := Forget M.length J } L M ∧ ∀ L' M', J L' M' → g D L' M'
def fRevL (fe : FE) : FE := fun L M P => fe L M fun x M1 => ∃ ts, lstAt M1 x = some ts ∧ P (.ref M1.length) (M1 ++ [.lst ts.reverse])
section
variable {K : PySem.W.Frag} {B : Bs} {H : Hp} {ρ : List Addr} {t u : TS} {f f' : FS} {te : TE} {fe : FE}
theorem sim_cutF (a : SimS K B t f) (b : SimS K B u f') : SimS K B (C8.tCut t u) (fCutF f f') :=
  ⟨fun {σ H ρ L M D' D} hl hm ⟨J, p, q⟩ e => ⟨u D, a.run hl hm p ⟨fun L1 σ1 H1 ρ1 M1 g1 l1 m1 p1 => by
    have hB := base_len hl hm
    obtain ⟨ρ6, L6, M6, l6, m6, j6, up⟩ := forget_at l1 m1 p1 hB
    have g6 : Grow K H ρ H1 ρ6 := up (Nat.le_of_eq hm.len) g1
    exact b.run l6 m6 (q _ _ j6) (e.step g6), e.rt, e.bk, e.ct⟩, fun _ _ h => h⟩⟩
theorem RTs.rev : ∀ {ts : List Tr} {xs : List V}, RTs K H ρ ts xs → RTs K H ρ ts.reverse xs.reverse
  | [], _, h => by
    unfold RTs at h
    subst h
    exact RTs.nil
  | t :: ts, _, h => by
    unfold RTs at h
    obtain ⟨x, ys, rfl, h1, h2⟩ := h
    rw [List.reverse_cons, List.reverse_cons]
    exact (RTs.rev h2).app (RTs.cons h1 RTs.nil)
theorem sim_revL (a : SimE K B te fe) : SimE K B (tRevL K te) (fRevL fe) := ⟨fun hl hm h o => a.run hl hm h fun x xv H1 ρ1 M1 g1 m1 rx ⟨ts, e, p⟩ => by
  obtain ⟨n, b, us, _, _, _, h1, h2, h3⟩ := lstAt_ok m1 rx e
  exact ⟨b, us, h1, .inl (.inl h2), out_list m1 h3.rev (o.step g1) p⟩⟩
end
end Fm

set_option Elab.async false
set_option linter.all false
set_option maxRecDepth 100000
set_option maxHeartbeats 4000000
namespace T1
open PySem PySem.Spec PyProof.Rows L2 C8

def top (i : Nat) : Stmt := PySem.Challenge.pw_wornbridges_k02_whole_texts_of_towns.main.body.getD i (.Pass ⟨0, 0, 0, 0⟩)
abbrev sMix : Stmt := top 24
abbrev sNext : Stmt := top 25
abbrev sAlike : Stmt := top 26
abbrev sError : Stmt := top 27
abbrev sLife : Stmt := top 28
abbrev sLinks : Stmt := top 29





/-- the built-in names that the module does not bind -/
structure BT (mg : Str → Option Value) : Prop where
  len : mg "len" = none
  int : mg "int" = none
  max : mg "max" = none
  range : mg "range" = none
  list : mg "list" = none
  tuple : mg "tuple" = none
  isinstance : mg "isinstance" = none
  enumerate : mg "enumerate" = none
  dict : mg "dict" = none
  str : mg "str" = none
  bool : mg "bool" = none

/-! ### the law's drawing state: h = [m, s, k], s the cells -/
structure LSt (H : Hp) (h s : Addr) : Prop where
  ex : ∃ (m k : Int) (xs : List Int), H h = some (.lst [.int m, .ref s, .int k]) ∧ H s = some (.lst (xs.map V.int)) ∧ 0 ≤ m ∧ m < 2147483647 ∧ 0 ≤ k ∧ xs.length ≤ 63
/-- all but the state stays -/
def But (h s : Addr) (H H' : Hp) : Prop := ∀ b o, b ≠ h → b ≠ s → H b = some o → H' b = some o
theorem But.refl (h s : Addr) (H : Hp) : But h s H H := fun _ _ _ _ e => e
theorem But.trans {h s : Addr} {H H1 H2 : Hp} (a : But h s H H1) (b : But h s H1 H2) : But h s H H2 := fun c o n1 n2 e => b c o n1 n2 (a c o n1 n2 e)
theorem But.of {h s : Addr} {H H' : Hp} (a : Same H H') : But h s H H' := fun c o _ _ e => a c o e
theorem Same.upd' {H : Hp} {p : Addr} {o : HO} (hp : H p = none) : Same H (upd H p o) := fun b u e => by rw [upd_ne (ne_of_none e hp)]; exact e
theorem LSt.ne {H : Hp} {h s : Addr} (x : LSt H h s) : h ≠ s := by
  obtain ⟨m, k, xs, h1, h2, _⟩ := x.ex
  refine ne_of h1 h2 fun z => ?_
  injection z with z
  match xs, z with
  | a :: b :: r, z => simp at z
theorem LSt.same {H H' : Hp} {h s : Addr} (x : LSt H h s) (e : Same H H') : LSt H' h s := by
  obtain ⟨m, k, xs, h1, h2, r⟩ := x.ex
  exact ⟨m, k, xs, e _ _ h1, e _ _ h2, r⟩
theorem LSt.notT {H : Hp} {h s a : Addr} {xs : List V} (x : LSt H h s) (r : Rd H a (.tup xs)) : a ≠ h ∧ a ≠ s := by
  obtain ⟨m, k, ys, h1, h2, _⟩ := x.ex
  rcases r with r | ⟨o, r⟩
  · exact ⟨ne_of r h1 (fun z => nomatch z), ne_of r h2 (fun z => nomatch z)⟩
  · exact ⟨ne_of r h1 (fun z => nomatch z), ne_of r h2 (fun z => nomatch z)⟩
theorem But.tup {K : PySem.W.Frag} {H H' : Hp} {h s a : Addr} {xs : List V} (e : But h s H H') (x : LSt H h s) (t : SqT K H a xs) : SqT K H' a xs := by
  rcases t with t | t
  · obtain ⟨n1, n2⟩ := x.notT t
    rcases t with t | ⟨o, t⟩
    · exact .inl (.inl (e _ _ n1 n2 t))
    · exact .inl (.inr ⟨o, e _ _ n1 n2 t⟩)
  · exact .inr t
theorem Same.tup {K : PySem.W.Frag} {H H' : Hp} {a : Addr} {xs : List V} (e : Same H H') (t : SqT K H a xs) : SqT K H' a xs := by
  rcases t with (t | ⟨o, t⟩) | t
  · exact .inl (.inl (e _ _ t))
  · exact .inl (.inr ⟨o, e _ _ t⟩)
  · exact .inr t


theorem up_new {X : Hp} {a p : Addr} {u o : HO} (h : X a = some u) (hp : X p = none) : upd X p o a = some u := by rw [upd_ne (ne_of_none h hp)]; exact h
theorem up_set {X : Hp} {a p : Addr} {u o : HO} (n : a ≠ p) (h : X a = some u) : upd X p o a = some u := by rw [upd_ne n]; exact h
theorem SqL.of' {K : PySem.W.Frag} {H : Hp} {a : Addr} {xs : List V} (h : H a = some (.lst xs)) : SqL K H a xs := .inl (.inl h)
theorem SqT.of' {K : PySem.W.Frag} {H : Hp} {a : Addr} {xs : List V} (h : H a = some (.tup xs)) : SqT K H a xs := .inl (.inl h)
theorem SqT.new {K : PySem.W.Frag} {H : Hp} {a p : Addr} {o : HO} {xs : List V} (h : SqT K H a xs) (hp : H p = none) : SqT K (upd H p o) a xs := Same.tup (Same.upd' hp) h
theorem SqT.put {K : PySem.W.Frag} {H : Hp} {a p : Addr} {o : HO} {xs ys : List V} (h : SqT K H a xs) (hp : H p = some (.lst ys)) : SqT K (upd H p o) a xs := by
  rcases h with (t | ⟨q, t⟩) | t
  · exact .inl (.inl (up_set (ne_of t hp (fun z => nomatch z)) t))
  · exact .inl (.inr ⟨q, up_set (ne_of t hp (fun z => nomatch z)) t⟩)
  · exact .inr t
theorem ne_of_none' {H : Hp} {a b : Addr} {o : HO} (h' : H b = none) (h : H a = some o) : a ≠ b := ne_of_none h h'
theorem up_new' {X : Hp} {a p : Addr} {u o : HO} (hp : X p = none) (h : X a = some u) : upd X p o a = some u := up_new h hp
theorem SqT.new' {K : PySem.W.Frag} {H : Hp} {a p : Addr} {o : HO} {xs : List V} (hp : H p = none) (h : SqT K H a xs) : SqT K (upd H p o) a xs := SqT.new h hp
theorem SqT.put' {K : PySem.W.Frag} {H : Hp} {a p : Addr} {xs ys zs : List V} (hp : H p = some (.lst ys)) (h : SqT K H a xs) : SqT K (upd H p (.lst zs)) a xs := SqT.put h hp
theorem SqL.new' {K : PySem.W.Frag} {H : Hp} {a p : Addr} {o : HO} {xs : List V} (hp : H p = none) (h : SqL K H a xs) : SqL K (upd H p o) a xs := (Same.upd' hp).seq h
theorem Same.at' {H H' : Hp} {a : Addr} {o : HO} (e : Same H H') (h : H a = some o) : H' a = some o := e _ _ h
theorem Same.sql' {K : PySem.W.Frag} {H H' : Hp} {a : Addr} {xs : List V} (e : Same H H') (t : SqL K H a xs) : SqL K H' a xs := e.seq t
theorem But.at' {H H' : Hp} {h s a : Addr} {o : HO} (e : But h s H H') (n1 : a ≠ h) (n2 : a ≠ s) (i : H a = some o) : H' a = some o := e _ _ n1 n2 i
theorem LSt.f1 {H : Hp} {h s p : Addr} (hp : H p = none) (x : LSt H h s) : p ≠ h := by
  obtain ⟨m, k, xs, h1, h2, r⟩ := x.ex
  exact Ne.symm (ne_of_none h1 hp)
theorem LSt.f2 {H : Hp} {h s p : Addr} (hp : H p = none) (x : LSt H h s) : p ≠ s := by
  obtain ⟨m, k, xs, h1, h2, r⟩ := x.ex
  exact Ne.symm (ne_of_none h2 hp)
theorem LSt.same' {H H' : Hp} {h s : Addr} (e : Same H H') (x : LSt H h s) : LSt H' h s := x.same e
theorem But.sm {h s : Addr} {H H' H2 : Hp} (e : Same H' H2) (x : But h s H H') : But h s H H2 := x.trans (But.of e)
theorem But.bu {h s : Addr} {H H' H2 : Hp} (e : But h s H' H2) (x : But h s H H') : But h s H H2 := x.trans e
theorem But.nw {h s : Addr} {H H' : Hp} {p : Addr} {o : HO} (hp : H' p = none) (x : But h s H H') : But h s H (upd H' p o) := x.trans (But.of (Same.upd' hp))
theorem Same.put' {H X : Hp} {p : Addr} {o : HO} (hp : H p = none) (e : Same H X) : Same H (upd X p o) := fun b u h => by rw [upd_ne (ne_of_none h hp)]; exact e b u h
theorem itD {c A B : Prop} [Decidable c] (h : c) (a : A) : if decide c = true then A else B := by rw [if_pos (decide_eq_true h)]; exact a
theorem itN {c A B : Prop} [Decidable c] (h : ¬ c) (a : B) : if decide c = true then A else B := by rw [if_neg (fun z => h (of_decide_eq_true z))]; exact a
theorem itnD {c A B : Prop} [Decidable c] (h : c) (a : B) : if (!decide c) = true then A else B := by rw [decide_eq_true h]; exact iteF a
theorem itnN {c A B : Prop} [Decidable c] (h : ¬ c) (a : A) : if (!decide c) = true then A else B := by rw [decide_eq_false h]; exact iteT a
theorem vint_inj {x y : Int} : V.int x = V.int y ↔ x = y := ⟨fun h => by injection h, fun h => by rw [h]⟩
theorem itE {x y : Int} {A B : Prop} (h : x = y) (a : A) : if decide (V.int x = V.int y) = true then A else B := itD (vint_inj.mpr h) a
theorem itEn {x y : Int} {A B : Prop} (h : x ≠ y) (a : B) : if decide (V.int x = V.int y) = true then A else B := itN (fun z => h (vint_inj.mp z)) a
theorem itnE {x y : Int} {A B : Prop} (h : x = y) (a : B) : if (!decide (V.int x = V.int y)) = true then A else B := itnD (vint_inj.mpr h) a
theorem itnEn {x y : Int} {A B : Prop} (h : x ≠ y) (a : A) : if (!decide (V.int x = V.int y)) = true then A else B := itnN (fun z => h (vint_inj.mp z)) a
theorem itS {x y : Int} {A B : Prop} (h1 : x ≤ y → A) (h2 : y < x → B) : if decide (x ≤ y) = true then A else B := by
  by_cases h : x ≤ y
  · exact itD h (h1 h)
  · exact itN h (h2 (Int.lt_of_not_ge h))
theorem itS' {x y : Int} {A B : Prop} (h1 : x < y → A) (h2 : y ≤ x → B) : if decide (x < y) = true then A else B := by
  by_cases h : x < y
  · exact itD h (h1 h)
  · exact itN h (h2 (Int.not_lt.mp h))
theorem itnS {x y : Int} {A B : Prop} (h1 : y < x → A) (h2 : x ≤ y → B) : if (!decide (x ≤ y)) = true then A else B := by
  by_cases h : x ≤ y
  · exact itnD h (h2 h)
  · exact itnN h (h1 (Int.lt_of_not_ge h))
theorem itnS' {x y : Int} {A B : Prop} (h1 : y ≤ x → A) (h2 : x < y → B) : if (!decide (x < y)) = true then A else B := by
  by_cases h : x < y
  · exact itnD h (h2 h)
  · exact itnN h (h1 (Int.not_lt.mp h))
theorem itSE {x y : Int} {A B : Prop} (h1 : x = y → A) (h2 : x ≠ y → B) : if decide (V.int x = V.int y) = true then A else B := by
  by_cases h : x = y
  · exact itE h (h1 h)
  · exact itEn h (h2 h)
theorem itnSE {x y : Int} {A B : Prop} (h1 : x ≠ y → A) (h2 : x = y → B) : if (!decide (V.int x = V.int y)) = true then A else B := by
  by_cases h : x = y
  · exact itnE h (h2 h)
  · exact itnEn h (h1 h)
theorem itNotF {A B : Prop} (a : A) : if (!false) = true then A else B := a
theorem itNotT {A B : Prop} (a : B) : if (!true) = true then A else B := a
theorem bl_as {b b' : Bool} {H : Hp} {Q : VK} (q : Q (.bl b') H) (e : b' = b) : Q (.bl b) H := by subst e; exact q
local macro_rules | `(tactic| walk_at "hf") => `(tactic| (fail_if_success (show (fun _ => none : Hp) _ = _)); first | assumption | with_reducible exact upd_same | ((with_reducible show upd _ _ _ _ = _); first | exact up_new' (by assumption) (by walk_at "hf") | exact up_set (by walk_at "ne") (by walk_at "hf")) | exact Same.at' (by assumption) (by walk_at "hf") | exact But.at' (by assumption) (by walk_at "ne") (by walk_at "ne") (by walk_at "hf"))
local macro_rules | `(tactic| walk_at "hf0") => `(tactic| (fail_if_success (show (fun _ => none : Hp) _ = _)); first | assumption | with_reducible exact upd_same | ((with_reducible show upd _ _ _ _ = _); exact up_new' (by assumption) (by walk_at "hf0")))
local macro_rules | `(tactic| walk_at "ne") => `(tactic| first | assumption | (apply Ne.symm; assumption) | exact ne_of_none' (by assumption) (by walk_at "hf0") | exact Ne.symm (ne_of_none' (by assumption) (by walk_at "hf0")) | exact LSt.f1 (by assumption) (by walk_at "lst") | exact LSt.f2 (by assumption) (by walk_at "lst"))
local macro_rules | `(tactic| walk_at "sqt") => `(tactic| (fail_if_success (show SqT _ (fun _ => none) _ _)); first | assumption | exact SqT.of' (by walk_at "hf") | ((with_reducible show SqT _ (upd _ _ _) _ _); first | exact SqT.new' (by assumption) (by walk_at "sqt") | exact SqT.put' (by walk_at "hf") (by walk_at "sqt")) | exact Same.tup (by assumption) (by walk_at "sqt") | exact But.tup (by assumption) (by walk_at "lst") (by walk_at "sqt"))
local macro_rules | `(tactic| walk_at "sql") => `(tactic| (fail_if_success (show SqL _ (fun _ => none) _ _)); first | assumption | exact SqL.of' (by walk_at "hf") | ((with_reducible show SqL _ (upd _ _ _) _ _); exact SqL.new' (by assumption) (by walk_at "sql")) | exact Same.sql' (by assumption) (by walk_at "sql"))
local macro_rules | `(tactic| walk_at "but") => `(tactic| first | assumption | exact But.refl _ _ _ | ((with_reducible show But _ _ _ (upd _ _ _)); exact But.nw (by assumption) (by walk_at "but")) | exact But.bu (by assumption) (by walk_at "but") | exact But.sm (by assumption) (by walk_at "but"))
local macro_rules | `(tactic| walk_at "sm") => `(tactic| first | assumption | exact Same.refl _ | ((with_reducible show Same _ (upd _ _ _)); first | exact Same.put' (by assumption) (by walk_at "sm") | exact Same.trans (by walk_at "sm") (Same.upd' (by assumption))) | exact Same.trans (by walk_at "sm") (by assumption))
/-- one step of a reading -/
local macro_rules | `(tactic| walk_at "rd") => `(tactic| first
  | with_reducible refine iteF ?_
  | with_reducible refine iteT ?_
  | with_reducible refine itNotF ?_
  | with_reducible refine itNotT ?_
  | refine ⟨_, rfl, ?_⟩
  | refine ⟨_, _, rfl, rfl, ?_⟩
  | refine ⟨_, _, rfl, ?_⟩
  | refine ⟨(_ : Addr), (_ : List V), (_ : Int), (_ : V), rfl, rfl, SqL.of' (by walk_at "hf"), (by first | assumption | rfl), ?_⟩
  | refine ⟨(_ : Addr), (_ : List V), (_ : Int), (_ : V), rfl, rfl, (by walk_at "sqt" : SqT _ _ _ _), (by first | assumption | rfl), ?_⟩
  | refine .inl ⟨_, rfl, ?_⟩
  | refine ⟨_, _, rfl, .inl (by walk_at "sql" : SqL _ _ _ _), ?_⟩
  | refine ⟨_, _, rfl, .inl ⟨(by walk_at "sql" : SqL _ _ _ _), fun p hp => ?_⟩⟩
  | refine ⟨_, _, rfl, .inr ⟨(by walk_at "sqt" : SqT _ _ _ _), ?_⟩⟩
  | refine fun (p : Addr) (hp : (_ : Hp) p = none) => ?_
  | refine ⟨_, _, rfl, .inr (by walk_at "sqt" : SqT _ _ _ _), ?_⟩
  | refine And.intro (by show _ ≤ sizeLine; first | decide | walk_at "sz") (fun p hp => ?_)
  | refine ⟨(_ : Addr), (_ : Addr), (_ : List V), (_ : List V), rfl, rfl, (by walk_at "hf"), (by walk_at "hf"), (by walk_at "sz"), fun p hp => ?_⟩
  | refine ⟨(_ : Addr), (_ : Addr), (_ : List V), (_ : List V), rfl, rfl, (by walk_at "hf"), (by walk_at "hf"), (by walk_at "sz"), ?_⟩
  | refine ⟨(_ : Addr), (_ : List V), (_ : Int), (_ : Nat), rfl, rfl, (by walk_at "hf"), (by rfl), ?_⟩
  | refine And.intro ⟨_, (by walk_at "sql" : SqL _ _ _ _)⟩ ?_
  | refine And.intro ⟨_, (by walk_at "sqt" : SqT _ _ _ _)⟩ ?_
  | refine And.intro (.inl ⟨rfl, _, SqL.of' (by walk_at "hf")⟩) ?_
  | refine And.intro (by walk_at "cond") ?_
  | exact .inl ⟨rfl, _, SqL.of' (by walk_at "hf")⟩
  | with_reducible refine iteT ?_
  | with_reducible refine iteF ?_
  | refine And.intro (by rfl : scal _ _ = true) ?_
  | refine And.intro (by rfl : _ = V.non) ?_
  | refine And.intro (by rfl : wipe _ _ = wipe _ _) ?_
  | refine And.intro (by rfl : (_ : List V) = []) ?_
  | refine ⟨(_ : Addr), (_ : List V), rfl, (by walk_at "sqt" : SqT _ _ _ _), (by rfl), ?_⟩)
/-- a test: known, or both ways -/
local macro_rules | `(tactic| walk_at "if") => `(tactic| first
  | with_reducible refine itD (by omega) ?_
  | with_reducible refine itN (by omega) ?_
  | with_reducible refine itnD (by omega) ?_
  | with_reducible refine itnN (by omega) ?_
  | with_reducible refine itE (by omega) ?_
  | with_reducible refine itEn (by omega) ?_
  | with_reducible refine itnE (by omega) ?_
  | with_reducible refine itnEn (by omega) ?_
  | with_reducible refine itN (by intro z; cases z) ?_
  | with_reducible refine itD (by decide) ?_
  | with_reducible refine itN (by decide) ?_
  | with_reducible refine itnD (by decide) ?_
  | with_reducible refine itnN (by decide) ?_)
local macro_rules | `(tactic| walk_at "if2") => `(tactic| first
  | with_reducible refine itS (fun z => ?_) (fun z => ?_)
  | with_reducible refine itS' (fun z => ?_) (fun z => ?_)
  | with_reducible refine itSE (fun z => ?_) (fun z => ?_)
  | with_reducible refine itnS (fun z => ?_) (fun z => ?_)
  | with_reducible refine itnS' (fun z => ?_) (fun z => ?_)
  | with_reducible refine itnSE (fun z => ?_) (fun z => ?_))
local macro_rules | `(tactic| walk_at "go") => `(tactic| repeat' (first | walk_at "rd" | walk_at "if" | walk_at "if2" | fail))
local macro_rules | `(tactic| walk_at "sz") => `(tactic| (rw [sizeLine_eq]; simp only [List.length_append, List.length_map, List.length_cons, List.length_nil]; omega))
local macro_rules | `(tactic| walk_at "cond") => `(tactic| first | assumption | (show (_ : Int) ≠ 0; first | omega | (split <;> omega)) | (show (0 : Int) < _; first | assumption | decide) | exact ⟨by decide, by decide, by decide⟩ | exact .inr ⟨by decide, by decide⟩ | exact wide_div (b := 64) (by assumption) (by omega) (by decide) (by decide) | exact ⟨by decide, by decide⟩)


def spNext : Sp := fun vs H Q _ => ∃ (h s : Addr) (n : Int), vs = [.ref h, .int n] ∧ LSt H h s ∧ 0 < n ∧ n ≤ 2000000000000000000 ∧
  ∀ (r : Int) (H' : Hp), 0 ≤ r → r < n → LSt H' h s → But h s H H' → Q (.int r) H'

section
variable {P : Program} {w : World} {K : PySem.W.Frag} {mg : Str → Option Value} {base : Heap}

theorem scNext : FnScope ["_law_h", "_law_limit", "_law_cell"] ["_law_h", "_law_limit"] (fnScope sNext) := fnScope_by (by decide +kernel)
theorem fdN {a b : Int} (hb : 0 < b) : 0 ≤ Int.fmod a b ∧ Int.fmod a b < b := ⟨Int.fmod_nonneg_of_pos a hb, Int.fmod_lt_of_pos a hb⟩
theorem atI_get {xs : List V} {i : Int} {v : V} (h0 : 0 ≤ i) (h : xs[i.toNat]? = some v) : atI xs i = some v := by
  have e : i = ((i.toNat : Nat) : Int) := by omega
  rw [e]; exact atI_nat h
theorem ixN_pos {n : Nat} {i : Int} (h0 : 0 ≤ i) (h1 : i < n) : ixN n i = some i.toNat := by unfold ixN; rw [if_pos h0, if_pos h1]
theorem ok_next {f : Addr} {fd : FuncData} (F : Def K mg "_law_next" sNext f fd) (b : Binds K fd ["_law_h", "_law_limit"] []) (T : BT mg) : Cal P w K mg base 1 "_law_next" spNext [] := by
  refine cal0 F b .nil scNext (fun vs H Q E h => ?_) (fun cdv A outer s H vs Q E hr h => ?_)
  · obtain ⟨h, s, n, rfl, _⟩ := h; rfl
  · obtain ⟨h, s, n, rfl, ⟨m, k, xs, e1, e2, m0, m1, k0, xl⟩, n0, n1, q⟩ := h
    have hsne : h ≠ s := LSt.ne ⟨m, k, xs, e1, e2, m0, m1, k0, xl⟩
    refine ⟨_, pss_cons (ps_set (i := 2) scNext.nd rfl (Or.inl rfl) (pe_ix ix_list (pe_op op_cat (pe_ix ix_list (pv 0) pe_int (fun _ _ => rfl)) (pe_lst (pa_cons pe_int pa_nil)))
      (pe_op op_modN (pe_callTy call_int1 (by rfl) T.int (by decide +kernel) (pa_cons (pe_ix ix_list (pv 0) pe_int (fun _ _ => rfl)) pa_nil))
        (pe_callB (call_max2 rfl) (by rfl) T.max (by decide +kernel) (pa_cons pe_int (pa_cons (pe_callB call_len_seq (by rfl) T.len PySem.boot_len (pa_cons (pe_ix ix_list (pv 0) pe_int (fun _ _ => rfl)) pa_nil)) pa_nil)))) (fun _ _ => rfl)))
      (pss_cons (ps_if (pt_cmpR op_ge (pv 2) (pe_op op_pow pe_int pe_int) (nomark _))
        (pss_cons (ps_asg (pe_op op_fdivW (pv 2) (pv 1)) (pg_sub (pe_ix ix_list (pv 0) pe_int (fun _ _ => rfl)) (pe_op op_modN (pe_callTy call_int1 (by rfl) T.int (by decide +kernel) (pa_cons (pe_ix ix_list (pv 0) pe_int (fun _ _ => rfl)) pa_nil)) (pe_callB call_len_seq (by rfl) T.len PySem.boot_len (pa_cons (pe_ix ix_list (pv 0) pe_int (fun _ _ => rfl)) pa_nil))) set_list))
          (pss_one (ps_ret (pe_op op_modN (pe_callTy call_int1 (by rfl) T.int (by decide +kernel) (pa_cons (pv 2) pa_nil)) (pv 1))))) pss_nil)
      (pss_cons (ps_asg (pe_op op_modN (pe_op op_add (pe_op op_add (pe_op op_mul (pe_ix ix_list (pv 0) pe_int (fun _ _ => rfl)) pe_int) (pe_op op_mul (pv 2) pe_int)) pe_int) pe_int) (pg_sub (pv 0) pe_int set_list))
      (pss_cons (ps_asg (pe_op op_add (pe_ix ix_list (pv 0) pe_int (fun _ _ => rfl)) pe_int) (pg_sub (pv 0) pe_int set_list))
      (pss_one (ps_ret (pe_op op_modN (pe_op op_fdiv (pe_ix ix_list (pv 0) pe_int (fun _ _ => rfl)) pe_int) (pv 1))))))), ?_⟩
    have xl' : (xs.map V.int).length = xs.length := List.length_map ..
    have hmx : (0 : Int) < if ((xs.map V.int).length : Int) > 1 then ((xs.map V.int).length : Int) else 1 := by split <;> omega
    obtain ⟨j0, j1⟩ := fdN (a := k) hmx
    have hj : (k.fmod (if ((xs.map V.int).length : Int) > 1 then ((xs.map V.int).length : Int) else 1)).toNat < (xs ++ [0]).length := by
      rw [List.length_append, List.length_singleton]
      rw [xl'] at j0 j1 ⊢
      split at j1 <;> simp only [*, if_true, if_false] at j0 j1 ⊢ <;> omega
    obtain ⟨c, hc⟩ : ∃ c, (xs ++ [0])[(k.fmod (if ((xs.map V.int).length : Int) > 1 then ((xs.map V.int).length : Int) else 1)).toNat]? = some c := ⟨_, List.getElem?_eq_getElem hj⟩
    have hc' : (xs.map V.int ++ [V.int 0])[(k.fmod (if ((xs.map V.int).length : Int) > 1 then ((xs.map V.int).length : Int) else 1)).toNat]? = some (V.int c) := by
      have e : xs.map V.int ++ [V.int 0] = (xs ++ [0]).map V.int := by simp
      rw [e, List.getElem?_map, hc]; rfl
    have hcx : c ≠ 0 → c ∈ xs := fun h0 => by
      have := List.mem_of_getElem? hc
      rcases List.mem_append.mp this with h | h
      · exact h
      · exact absurd (List.mem_singleton.mp h) h0
    repeat walk_at "rd"
    refine ⟨_, _, _, _, rfl, rfl, SqL.of' (by walk_at "hf"), atI_get j0 hc', ?_⟩
    repeat walk_at "rd"
    refine ite2 (fun c1 => ?_) (fun c1 => ?_)
    · have c1 : (10 : Int) ^ 18 ≤ c := of_decide_eq_true c1
      have cx : c ∈ xs := hcx (by omega)
      have xp : 0 < xs.length := List.length_pos_of_mem cx
      have hne : ((xs.map V.int).length : Int) ≠ 0 := by omega
      repeat walk_at "rd"
      obtain ⟨i0, i1⟩ := fdN (a := k) (b := ((xs.map V.int).length : Int)) (by omega)
      refine ⟨_, _, _, _, rfl, rfl, (by walk_at "hf"), ixN_pos i0 i1, ?_⟩
      repeat walk_at "rd"
      obtain ⟨r0, r1⟩ := fdN (a := c) n0
      refine q _ _ r0 r1 ⟨m, k, xs.set (k.fmod ((xs.map V.int).length : Int)).toNat (c / n), by walk_at "hf", ?_, m0, m1, k0, by rw [List.length_set]; exact xl⟩ fun b o nh ns e => by walk_at "hf"
      rw [upd_same, List.map_set]
    · have c1 : ¬ (10 : Int) ^ 18 ≤ c := fun z => c1 (decide_eq_true z)
      repeat walk_at "rd"
      obtain ⟨r0, r1⟩ := fdN (a := (m * 48271 + c * 69621 + 11).fmod 2147483647 / 7) n0
      obtain ⟨u0, u1⟩ := fdN (a := m * 48271 + c * 69621 + 11) (b := 2147483647) (by decide)
      refine q _ _ r0 r1 ⟨_, k + 1, xs, upd_same, by walk_at "hf", u0, u1, by omega, xl⟩ fun b o nh ns e => by walk_at "hf"
end
end T1

set_option Elab.async false
set_option linter.all false
set_option maxRecDepth 100000
set_option maxHeartbeats 4000000
namespace T1
open PySem PySem.Spec PyProof.Rows L2 C8
/-! ### links: tuples of four ints -/
abbrev Lk := Int × Int × Int × Int
def lv (l : Lk) : List V := [.int l.1, .int l.2.1, .int l.2.2.1, .int l.2.2.2]
def LL (K : PySem.W.Frag) (H : Hp) (vs : List V) (ls : List Lk) : Prop := vs.length = ls.length ∧ ∀ (j : Nat) (l : Lk), ls[j]? = some l → ∃ a, vs[j]? = some (.ref a) ∧ SqT K H a (lv l)
def Ls (K : PySem.W.Frag) (H : Hp) (t : Addr) (ls : List Lk) : Prop := ∃ vs, SqT K H t vs ∧ LL K H vs ls
section
variable {K : PySem.W.Frag} {H H' : Hp} {h s t : Addr} {vs : List V} {ls : List Lk}
theorem LL.but (x : LL K H vs ls) (e : But h s H H') (z : LSt H h s) : LL K H' vs ls := ⟨x.1, fun j l q => let ⟨a, e1, e2⟩ := x.2 j l q; ⟨a, e1, e.tup z e2⟩⟩
theorem LL.same (x : LL K H vs ls) (e : Same H H') : LL K H' vs ls := ⟨x.1, fun j l q => let ⟨a, e1, e2⟩ := x.2 j l q; ⟨a, e1, Same.tup e e2⟩⟩
theorem LL.put {p : Addr} {xs ys : List V} (x : LL K H vs ls) (hp : H p = some (.lst xs)) : LL K (upd H p (.lst ys)) vs ls := ⟨x.1, fun j l q => let ⟨a, e1, e2⟩ := x.2 j l q; ⟨a, e1, SqT.put e2 hp⟩⟩
theorem LL.same' (e : Same H H') (x : LL K H vs ls) : LL K H' vs ls := x.same e
theorem LL.but' (e : But h s H H') (z : LSt H h s) (x : LL K H vs ls) : LL K H' vs ls := x.but e z
theorem LL.nil : LL K H [] [] := ⟨rfl, fun j l q => by simp at q⟩
theorem LL.snoc {a : Addr} {l : Lk} (x : LL K H vs ls) (e : SqT K H a (lv l)) : LL K H (vs ++ [.ref a]) (ls ++ [l]) := by
  refine ⟨by simp [x.1], fun j m q => ?_⟩
  by_cases hj : j < ls.length
  · rw [List.getElem?_append_left hj] at q
    obtain ⟨b, e1, e2⟩ := x.2 j m q
    exact ⟨b, by rw [List.getElem?_append_left (by rw [x.1]; exact hj)]; exact e1, e2⟩
  · have hj' : ls.length ≤ j := Nat.le_of_not_lt hj
    rw [List.getElem?_append_right hj'] at q
    have e0 : j - ls.length = 0 := by
      match hz : j - ls.length, q with
      | 0, _ => rfl
      | n + 1, q => rw [hz] at *; simp at q
    rw [e0] at q
    have em : l = m := by simpa using q
    subst em
    exact ⟨a, by rw [List.getElem?_append_right (by rw [x.1]; exact hj'), x.1, e0]; rfl, e⟩
theorem Ls.but (x : Ls K H t ls) (e : But h s H H') (z : LSt H h s) : Ls K H' t ls := let ⟨vs, a, b⟩ := x; ⟨vs, e.tup z a, b.but e z⟩
theorem Ls.same (x : Ls K H t ls) (e : Same H H') : Ls K H' t ls := let ⟨vs, a, b⟩ := x; ⟨vs, Same.tup e a, b.same e⟩
theorem LSt.new {p : Addr} {o : HO} (x : LSt H h s) (hp : H p = none) : LSt (upd H p o) h s := x.same (Same.upd' hp)
theorem LSt.put {p : Addr} {o : HO} (x : LSt H h s) (n1 : p ≠ h) (n2 : p ≠ s) : LSt (upd H p o) h s := by
  obtain ⟨m, k, xs, h1, h2, r⟩ := x.ex
  exact ⟨m, k, xs, up_set (Ne.symm n1) h1, up_set (Ne.symm n2) h2, r⟩
theorem But.new {p : Addr} {o : HO} (x : But h s H H') (hp : H' p = none) : But h s H (upd H' p o) := x.trans (But.of (Same.upd' hp))
theorem LSt.fresh {p : Addr} (x : LSt H h s) (hp : H p = none) : p ≠ h ∧ p ≠ s := by
  obtain ⟨m, k, xs, h1, h2, r⟩ := x.ex
  exact ⟨Ne.symm (ne_of_none h1 hp), Ne.symm (ne_of_none h2 hp)⟩
theorem LL.get (x : LL K H vs ls) {j : Nat} {l : Lk} (q : ls[j]? = some l) : ∃ a, vs[j]? = some (.ref a) ∧ SqT K H a (lv l) := x.2 j l q
end
local macro_rules | `(tactic| walk_at "hf") => `(tactic| (fail_if_success (show (fun _ => none : Hp) _ = _)); first | assumption | with_reducible exact upd_same | ((with_reducible show upd _ _ _ _ = _); first | exact up_new' (by assumption) (by walk_at "hf") | exact up_set (by walk_at "ne") (by walk_at "hf")) | exact Same.at' (by assumption) (by walk_at "hf") | exact But.at' (by assumption) (by walk_at "ne") (by walk_at "ne") (by walk_at "hf"))
local macro_rules | `(tactic| walk_at "hf0") => `(tactic| (fail_if_success (show (fun _ => none : Hp) _ = _)); first | assumption | with_reducible exact upd_same | ((with_reducible show upd _ _ _ _ = _); exact up_new' (by assumption) (by walk_at "hf0")))
local macro_rules | `(tactic| walk_at "ne") => `(tactic| first | assumption | (apply Ne.symm; assumption) | exact ne_of_none' (by assumption) (by walk_at "hf0") | exact Ne.symm (ne_of_none' (by assumption) (by walk_at "hf0")) | exact LSt.f1 (by assumption) (by walk_at "lst") | exact LSt.f2 (by assumption) (by walk_at "lst"))
local macro_rules | `(tactic| walk_at "sqt") => `(tactic| (fail_if_success (show SqT _ (fun _ => none) _ _)); first | assumption | exact SqT.of' (by walk_at "hf") | ((with_reducible show SqT _ (upd _ _ _) _ _); first | exact SqT.new' (by assumption) (by walk_at "sqt") | exact SqT.put' (by walk_at "hf") (by walk_at "sqt")) | exact Same.tup (by assumption) (by walk_at "sqt") | exact But.tup (by assumption) (by walk_at "lst") (by walk_at "sqt"))
local macro_rules | `(tactic| walk_at "sql") => `(tactic| (fail_if_success (show SqL _ (fun _ => none) _ _)); first | assumption | exact SqL.of' (by walk_at "hf") | ((with_reducible show SqL _ (upd _ _ _) _ _); exact SqL.new' (by assumption) (by walk_at "sql")) | exact Same.sql' (by assumption) (by walk_at "sql"))
local macro_rules | `(tactic| walk_at "lst") => `(tactic| (fail_if_success (show LSt (fun _ => none) _ _)); first | assumption | ((with_reducible show LSt (upd _ _ _) _ _); first | exact LSt.new (by walk_at "lst") (by assumption) | exact LSt.put (by walk_at "lst") (by walk_at "ne") (by walk_at "ne")) | exact LSt.same' (by assumption) (by walk_at "lst"))
local macro_rules | `(tactic| walk_at "but") => `(tactic| first | assumption | exact But.refl _ _ _ | ((with_reducible show But _ _ _ (upd _ _ _)); exact But.nw (by assumption) (by walk_at "but")) | exact But.bu (by assumption) (by walk_at "but") | exact But.sm (by assumption) (by walk_at "but"))
local macro_rules | `(tactic| walk_at "ls") => `(tactic| first | assumption | exact Ls.same (by walk_at "ls") (Same.upd' (by assumption)))
local macro_rules | `(tactic| walk_at "ll") => `(tactic| first | assumption | exact LL.same (by walk_at "ll") (Same.upd' (by assumption)) | exact LL.same' (by assumption) (by walk_at "ll") | exact LL.but' (by assumption) (by walk_at "lst") (by walk_at "ll"))
local macro_rules | `(tactic| walk_at "sm") => `(tactic| first | assumption | exact Same.refl _ | ((with_reducible show Same _ (upd _ _ _)); first | exact Same.put' (by assumption) (by walk_at "sm") | exact Same.trans (by walk_at "sm") (Same.upd' (by assumption))) | exact Same.trans (by walk_at "sm") (by assumption))
/-- one step of a reading -/
local macro_rules | `(tactic| walk_at "rd") => `(tactic| first
  | with_reducible refine iteF ?_
  | with_reducible refine iteT ?_
  | with_reducible refine itNotF ?_
  | with_reducible refine itNotT ?_
  | refine ⟨_, rfl, ?_⟩
  | refine ⟨_, _, rfl, rfl, ?_⟩
  | refine ⟨_, _, rfl, ?_⟩
  | refine ⟨(_ : Addr), (_ : List V), (_ : Int), (_ : V), rfl, rfl, SqL.of' (by walk_at "hf"), (by first | assumption | rfl), ?_⟩
  | refine ⟨(_ : Addr), (_ : List V), (_ : Int), (_ : V), rfl, rfl, (by walk_at "sqt" : SqT _ _ _ _), (by first | assumption | rfl), ?_⟩
  | refine .inl ⟨_, rfl, ?_⟩
  | refine ⟨_, _, rfl, .inl (by walk_at "sql" : SqL _ _ _ _), ?_⟩
  | refine ⟨_, _, rfl, .inl ⟨(by walk_at "sql" : SqL _ _ _ _), fun p hp => ?_⟩⟩
  | refine ⟨_, _, rfl, .inr ⟨(by walk_at "sqt" : SqT _ _ _ _), ?_⟩⟩
  | refine fun (p : Addr) (hp : (_ : Hp) p = none) => ?_
  | refine ⟨_, _, rfl, .inr (by walk_at "sqt" : SqT _ _ _ _), ?_⟩
  | refine And.intro (by show _ ≤ sizeLine; first | decide | walk_at "sz") (fun p hp => ?_)
  | refine ⟨(_ : Addr), (_ : Addr), (_ : List V), (_ : List V), rfl, rfl, (by walk_at "hf"), (by walk_at "hf"), (by walk_at "sz"), fun p hp => ?_⟩
  | refine ⟨(_ : Addr), (_ : Addr), (_ : List V), (_ : List V), rfl, rfl, (by walk_at "hf"), (by walk_at "hf"), (by walk_at "sz"), ?_⟩
  | refine ⟨(_ : Addr), (_ : List V), (_ : Int), (_ : Nat), rfl, rfl, (by walk_at "hf"), (by rfl), ?_⟩
  | refine And.intro ⟨_, (by walk_at "sql" : SqL _ _ _ _)⟩ ?_
  | refine And.intro ⟨_, (by walk_at "sqt" : SqT _ _ _ _)⟩ ?_
  | refine And.intro (.inl ⟨rfl, _, SqL.of' (by walk_at "hf")⟩) ?_
  | refine And.intro (by walk_at "cond") ?_
  | exact .inl ⟨rfl, _, SqL.of' (by walk_at "hf")⟩
  | with_reducible refine iteT ?_
  | with_reducible refine iteF ?_
  | refine And.intro (by rfl : scal _ _ = true) ?_
  | refine And.intro (by rfl : _ = V.non) ?_
  | refine And.intro (by rfl : wipe _ _ = wipe _ _) ?_
  | refine And.intro (by rfl : (_ : List V) = []) ?_
  | refine ⟨(_ : Addr), (_ : List V), rfl, (by walk_at "sqt" : SqT _ _ _ _), (by rfl), ?_⟩)
/-- a test: known, or both ways -/
local macro_rules | `(tactic| walk_at "if") => `(tactic| first
  | with_reducible refine itD (by omega) ?_
  | with_reducible refine itN (by omega) ?_
  | with_reducible refine itnD (by omega) ?_
  | with_reducible refine itnN (by omega) ?_
  | with_reducible refine itE (by omega) ?_
  | with_reducible refine itEn (by omega) ?_
  | with_reducible refine itnE (by omega) ?_
  | with_reducible refine itnEn (by omega) ?_
  | with_reducible refine itN (by intro z; cases z) ?_
  | with_reducible refine itD (by decide) ?_
  | with_reducible refine itN (by decide) ?_
  | with_reducible refine itnD (by decide) ?_
  | with_reducible refine itnN (by decide) ?_)
local macro_rules | `(tactic| walk_at "if2") => `(tactic| first
  | with_reducible refine itS (fun z => ?_) (fun z => ?_)
  | with_reducible refine itS' (fun z => ?_) (fun z => ?_)
  | with_reducible refine itSE (fun z => ?_) (fun z => ?_)
  | with_reducible refine itnS (fun z => ?_) (fun z => ?_)
  | with_reducible refine itnS' (fun z => ?_) (fun z => ?_)
  | with_reducible refine itnSE (fun z => ?_) (fun z => ?_))
local macro_rules | `(tactic| walk_at "go") => `(tactic| repeat' (first | walk_at "rd" | walk_at "if" | walk_at "if2" | fail))
local macro_rules | `(tactic| walk_at "sz") => `(tactic| (rw [sizeLine_eq]; simp only [List.length_append, List.length_map, List.length_cons, List.length_nil]; omega))
local macro_rules | `(tactic| walk_at "cond") => `(tactic| first | assumption | (show (_ : Int) ≠ 0; first | omega | (split <;> omega)) | (show (0 : Int) < _; first | assumption | decide) | exact ⟨by decide, by decide, by decide⟩ | exact .inr ⟨by decide, by decide⟩ | exact wide_div (b := 64) (by assumption) (by omega) (by decide) (by decide) | exact ⟨by decide, by decide⟩)


/-! ### the helpers' promises -/
def spMix (K : PySem.W.Frag) : Sp := fun vs H Q _ => ∃ (a : Addr) (ns : List Int), vs = [.ref a, .int 2] ∧ SqL K H a (ns.map V.int) ∧ ns.length ≤ 63 ∧
  ∀ (h s : Addr) (H' : Hp), LSt H' h s → Same H H' → Q (.ref h) H'
def spLife : Sp := fun vs H Q _ => ∃ (h s : Addr) (b : Bool), vs = [.ref h, .bl b] ∧ LSt H h s ∧ ∀ (r : Int) (H' : Hp), LSt H' h s → But h s H H' → Q (.int r) H'
def spLinks (K : PySem.W.Frag) : Sp := fun vs H Q _ => ∃ (h s : Addr) (c m : Int) (b : Bool), vs = [.ref h, .int c, .int m, .bl b] ∧ LSt H h s ∧ 1 ≤ c ∧ c ≤ 100 ∧ 0 ≤ m ∧ m ≤ 100 ∧
  ∀ (t : Addr) (ls : List Lk) (H' : Hp), LSt H' h s → But h s H H' → Ls K H' t ls → (ls.length : Int) ≤ m → Q (.ref t) H'

structure Cs (P : Program) (w : World) (K : PySem.W.Frag) (mg : Str → Option Value) (base : Heap) : Prop where
  _law_next : Cal P w K mg base 1 "_law_next" spNext []

section
variable {P : Program} {w : World} {K : PySem.W.Frag} {mg : Str → Option Value} {base : Heap}
theorem int_get {ns : List Int} {i : Nat} {y : V} (hi : (ns.map V.int)[i]? = some y) : ∃ z, ns[i]? = some z ∧ y = V.int z := by
  rw [List.getElem?_map] at hi
  cases e : ns[i]? with
  | none => rw [e] at hi; cases hi
  | some z => rw [e] at hi; exact ⟨z, rfl, (Option.some.inj hi).symm⟩

theorem scMix : FnScope ["_law_script", "_law_seed", "_law_mixed", "_law_cell"] ["_law_script", "_law_seed"] (fnScope sMix) := fnScope_by (by decide +kernel)
theorem ok_mix {f : Addr} {fd : FuncData} (F : Def K mg "_law_mix" sMix f fd) (b : Binds K fd ["_law_script", "_law_seed"] []) (T : BT mg) : Cal P w K mg base 1 "_law_mix" (spMix K) [] := by
  refine cal0 F b .nil scMix (fun vs H Q E h => ?_) (fun cdv A outer s H vs Q E hr h => ?_)
  · obtain ⟨h, ns, rfl, _⟩ := h; rfl
  · obtain ⟨a, ns, rfl, ha, hl, q⟩ := h
    refine ⟨_, (pss_cons (ps_set (i := 2) scMix.nd rfl (Or.inl rfl) (pv 1))
 (pss_cons (ps_for PassesOwn.never rfl (pi_list (pv 0)) (pg_name (i := 3) scMix.nd rfl (Or.inl rfl)) (pss_one (ps_set (i := 2) scMix.nd rfl (Or.inl rfl) (pe_op op_modN (pe_op op_add (pe_op op_add (pe_op op_mul (pv 2) pe_int) (pe_op op_modN (pv 3) pe_int)) pe_int) pe_int))))
 (pss_one (ps_ret (pe_lst (pa_cons (pv 2) (pa_cons (pe_callTy call_list_of (by rfl) T.list (by decide +kernel) (pa_cons (pv 0) pa_nil)) (pa_cons pe_int pa_nil)))))))), ?_⟩
    repeat walk_at "rd"
    refine for_list (K := K) (a := a) (xs := ns.map V.int) (fun i σ H' => H' = H ∧ ∃ (m : Int) (v : Option V), σ = [some (.ref a), some (.int 2), some (.int m), v] ∧ 0 ≤ m ∧ m < 2147483647)
      ⟨rfl, 2, none, rfl, by decide, by decide⟩ (fun i σ H' _ ⟨e, _⟩ => by rw [e]; exact ha) ?_ ?_
    · rintro i y σ H' hi ⟨rfl, m, v, rfl, m0, m1⟩
      obtain ⟨z, hz, rfl⟩ := int_get hi
      repeat walk_at "rd"
      obtain ⟨u0, u1⟩ := fdN (a := m * 48271 + z.fmod 2147483629 + 1) (b := 2147483647) (by decide)
      exact ⟨rfl, _, _, rfl, u0, u1⟩
    · rintro σ H' ⟨rfl, m, v, rfl, m0, m1⟩
      repeat walk_at "rd"
      rename_i p1 hp1 p2 hp2
      exact q p2 p1 _ ⟨m, 0, ns, upd_same, by walk_at "hf", m0, m1, Int.le_refl 0, hl⟩ fun b o e => by walk_at "hf"

theorem scLife : FnScope ["_law_h", "_law_wide"] ["_law_h", "_law_wide"] (fnScope sLife) := fnScope_by (by decide +kernel)
theorem ok_life {f : Addr} {fd : FuncData} (F : Def K mg "_law_life" sLife f fd) (b : Binds K fd ["_law_h", "_law_wide"] []) (T : BT mg) (C : Cs P w K mg base) : Cal P w K mg base 2 "_law_life" spLife [] := by
  refine cal0 F b .nil scLife (fun vs H Q E h => ?_) (fun cdv A outer s H vs Q E hr h => ?_)
  · obtain ⟨h, s, b, rfl, _⟩ := h; rfl
  · obtain ⟨h, s, b, rfl, hs, q⟩ := h
    refine ⟨_, (pss_one (ps_ret (pe_c C._law_next hr (by first | decide | omega) (by rfl) (pa_cons (pv 0) (pa_cons (pe_ix ix_list (pe_lst (pa_cons pe_int (pa_cons pe_int (pa_cons (pe_op op_pow pe_int pe_int) (pa_cons (pe_op op_add (pe_op op_pow pe_int pe_int) pe_int) pa_nil))))) (pe_c C._law_next hr (by first | decide | omega) (by rfl) (pa_cons (pv 0) (pa_cons (pe_ifExp (pt_val (pv 1)) pe_int pe_int) pa_nil))) (fun _ _ => rfl)) pa_nil))))), ?_⟩
    have key : ∀ (r : Int), 0 ≤ r → r < 4 → ∃ v : Int, atI ([.int 9, .int 40, .int ((10 : Int) ^ (6 : Int).toNat), .int ((10 : Int) ^ (18 : Int).toNat + 1)] : List V) r = some (.int v) ∧ 0 < v ∧ v ≤ 2000000000000000000 := fun r r0 r1 => by
      have hr : r = 0 ∨ r = 1 ∨ r = 2 ∨ r = 3 := by omega
      rcases hr with rfl | rfl | rfl | rfl
      · exact ⟨9, rfl, by decide, by decide⟩
      · exact ⟨40, rfl, by decide, by decide⟩
      · exact ⟨_, rfl, by decide, by decide⟩
      · exact ⟨_, rfl, by decide, by decide⟩
    cases b <;> repeat walk_at "rd"
    all_goals
      refine ⟨h, s, _, rfl, by walk_at "lst", by decide, by decide, fun r H1 r0 r1 st1 bu1 => ?_⟩
      obtain ⟨v, hv, v0, v1⟩ := key r r0 (by omega)
      rename_i p1 hp1
      have hL := bu1 _ _ (hs.fresh hp1).1 (hs.fresh hp1).2 upd_same
      refine ⟨_, _, _, _, rfl, rfl, (by walk_at "sql" : SqL _ _ _ _), hv, ?_⟩
      repeat walk_at "rd"
      exact ⟨h, s, _, rfl, by walk_at "lst", v0, v1, fun r' H2 _ _ st2 bu2 => q _ _ st2 ((But.of (Same.upd' hp1)).trans (bu1.trans bu2))⟩
end
end T1

set_option Elab.async false
set_option linter.all false
set_option maxRecDepth 100000
set_option maxHeartbeats 4000000
namespace T1
open PySem PySem.Spec PyProof.Rows L2 C8
local macro_rules | `(tactic| walk_at "hf") => `(tactic| (fail_if_success (show (fun _ => none : Hp) _ = _)); first | assumption | with_reducible exact upd_same | ((with_reducible show upd _ _ _ _ = _); first | exact up_new' (by assumption) (by walk_at "hf") | exact up_set (by walk_at "ne") (by walk_at "hf")) | exact Same.at' (by assumption) (by walk_at "hf") | exact But.at' (by assumption) (by walk_at "ne") (by walk_at "ne") (by walk_at "hf"))
local macro_rules | `(tactic| walk_at "hf0") => `(tactic| (fail_if_success (show (fun _ => none : Hp) _ = _)); first | assumption | with_reducible exact upd_same | ((with_reducible show upd _ _ _ _ = _); exact up_new' (by assumption) (by walk_at "hf0")))
local macro_rules | `(tactic| walk_at "ne") => `(tactic| first | assumption | (apply Ne.symm; assumption) | exact ne_of_none' (by assumption) (by walk_at "hf0") | exact Ne.symm (ne_of_none' (by assumption) (by walk_at "hf0")) | exact LSt.f1 (by assumption) (by walk_at "lst") | exact LSt.f2 (by assumption) (by walk_at "lst"))
local macro_rules | `(tactic| walk_at "sqt") => `(tactic| (fail_if_success (show SqT _ (fun _ => none) _ _)); first | assumption | exact SqT.of' (by walk_at "hf") | ((with_reducible show SqT _ (upd _ _ _) _ _); first | exact SqT.new' (by assumption) (by walk_at "sqt") | exact SqT.put' (by walk_at "hf") (by walk_at "sqt")) | exact Same.tup (by assumption) (by walk_at "sqt") | exact But.tup (by assumption) (by walk_at "lst") (by walk_at "sqt"))
local macro_rules | `(tactic| walk_at "sql") => `(tactic| (fail_if_success (show SqL _ (fun _ => none) _ _)); first | assumption | exact SqL.of' (by walk_at "hf") | ((with_reducible show SqL _ (upd _ _ _) _ _); exact SqL.new' (by assumption) (by walk_at "sql")) | exact Same.sql' (by assumption) (by walk_at "sql"))
local macro_rules | `(tactic| walk_at "lst") => `(tactic| (fail_if_success (show LSt (fun _ => none) _ _)); first | assumption | ((with_reducible show LSt (upd _ _ _) _ _); first | exact LSt.new (by walk_at "lst") (by assumption) | exact LSt.put (by walk_at "lst") (by walk_at "ne") (by walk_at "ne")) | exact LSt.same' (by assumption) (by walk_at "lst"))
local macro_rules | `(tactic| walk_at "but") => `(tactic| first | assumption | exact But.refl _ _ _ | ((with_reducible show But _ _ _ (upd _ _ _)); exact But.nw (by assumption) (by walk_at "but")) | exact But.bu (by assumption) (by walk_at "but") | exact But.sm (by assumption) (by walk_at "but"))
local macro_rules | `(tactic| walk_at "ls") => `(tactic| first | assumption | exact Ls.same (by walk_at "ls") (Same.upd' (by assumption)))
local macro_rules | `(tactic| walk_at "ll") => `(tactic| first | assumption | exact LL.same (by walk_at "ll") (Same.upd' (by assumption)) | exact LL.same' (by assumption) (by walk_at "ll") | exact LL.but' (by assumption) (by walk_at "lst") (by walk_at "ll"))
local macro_rules | `(tactic| walk_at "sm") => `(tactic| first | assumption | exact Same.refl _ | ((with_reducible show Same _ (upd _ _ _)); first | exact Same.put' (by assumption) (by walk_at "sm") | exact Same.trans (by walk_at "sm") (Same.upd' (by assumption))) | exact Same.trans (by walk_at "sm") (by assumption))
/-- one step of a reading -/
local macro_rules | `(tactic| walk_at "rd") => `(tactic| first
  | with_reducible refine iteF ?_
  | with_reducible refine iteT ?_
  | with_reducible refine itNotF ?_
  | with_reducible refine itNotT ?_
  | refine ⟨_, rfl, ?_⟩
  | refine ⟨_, _, rfl, rfl, ?_⟩
  | refine ⟨_, _, rfl, ?_⟩
  | refine ⟨(_ : Addr), (_ : List V), (_ : Int), (_ : V), rfl, rfl, SqL.of' (by walk_at "hf"), (by first | assumption | rfl), ?_⟩
  | refine ⟨(_ : Addr), (_ : List V), (_ : Int), (_ : V), rfl, rfl, (by walk_at "sqt" : SqT _ _ _ _), (by first | assumption | rfl), ?_⟩
  | refine .inl ⟨_, rfl, ?_⟩
  | refine ⟨_, _, rfl, .inl (by walk_at "sql" : SqL _ _ _ _), ?_⟩
  | refine ⟨_, _, rfl, .inl ⟨(by walk_at "sql" : SqL _ _ _ _), fun p hp => ?_⟩⟩
  | refine ⟨_, _, rfl, .inr ⟨(by walk_at "sqt" : SqT _ _ _ _), ?_⟩⟩
  | refine fun (p : Addr) (hp : (_ : Hp) p = none) => ?_
  | refine ⟨_, _, rfl, .inr (by walk_at "sqt" : SqT _ _ _ _), ?_⟩
  | refine And.intro (by show _ ≤ sizeLine; first | decide | walk_at "sz") (fun p hp => ?_)
  | refine ⟨(_ : Addr), (_ : Addr), (_ : List V), (_ : List V), rfl, rfl, (by walk_at "hf"), (by walk_at "hf"), (by walk_at "sz"), fun p hp => ?_⟩
  | refine ⟨(_ : Addr), (_ : Addr), (_ : List V), (_ : List V), rfl, rfl, (by walk_at "hf"), (by walk_at "hf"), (by walk_at "sz"), ?_⟩
  | refine ⟨(_ : Addr), (_ : List V), (_ : Int), (_ : Nat), rfl, rfl, (by walk_at "hf"), (by rfl), ?_⟩
  | refine And.intro ⟨_, (by walk_at "sql" : SqL _ _ _ _)⟩ ?_
  | refine And.intro ⟨_, (by walk_at "sqt" : SqT _ _ _ _)⟩ ?_
  | refine And.intro (.inl ⟨rfl, _, SqL.of' (by walk_at "hf")⟩) ?_
  | refine And.intro (by walk_at "cond") ?_
  | exact .inl ⟨rfl, _, SqL.of' (by walk_at "hf")⟩
  | with_reducible refine iteT ?_
  | with_reducible refine iteF ?_
  | refine And.intro (by rfl : scal _ _ = true) ?_
  | refine And.intro (by rfl : _ = V.non) ?_
  | refine And.intro (by rfl : wipe _ _ = wipe _ _) ?_
  | refine And.intro (by rfl : (_ : List V) = []) ?_
  | refine ⟨(_ : Addr), (_ : List V), rfl, (by walk_at "sqt" : SqT _ _ _ _), (by rfl), ?_⟩)
/-- a test: known, or both ways -/
local macro_rules | `(tactic| walk_at "if") => `(tactic| first
  | with_reducible refine itD (by omega) ?_
  | with_reducible refine itN (by omega) ?_
  | with_reducible refine itnD (by omega) ?_
  | with_reducible refine itnN (by omega) ?_
  | with_reducible refine itE (by omega) ?_
  | with_reducible refine itEn (by omega) ?_
  | with_reducible refine itnE (by omega) ?_
  | with_reducible refine itnEn (by omega) ?_
  | with_reducible refine itN (by intro z; cases z) ?_
  | with_reducible refine itD (by decide) ?_
  | with_reducible refine itN (by decide) ?_
  | with_reducible refine itnD (by decide) ?_
  | with_reducible refine itnN (by decide) ?_)
local macro_rules | `(tactic| walk_at "if2") => `(tactic| first
  | with_reducible refine itS (fun z => ?_) (fun z => ?_)
  | with_reducible refine itS' (fun z => ?_) (fun z => ?_)
  | with_reducible refine itSE (fun z => ?_) (fun z => ?_)
  | with_reducible refine itnS (fun z => ?_) (fun z => ?_)
  | with_reducible refine itnS' (fun z => ?_) (fun z => ?_)
  | with_reducible refine itnSE (fun z => ?_) (fun z => ?_))
local macro_rules | `(tactic| walk_at "go") => `(tactic| repeat' (first | walk_at "rd" | walk_at "if" | walk_at "if2" | fail))
local macro_rules | `(tactic| walk_at "sz") => `(tactic| (rw [sizeLine_eq]; simp only [List.length_append, List.length_map, List.length_cons, List.length_nil]; omega))
local macro_rules | `(tactic| walk_at "cond") => `(tactic| first | assumption | (show (_ : Int) ≠ 0; first | omega | (split <;> omega)) | (show (0 : Int) < _; first | assumption | decide) | exact ⟨by decide, by decide, by decide⟩ | exact .inr ⟨by decide, by decide⟩ | exact wide_div (b := 64) (by assumption) (by omega) (by decide) (by decide) | exact ⟨by decide, by decide⟩)


/-! ### data alike -/
def okd : Nat → PyData → Prop
  | 0, d => (∃ i, d = .int i) ∨ ∃ b, d = .bool b
  | n + 1, d => ((∃ i, d = .int i) ∨ ∃ b, d = .bool b) ∨ ∃ ds, (d = .list ds ∨ d = .tuple ds) ∧ ds.length ≤ 1000 ∧ ∀ e ∈ ds, okd n e
theorem SqT.ty {K : PySem.W.Frag} {H : Hp} {a : Addr} {xs : List V} (h : SqT K H a xs) : TyX K H (.ref a) (.type "tuple") := by
  rcases h with (h | ⟨o, h⟩) | ⟨o, its, n, h, c, _⟩
  · exact .base (.tup h)
  · exact .fTuple h
  · exact .kTuple h c
theorem SqL.ty {K : PySem.W.Frag} {H : Hp} {a : Addr} {xs : List V} (h : SqL K H a xs) : TyX K H (.ref a) (.type "list") := by
  rcases h with (h | ⟨o, h⟩) | ⟨o, its, n, h, c, _⟩
  · exact .base (.lst h)
  · exact .base (.frz h)
  · exact .kList h c
mutual
theorem Dp.same {K : PySem.W.Frag} {H H' : Hp} (e : Same H H') : ∀ {v : V} {d : PyData}, Dp K H v d → Dp K H' v d
  | _, _, .non => .non
  | _, _, .bl b => .bl b
  | _, _, .int i => .int i
  | _, _, .str x => .str x
  | _, _, .lst h a => .lst (e.seq h) (DpAll.same e a)
  | _, _, .tup h a => .tup (Same.tup e h) (DpAll.same e a)
theorem DpAll.same {K : PySem.W.Frag} {H H' : Hp} (e : Same H H') : ∀ {vs : List V} {ds : List PyData}, DpAll K H vs ds → DpAll K H' vs ds
  | _, _, .nil => .nil
  | _, _, .cons a b => .cons (Dp.same e a) (DpAll.same e b)
end
theorem DpAll.len {K : PySem.W.Frag} {H : Hp} : ∀ {vs : List V} {ds : List PyData}, DpAll K H vs ds → vs.length = ds.length
  | _, _, .nil => rfl
  | _, _, .cons _ b => by simp [DpAll.len b]
theorem DpAll.get {K : PySem.W.Frag} {H : Hp} : ∀ {vs : List V} {ds : List PyData} {i : Nat} {d : PyData}, DpAll K H vs ds → ds[i]? = some d → ∃ v, vs[i]? = some v ∧ Dp K H v d
  | _, _, _, _, .nil, e => by simp at e
  | _, _, 0, d, .cons a b, e => by
    cases e
    exact ⟨_, rfl, a⟩
  | _, _, i + 1, d, .cons a b, e => by
    obtain ⟨v, h1, h2⟩ := DpAll.get (i := i) b (by simpa using e)
    exact ⟨v, by simpa using h1, h2⟩
def spAlike (K : PySem.W.Frag) (n : Nat) : Sp := fun vs H Q _ => ∃ (x y : V) (d : PyData), vs = [x, y] ∧ Dp K H x d ∧ Dp K H y d ∧ okd n d ∧ ∀ H', Same H H' → Q (.bl true) H'
/-- what isinstance asks: the type's name is known -/
theorem isi_i {K : PySem.W.Frag} {H : Hp} {x : V} {a b : String} {r : Bool} {Q : VK} (ty : TyX K H x (.type a)) (k : kitB a b = some r) (q : Q (.bl r) H) : rIsi K [x, .ty b] H Q :=
  ⟨x, .ty b, .type a, .type b, r, rfl, .ty b, ty, kit_ty k, q⟩
theorem isiT_i {K : PySem.W.Frag} {H : Hp} {x : V} {t : Addr} {a b c : String} {r : Bool} {Q : VK} (ht : H t = some (.tup [.ty b, .ty c])) (ty : TyX K H x (.type a)) (k : PySem.W.kitAny K (.type a) [.type b, .type c] = some r) (q : Q (.bl r) H) : rIsiT K [x, .ref t] H Q :=
  ⟨x, t, [.ty b, .ty c], .type a, [.type b, .type c], r, rfl, ht, .cons (.ty b) (.cons (.ty c) .nil), ty, k, q⟩
theorem kitAny2 {K : PySem.W.Frag} {a b c : String} {r s : Bool} (h1 : kitB a b = some r) (h2 : kitB a c = some s) : PySem.W.kitAny K (.type a) [.type b, .type c] = some (r || s) := by
  refine kitAny_cons (kit_ty h1) (fun e => ?_) fun e => by rw [e] <;> rfl
  subst e
  refine kitAny_cons (kit_ty h2) (fun e => ?_) fun e => by rw [e] <;> rfl
  subst e
  exact kitAny_nil
theorem kb_int_dict : kitB "int" "dict" = some false := by decide +kernel
theorem kb_int_tuple : kitB "int" "tuple" = some false := by decide +kernel
theorem kb_int_list : kitB "int" "list" = some false := by decide +kernel
theorem kb_int_str : kitB "int" "str" = some false := by decide +kernel
theorem kb_int_int : kitB "int" "int" = some true := by decide +kernel
theorem kb_int_bool : kitB "int" "bool" = some false := by decide +kernel
theorem kb_bool_dict : kitB "bool" "dict" = some false := by decide +kernel
theorem kb_bool_tuple : kitB "bool" "tuple" = some false := by decide +kernel
theorem kb_bool_list : kitB "bool" "list" = some false := by decide +kernel
theorem kb_bool_str : kitB "bool" "str" = some false := by decide +kernel
theorem kb_bool_int : kitB "bool" "int" = some true := by decide +kernel
theorem kb_bool_bool : kitB "bool" "bool" = some true := by decide +kernel
theorem kb_tuple_dict : kitB "tuple" "dict" = some false := by decide +kernel
theorem kb_tuple_tuple : kitB "tuple" "tuple" = some true := by decide +kernel
theorem kb_tuple_list : kitB "tuple" "list" = some false := by decide +kernel
theorem kb_tuple_str : kitB "tuple" "str" = some false := by decide +kernel
theorem kb_tuple_int : kitB "tuple" "int" = some false := by decide +kernel
theorem kb_tuple_bool : kitB "tuple" "bool" = some false := by decide +kernel
theorem kb_list_dict : kitB "list" "dict" = some false := by decide +kernel
theorem kb_list_tuple : kitB "list" "tuple" = some false := by decide +kernel
theorem kb_list_list : kitB "list" "list" = some true := by decide +kernel
theorem kb_list_str : kitB "list" "str" = some false := by decide +kernel
theorem kb_list_int : kitB "list" "int" = some false := by decide +kernel
theorem kb_list_bool : kitB "list" "bool" = some false := by decide +kernel
theorem ka_int {K : PySem.W.Frag} : PySem.W.kitAny K (.type "int") [.type "tuple", .type "list"] = some false := kitAny2 kb_int_tuple kb_int_list
theorem ka_bool {K : PySem.W.Frag} : PySem.W.kitAny K (.type "bool") [.type "tuple", .type "list"] = some false := kitAny2 kb_bool_tuple kb_bool_list
theorem ka_tuple {K : PySem.W.Frag} : PySem.W.kitAny K (.type "tuple") [.type "tuple", .type "list"] = some true := kitAny2 kb_tuple_tuple kb_tuple_list
theorem ka_list {K : PySem.W.Frag} : PySem.W.kitAny K (.type "list") [.type "tuple", .type "list"] = some true := kitAny2 kb_list_tuple kb_list_list
local macro_rules | `(tactic| walk_at "kb") => `(tactic| with_reducible first | exact kb_int_dict | exact kb_int_tuple | exact kb_int_list | exact kb_int_str | exact kb_int_int | exact kb_int_bool | exact kb_bool_dict | exact kb_bool_tuple | exact kb_bool_list | exact kb_bool_str | exact kb_bool_int | exact kb_bool_bool | exact kb_tuple_dict | exact kb_tuple_tuple | exact kb_tuple_list | exact kb_tuple_str | exact kb_tuple_int | exact kb_tuple_bool | exact kb_list_dict | exact kb_list_tuple | exact kb_list_list | exact kb_list_str | exact kb_list_int | exact kb_list_bool)
local macro_rules | `(tactic| walk_at "ka") => `(tactic| with_reducible first | exact ka_int | exact ka_bool | exact ka_tuple | exact ka_list)
local macro_rules | `(tactic| walk_at "tyx") => `(tactic| first | exact .base (.int _) | exact .base (.bl _) | exact SqT.ty (by walk_at "sqt") | exact SqL.ty (by walk_at "sql"))
local macro_rules | `(tactic| walk_at "isi") => `(tactic| first
  | refine ⟨_, _, _, _, _, rfl, .ty _, (by walk_at "tyx"), kit_ty (by walk_at "kb"), ?_⟩
  | refine ⟨_, _, _, _, _, _, rfl, (by walk_at "hf"), .cons (.ty _) (.cons (.ty _) .nil), (by walk_at "tyx"), (by walk_at "ka"), ?_⟩)
local macro_rules | `(tactic| walk_at "go2") => `(tactic| repeat' (first | walk_at "rd" | walk_at "if" | walk_at "isi" | fail))
section
variable {P : Program} {w : World} {K : PySem.W.Frag} {mg : Str → Option Value} {base : Heap}
theorem scAlike : FnScope ["_law_found", "_law_due", "_law_k"] ["_law_found", "_law_due"] (fnScope sAlike) := fnScope_by (by decide +kernel)
structure CA (P : Program) (w : World) (K : PySem.W.Frag) (mg : Str → Option Value) (base : Heap) (n : Nat) : Prop where
  _law_alike : Cal P w K mg base (n + 1) "_law_alike" (spAlike K n) []
theorem ok_alike {f : Addr} {fd : FuncData} (F : Def K mg "_law_alike" sAlike f fd) (b : Binds K fd ["_law_found", "_law_due"] []) (T : BT mg) : ∀ n : Nat, Cal P w K mg base (n + 1) "_law_alike" (spAlike K n) [] := by
  intro n
  induction n with
  | zero =>
    refine cal0 F b .nil scAlike (fun vs H Q E h => ?_) (fun cdv A outer s H vs Q E hr h => ?_)
    · obtain ⟨x, y, d, rfl, _⟩ := h; rfl
    · obtain ⟨x, y, d, rfl, hx, hy, ok, q⟩ := h
      refine ⟨_, (pss_cons (ps_if (pt_val (pe_callB call_isi (by rfl) T.isinstance (by decide +kernel) (pa_cons (pv 1) (pa_cons (pe_bltn (v := .ty "dict") (by rfl) T.dict (by decide +kernel) rfl) pa_nil)))) (pss_one ps_never) pss_nil)
 (pss_cons (ps_if (pt_val (pe_callB call_isiT (by rfl) T.isinstance (by decide +kernel) (pa_cons (pv 1) (pa_cons (pe_tup (pa_cons (pe_bltn (v := .ty "tuple") (by rfl) T.tuple (by decide +kernel) rfl) (pa_cons (pe_bltn (v := .ty "list") (by rfl) T.list (by decide +kernel) rfl) pa_nil))) pa_nil)))) (pss_cons (ps_if (PW.pt (pw_or (pt_not (pt_val (pe_callB call_isiT (by rfl) T.isinstance (by decide +kernel) (pa_cons (pv 0) (pa_cons (pe_tup (pa_cons (pe_bltn (v := .ty "tuple") (by rfl) T.tuple (by decide +kernel) rfl) (pa_cons (pe_bltn (v := .ty "list") (by rfl) T.list (by decide +kernel) rfl) pa_nil))) pa_nil))))) (pw_or1 (pt_cmpR op_ne (pe_callB call_isi (by rfl) T.isinstance (by decide +kernel) (pa_cons (pv 0) (pa_cons (pe_bltn (v := .ty "list") (by rfl) T.list (by decide +kernel) rfl) pa_nil))) (pe_callB call_isi (by rfl) T.isinstance (by decide +kernel) (pa_cons (pv 1) (pa_cons (pe_bltn (v := .ty "list") (by rfl) T.list (by decide +kernel) rfl) pa_nil))) (nomark _))))) (pss_one (ps_ret pe_bl)) pss_nil)
 (pss_cons (ps_if (pt_cmpR op_ne (pe_callB call_len_seq (by rfl) T.len PySem.boot_len (pa_cons (pv 0) pa_nil)) (pe_callB call_len_seq (by rfl) T.len PySem.boot_len (pa_cons (pv 1) pa_nil)) (nomark _)) (pss_one (ps_ret pe_bl)) pss_nil)
 (pss_one ps_never))) pss_nil)
 (pss_cons (ps_if (PW.pt (pw_or (pt_cmpR op_isN (pv 1) pe_non (nomark _)) (pw_or1 (pt_val (pe_callB call_isi (by rfl) T.isinstance (by decide +kernel) (pa_cons (pv 1) (pa_cons (pe_bltn (v := .ty "str") (by rfl) T.str (by decide +kernel) rfl) pa_nil))))))) (pss_one (ps_ret (pe_and (pe_cmpR op_eq (pv 0) (pv 1) (nomark _)) (pe_one (pe_cmpR op_eq (pe_callB call_isi (by rfl) T.isinstance (by decide +kernel) (pa_cons (pv 0) (pa_cons (pe_bltn (v := .ty "str") (by rfl) T.str (by decide +kernel) rfl) pa_nil))) (pe_callB call_isi (by rfl) T.isinstance (by decide +kernel) (pa_cons (pv 1) (pa_cons (pe_bltn (v := .ty "str") (by rfl) T.str (by decide +kernel) rfl) pa_nil))) (nomark _)))))) pss_nil)
 (pss_one (ps_ret (pe_and (pe_callB call_isi (by rfl) T.isinstance (by decide +kernel) (pa_cons (pv 0) (pa_cons (pe_bltn (v := .ty "int") (by rfl) T.int (by decide +kernel) rfl) pa_nil))) (pe_and (pe_cmpR op_eq (pe_callB call_isi (by rfl) T.isinstance (by decide +kernel) (pa_cons (pv 0) (pa_cons (pe_bltn (v := .ty "bool") (by rfl) T.bool (by decide +kernel) rfl) pa_nil))) (pe_callB call_isi (by rfl) T.isinstance (by decide +kernel) (pa_cons (pv 1) (pa_cons (pe_bltn (v := .ty "bool") (by rfl) T.bool (by decide +kernel) rfl) pa_nil))) (nomark _)) (pe_one (pe_cmpR op_eq (pv 0) (pv 1) (nomark _)))))))))), ?_⟩
      rcases ok with ⟨i, rfl⟩ | ⟨b, rfl⟩
      · cases hx; cases hy
        have ty : ∀ H', TyX K H' (.int i) (.type "int") := fun _ => .base (.int i)
        walk_at "go2"
        exact bl_as (q _ (Same.upd' (by assumption))) (by simp)
      · cases hx; cases hy
        walk_at "go2"
        exact bl_as (q _ (Same.upd' (by assumption))) (by simp)
  | succ n ih =>
    have C : CA P w K mg base n := ⟨ih⟩
    refine cal0 F b .nil scAlike (fun vs H Q E h => ?_) (fun cdv A outer s H vs Q E hr h => ?_)
    · obtain ⟨x, y, d, rfl, _⟩ := h; rfl
    · obtain ⟨x, y, d, rfl, hx, hy, ok, q⟩ := h
      refine ⟨_, (pss_cons (ps_if (pt_val (pe_callB call_isi (by rfl) T.isinstance (by decide +kernel) (pa_cons (pv 1) (pa_cons (pe_bltn (v := .ty "dict") (by rfl) T.dict (by decide +kernel) rfl) pa_nil)))) (pss_one ps_never) pss_nil)
 (pss_cons (ps_if (pt_val (pe_callB call_isiT (by rfl) T.isinstance (by decide +kernel) (pa_cons (pv 1) (pa_cons (pe_tup (pa_cons (pe_bltn (v := .ty "tuple") (by rfl) T.tuple (by decide +kernel) rfl) (pa_cons (pe_bltn (v := .ty "list") (by rfl) T.list (by decide +kernel) rfl) pa_nil))) pa_nil)))) (pss_cons (ps_if (PW.pt (pw_or (pt_not (pt_val (pe_callB call_isiT (by rfl) T.isinstance (by decide +kernel) (pa_cons (pv 0) (pa_cons (pe_tup (pa_cons (pe_bltn (v := .ty "tuple") (by rfl) T.tuple (by decide +kernel) rfl) (pa_cons (pe_bltn (v := .ty "list") (by rfl) T.list (by decide +kernel) rfl) pa_nil))) pa_nil))))) (pw_or1 (pt_cmpR op_ne (pe_callB call_isi (by rfl) T.isinstance (by decide +kernel) (pa_cons (pv 0) (pa_cons (pe_bltn (v := .ty "list") (by rfl) T.list (by decide +kernel) rfl) pa_nil))) (pe_callB call_isi (by rfl) T.isinstance (by decide +kernel) (pa_cons (pv 1) (pa_cons (pe_bltn (v := .ty "list") (by rfl) T.list (by decide +kernel) rfl) pa_nil))) (nomark _))))) (pss_one (ps_ret pe_bl)) pss_nil)
 (pss_cons (ps_if (pt_cmpR op_ne (pe_callB call_len_seq (by rfl) T.len PySem.boot_len (pa_cons (pv 0) pa_nil)) (pe_callB call_len_seq (by rfl) T.len PySem.boot_len (pa_cons (pv 1) pa_nil)) (nomark _)) (pss_one (ps_ret pe_bl)) pss_nil)
 (pss_one (ps_ret (pe_cmpR (op_eqD hr.units) (pe_lc (own := [("_law_k", 2)]) (g := gName 2) rfl scAlike.nd (pi_range1 (by rfl) T.range (pa_cons (pe_callB call_len_seq (by rfl) T.len PySem.boot_len (pa_cons (pv 1) pa_nil)) pa_nil)) (blkOk_by (N := ["_law_found", "_law_due", "_law_k"]) (sc := fnScope sAlike) (by decide +kernel)) (fun _ _ _ _ _ => pg_name (i := 2) scAlike.nd rfl (Or.inl rfl)) (fun _ _ _ _ _ => (pts_one (pt_not (pt_val (pe_c C._law_alike hr (by first | decide | omega) (by rfl) (pa_cons (pe_ix (show IxR _ (rIx K) from ix_seq) (pv 0) (pv 2) (fun _ _ => rfl)) (pa_cons (pe_ix (show IxR _ (rIx K) from ix_seq) (pv 1) (pv 2) (fun _ _ => rfl)) pa_nil))))))) (fun _ _ _ _ _ => (pv 2))) (pe_lst pa_nil) (nomark _)))))) pss_nil)
 (pss_cons (ps_if (PW.pt (pw_or (pt_cmpR op_isN (pv 1) pe_non (nomark _)) (pw_or1 (pt_val (pe_callB call_isi (by rfl) T.isinstance (by decide +kernel) (pa_cons (pv 1) (pa_cons (pe_bltn (v := .ty "str") (by rfl) T.str (by decide +kernel) rfl) pa_nil))))))) (pss_one (ps_ret (pe_and (pe_cmpR op_eq (pv 0) (pv 1) (nomark _)) (pe_one (pe_cmpR op_eq (pe_callB call_isi (by rfl) T.isinstance (by decide +kernel) (pa_cons (pv 0) (pa_cons (pe_bltn (v := .ty "str") (by rfl) T.str (by decide +kernel) rfl) pa_nil))) (pe_callB call_isi (by rfl) T.isinstance (by decide +kernel) (pa_cons (pv 1) (pa_cons (pe_bltn (v := .ty "str") (by rfl) T.str (by decide +kernel) rfl) pa_nil))) (nomark _)))))) pss_nil)
 (pss_one (ps_ret (pe_and (pe_callB call_isi (by rfl) T.isinstance (by decide +kernel) (pa_cons (pv 0) (pa_cons (pe_bltn (v := .ty "int") (by rfl) T.int (by decide +kernel) rfl) pa_nil))) (pe_and (pe_cmpR op_eq (pe_callB call_isi (by rfl) T.isinstance (by decide +kernel) (pa_cons (pv 0) (pa_cons (pe_bltn (v := .ty "bool") (by rfl) T.bool (by decide +kernel) rfl) pa_nil))) (pe_callB call_isi (by rfl) T.isinstance (by decide +kernel) (pa_cons (pv 1) (pa_cons (pe_bltn (v := .ty "bool") (by rfl) T.bool (by decide +kernel) rfl) pa_nil))) (nomark _)) (pe_one (pe_cmpR op_eq (pv 0) (pv 1) (nomark _)))))))))), ?_⟩
      rcases ok with (⟨i, rfl⟩ | ⟨b, rfl⟩) | ⟨ds, hd, hlen, hall⟩
      · cases hx; cases hy
        walk_at "go2"
        exact bl_as (q _ (Same.upd' (by assumption))) (by simp)
      · cases hx; cases hy
        walk_at "go2"
        exact bl_as (q _ (Same.upd' (by assumption))) (by simp)
      · rcases hd with rfl | rfl
        · obtain _ | _ | _ | _ | ⟨hxs, hxa⟩ | _ := hx
          obtain _ | _ | _ | _ | ⟨hys, hya⟩ | _ := hy
          rename_i a xs b' ys
          have lx := DpAll.len hxa
          have ly := DpAll.len hya
          walk_at "go2"
          refine ⟨by omega, by omega, fun D hD => lc_range (lo := 0) (n := (ys.length : Int).toNat) (fun i H' => H' D = some (.lst []) ∧ Same H H') ⟨upd_same, by walk_at "sm"⟩ (fun i H' hi ⟨hD', sm⟩ => ?_) (fun H' ⟨hD', sm⟩ => ?_)⟩
          · obtain ⟨e, he⟩ : ∃ e, ds[i]? = some e := ⟨_, List.getElem?_eq_getElem (by omega)⟩
            obtain ⟨v1, h1, d1⟩ := DpAll.get hxa he
            obtain ⟨v2, h2, d2⟩ := DpAll.get hya he
            have a1 : atI xs (0 + (i : Int)) = some v1 := by rw [Int.zero_add]; exact atI_nat h1
            have a2 : atI ys (0 + (i : Int)) = some v2 := by rw [Int.zero_add]; exact atI_nat h2
            walk_at "go2"
            refine .inl ⟨_, _, _, _, rfl, rfl, (by walk_at "sql" : SqL _ _ _ _), a1, ?_⟩
            walk_at "go2"
            refine .inl ⟨_, _, _, _, rfl, rfl, (by walk_at "sql" : SqL _ _ _ _), a2, ?_⟩
            walk_at "go2"
            refine ⟨v1, v2, e, rfl, Dp.same sm d1, Dp.same sm d2, hall e (List.mem_of_getElem? he), fun H2 sm2 => ?_⟩
            walk_at "go2"
            exact ⟨sm2 _ _ hD', sm.trans sm2⟩
          · walk_at "go2"
            rename_i p9 hp9
            refine ⟨_, _, .lst (SqL.of' (up_new hD' hp9)) .nil, .lst (SqL.of' upd_same) .nil, by decide +kernel, by decide +kernel, ?_⟩
            exact bl_as (q _ (sm.trans (Same.upd' hp9))) (by simp [PyData.eqv, PyData.eqvAll])
        · obtain _ | _ | _ | _ | ⟨hxs, hxa⟩ | ⟨hxs, hxa⟩ := hx
          obtain _ | _ | _ | _ | ⟨hys, hya⟩ | ⟨hys, hya⟩ := hy
          rename_i a xs b' ys
          have lx := DpAll.len hxa
          have ly := DpAll.len hya
          walk_at "go2"
          refine ⟨by omega, by omega, fun D hD => lc_range (lo := 0) (n := (ys.length : Int).toNat) (fun i H' => H' D = some (.lst []) ∧ Same H H') ⟨upd_same, by walk_at "sm"⟩ (fun i H' hi ⟨hD', sm⟩ => ?_) (fun H' ⟨hD', sm⟩ => ?_)⟩
          · obtain ⟨e, he⟩ : ∃ e, ds[i]? = some e := ⟨_, List.getElem?_eq_getElem (by omega)⟩
            obtain ⟨v1, h1, d1⟩ := DpAll.get hxa he
            obtain ⟨v2, h2, d2⟩ := DpAll.get hya he
            have a1 : atI xs (0 + (i : Int)) = some v1 := by rw [Int.zero_add]; exact atI_nat h1
            have a2 : atI ys (0 + (i : Int)) = some v2 := by rw [Int.zero_add]; exact atI_nat h2
            walk_at "go2"
            refine .inr (.inl ⟨_, _, _, _, rfl, rfl, (by walk_at "sqt" : SqT _ _ _ _), a1, ?_⟩)
            walk_at "go2"
            refine .inr (.inl ⟨_, _, _, _, rfl, rfl, (by walk_at "sqt" : SqT _ _ _ _), a2, ?_⟩)
            walk_at "go2"
            refine ⟨v1, v2, e, rfl, Dp.same sm d1, Dp.same sm d2, hall e (List.mem_of_getElem? he), fun H2 sm2 => ?_⟩
            walk_at "go2"
            exact ⟨sm2 _ _ hD', sm.trans sm2⟩
          · walk_at "go2"
            rename_i p9 hp9
            refine ⟨_, _, .lst (SqL.of' (up_new hD' hp9)) .nil, .lst (SqL.of' upd_same) .nil, by decide +kernel, by decide +kernel, ?_⟩
            exact bl_as (q _ (sm.trans (Same.upd' hp9))) (by simp [PyData.eqv, PyData.eqvAll])
end
end T1

set_option Elab.async false
set_option linter.all false
set_option maxRecDepth 100000
set_option maxHeartbeats 4000000
namespace T1
open PySem PySem.Spec PyProof.Rows L2 C8

def isLink (c : Int) (l : Lk) : Bool := !(decide (l.1 < 0) || decide (c ≤ l.1) || decide (l.2.1 < 0) || decide (c ≤ l.2.1) || decide (l.1 = l.2.1)) && (decide (1 ≤ l.2.2.1) && decide (l.2.2.1 ≤ 99) && (decide (0 ≤ l.2.2.2) && decide (l.2.2.2 ≤ 1000000000000000000)))
def badAt (c : Int) (l : Lk) (k : Nat) : Bool := decide (k = 24) || !isLink c l
def firstFrom (c : Int) : List Lk → Nat → Option Nat
  | [], _ => none
  | l :: r, k => if badAt c l k = true then some k else firstFrom c r (k + 1)
theorem firstFrom_none {c : Int} : ∀ {ls : List Lk} {k : Nat}, (∀ j l, ls[j]? = some l → badAt c l (k + j) = false) → firstFrom c ls k = none
  | [], k, _ => rfl
  | l :: r, k, h => by
    have h0 : badAt c l k = false := h 0 l rfl
    unfold firstFrom
    rw [if_neg (by rw [h0]; decide)]
    exact firstFrom_none fun j m e => by have := h (j + 1) m e; rw [← this]; congr 1; omega
theorem firstFrom_some {c : Int} : ∀ {ls : List Lk} {k i : Nat} {m : Lk}, (∀ j l, j < i → ls[j]? = some l → badAt c l (k + j) = false) → ls[i]? = some m → badAt c m (k + i) = true → firstFrom c ls k = some (k + i)
  | [], k, i, m, _, e, _ => by simp at e
  | l :: r, k, 0, m, _, e, hb => by
    have el : l = m := by simpa using e
    subst el
    have hb : badAt c l k = true := hb
    unfold firstFrom
    rw [if_pos hb] <;> rfl
  | l :: r, k, i + 1, m, h, e, hb => by
    have h0 : badAt c l k = false := h 0 l (Nat.succ_pos _) rfl
    unfold firstFrom
    rw [if_neg (by rw [h0]; decide)]
    have := firstFrom_some (k := k + 1) (i := i) (m := m) (fun j l' hj e' => by have := h (j + 1) l' (by omega) e'; rw [← this]; congr 1; omega) (by simpa using e) (by rw [← hb]; congr 1; omega)
    rw [this]; congr 1; omega
def firstBad (c : Int) (ls : List Lk) : Option (Str × Int) := if 1 ≤ c ∧ c ≤ 12 then (firstFrom c ls 0).map (fun k => (("bridges" : Str), (k : Int))) else some ("count", 0)
def BadV (K : PySem.W.Frag) (H : Hp) (v : V) : Option (Str × Int) → Prop
  | none => v = .non
  | some r => ∃ a, v = .ref a ∧ SqT K H a [.str r.1, .int r.2]
def ld (l : Lk) : PyData := .tuple [.int l.1, .int l.2.1, .int l.2.2.1, .int l.2.2.2]
theorem Dp.link {K : PySem.W.Frag} {H : Hp} {a : Addr} {l : Lk} (h : SqT K H a (lv l)) : Dp K H (.ref a) (ld l) := .tup h (.cons (.int _) (.cons (.int _) (.cons (.int _) (.cons (.int _) .nil))))
theorem DpAll.links {K : PySem.W.Frag} {H : Hp} : ∀ {vs : List V} {ls : List Lk}, LL K H vs ls → DpAll K H vs (ls.map ld)
  | [], [], _ => .nil
  | v :: vs, l :: ls, h => by
    obtain ⟨a, e1, e2⟩ := h.2 0 l rfl
    have ev : v = .ref a := by simpa using e1
    subst ev
    exact .cons (Dp.link e2) (DpAll.links ⟨by have := h.1; simpa using this, fun j m e => by
      obtain ⟨b, e3, e4⟩ := h.2 (j + 1) m (by simpa using e)
      exact ⟨b, by simpa using e3, e4⟩⟩)
  | [], _ :: _, h => by have := h.1; simp at this
  | _ :: _, [], h => by have := h.1; simp at this
theorem Dp.links {K : PySem.W.Frag} {H : Hp} {t : Addr} {ls : List Lk} (h : Ls K H t ls) : Dp K H (.ref t) (.tuple (ls.map ld)) := let ⟨vs, h1, h2⟩ := h; .tup h1 (DpAll.links h2)
theorem lay_links : ∀ ls : List Lk, PyData.canLayAll0 (ls.map ld) = true
  | [] => by simp [PyData.canLayAll0]
  | l :: ls => by simp [PyData.canLayAll0, PyData.canLay0, ld, lay_links ls]
theorem depth_links : ∀ ls : List Lk, PyData.depthAll (ls.map ld) ≤ 1
  | [] => by simp [PyData.depthAll]
  | l :: ls => by
    have := depth_links ls
    simp only [List.map_cons, PyData.depthAll, PyData.depth, ld]
    omega
theorem shaped_links (ls : List Lk) : SeqAt.shaped (.tuple (ls.map ld)) = true := by
  have h := depth_links ls
  have hd : PyData.depth (.tuple (ls.map ld)) ≤ 64 := by simp only [PyData.depth]; omega
  have hc : PyData.canLay0 (.tuple (ls.map ld)) = true := by simp only [PyData.canLay0]; exact lay_links ls
  unfold SeqAt.shaped
  rw [hc, decide_eq_true hd] <;> rfl
theorem eqv_links_nil (ls : List Lk) : PyData.eqv (.tuple (ls.map ld)) (.tuple []) = ls.isEmpty := by
  cases ls <;> simp [PyData.eqv, PyData.eqvAll]
end T1

set_option Elab.async false
set_option linter.all false
set_option maxRecDepth 100000
set_option maxHeartbeats 4000000
/-! rules of our own: enumerate of a tuple, static methods, the base's __init__ read off the class, isinstance of a caught error that has fields -/
namespace T1
open PySem
open AutoSeq1 (wpAny_loadPart')
/-- an iterator of the tuple at t, at its start; an enumerate over the iterator at q -/
abbrev itO (t : Addr) : Obj := { cls := .type "tuple_iterator", data := .fields #[.ref t, .int 0 0] }
abbrev enO (q : Addr) : Obj := { cls := .type "enumerate", data := .fields #[.none, .bool false, .ref q, rawInt 0, .none, .none] }
abbrev enHeap (h : Heap) (t : Addr) : Heap := (h.push (itO t)).push (enO h.objs.size)
theorem meets_enumT (t : Addr) (vs : Array Value) :
    Meets (Builtin.«enumerate.__new__» ⟨[.type "enumerate", .ref t], []⟩) (fun _ R s => s.heap.IsTuple t vs ∧ R (.ok (.ret (.ref (s.heap.push (itO t)).objs.size))) { s with heap := enHeap s.heap t }) := by
  refine .of_wp fun prog w A R ⟨hp, g, d, tk, os⟩ ⟨tup, fin⟩ => ?_
  have sub := sub_enumerate
  have tup' : Heap.IsTuple (Shared.heap ⟨hp, g, d, tk, os⟩) t vs := tup
  obtain ⟨ot, hot, _⟩ := id tup
  wp_walk using wpAny_loadPart' hot
  refine wpAny_stack_any fun _ => wpAny_pure ?_
  split
  case' h_1 k _ _ _ _ _ => cases (k == Value.type "enumerate")
  all_goals
    wp_walk using wpAny_loadPart' hot, wpAny_pyIter_tuple tup'
    exact ⟨_, rfl, fin⟩
theorem t1_call_enumT {prog : Program} {w : World} {A : Around} {E : Value → Shared → Prop} {s : Shared} {t : Addr} {vs : Array Value} {Q : Value → Shared → Prop} (tup : s.heap.IsTuple t vs)
    (k : ∀ h', IsEnum h' (s.heap.objs.size + 1) s.heap.objs.size 0 .none → h'.IsTupleIter s.heap.objs.size t 0 → True → (∀ b o, s.heap.get? b = some o → h'.get? b = some o) → Q (.ref (s.heap.objs.size + 1)) { s with heap := h' }) :
    wpAny (model prog w) A (call (.type "enumerate") [.ref t]) Q E s := by
  have sz : (s.heap.push (itO t)).objs.size = s.heap.objs.size + 1 := Heap.size_push ..
  have en : IsEnum (enHeap s.heap t) (s.heap.objs.size + 1) s.heap.objs.size 0 .none := by
    have z := Heap.get?_push_size (s.heap.push (itO t)) (o := enO s.heap.objs.size) rfl
    rwa [sz] at z
  refine callType_new F.called_enumerate (by decide) (F.typeCall_enumerate_1 _) (F.newCall_enumerate_1 _) (fun _ => F.args_object_init_2 ..) F.entry_enumerate_new (meets_enumT t vs) ⟨tup, ?_⟩
  rw [sz]
  exact ⟨⟨_, en, rfl⟩, k _ en ⟨_, Heap.get?_push_of_some _ (Heap.get?_push_size _ rfl), rfl, rfl⟩ trivial fun _ _ z => Heap.get?_push_of_some _ (Heap.get?_push_of_some _ z)⟩
end T1
namespace T1
open PySem PySem.Spec PyProof.Rows L2 C8
/-! ### enumerate of a tuple -/
/-- what a turn hands out: a pair that is new at T, of the turn's number and the tuple's item -/
def PairOut (K : PySem.W.Frag) (a : Addr) (i : Nat) (H : Hp) (v : V) (H' : Hp) : Prop :=
  ∃ T y, v = .ref T ∧ H T = none ∧ H' = upd H T (.tup [.int (i : Nat), y]) ∧ ∀ ys, SqT K H a ys → ys[i]? = some y
def IteT (K : PySem.W.Frag) (a : Addr) : It where
  go i H := ∃ ys y, SqT K H a ys ∧ ys[i]? = some y
  yld i H v H' := PairOut K a i H v H'
  stop i H := ∃ ys, SqT K H a ys ∧ ys.length = i
/-- where the two records stand, the enumerate at e over the iterator at q -/
structure EnAt (a e q : Addr) (i : Nat) (h : Heap) : Prop where
  en : ∃ u, IsEnum h e q (i : Int) u
  tu : h.IsTupleIter q a i
  eq : e ≠ q
  aq : a ≠ q
theorem EnAt.big {a e q : Addr} {i : Nat} {h : Heap} (x : EnAt a e q i h) : e < h.objs.size ∧ q < h.objs.size := by
  obtain ⟨⟨u, hu⟩, ⟨o, ho, _⟩, _, _⟩ := x
  exact ⟨Heap.lt_size hu, Heap.lt_size ho⟩
theorem two {α : Type} {x y b : α} (h : b ∈ [x, y]) : b = x ∨ b = y := by simpa using h
theorem turn_enumT {P : Program} {w : World} {K : PySem.W.Frag} {es : List Expr} {n : Nat} {tp : Pos} (a e q : Addr) : Turn P w K (.Tuple es n tp) (IteT K a) [e, q] e (EnAt a e q) where
  mem := List.mem_cons_self
  obj := fun i h x b hb => by
    obtain ⟨⟨u, hu⟩, ⟨o, ho, _, hd⟩, _, _⟩ := x
    rcases two hb with rfl | rfl
    · exact ⟨_, hu, fun _ z => nomatch z⟩
    · exact ⟨o, ho, fun _ z => by rw [hd] at z; cases z⟩
  keep := fun i h h' x k => by
    obtain ⟨⟨u, hu⟩, ht, n1, n2⟩ := x
    exact ⟨⟨u, k e List.mem_cons_self _ hu⟩, ht.at fun o z => k q (List.mem_cons_of_mem _ List.mem_cons_self) o z, n1, n2⟩
  item := by
    rintro X rfl rfl rfl hc i pins s σ H E I ff x ⟨ys, y, hys, hy⟩
    obtain ⟨be, bq⟩ := x.big
    obtain ⟨⟨u, hu⟩, ht, n1, n2⟩ := x
    obtain ⟨vs, rv, tup, _⟩ := I.tuple hys
    obtain ⟨v, hv, ry⟩ := rv.get hy
    have nea : a ≠ e := by
      rintro rfl
      obtain ⟨o, ho, _, _, hd⟩ := tup
      rw [hu] at ho
      cases ho
      cases hd
    have hlt : i < vs.toArray.size := by
      have := (List.getElem?_eq_some_iff.mp hv).1
      simpa using this
    have DT := PySem.Draws.tuple (prog := X.prog) (w := X.w) (A := X.A.in1) (I.ok.hd hc) q a n2 vs.toArray
    refine wpAny_pyNext_enum_itemD DT hu ⟨ht, tup⟩ hlt n1 (fun z => (two z).elim n1 (Ne.symm nea)) fun v' h1 tk hv' out st at1 _ keep1 => ?_
    obtain rfl : v' = v := by
      have z : vs.toArray[i]? = some v := by simpa using hv
      exact Option.some.inj (hv'.symm.trans z)
    refine ⟨_, rfl, wpAny_letOwnedTupleGo_enum (s := { s with heap := h1, toks := tk + 1 }) out fun h2 hu2 sb => ?_⟩
    -- the new pair's address
    generalize hT : s.heap.objs.size = T at *
    have freshT : H T = none := I.hok.fresh (Nat.le_of_eq hT)
    have at2 := (sb.2 T (Nat.ne_of_gt be)).trans at1
    have okT : ObjOk X.prog X.w (upd H T (.tup [.int (i : Nat), y])) h2 T (.tup [.int (i : Nat), y]) := ⟨by show 2 ≤ sizeLine; decide, _, .cons ⟨tk, rfl⟩ (.cons ry .nil), _, at2, rfl, _, rfl⟩
    have J : Inv X pins σ (upd H T (.tup [.int (i : Nat), y])) { s with heap := h2, toks := tk + 1 } := by
      refine I.turnedNew (ch := [e, q]) (fun b o nb ho => ?_) ff (Nat.le_of_eq hT) okT
      have b1 : b ≠ e := fun z => nb (by rw [z]; exact List.mem_cons_self)
      have b2 : b ≠ q := fun z => nb (by rw [z]; exact List.mem_cons_of_mem _ List.mem_cons_self)
      exact (sb.2 b b1).trans (keep1 b o b1 b2 ho)
    refine ⟨.ref T, _, J, rfl, ⟨T, y, rfl, freshT, rfl, fun zs hz => by rw [I.tuple_inj hz hys]; exact hy⟩, ⟨⟨v', ?_⟩, st.1.at fun o z => (sb.2 q (Ne.symm n1)).trans z, n1, n2⟩, fun b hb => ?_⟩
    · rw [show ((i + 1 : Nat) : Int) = (i : Int) + 1 from rfl]
      exact hu2
    · have bT : b ≠ T := by
        rcases two hb with rfl | rfl
        · exact Nat.ne_of_lt be
        · exact Nat.ne_of_lt bq
      rw [upd_ne bT]
      exact (ff b hb).1
  done := by
    rintro X rfl rfl rfl hc i pins s σ H E I ff x ⟨ys, hys, hi⟩
    obtain ⟨⟨u, hu⟩, ht, n1, n2⟩ := x
    obtain ⟨vs, rv, tup, _⟩ := I.tuple hys
    obtain ⟨g0, g1, _, g3, g4, g5⟩ := ff q (List.mem_cons_of_mem _ List.mem_cons_self)
    obtain rfl : i = vs.toArray.size := by
      have := rv.length
      simp; omega
    have DT := PySem.Draws.tuple (prog := X.prog) (w := X.w) (A := X.A.in1) (I.ok.hd hc) q a n2 vs.toArray
    exact wpAny_pyNext_enum_endD DT hu ⟨ht, tup⟩ fun h1 eb => ⟨rfl, I.turned (t' := s.toks) (fun b o nb z => eb b o nb z) g0 g1 g3 g4 g5⟩
  self := fun _ _ _ _ _ x hq => by
    obtain ⟨⟨u, hu⟩, _⟩ := x
    exact wpAny_pyIter_enum hu hq
def iEnumT (K : PySem.W.Frag) (ta : TA) : TI := fun σ H R => ta σ H fun vs H1 => ∃ a ys, vs = [.ref a] ∧ SqT K H1 a ys ∧ R (IteT K a) H1
theorem pi_enumT {X : Cx} {x : Expr} {ta : TA} {p1 p2 p3 : Pos} {es : List Expr} {n : Nat} (hg : Gl X "enumerate") (hm : X.mg "enumerate" = none) (ha : PA X [x] ta) (st : starEach [x] X.env = [(false, eval x X.env)] := by rfl) :
    PI X (.Tuple es n p3) (.Call (.Name "enumerate" p1) [x] [] p2) (iEnumT X.K ta) where
  run := fun pins s σ H R I h => by
    refine Call_ (ld_blt I hg hm boot_enumerate (PyProof.Rows.callWith_type1 (thn (ha.run p2 pins s σ H _ I h) ?_) st rfl))
    rintro us s1 ⟨vs, H1, I1, rvs, a, ys, rfl, hys, q⟩
    obtain _ | ⟨ra, _ | _⟩ := rvs
    cases ra
    obtain ⟨_, _, tup, _⟩ := I1.tuple hys
    obtain ⟨o, ho, _⟩ := id tup
    generalize hz : s1.heap.objs.size = z
    refine t1_call_enumT tup fun h' he ht _ keep => wpAny_pyIter_enum he ?_
    rw [hz] at he ht
    rw [hz]
    have far : ∀ b ∈ [z + 1, z], s1.heap.objs.size ≤ b := fun b hb => by rcases two hb with rfl | rfl <;> omega
    refine ⟨z + 1, [z + 1, z], _, _, H1, rfl, I1.kept (t' := s1.toks) keep, turn_enumT a (z + 1) z, ⟨⟨.none, he⟩, ht, Nat.succ_ne_self z, Nat.ne_of_lt (by rw [← hz]; exact Heap.lt_size ho)⟩, fun b hb => ?_, q⟩
    exact I1.fpOk (far b hb) (I1.hok.fresh (far b hb))
/-- for i, x in enumerate(t): Pv by the turn; the pair of a turn is new at T -/
theorem for_enumT {K : PySem.W.Frag} {a : Addr} {ys : List V} {g : TG} {tb : TS} {D : Ends} {σ : L2.St} {H : Hp} (Pv : Nat → L2.St → Hp → Prop) (h0 : Pv 0 σ H) (hl : ∀ i σ H, Pv i σ H → SqT K H a ys)
    (hs : ∀ i y T σ H, ys[i]? = some y → H T = none → Pv i σ H → g (.ref T) σ (upd H T (.tup [.int (i : Nat), y])) (tb { nx := Pv (i + 1), rt := D.rt, bk := D.nx, ct := Pv (i + 1) }))
    (hd : ∀ σ H, Pv ys.length σ H → D.nx σ H) :
    ∃ W : Nat → Nat → L2.St → Hp → Prop, (∃ m, W 0 m σ H) ∧ ∀ j m τ G, W j m τ G →
      ((IteT K a).stop j G ∧ D.nx τ G) ∨ ((IteT K a).go j G ∧ ∃ N : L2.St → Hp → Prop, (∀ τ' G', N τ' G' → ∃ m', m' < m ∧ W (j + 1) m' τ' G') ∧ ∀ v G', (IteT K a).yld j G v G' → g v τ G' fun τ2 G2 => tb { nx := N, rt := D.rt, bk := D.nx, ct := N } τ2 G2) := by
  refine ⟨fun j m τ G => j + m = ys.length ∧ Pv j τ G, ⟨ys.length, Nat.zero_add _, h0⟩, fun j m τ G ⟨hm, pv⟩ => ?_⟩
  have tup := hl _ _ _ pv
  match m, hm with
  | 0, hm =>
    obtain rfl : j = ys.length := by omega
    exact .inl ⟨⟨ys, tup, rfl⟩, hd _ _ pv⟩
  | m + 1, hm =>
    have hlt : j < ys.length := by omega
    refine .inr ⟨⟨ys, ys[j], tup, List.getElem?_eq_getElem hlt⟩, Pv (j + 1), fun _ _ z => ⟨m, Nat.lt_succ_self m, by omega, z⟩, ?_⟩
    rintro v G' ⟨T, y, rfl, hT, rfl, hy⟩
    exact hs j y T τ G (hy ys tup) hT pv
/-! ### methods that are handed out unbound -/
/-- the call of a method, as the model unfolds it -/
abbrev MCall (X : Cx) (o : Expr) (m : Str) (args : List Expr) (p1 p2 : Pos) (pl : Sem Bool) : Prop :=
  eval (.Call (.Attribute o m p1) args [] p2) X.env =
    (eval o X.env >>= fun ov => standAt p1.atName >>= fun _ => holding [ov] (getMethod ov m pl) >>= fun r => callWith p2 r.1 r.2 (backTo p2 (starEach args X.env)) (backToKw p2 (keywordEach [] X.env)))
/-- m of what G tells is f, nothing bound to it -/
def Hands (X : Cx) (m : Str) (pl : Sem Bool) (G : V → Hp → Prop) (f : Value) : Prop :=
  ∀ (pins : List (Addr × Obj)) (σ : L2.St) (H : Hp) (s : Shared) (x : V) (u : Value) (Q : Value × List Value → Shared → Prop), Inv X pins σ H s → RelV x u → G x H → Q (f, []) { s with toks := s.toks + 1 } → wpAny (model X.prog X.w) X.A (getMethod u m pl) Q X.xe s
/-- o.m(..), m a def that is not bound -/
def tPlain (G : V → Hp → Prop) (sp : Sp) (E : XK) (ta : TE) (t : TA) : TE := fun σ H Q => ta σ H fun x H1 => G x H1 ∧ t σ H1 fun vs H2 => sp (vs ++ []) H2 Q E
section
variable {X : Cx} {CX : CXT} {k : Nat} {C CB p g : Addr} {mc : Value} {m : Str} {fd : FuncData} {ps : List Str} {sp : Sp} {E : XK} {o x : Expr} {xs : List Expr} {p1 p2 p3 : Pos} {ta : TE} {t : TA} {pl : Sem Bool} {G : V → Hp → Prop}
theorem pe_plain (ho : PE X o ta) (hh : Hands X m pl G (.ref g)) (kp : PySem.W.keepIn X.K (.ref g) = true) (F : FnOk X.prog X.w X.K X.mg X.base CX k g fd ps sp) (hr : Room k X.A) (hb : Binds X.K fd ps []) (hx : Passes CX X E) (ha : PA X (x :: xs) t)
    (s1 : starEach (x :: xs) X.env = (false, eval x X.env) :: starEach xs X.env := by rfl) (s2 : (backTo p2 (starEach xs X.env)).any (·.1) = false := by rfl) (hc : MCall X o m (x :: xs) p1 p2 pl := by rfl) :
    PE X (.Call (.Attribute o m p1) (x :: xs) [] p2) (tPlain G sp E ta t) where
  run := fun pins s σ H Q I h => by
    refine PySem.W.methodCall_KW (pl := pl) (thn (ho.run pins s σ H _ I h) ?_) hc
    rintro u z ⟨y, H1, I1, ry, gy, q⟩
    refine hh pins σ H1 z y u _ I1 ry gy (PySem.W.callWith_K (first := []) (h₀ := X.base) I1.ok.mod.kin kp (thn (ha.run p2 pins _ σ H1 _ (I1.tok _) q) ?_) s1 s2)
    rintro us z' ⟨vs, H2, I2, rv, q2⟩
    exact ⟨I2.kIn, run_fn F hr hb .nil hx I2 rv q2⟩
/-- what is asked of a static method of the class at C, read off an object -/
structure SInst (K : PySem.W.Frag) (C : Addr) (m : Str) (p g : Addr) : Prop where
  plain : PySem.W.plainGet K C Str.empty = true
  isC : PySem.W.isClsIn K C = true
  find : PySem.W.findIn K (.ref C) m = some (some (.ref p))
  ty : PySem.W.typeIn K (.ref p) = some (.type "staticmethod")
  sp : PySem.W.specialIn K (.ref p) "__get__" = some (some (.builtin "staticmethod.__get__"))
  tk : PySem.W.takesIn K (.ref p) = some false
  cn : PySem.W.copiedNames.contains m = false
  fn : ∃ l, PySem.W.recIn K p "staticmethod" = some (.ref g :: l)
theorem hands_inst (c : SInst X.K C m p g) : Hands X m pl (fun x H => ∃ a dx fs, x = .ref a ∧ H a = some (.ins C dx fs) ∧ fs.lookup m = none) (.ref g) := by
  rintro pins σ H s x u Q I ru ⟨a, dx, fs, rfl, ha, nm⟩ q
  cases ru
  obtain ⟨mA, O, hr, _⟩ := ins_get I.hok ha
  obtain ⟨od, J, look⟩ := O.look
  obtain ⟨l, hl⟩ := c.fn
  have pg := PySem.W.plainGet_of (show PySem.W.plainGet X.K C m = true from c.plain)
  have own : PySem.W.lookIn m od = some none := by
    rw [look m]
    exact congrArg some (RelO.none_of (by rw [← nm]; exact hr m))
  refine PySem.W.method_usual (r := some (.ref p)) I.kIn J pg.1 pg.2 c.find (by rw [Option.all_some, c.ty]; decide +kernel) ?_
  exact PySem.W.get_bind I.kIn J pg.1 (ClX.find_cm c.isC c.find c.sp c.tk c.cn own) pg.2 (wpAny_call (PySem.W.sm_get (s := { s with toks := s.toks + 1 }) I.kIn hl (PySem.W.handed_on rfl q)))
/-- .. read off the class -/
structure SCls (K : PySem.W.Frag) (C : Addr) (mc : Value) (m : Str) (p g : Addr) : Prop where
  reads : PySem.W.readsIn K C mc = true
  sga : PySem.W.specialIn K (.ref C) "__getattribute__" = some (some (.builtin "type.__getattribute__"))
  find : PySem.W.findCls K (.ref C) mc m = some (.get (.builtin "staticmethod.__get__") (.ref p) .none (.ref C))
  fn : ∃ l, PySem.W.recIn K p "staticmethod" = some (.ref g :: l)
theorem hands_cls (c : SCls X.K C mc m p g) : Hands X m pl (fun x _ => x = .ref C) (.ref g) := by
  rintro pins σ H s x u Q I ru rfl q
  cases ru
  obtain ⟨l, hl⟩ := c.fn
  exact PySem.W.method_cls I.kIn c.sga (PySem.W.cls_bind I.kIn c.reads c.find (wpAny_call (PySem.W.sm_get (s := { s with toks := s.toks + 1 }) I.kIn hl (PySem.W.handed_on rfl q))))
/-- B.__init__(self, ..), B an own error class that has none of its own -/
theorem pe_beinit {B : Str} (hg : Gl X B) (hm : X.mg B = some (.ref CB)) (rd : PySem.W.readsIn X.K CB mc = true) (sga : PySem.W.specialIn X.K (.ref CB) "__getattribute__" = some (some (.builtin "type.__getattribute__")))
    (at_ : PySem.W.findCls X.K (.ref CB) mc "__init__" = some (.val (.builtin "ValueError.__init__"))) (ha : PA X (x :: xs) t)
    (s1 : starEach (x :: xs) X.env = (false, eval x X.env) :: starEach xs X.env := by rfl) (s2 : (backTo p2 (starEach xs X.env)).any (·.1) = false := by rfl) (hc : MCall X (.Name B p3) "__init__" (x :: xs) p1 p2 pl := by rfl) (hd : (B == ("__debug__" : Str)) = false := by decide) :
    PE X (.Call (.Attribute (.Name B p3) "__init__" p1) (x :: xs) [] p2) (tVeI X.K t) where
  run := fun pins s σ H Q I h => by
    refine PySem.W.methodCall_KW (pl := pl) (ld_glob I hg hm (PySem.W.method_cls I.kIn sga (PySem.W.cls_value I.kIn rd at_ rfl (PyProof.Rows.callWith_method1 (thn (ha.run p2 pins _ σ H _ (I.tok _) h) ?_) s1 s2))) hd) hc
    rintro us z ⟨vs, H1, I1, rvs, a, C', ws, rfl, few, T, ea, q⟩
    obtain _ | ⟨ra, rest⟩ := rvs
    cases ra
    exact oinit_ok T I1 ea (by rw [sizeLine_eq, ← Paired.length rest]; omega) fun z' J => ⟨.non, H1, J, rfl, q⟩
end
end T1

set_option Elab.async false
set_option linter.all false
set_option maxRecDepth 100000
set_option maxHeartbeats 4000000
namespace T1
open PySem PySem.Spec PyProof.Rows L2 C8
open PySem.W in
/-- e.__class__ of an error that has a dict of its own -/
theorem exc_class {prog : Program} {w : World} {A : Around} {E : Value → Shared → Prop} {s : Shared} {K : Frag} {e D : Addr} {ob od : Obj} {Q : Option Value → Shared → Prop} (T : ExcC K D) (X : K.In s.heap) (I : InstAt s.heap e ob D (some od))
    (fin : Q (some (.ref D)) { s with toks := s.toks + 1 }) : wpAny (model prog w) A (getAttr? (.ref e) "__class__") Q E s := by
  have isC : (clsIn K D).isSome = true := by
    obtain ⟨c, hc, _⟩ := any_some T.hd
    rw [hc] <;> rfl
  obtain ⟨hp, gn, dr, tk, os⟩ := s
  have lt := I.type (M := model prog w)
  have lg := looks_findIn (M := model prog w) X T.hg
  have lk := looks_findIn (M := model prog w) X T.hk
  have lf := looks_find (M := model prog w) X I (findObj_data isC T.ha T.hn T.ht)
  have isB : Looks (model prog w) hp (isInstance (.ref e) (.type "BaseException")) true := lt.andThen (looks_subIn X T.hs)
  have other : (onTheHeap (Value.ref D) && Value.builtin "BaseException.__getattribute__" == Value.builtin "object.__getattribute__") = false := by
    rw [show (Value.builtin "BaseException.__getattribute__" == Value.builtin "object.__getattribute__") = false from by decide +kernel, Bool.and_false]
  unfold getAttr? getAttrBy? getAttrBy
  refine wpAny_bind (wpAny_mkText (wpAny_bind (wpAny_attempt (wpAny_holding (wpAny_bind (lt.at (wpAny_bind (lg.at ?_))))))))
  dsimp only
  rw [other, if_neg Bool.false_ne_true]
  unfold getAttrByItsOwn hookBefore
  rw [if_pos (show onTheHeap (Value.ref D) = true from rfl)]
  refine wpAny_bind (lk.at (wpAny_bind (wpAny_attempt (wpAny_holding ?_))))
  unfold callGetattribute
  rw [if_neg (show ¬ (false && onTheHeap (Value.builtin "BaseException.__getattribute__")) = true from Bool.false_ne_true)]
  unfold boundAndCalled
  rw [PySem.F.excAttr_ValueError.ga.bind (.ref e)]
  refine wpAny_bind (wpAny_pure (wpAny_call (codeAny_call_builtin PySem.F.excAttr_ValueError.ga.plain PySem.F.entry_bexc_ga
    (@check_slot (model prog w) _ _ ⟨hp, gn, dr, tk + 1, os⟩ "BaseException.__getattribute__" "BaseException" "__getattribute__" (.ref e) [.str "__class__" tk] [] _ (by decide +kernel) (by decide +kernel) isB (PySem.F.args_bexc_ga _ _) ?_))))
  unfold Builtin.«object.__getattribute__»
  refine wpAny_bind (wpAny_of_eq (a := ((Value.ref e : Value), [Value.str "__class__" tk])) (by first | rfl | (simp only [slotArgs]; rfl)) (wpAny_bind (wpAny_pure (wpAny_bind (lt.at (wpAny_bind (lf.at ?_)))))))
  refine wpAny_bind (wpAny_holding (wpAny_call (class_get (s := ⟨hp, gn, dr, tk + 1, os⟩) (ox := ob) (od := some od) X I T.hm (wpAny_pure ?_))))
  show wpAny _ _ (handedOut (.ref D)) _ _ _
  rw [handedOut_of (v := .ref D) rfl]
  first
    | exact wpAny_pure (wpAny_pure fin)
    | exact wpAny_pure fin
    | exact wpAny_pure (wpAny_bind (wpAny_pure (wpAny_pure fin)))
/-- isinstance(e, c), e the error that the suite holds, its dict at dd -/
theorem call_isD {X : Cx} {a D dd : Addr} {oe : Obj} {pn : List (Addr × Obj)} (T : ExcC X.K D) (hz : Zc (.ref D) (some dd) oe) (hf : ∃ vs, oe.data = .fields vs) :
    CallR (X.suite a ((a, oe) :: pn)) (.builtin "isinstance") (fun xs H Q => ∃ (c : V) (cv : Value) (b : Bool) (fs : List (Str × V)), xs = [.ref a, c] ∧ H dd = some (.xd fs) ∧ (∀ u, RelV c u → u = cv) ∧ PySem.W.kitOne X.K (.ref D) cv = some b ∧ Q (.bl b) H) := by
  rintro pins s σ H _ us Q I r ⟨c, cv, b, fs, rfl, hdd, hc, kit, fin⟩
  obtain _ | ⟨ra, _ | ⟨rc, _ | _⟩⟩ := r
  cases ra
  obtain rfl := hc _ rc
  have at_ := (I.pin (a, oe) (List.mem_append_left _ List.mem_cons_self)).1
  obtain ⟨mA, ns, _⟩ := (I.hok dd _ hdd : ObjOk _ _ _ _ dd (.xd fs))
  obtain ⟨od, hod, _⟩ := lookIn_ns ns
  obtain ⟨vs, hv⟩ := hf
  have J : PySem.W.InstAt s.heap a oe D (some od) := ⟨at_, hz.1, by unfold PySem.W.notCls; rw [hv] <;> rfl, by rw [hz.2]; exact hod⟩
  have old := PySem.W.handS_kitx_exc (x := a) (ox := oe) T.hg T.hk T.hs T.hd T.ha T.hn T.ht T.hm
  have Z : PySem.W.KitX X.K (.ref a) (.ref D) (fun h => ∃ od, PySem.W.InstAt h a oe D (some od)) := {
    ty := fun _ _ _ ⟨_, z⟩ => z.type
    it := fun M h x ⟨_, z⟩ => by
      obtain ⟨cd, hcd, _⟩ := PySem.W.any_some T.hd
      unfold PySem.W.clsIn at hcd
      split at hcd
      · rename_i ho
        exact fun _ _ _ _ keep q => wpAny_bind (wpAny_loadPart (keep _ _ (x _ _ ho)) (wpAny_pure q))
      · cases hcd
    ne := fun h tp dt its n sl x htp => by
      refine Bool.eq_false_iff.mpr fun q => ?_
      obtain rfl : D = tp := Value.ref.inj (beq_iff_eq.mp q)
      obtain ⟨cd, hcd, _⟩ := PySem.W.any_some T.hd
      unfold PySem.W.clsIn at hcd
      split at hcd
      · rename_i ho
        cases (x _ _ ho).symm.trans htp
      · cases hcd
    ca := fun x ⟨_, z⟩ q => exc_class T x z q }
  exact PySem.W.kia_one Z I.kIn ⟨od, J⟩ kit (fun z => nomatch z) fun tk => ⟨.bl b, H, I.kept (t' := tk) fun _ _ z => z, rfl, fin⟩
end T1

set_option Elab.async false
set_option linter.all false
set_option maxRecDepth 100000
set_option maxHeartbeats 4000000
namespace T1
open PySem PySem.Spec PyProof.Rows L2 C8
local macro_rules | `(tactic| walk_at "hf") => `(tactic| (fail_if_success (show (fun _ => none : Hp) _ = _)); first | assumption | with_reducible exact upd_same | ((with_reducible show upd _ _ _ _ = _); first | exact up_new' (by assumption) (by walk_at "hf") | exact up_set (by walk_at "ne") (by walk_at "hf")) | exact Same.at' (by assumption) (by walk_at "hf") | exact But.at' (by assumption) (by walk_at "ne") (by walk_at "ne") (by walk_at "hf"))
local macro_rules | `(tactic| walk_at "hf0") => `(tactic| (fail_if_success (show (fun _ => none : Hp) _ = _)); first | assumption | with_reducible exact upd_same | ((with_reducible show upd _ _ _ _ = _); exact up_new' (by assumption) (by walk_at "hf0")))
local macro_rules | `(tactic| walk_at "ne") => `(tactic| first | assumption | (apply Ne.symm; assumption) | exact ne_of_none' (by assumption) (by walk_at "hf0") | exact Ne.symm (ne_of_none' (by assumption) (by walk_at "hf0")) | exact LSt.f1 (by assumption) (by walk_at "lst") | exact LSt.f2 (by assumption) (by walk_at "lst"))
local macro_rules | `(tactic| walk_at "sqt") => `(tactic| (fail_if_success (show SqT _ (fun _ => none) _ _)); first | assumption | exact SqT.of' (by walk_at "hf") | ((with_reducible show SqT _ (upd _ _ _) _ _); first | exact SqT.new' (by assumption) (by walk_at "sqt") | exact SqT.put' (by walk_at "hf") (by walk_at "sqt")) | exact Same.tup (by assumption) (by walk_at "sqt") | exact But.tup (by assumption) (by walk_at "lst") (by walk_at "sqt"))
local macro_rules | `(tactic| walk_at "sql") => `(tactic| (fail_if_success (show SqL _ (fun _ => none) _ _)); first | assumption | exact SqL.of' (by walk_at "hf") | ((with_reducible show SqL _ (upd _ _ _) _ _); exact SqL.new' (by assumption) (by walk_at "sql")) | exact Same.sql' (by assumption) (by walk_at "sql"))
local macro_rules | `(tactic| walk_at "lst") => `(tactic| (fail_if_success (show LSt (fun _ => none) _ _)); first | assumption | ((with_reducible show LSt (upd _ _ _) _ _); first | exact LSt.new (by walk_at "lst") (by assumption) | exact LSt.put (by walk_at "lst") (by walk_at "ne") (by walk_at "ne")) | exact LSt.same' (by assumption) (by walk_at "lst"))
local macro_rules | `(tactic| walk_at "but") => `(tactic| first | assumption | exact But.refl _ _ _ | ((with_reducible show But _ _ _ (upd _ _ _)); exact But.nw (by assumption) (by walk_at "but")) | exact But.bu (by assumption) (by walk_at "but") | exact But.sm (by assumption) (by walk_at "but"))
local macro_rules | `(tactic| walk_at "ls") => `(tactic| first | assumption | exact Ls.same (by walk_at "ls") (Same.upd' (by assumption)))
local macro_rules | `(tactic| walk_at "ll") => `(tactic| first | assumption | exact LL.same (by walk_at "ll") (Same.upd' (by assumption)) | exact LL.same' (by assumption) (by walk_at "ll") | exact LL.but' (by assumption) (by walk_at "lst") (by walk_at "ll"))
local macro_rules | `(tactic| walk_at "sm") => `(tactic| first | assumption | exact Same.refl _ | ((with_reducible show Same _ (upd _ _ _)); first | exact Same.put' (by assumption) (by walk_at "sm") | exact Same.trans (by walk_at "sm") (Same.upd' (by assumption))) | exact Same.trans (by walk_at "sm") (by assumption))
/-- one step of a reading -/
local macro_rules | `(tactic| walk_at "rd") => `(tactic| first
  | with_reducible refine iteF ?_
  | with_reducible refine iteT ?_
  | with_reducible refine itNotF ?_
  | with_reducible refine itNotT ?_
  | refine ⟨_, rfl, ?_⟩
  | refine ⟨_, _, rfl, rfl, ?_⟩
  | refine ⟨_, _, rfl, ?_⟩
  | refine ⟨(_ : Addr), (_ : List V), (_ : Int), (_ : V), rfl, rfl, SqL.of' (by walk_at "hf"), (by first | assumption | rfl), ?_⟩
  | refine ⟨(_ : Addr), (_ : List V), (_ : Int), (_ : V), rfl, rfl, (by walk_at "sqt" : SqT _ _ _ _), (by first | assumption | rfl), ?_⟩
  | refine .inl ⟨_, rfl, ?_⟩
  | refine ⟨_, _, rfl, .inl (by walk_at "sql" : SqL _ _ _ _), ?_⟩
  | refine ⟨_, _, rfl, .inl ⟨(by walk_at "sql" : SqL _ _ _ _), fun p hp => ?_⟩⟩
  | refine ⟨_, _, rfl, .inr ⟨(by walk_at "sqt" : SqT _ _ _ _), ?_⟩⟩
  | refine fun (p : Addr) (hp : (_ : Hp) p = none) => ?_
  | refine ⟨_, _, rfl, .inr (by walk_at "sqt" : SqT _ _ _ _), ?_⟩
  | refine And.intro (by show _ ≤ sizeLine; first | decide | walk_at "sz") (fun p hp => ?_)
  | refine ⟨(_ : Addr), (_ : Addr), (_ : List V), (_ : List V), rfl, rfl, (by walk_at "hf"), (by walk_at "hf"), (by walk_at "sz"), fun p hp => ?_⟩
  | refine ⟨(_ : Addr), (_ : Addr), (_ : List V), (_ : List V), rfl, rfl, (by walk_at "hf"), (by walk_at "hf"), (by walk_at "sz"), ?_⟩
  | refine ⟨(_ : Addr), (_ : List V), (_ : Int), (_ : Nat), rfl, rfl, (by walk_at "hf"), (by rfl), ?_⟩
  | refine And.intro ⟨_, (by walk_at "sql" : SqL _ _ _ _)⟩ ?_
  | refine And.intro ⟨_, (by walk_at "sqt" : SqT _ _ _ _)⟩ ?_
  | refine And.intro (.inl ⟨rfl, _, SqL.of' (by walk_at "hf")⟩) ?_
  | refine And.intro (by walk_at "cond") ?_
  | exact .inl ⟨rfl, _, SqL.of' (by walk_at "hf")⟩
  | with_reducible refine iteT ?_
  | with_reducible refine iteF ?_
  | refine And.intro (by rfl : scal _ _ = true) ?_
  | refine And.intro (by rfl : _ = V.non) ?_
  | refine And.intro (by rfl : wipe _ _ = wipe _ _) ?_
  | refine And.intro (by rfl : (_ : List V) = []) ?_
  | refine ⟨(_ : Addr), (_ : List V), rfl, (by walk_at "sqt" : SqT _ _ _ _), (by rfl), ?_⟩)
/-- a test: known, or both ways -/
local macro_rules | `(tactic| walk_at "if") => `(tactic| first
  | with_reducible refine itD (by omega) ?_
  | with_reducible refine itN (by omega) ?_
  | with_reducible refine itnD (by omega) ?_
  | with_reducible refine itnN (by omega) ?_
  | with_reducible refine itE (by omega) ?_
  | with_reducible refine itEn (by omega) ?_
  | with_reducible refine itnE (by omega) ?_
  | with_reducible refine itnEn (by omega) ?_
  | with_reducible refine itN (by intro z; cases z) ?_
  | with_reducible refine itD (by decide) ?_
  | with_reducible refine itN (by decide) ?_
  | with_reducible refine itnD (by decide) ?_
  | with_reducible refine itnN (by decide) ?_)
local macro_rules | `(tactic| walk_at "if2") => `(tactic| first
  | with_reducible refine itS (fun z => ?_) (fun z => ?_)
  | with_reducible refine itS' (fun z => ?_) (fun z => ?_)
  | with_reducible refine itSE (fun z => ?_) (fun z => ?_)
  | with_reducible refine itnS (fun z => ?_) (fun z => ?_)
  | with_reducible refine itnS' (fun z => ?_) (fun z => ?_)
  | with_reducible refine itnSE (fun z => ?_) (fun z => ?_))
local macro_rules | `(tactic| walk_at "go") => `(tactic| repeat' (first | walk_at "rd" | walk_at "if" | walk_at "if2" | fail))
local macro_rules | `(tactic| walk_at "sz") => `(tactic| (rw [sizeLine_eq]; simp only [List.length_append, List.length_map, List.length_cons, List.length_nil]; omega))
local macro_rules | `(tactic| walk_at "cond") => `(tactic| first | assumption | (show (_ : Int) ≠ 0; first | omega | (split <;> omega)) | (show (0 : Int) < _; first | assumption | decide) | exact ⟨by decide, by decide, by decide⟩ | exact .inr ⟨by decide, by decide⟩ | exact wide_div (b := 64) (by assumption) (by omega) (by decide) (by decide) | exact ⟨by decide, by decide⟩)


abbrev sITi : Stmt := L2.inClass (top 3) 0
abbrev sTi : Stmt := L2.inClass (top 22) 3
abbrev sPc : Stmt := L2.inClass (top 22) 4
abbrev sBr : Stmt := L2.inClass (top 22) 5
abbrev sLi : Stmt := L2.inClass (top 22) 6
abbrev sIsB : Stmt := L2.inClass (top 22) 8
def CRead' (K : PySem.W.Frag) (C : Addr) : Prop := ClX.CRead K C (.type "type")
def CVal' (K : PySem.W.Frag) (C : Addr) (f : Str) (v : V) (u : Value) : Prop := ClX.CVal K C (.type "type") f v u
/-- what the top has written of the program: BridgeError at CB, InvalidTown at CT with its __init__ at fT, Town at C -/
structure Prog (K : PySem.W.Frag) (mg : Str → Option Value) (CB CT fT C : Addr) (mB : Value) : Prop where
  gB : mg "BridgeError" = some (.ref CB)
  rdB : PySem.W.readsIn K CB mB = true
  sgB : PySem.W.specialIn K (.ref CB) "__getattribute__" = some (some (.builtin "type.__getattribute__"))
  inB : PySem.W.findCls K (.ref CB) mB "__init__" = some (.val (.builtin "ValueError.__init__"))
  gT : mg "InvalidTown" = some (.ref CT)
  ox : OexC K CT
  iT : PySem.W.findIn K (.ref CT) "__init__" = some (some (.ref fT))
  tT : PySem.W.typeIn K (.ref fT) = some (.type "function")
  nP : PySem.W.findIn K (.ref CT) "part" = some none
  nI : PySem.W.findIn K (.ref CT) "index" = some none
  mxl : ∃ u, mg "MAX_LENGTH" = some (.int 99 u)
  gC : mg "Town" = some (.ref C)
  cr : CRead' K C
  mlf : ∃ u, CVal' K C "MAX_LIFE" (.int 1000000000000000000) u
/-- the fields that InvalidTown(p, i) has -/
def itF (p : Str) (i : Int) : List (Str × V) := [("index", .int i), ("part", .str p)]
def spITi (K : PySem.W.Frag) (CT : Addr) : Sp := fun vs H Q _ => ∃ (a : Addr) (p : Str) (i : Int), vs = [.ref a, .str p, .int i] ∧ H a = some (exo a CT none) ∧ p.length ≤ 100 ∧ 0 ≤ i ∧ i ≤ 1000 ∧
  ∀ dx H', H dx = none → dx ≠ a → H' a = some (exo a CT (some dx)) → H' dx = some (exd dx (itF p i)) → (∀ b o, b ≠ a → H b = some o → H' b = some o) → Q .non H'
section
variable {P : Program} {w : World} {K : PySem.W.Frag} {mg : Str → Option Value} {base : Heap} {CB CT fT C : Addr} {mB : Value}
theorem scITi : FnScope ["self", "part", "index"] ["self", "part", "index"] (L2.defScope sITi) := ⟨rfl, rfl, rfl, by decide +kernel, rfl, by decide +kernel, by decide +kernel⟩
theorem ok_ITi {fd : FuncData} (F : L2.Fun K "__init__" "InvalidTown.__init__" sITi fT fd) (T : Prog K mg CB CT fT C mB) : FnOk P w K mg base L2.CX0 1 fT fd ["self", "part", "index"] (spITi K CT) := by
  refine F.ok scITi (fun vs H Q E h => ?_) (fun cdv A outer s H vs Q E hr h => ?_)
  · obtain ⟨a, p, i, rfl, _⟩ := h; rfl
  · obtain ⟨a, p, i, rfl, ha, pl, i0, i1, q⟩ := h
    refine ⟨_, pss_cons (ps_expr (pe_beinit (by rfl) T.gB T.rdB T.sgB T.inB (pa_cons (pv 0) (pa_cons (pe_joined (PJ.cons pe_str (PJ.cons (pe_fmt (pv 1)) (PJ.cons pe_str (PJ.cons (pe_fmt (pv 2)) PJ.nil))))) pa_nil))))
      (pss_cons (ps_ost (pv 0) (pv 1)) (pss_one (ps_ost (pv 0) (pv 2)))), ?_⟩
    have L0 : (Str.empty : Str).length = 0 := rfl
    have L1 : ("invalid town: " : Str).length = 14 := by decide +kernel
    have L2' : (", index " : Str).length = 8 := by decide +kernel
    have L3 : (Str.ofString (toString i)).length ≤ 4 := PyProof.Rows.toString_length_le i0 (by decide) (by omega)
    have lg : i.natAbs.log2 < 1920 := Nat.lt_of_lt_of_le (PySem.Flt.log2_lt_of (k := 10) (by decide) (by omega)) (by decide)
    walk_at "go"
    refine ⟨by rw [sizeLine_eq, Str.length_append, L0, L1]; omega, _, rfl, .inl ⟨p, rfl, by rw [sizeLine_eq]; omega, _, rfl, by rw [sizeLine_eq, Str.length_append, Str.length_append, L0, L1]; omega, _, rfl,
      by rw [sizeLine_eq, Str.length_append, Str.length_append, Str.length_append, L0, L1, L2']; omega, _, rfl, .inr ⟨i, rfl, lg, _, rfl, by rw [sizeLine_eq, Str.length_append, Str.length_append, Str.length_append, Str.length_append, L0, L1, L2']; omega, ?_⟩⟩⟩
    refine ⟨a, CT, _, rfl, by show 1 ≤ 1000; decide, T.ox, ha, ?_⟩
    refine ⟨_, rfl, _, rfl, a, CT, rfl, T.ox, T.nP, .inl ⟨ha, fun dx hdx nda => ?_⟩⟩
    refine ⟨_, rfl, _, rfl, a, CT, rfl, T.ox, T.nI, .inr ⟨dx, _, upd_same, up_set nda upd_same, by show 1 ≤ 900; decide, ?_⟩⟩
    exact q dx _ hdx nda (up_set (Ne.symm nda) upd_same) upd_same fun b o nb e => up_set (ne_of_none e hdx) (up_set nb (up_new e hdx))
def spIsB (K : PySem.W.Frag) : Sp := fun vs H Q _ => ∃ (a : Addr) (c : Int) (l : Lk), vs = [.int c, .ref a] ∧ SqT K H a (lv l) ∧ Q (.bl (isLink c l)) H
theorem scIsB : FnScope ["count", "bridge", "one", "other", "length", "life"] ["count", "bridge"] (L2.defScope sIsB) := ⟨rfl, rfl, rfl, by decide +kernel, rfl, by decide +kernel, by decide +kernel⟩
theorem ok_isB {fd : FuncData} {g : Addr} (F : L2.Fun K "is_bridge" "Town.is_bridge" sIsB g fd) (T0 : Prog K mg CB CT fT C mB) (T : BT mg) : FnOk P w K mg base L2.CX0 1 g fd ["count", "bridge"] (spIsB K) := by
  refine F.ok scIsB (fun vs H Q E h => ?_) (fun cdv A outer s H vs Q E hr h => ?_)
  · obtain ⟨a, c, l, rfl, _⟩ := h; rfl
  · obtain ⟨a, c, ⟨x, y, z, v⟩, rfl, ha, q⟩ := h
    obtain ⟨ul, hul⟩ := T0.mxl
    obtain ⟨uf, huf⟩ := T0.mlf
    refine ⟨_, (pss_cons (ps_if (pt_cmpR op_ne (pe_callB call_len_seq (by rfl) T.len PySem.boot_len (pa_cons (pv 1) pa_nil)) pe_int (nomark _)) (pss_one (ps_ret pe_bl)) pss_nil)
 (pss_cons (ps_asg (pv 1) (pg_tup rfl (pgs_cons (pg_name (i := 2) scIsB.nd rfl (Or.inl rfl)) (pgs_cons (pg_name (i := 3) scIsB.nd rfl (Or.inl rfl)) (pgs_cons (pg_name (i := 4) scIsB.nd rfl (Or.inl rfl)) (pgs_cons (pg_name (i := 5) scIsB.nd rfl (Or.inl rfl)) pgs_nil))))))
 (pss_cons (ps_if (PW.pt (pw_or (pt_not (pt_chain op_le op_lt pe_int (pv 2) (pv 0))) (pw_or (pt_not (pt_chain op_le op_lt pe_int (pv 3) (pv 0))) (pw_or1 (pt_cmpR op_eq (pv 2) (pv 3) (nomark _)))))) (pss_one (ps_ret pe_bl)) pss_nil)
 (pss_one (ps_ret (pe_and (pe_chain op_le op_le pe_int (pv 4) (pe_glob (v := .int 99) (by rfl) hul ⟨_, rfl⟩)) (pe_one (pe_chain op_le op_le pe_int (pv 5) (ClX.pe_cval (pe_gc (v := .ref C) (by rfl) ⟨_, T0.gC, rfl⟩)))))))))), ?_⟩
    have ha : SqT K H a [.int x, .int y, .int z, .int v] := ha
    walk_at "go"
    all_goals (first | (refine ⟨C, .type "type", .int 1000000000000000000, uf, rfl, T0.cr, huf, ?_⟩; walk_at "go") | skip)
    all_goals
      refine bl_as q ?_
      rw [Bool.eq_iff_iff]
      simp only [isLink, Bool.and_eq_true, Bool.or_eq_true, Bool.not_eq_true', Bool.or_eq_false_iff, decide_eq_true_eq, decide_eq_false_iff_not, Bool.false_eq_true, iff_false, reduceCtorEq]
      omega
/-! ### Town -/
def tF (c : Int) (t : Addr) : List (Str × V) := putF "_bridges" (.ref t) (putF "_count" (.int c) [])
theorem bc_ : ¬ (("_bridges" : Str) = "_count") := by decide +kernel
theorem tF_count (c : Int) (t : Addr) : (tF c t).lookup ("_count" : Str) = some (.int c) := by
  unfold tF
  rw [lookup_putF, if_neg (Ne.symm bc_), lookup_putF, if_pos rfl]
theorem tF_bridges (c : Int) (t : Addr) : (tF c t).lookup ("_bridges" : Str) = some (.ref t) := by
  unfold tF
  rw [lookup_putF, if_pos rfl]
structure PTown (K : PySem.W.Frag) (mg : Str → Option Value) (C pS gS : Addr) : Prop where
  cl : Cls K C
  nC : NoAttr K C "_count"
  nB : NoAttr K C "_bridges"
  mp : ∃ u, Con K C "MAX_PLACES" (.int 12) u
  mb : ∃ u, Con K C "MAX_BRIDGES" (.int 24) u
  st : SInst K C "is_bridge" pS gS
  kS : PySem.W.keepIn K (.ref gS) = true
def spTi (K : PySem.W.Frag) (C CT : Addr) : Sp := fun vs H Q E => ∃ (x dx t : Addr) (c : Int) (ls : List Lk), vs = [.ref x, .int c, .ref t] ∧ H x = some (.ins C dx []) ∧ Ls K H t ls ∧ ls.length ≤ 1000 ∧
  (∀ r, firstBad c ls = some r → ∀ d H', Same H H' → H d = none → H' d = some (.xd (itF r.1 r.2)) → E (.ref CT) (some d) H') ∧
  (firstBad c ls = none → ∀ H', (∀ b o, b ≠ x → H b = some o → H' b = some o) → H' x = some (.ins C dx (tF c t)) → Q .non H')
theorem SqT.ins {K : PySem.W.Frag} {H : Hp} {a x C dx : Addr} {fs gs : List (Str × V)} {xs : List V} (h : SqT K H a xs) (hx : H x = some (.ins C dx fs)) : SqT K (upd H x (.ins C dx gs)) a xs := by
  rcases h with (t | ⟨q, t⟩) | t
  · exact .inl (.inl (up_set (ne_of t hx (fun z => nomatch z)) t))
  · exact .inl (.inr ⟨q, up_set (ne_of t hx (fun z => nomatch z)) t⟩)
  · exact .inr t
theorem raise_it {H1 : Hp} {p : Str} {i : Int} {Wk : XK} (pl : p.length ≤ 100) (i0 : 0 ≤ i) (i1 : i ≤ 1000) (k : ∀ d H', Same H1 H' → H1 d = none → H' d = some (.xd (itF p i)) → Wk (.ref CT) (some d) H') :
    ([V.str p, V.int i] : List V).length ≤ 1000 ∧ ∀ a, H1 a = none → spITi K CT (.ref a :: ([.str p, .int i] ++ [])) (upd H1 a (exo a CT none))
      (fun v H2 => v = .non ∧ ∃ (d : Addr) (fs : List (Str × V)), H2 a = some (exo a CT (some d)) ∧ H2 d = some (exd d fs) ∧ H1 d = none ∧ Wk (.ref CT) (some d) (upd (L2.del H2 a) d (.xd fs))) (fun _ _ _ => False) := by
  refine ⟨by show 2 ≤ 1000; decide, fun a ha => ⟨a, p, i, rfl, upd_same, pl, i0, i1, fun dx H' hdx nda e1 e2 old => ?_⟩⟩
  rw [upd_ne nda] at hdx
  refine ⟨rfl, dx, itF p i, e1, e2, hdx, k dx _ (fun b o e => ?_) hdx upd_same⟩
  have nba : b ≠ a := ne_of_none e ha
  rw [upd_ne (ne_of_none e hdx), L2.del_ne nba]
  exact old b o nba (up_set nba e)
theorem scTi : FnScope ["self", "count", "bridges", "index", "bridge"] ["self", "count", "bridges"] (L2.defScope sTi) := ⟨rfl, rfl, rfl, by decide +kernel, rfl, by decide +kernel, by decide +kernel⟩
theorem ok_Ti {f pS gS : Addr} {fd fdS fdT : FuncData} (F : L2.Fun K "__init__" "Town.__init__" sTi f fd) (T0 : Prog K mg CB CT fT C mB) (TT : PTown K mg C pS gS) (T : BT mg)
    (FS : FnOk P w K mg base L2.CX0 1 gS fdS ["count", "bridge"] (spIsB K)) (bS : Binds K fdS ["count", "bridge"] [])
    (FT : FnOk P w K mg base L2.CX0 1 fT fdT ["self", "part", "index"] (spITi K CT)) (bT : Binds K fdT ["self", "part", "index"] []) :
    FnOk P w K mg base (L2.CX P w) 3 f fd ["self", "count", "bridges"] (spTi K C CT) := by
  refine F.okX scTi (fun vs H Q E h => ?_) (fun cdv A outer s H vs Q E hr h => ?_)
  · obtain ⟨x, dx, t, c, ls, rfl, _⟩ := h; rfl
  · obtain ⟨x, dx, t, c, ls, rfl, hx, ⟨vs, ht, ll⟩, hlen, kE, kQ⟩ := h
    have hr1 : Room 1 _ := hr.mono (by decide : 1 ≤ 2)
    refine ⟨_, (pss_cons (ps_if (pt_not (pt_chain op_le op_le pe_int (pv 1) (pe_con (pv 0) rfl))) (pss_one (ps_raise rfl (takes_of rfl rfl rfl rfl) (pmk_oex T0.ox T0.iT T0.tT FT hr bT .nil L2.pass0 (by rfl) T0.gT (pa_cons pe_str (pa_cons pe_int pa_nil))))) pss_nil)
 (pss_cons (ps_for (passes_of rfl) rfl (pi_enumT (by rfl) T.enumerate (pa_cons (pv 2) pa_nil)) (pg_tup rfl (pgs_cons (pg_name (i := 3) scTi.nd rfl (Or.inl rfl)) (pgs_cons (pg_name (i := 4) scTi.nd rfl (Or.inl rfl)) pgs_nil))) (pss_one (ps_if (PW.pt (pw_or (pt_cmpR op_eq (pv 3) (pe_con (pv 0) rfl) (nomark _)) (pw_or1 (pt_not (pt_val (pe_plain (pv 0) (hands_inst TT.st) TT.kS FS hr1 bS L2.pass0 (pa_cons (pv 1) (pa_cons (pv 4) pa_nil)))))))) (pss_one (ps_raise rfl (takes_of rfl rfl rfl rfl) (pmk_oex T0.ox T0.iT T0.tT FT hr bT .nil L2.pass0 (by rfl) T0.gT (pa_cons pe_str (pa_cons (pv 3) pa_nil))))) pss_nil)))
 (pss_cons (ps_fld (pv 0) (pv 1) rfl)
 (pss_one (ps_fld (pv 0) (pe_callTy call_tuple_of (by rfl) T.tuple (by decide +kernel) (pa_cons (pv 2) pa_nil)) rfl))))), ?_⟩
    obtain ⟨u12, hmp⟩ := TT.mp
    obtain ⟨u24, hmb⟩ := TT.mb
    have hv := ll.1
    have out0 : ¬ (1 ≤ c ∧ c ≤ 12) → ∀ d H', Same H H' → H d = none → H' d = some (.xd (itF "count" 0)) → E (.ref CT) (some d) H' := fun hc d H' sm hd e => by
      refine kE ("count", 0) ?_ d H' sm hd e
      unfold firstBad
      rw [if_neg hc]
    walk_at "go"
    · refine ⟨x, C, dx, [], .int 12, u12, rfl, hx, TT.cl, hmp, rfl, ?_⟩
      walk_at "go"
      · exact raise_it (by decide +kernel) (by decide) (by decide) (out0 (by omega))
      · have hc : 1 ≤ c ∧ c ≤ 12 := by omega
        refine ⟨t, vs, rfl, ht, for_enumT (fun i σ H' => Same H H' ∧ (∃ v3 v4, σ = [some (.ref x), some (.int c), some (.ref t), v3, v4]) ∧ ∀ j l, j < i → ls[j]? = some l → badAt c l j = false)
          ⟨Same.refl H, ⟨none, none, rfl⟩, fun j l hj _ => absurd hj (Nat.not_lt_zero _)⟩ (fun i σ H' ⟨sm, _⟩ => Same.tup sm ht) ?_ ?_⟩
        · rintro i y T9 σ H' hy hT9 ⟨sm, ⟨v3, v4, rfl⟩, hb⟩
          have hi' : i < ls.length := by have := (List.getElem?_eq_some_iff.mp hy).1; omega
          obtain ⟨l, hl⟩ : ∃ l, ls[i]? = some l := ⟨_, List.getElem?_eq_getElem hi'⟩
          obtain ⟨a, ha, hta⟩ := ll.2 i l hl
          rw [hy] at ha
          cases ha
          have hx' : upd H' T9 (.tup [.int (i : Nat), .ref a]) x = some (.ins C dx []) := up_new (sm _ _ hx) hT9
          have hta' : SqT K (upd H' T9 (.tup [.int (i : Nat), .ref a])) a (lv l) := SqT.new (Same.tup sm hta) hT9
          have sm' : Same H (upd H' T9 (.tup [.int (i : Nat), .ref a])) := sm.trans (Same.upd' hT9)
          have out : badAt c l i = true → ∀ d H2, Same (upd H' T9 (.tup [.int (i : Nat), .ref a])) H2 → upd H' T9 (.tup [.int (i : Nat), .ref a]) d = none → H2 d = some (.xd (itF "bridges" i)) → E (.ref CT) (some d) H2 := fun hbad d H2 sm2 hd e => by
            refine kE ("bridges", (i : Int)) ?_ d H2 (sm'.trans sm2) (sm'.free hd) e
            unfold firstBad
            rw [if_pos hc, firstFrom_some (k := 0) (i := i) (m := l) (fun j l' hj e => by rw [Nat.zero_add]; exact hb j l' hj e) hl (by rw [Nat.zero_add]; exact hbad), Nat.zero_add] <;> rfl
          walk_at "go"
          refine ⟨x, C, dx, [], .int 24, u24, rfl, hx', TT.cl, hmb, rfl, ?_⟩
          walk_at "go"
          · exact raise_it (by decide +kernel) (by omega) (by omega) (out (by unfold badAt; rw [decide_eq_true (show i = 24 by omega)]; rfl))
          · refine ⟨⟨x, dx, [], rfl, hx', rfl⟩, ?_⟩
            walk_at "go"
            refine ⟨a, c, l, rfl, hta', ?_⟩
            have i24 : decide (i = 24) = false := decide_eq_false (by omega)
            cases hk : isLink c l
            · walk_at "go"
              exact raise_it (by decide +kernel) (by omega) (by omega) (out (by unfold badAt; rw [hk, i24]; rfl))
            · walk_at "go"
              refine ⟨⟨_, _, rfl⟩, fun j l' hj e => ?_⟩
              by_cases hji : j = i
              · subst hji
                rw [hl] at e
                cases e
                unfold badAt
                rw [hk, i24]; rfl
              · exact hb j l' (by omega) e
        · rintro σ H' ⟨sm, ⟨v3, v4, rfl⟩, hb⟩
          have hx1 := sm _ _ hx
          have ht1 : SqT K (upd H' x (.ins C dx (putF "_count" (.int c) []))) t vs := SqT.ins (Same.tup sm ht) hx1
          refine ⟨_, rfl, _, rfl, x, C, dx, [], rfl, hx1, TT.cl, TT.nC, by decide, ?_⟩
          refine ⟨_, rfl, _, _, rfl, .inr ⟨ht1, _, rfl, x, C, dx, _, rfl, upd_same, TT.cl, TT.nB, by show 1 < 1000; decide, ?_⟩⟩
          refine kQ ?_ _ (fun b o nb e => up_set nb (up_set nb (sm _ _ e))) upd_same
          unfold firstBad
          rw [if_pos hc, firstFrom_none (fun j l e => by rw [Nat.zero_add]; exact hb j l (by have := (List.getElem?_eq_some_iff.mp e).1; omega) e)] <;> rfl
    · exact raise_it (by decide +kernel) (by decide) (by decide) (out0 (by omega))
end
end T1

set_option Elab.async false
set_option linter.all false
set_option maxRecDepth 100000
set_option maxHeartbeats 4000000
namespace T1
open PySem PySem.Spec PyProof.Rows L2 C8
local macro_rules | `(tactic| walk_at "hf") => `(tactic| (fail_if_success (show (fun _ => none : Hp) _ = _)); first | assumption | with_reducible exact upd_same | ((with_reducible show upd _ _ _ _ = _); first | exact up_new' (by assumption) (by walk_at "hf") | exact up_set (by walk_at "ne") (by walk_at "hf")) | exact Same.at' (by assumption) (by walk_at "hf") | exact But.at' (by assumption) (by walk_at "ne") (by walk_at "ne") (by walk_at "hf"))
local macro_rules | `(tactic| walk_at "hf0") => `(tactic| (fail_if_success (show (fun _ => none : Hp) _ = _)); first | assumption | with_reducible exact upd_same | ((with_reducible show upd _ _ _ _ = _); exact up_new' (by assumption) (by walk_at "hf0")))
local macro_rules | `(tactic| walk_at "ne") => `(tactic| first | assumption | (apply Ne.symm; assumption) | exact ne_of_none' (by assumption) (by walk_at "hf0") | exact Ne.symm (ne_of_none' (by assumption) (by walk_at "hf0")) | exact LSt.f1 (by assumption) (by walk_at "lst") | exact LSt.f2 (by assumption) (by walk_at "lst"))
local macro_rules | `(tactic| walk_at "sqt") => `(tactic| (fail_if_success (show SqT _ (fun _ => none) _ _)); first | assumption | exact SqT.of' (by walk_at "hf") | ((with_reducible show SqT _ (upd _ _ _) _ _); first | exact SqT.new' (by assumption) (by walk_at "sqt") | exact SqT.put' (by walk_at "hf") (by walk_at "sqt")) | exact Same.tup (by assumption) (by walk_at "sqt") | exact But.tup (by assumption) (by walk_at "lst") (by walk_at "sqt"))
local macro_rules | `(tactic| walk_at "sql") => `(tactic| (fail_if_success (show SqL _ (fun _ => none) _ _)); first | assumption | exact SqL.of' (by walk_at "hf") | ((with_reducible show SqL _ (upd _ _ _) _ _); exact SqL.new' (by assumption) (by walk_at "sql")) | exact Same.sql' (by assumption) (by walk_at "sql"))
local macro_rules | `(tactic| walk_at "lst") => `(tactic| (fail_if_success (show LSt (fun _ => none) _ _)); first | assumption | ((with_reducible show LSt (upd _ _ _) _ _); first | exact LSt.new (by walk_at "lst") (by assumption) | exact LSt.put (by walk_at "lst") (by walk_at "ne") (by walk_at "ne")) | exact LSt.same' (by assumption) (by walk_at "lst"))
local macro_rules | `(tactic| walk_at "but") => `(tactic| first | assumption | exact But.refl _ _ _ | ((with_reducible show But _ _ _ (upd _ _ _)); exact But.nw (by assumption) (by walk_at "but")) | exact But.bu (by assumption) (by walk_at "but") | exact But.sm (by assumption) (by walk_at "but"))
local macro_rules | `(tactic| walk_at "ls") => `(tactic| first | assumption | exact Ls.same (by walk_at "ls") (Same.upd' (by assumption)))
local macro_rules | `(tactic| walk_at "ll") => `(tactic| first | assumption | exact LL.same (by walk_at "ll") (Same.upd' (by assumption)) | exact LL.same' (by assumption) (by walk_at "ll") | exact LL.but' (by assumption) (by walk_at "lst") (by walk_at "ll"))
local macro_rules | `(tactic| walk_at "sm") => `(tactic| first | assumption | exact Same.refl _ | ((with_reducible show Same _ (upd _ _ _)); first | exact Same.put' (by assumption) (by walk_at "sm") | exact Same.trans (by walk_at "sm") (Same.upd' (by assumption))) | exact Same.trans (by walk_at "sm") (by assumption))
/-- one step of a reading -/
local macro_rules | `(tactic| walk_at "rd") => `(tactic| first
  | with_reducible refine iteF ?_
  | with_reducible refine iteT ?_
  | with_reducible refine itNotF ?_
  | with_reducible refine itNotT ?_
  | refine ⟨_, rfl, ?_⟩
  | refine ⟨_, _, rfl, rfl, ?_⟩
  | refine ⟨_, _, rfl, ?_⟩
  | refine ⟨(_ : Addr), (_ : List V), (_ : Int), (_ : V), rfl, rfl, SqL.of' (by walk_at "hf"), (by first | assumption | rfl), ?_⟩
  | refine ⟨(_ : Addr), (_ : List V), (_ : Int), (_ : V), rfl, rfl, (by walk_at "sqt" : SqT _ _ _ _), (by first | assumption | rfl), ?_⟩
  | refine .inl ⟨_, rfl, ?_⟩
  | refine ⟨_, _, rfl, .inl (by walk_at "sql" : SqL _ _ _ _), ?_⟩
  | refine ⟨_, _, rfl, .inl ⟨(by walk_at "sql" : SqL _ _ _ _), fun p hp => ?_⟩⟩
  | refine ⟨_, _, rfl, .inr ⟨(by walk_at "sqt" : SqT _ _ _ _), ?_⟩⟩
  | refine fun (p : Addr) (hp : (_ : Hp) p = none) => ?_
  | refine ⟨_, _, rfl, .inr (by walk_at "sqt" : SqT _ _ _ _), ?_⟩
  | refine And.intro (by show _ ≤ sizeLine; first | decide | walk_at "sz") (fun p hp => ?_)
  | refine ⟨(_ : Addr), (_ : Addr), (_ : List V), (_ : List V), rfl, rfl, (by walk_at "hf"), (by walk_at "hf"), (by walk_at "sz"), fun p hp => ?_⟩
  | refine ⟨(_ : Addr), (_ : Addr), (_ : List V), (_ : List V), rfl, rfl, (by walk_at "hf"), (by walk_at "hf"), (by walk_at "sz"), ?_⟩
  | refine ⟨(_ : Addr), (_ : List V), (_ : Int), (_ : Nat), rfl, rfl, (by walk_at "hf"), (by rfl), ?_⟩
  | refine And.intro ⟨_, (by walk_at "sql" : SqL _ _ _ _)⟩ ?_
  | refine And.intro ⟨_, (by walk_at "sqt" : SqT _ _ _ _)⟩ ?_
  | refine And.intro (.inl ⟨rfl, _, SqL.of' (by walk_at "hf")⟩) ?_
  | refine And.intro (by walk_at "cond") ?_
  | exact .inl ⟨rfl, _, SqL.of' (by walk_at "hf")⟩
  | with_reducible refine iteT ?_
  | with_reducible refine iteF ?_
  | refine And.intro (by rfl : scal _ _ = true) ?_
  | refine And.intro (by rfl : _ = V.non) ?_
  | refine And.intro (by rfl : wipe _ _ = wipe _ _) ?_
  | refine And.intro (by rfl : (_ : List V) = []) ?_
  | refine ⟨(_ : Addr), (_ : List V), rfl, (by walk_at "sqt" : SqT _ _ _ _), (by rfl), ?_⟩)
/-- a test: known, or both ways -/
local macro_rules | `(tactic| walk_at "if") => `(tactic| first
  | with_reducible refine itD (by omega) ?_
  | with_reducible refine itN (by omega) ?_
  | with_reducible refine itnD (by omega) ?_
  | with_reducible refine itnN (by omega) ?_
  | with_reducible refine itE (by omega) ?_
  | with_reducible refine itEn (by omega) ?_
  | with_reducible refine itnE (by omega) ?_
  | with_reducible refine itnEn (by omega) ?_
  | with_reducible refine itN (by intro z; cases z) ?_
  | with_reducible refine itD (by decide) ?_
  | with_reducible refine itN (by decide) ?_
  | with_reducible refine itnD (by decide) ?_
  | with_reducible refine itnN (by decide) ?_)
local macro_rules | `(tactic| walk_at "if2") => `(tactic| first
  | with_reducible refine itS (fun z => ?_) (fun z => ?_)
  | with_reducible refine itS' (fun z => ?_) (fun z => ?_)
  | with_reducible refine itSE (fun z => ?_) (fun z => ?_)
  | with_reducible refine itnS (fun z => ?_) (fun z => ?_)
  | with_reducible refine itnS' (fun z => ?_) (fun z => ?_)
  | with_reducible refine itnSE (fun z => ?_) (fun z => ?_))
local macro_rules | `(tactic| walk_at "go") => `(tactic| repeat' (first | walk_at "rd" | walk_at "if" | walk_at "if2" | fail))
local macro_rules | `(tactic| walk_at "sz") => `(tactic| (rw [sizeLine_eq]; simp only [List.length_append, List.length_map, List.length_cons, List.length_nil]; omega))
local macro_rules | `(tactic| walk_at "cond") => `(tactic| first | assumption | (show (_ : Int) ≠ 0; first | omega | (split <;> omega)) | (show (0 : Int) < _; first | assumption | decide) | exact ⟨by decide, by decide, by decide⟩ | exact .inr ⟨by decide, by decide⟩ | exact wide_div (b := 64) (by assumption) (by omega) (by decide) (by decide) | exact ⟨by decide, by decide⟩)


/-! ### the properties of a made town -/
def spGet (C : Addr) (f : Str) : Sp := fun vs H Q _ => ∃ (x dx : Addr) (fs : List (Str × V)) (v : V), vs = [.ref x] ∧ H x = some (.ins C dx fs) ∧ fs.lookup f = some v ∧ Q v H
def spLives (K : PySem.W.Frag) (C : Addr) : Sp := fun vs H Q _ => ∃ (x dx t : Addr) (c : Int) (ls : List Lk), vs = [.ref x] ∧ H x = some (.ins C dx (tF c t)) ∧ Ls K H t ls ∧ ls.length ≤ 1000 ∧
  ∀ p H', Same H H' → SqT K H' p (ls.map fun l => V.int l.2.2.2) → Q (.ref p) H'
section
variable {P : Program} {w : World} {K : PySem.W.Frag} {mg : Str → Option Value} {base : Heap} {C pS gS : Addr}
theorem scPc : FnScope ["self"] ["self"] (L2.defScope sPc) := ⟨rfl, rfl, rfl, by decide +kernel, rfl, by decide +kernel, by decide +kernel⟩
theorem ok_Pc {g : Addr} {fd : FuncData} (F : L2.Fun K "place_count" "Town.place_count" sPc g fd) (TT : PTown K mg C pS gS) : FnOk P w K mg base L2.CX0 1 g fd ["self"] (spGet C "_count") := by
  refine F.ok scPc (fun vs H Q E h => ?_) (fun cdv A outer s H vs Q E hr h => ?_)
  · obtain ⟨x, dx, fs, v, rfl, _⟩ := h; rfl
  · obtain ⟨x, dx, fs, v, rfl, hx, hv, q⟩ := h
    exact ⟨_, pss_one (ps_ret (pe_fld (pv 0) rfl)), _, rfl, x, C, dx, fs, v, rfl, hx, TT.cl, TT.nC, hv, q⟩
theorem scBr : FnScope ["self"] ["self"] (L2.defScope sBr) := ⟨rfl, rfl, rfl, by decide +kernel, rfl, by decide +kernel, by decide +kernel⟩
theorem ok_Br {g : Addr} {fd : FuncData} (F : L2.Fun K "bridges" "Town.bridges" sBr g fd) (TT : PTown K mg C pS gS) : FnOk P w K mg base L2.CX0 1 g fd ["self"] (spGet C "_bridges") := by
  refine F.ok scBr (fun vs H Q E h => ?_) (fun cdv A outer s H vs Q E hr h => ?_)
  · obtain ⟨x, dx, fs, v, rfl, _⟩ := h; rfl
  · obtain ⟨x, dx, fs, v, rfl, hx, hv, q⟩ := h
    exact ⟨_, pss_one (ps_ret (pe_fld (pv 0) rfl)), _, rfl, x, C, dx, fs, v, rfl, hx, TT.cl, TT.nB, hv, q⟩
end
end T1

set_option Elab.async false
set_option linter.all false
set_option maxRecDepth 100000
set_option maxHeartbeats 4000000
namespace T2
open PySem PySem.Spec PyProof.Rows L2
/-! ### words that are numbers -/
def dig (c : Nat) : Bool := decide (48 ≤ c) && decide (c ≤ 57)
def goodL : List Nat → Bool
  | [] => false
  | [c] => dig c
  | c :: r => (dig c && r.all dig) && !decide (c = 48)
def goodW (w : Str) : Bool := goodL (TL.tl w)
def isNumW (w : Str) : Bool := Txt.isascii w && (Txt.isdigit w && (decide (w = "0") || !Txt.startswith w "0"))
theorem dig_iff {c : Nat} : dig c = true ↔ 48 ≤ c ∧ c ≤ 57 := by unfold dig; rw [Bool.and_eq_true, decide_eq_true_eq, decide_eq_true_eq]
theorem goodL_all : ∀ {l : List Nat}, goodL l = true → l ≠ [] ∧ l.all dig = true
  | [], h => by cases h
  | [c], h => ⟨by simp, by simpa [goodL] using h⟩
  | c :: d :: r, h => ⟨by simp, by
    unfold goodL at h
    rw [Bool.and_eq_true] at h
    exact h.1⟩
theorem uni_dig {c : Nat} (h : c < 128) : Unicode.isDigit c = dig c := by
  have e := PySem.W.os_isdigit h
  unfold Txt.isdigit at e
  simpa [Str.length, dig] using e
theorem all_arr {a : Array Nat} {p : Nat → Bool} : a.all p = a.toList.all p := by rw [Array.all_toList]
theorem ascii_iff {w : Str} : Txt.isascii w = true ↔ ∀ c ∈ TL.tl w, c < 128 := by
  unfold Txt.isascii TL.tl
  rw [all_arr, List.all_eq_true]
  exact ⟨fun h c hc => of_decide_eq_true (h c hc), fun h c hc => decide_eq_true (h c hc)⟩
theorem digit_iff {w : Str} (ha : ∀ c ∈ TL.tl w, c < 128) : Txt.isdigit w = true ↔ TL.tl w ≠ [] ∧ (TL.tl w).all dig = true := by
  unfold Txt.isdigit
  rw [Bool.and_eq_true, all_arr, List.all_eq_true, List.all_eq_true, TL.len_tl, decide_eq_true_eq]
  constructor
  · rintro ⟨h1, h2⟩
    exact ⟨fun e => by rw [e] at h1; simp at h1, fun c hc => by rw [← uni_dig (ha c hc)]; exact h2 c hc⟩
  · rintro ⟨h1, h2⟩
    exact ⟨List.length_pos_iff.mpr h1, fun c hc => by rw [uni_dig (ha c hc)]; exact h2 c hc⟩
theorem tl_zero : TL.tl "0" = [48] := by decide +kernel
theorem zero_iff {w : Str} : w = "0" ↔ TL.tl w = [48] := ⟨fun h => by rw [h]; exact tl_zero, fun h => TL.ext_tl (by rw [h, tl_zero])⟩

theorem starts_zero {w : Str} : Txt.startswith w "0" = true ↔ (TL.tl w).head? = some 48 := by
  unfold Txt.startswith
  have hl : ("0" : Str).length = 1 := by rw [TL.len_tl, tl_zero]; rfl
  rw [hl, Bool.and_eq_true, PySem.StrLaws.subAt_eq, hl, List.drop_zero, TL.len_tl, show ("0" : Str).cps.toList = [48] from tl_zero]
  show _ ∧ ((TL.tl w).take 1 == [48]) = true ↔ _
  cases TL.tl w with
  | nil => simp
  | cons c r => simp
theorem isNumW_good (w : Str) : isNumW w = goodW w := by
  rw [Bool.eq_iff_iff]
  unfold isNumW goodW
  rw [Bool.and_eq_true, Bool.and_eq_true, Bool.or_eq_true, decide_eq_true_eq, Bool.not_eq_true', ← Bool.not_eq_true, starts_zero, zero_iff]
  constructor
  · rintro ⟨h1, h2, h3⟩
    obtain ⟨n0, h2⟩ := (digit_iff (ascii_iff.mp h1)).mp h2
    cases e : TL.tl w with
    | nil => exact absurd e n0
    | cons c r =>
      rw [e] at h2 h3
      cases r with
      | nil =>
        unfold goodL
        simpa using h2
      | cons d r =>
        unfold goodL
        rw [Bool.and_eq_true]
        refine ⟨h2, ?_⟩
        rcases h3 with h3 | h3
        · cases h3
        · rw [Bool.not_eq_true', decide_eq_false_iff_not]
          exact fun z => h3 (by rw [z]; rfl)
  · intro h
    obtain ⟨n0, h2⟩ := goodL_all h
    have ha : ∀ c ∈ TL.tl w, c < 128 := fun c hc => by
      have := dig_iff.mp (List.all_eq_true.mp h2 c hc)
      omega
    refine ⟨ascii_iff.mpr ha, (digit_iff ha).mpr ⟨n0, h2⟩, ?_⟩
    cases e : TL.tl w with
    | nil => exact absurd e n0
    | cons c r =>
      rw [e] at h
      cases r with
      | nil =>
        by_cases hc : c = 48
        · exact .inl (by rw [hc])
        · exact .inr (fun z => hc (by simpa using z))
      | cons d r =>
        unfold goodL at h
        rw [Bool.and_eq_true, Bool.not_eq_true', decide_eq_false_iff_not] at h
        exact .inr (fun z => h.2 (by simpa using z))
/-! ### their worth -/
def numL (l : List Nat) : Int := ((NumText.digitsVal l : Nat) : Int)
def numV (w : Str) : Int := numL (TL.tl w)
theorem numL_nn (l : List Nat) : 0 ≤ numL l := Int.natCast_nonneg _
theorem all_digits {l : List Nat} (h : l.all dig = true) : NumText.AllDigits l := fun c hc => dig_iff.mp (List.all_eq_true.mp h c hc)
theorem int_good {w : Str} (h : goodW w = true) (hl : w.length ≤ 640) : intText? w = some (numV w) := by
  obtain ⟨n0, ha⟩ := goodL_all h
  exact intText_digits (all_digits ha) n0 (by omega)
theorem cut20_tl (w : Str) : TL.tl (cutS w none (some 20)) = (TL.tl w).take 20 := by
  show (((w.cps.toList.drop (HT.sIx w.length 0 none)).take (HT.sIx w.length w.length (some 20) - HT.sIx w.length 0 none)).toArray).toList = _
  rw [HT.sIx_none, List.drop_zero, Nat.sub_zero, show (some 20 : Option Int) = some ((20 : Nat) : Int) from rfl, HT.sIx_nat]
  show (w.cps.toList.take _) = _
  rw [TL.len_tl]
  by_cases h : 20 ≤ (TL.tl w).length
  · rw [Nat.min_eq_left h]
  · rw [Nat.min_eq_right (by omega), List.take_of_length_le (Nat.le_refl _), List.take_of_length_le (by omega)]
/-- what the program takes for the worth: that of the first twenty signs -/
def num20 (w : Str) : Int := numL ((TL.tl w).take 20)
theorem num20_eq {w : Str} (h : w.length ≤ 20) : num20 w = numV w := by unfold num20 numV; rw [List.take_of_length_le (by rw [← TL.len_tl]; exact h)]
theorem int_cut {w : Str} (h : goodW w = true) : intText? (cutS w none (some 20)) = some (num20 w) := by
  obtain ⟨n0, ha⟩ := goodL_all h
  have e := cut20_tl w
  have := intText_digits (x := cutS w none (some 20)) (by
    show NumText.AllDigits (TL.tl _)
    rw [e]
    exact all_digits (List.all_eq_true.mpr fun c hc => List.all_eq_true.mp ha c (List.mem_of_mem_take hc))) (by
    show TL.tl _ ≠ []
    rw [e]
    intro z
    cases q : TL.tl w with
    | nil => exact n0 q
    | cons c r => rw [q] at z; cases z) (by rw [TL.len_tl, e, List.length_take]; omega)
  rw [this]
  show some (numL (TL.tl _)) = _
  rw [e]
  rfl
theorem cut20_len (w : Str) : (cutS w none (some 20)).length ≤ 20 := by rw [TL.len_tl, cut20_tl, List.length_take]; omega
/-! ### a line -/
/-- the program's way through a line's words and its form's -/
def goR : List Str → List Str → Option (List Int)
  | w :: ws, p :: ps => if p = "N" ∧ isNumW w = true then (goR ws ps).map (num20 w :: ·) else if p = "N" ∨ w ≠ p then none else goR ws ps
  | _, _ => some []
theorem goR_cons (w : Str) (ws : List Str) (p : Str) (ps : List Str) : goR (w :: ws) (p :: ps) = if p = "N" ∧ isNumW w = true then (goR ws ps).map (num20 w :: ·) else if p = "N" ∨ w ≠ p then none else goR ws ps := rfl
def readN (line form : Str) : Option (List Int) := if (Txt.split line " ").length ≠ (Txt.split form " ").length then none else goR (Txt.split line " ") (Txt.split form " ")
end T2

set_option Elab.async false
set_option linter.all false
set_option maxRecDepth 100000
set_option maxHeartbeats 4000000
namespace T1
open PySem PySem.Spec PyProof.Rows L2 C8 T2
/-! ### the forms of lines -/
theorem split_pl : Txt.split "places N" " " = (["places", "N"] : List Str) := by decide +kernel
theorem split_br : Txt.split "bridge N N N N" " " = (["bridge", "N", "N", "N", "N"] : List Str) := by decide +kernel
def lineP (f : Str → Int) : List Str → Option Int
  | [k, a] => if k = "places" ∧ goodW a = true then some (f a) else none
  | _ => none
def lineB (f : Str → Int) : List Str → Option Lk
  | [k, a, b, c, d] => if k = "bridge" ∧ goodW a = true ∧ goodW b = true ∧ goodW c = true ∧ goodW d = true then some (f a, f b, f c, f d) else none
  | _ => none
def lkI (l : Lk) : List Int := [l.1, l.2.1, l.2.2.1, l.2.2.2]
theorem pl_N : ("places" : Str) ≠ "N" := by decide +kernel
theorem br_N : ("bridge" : Str) ≠ "N" := by decide +kernel
theorem goR_N (w : Str) (ws ps : List Str) : goR (w :: ws) ("N" :: ps) = if goodW w = true then (goR ws ps).map (num20 w :: ·) else none := by
  rw [goR_cons, isNumW_good]
  by_cases h : goodW w = true
  · rw [if_pos ⟨rfl, h⟩, if_pos h]
  · rw [if_neg (fun z => h z.2), if_neg h, if_pos (.inl rfl)]
theorem goR_K {p : Str} (hp : p ≠ "N") (w : Str) (ws ps : List Str) : goR (w :: ws) (p :: ps) = if w = p then goR ws ps else none := by
  rw [goR_cons, if_neg (fun z => hp z.1)]
  by_cases h : w = p
  · rw [if_neg (by rintro (z | z); exact hp z; exact z h), if_pos h]
  · rw [if_pos (.inr h), if_neg h]
theorem readN_pl (line : Str) : readN line "places N" = (lineP num20 (Txt.split line " ")).map fun a => [a] := by
  unfold readN
  rw [split_pl]
  generalize Txt.split line " " = ws
  match ws with
  | [] => rfl
  | [_] => rfl
  | [k, a] =>
    rw [if_neg (by simp), goR_K pl_N, goR_N]
    unfold lineP
    by_cases h1 : k = "places" <;> by_cases h2 : goodW a = true <;> simp [h1, h2, goR]
  | _ :: _ :: _ :: r =>
    rw [if_pos (by simp)]
    rfl
theorem readN_br (line : Str) : readN line "bridge N N N N" = (lineB num20 (Txt.split line " ")).map lkI := by
  unfold readN
  rw [split_br]
  generalize Txt.split line " " = ws
  match ws with
  | [] => rfl
  | [_] => rfl
  | [_, _] => rfl
  | [_, _, _] => rfl
  | [_, _, _, _] => rfl
  | [k, a, b, c, d] =>
    rw [if_neg (by simp), goR_K br_N, goR_N, goR_N, goR_N, goR_N]
    unfold lineB
    by_cases h1 : k = "bridge" <;> by_cases h2 : goodW a = true <;> by_cases h3 : goodW b = true <;> by_cases h4 : goodW c = true <;> by_cases h5 : goodW d = true <;> simp [h1, h2, h3, h4, h5, goR, lkI]
  | _ :: _ :: _ :: _ :: _ :: _ :: r =>
    rw [if_pos (by simp)]
    rfl
/-! ### a whole text -/
inductive Rd where
  | text (r : Nat)
  | town (p : Str) (i : Int)
  | good (c : Int) (ls : List Lk)
def rowsB (f : Str → Int) : Nat → List (List Str) → Except Nat (List Lk)
  | _, [] => .ok []
  | k, x :: r => match lineB f x with
    | none => .error k
    | some l => match rowsB f (k + 1) r with
      | .error e => .error e
      | .ok ls => .ok (l :: ls)
def bad2 (c : Int) (ls : List Lk) : Rd := match firstBad c ls with
  | some r => .town r.1 r.2
  | none => .good c ls
def readW (f : Str → Int) : List (List Str) → Rd
  | [] => .text 0
  | x :: r => match lineP f x with
    | none => .text 0
    | some c => match rowsB f 1 r with
      | .error k => .text k
      | .ok ls => bad2 c ls
def wordsOf (t : Str) : List (List Str) := (Txt.split t "\n").map fun l => Txt.split l " "
/-- with words of at most twenty signs both readings are one -/
theorem lineP_20 {ws : List Str} (h : ∀ w ∈ ws, w.length ≤ 20) : lineP num20 ws = lineP numV ws := by
  unfold lineP
  split
  · rename_i k a
    rw [num20_eq (h a (by simp))]
  · rfl
theorem lineB_20 {ws : List Str} (h : ∀ w ∈ ws, w.length ≤ 20) : lineB num20 ws = lineB numV ws := by
  unfold lineB
  split
  · rename_i k a b c d
    rw [num20_eq (h a (by simp)), num20_eq (h b (by simp)), num20_eq (h c (by simp)), num20_eq (h d (by simp))]
  · rfl
theorem rowsB_20 : ∀ {ls : List (List Str)} {k : Nat}, (∀ ws ∈ ls, ∀ w ∈ ws, w.length ≤ 20) → rowsB num20 k ls = rowsB numV k ls
  | [], _, _ => rfl
  | x :: r, k, h => by
    unfold rowsB
    rw [lineB_20 (h x List.mem_cons_self), rowsB_20 fun ws hw => h ws (List.mem_cons_of_mem _ hw)]
theorem readW_20 {ls : List (List Str)} (h : ∀ ws ∈ ls, ∀ w ∈ ws, w.length ≤ 20) : readW num20 ls = readW numV ls := by
  unfold readW
  match ls with
  | [] => rfl
  | x :: r =>
    simp only
    rw [lineP_20 (h x List.mem_cons_self), rowsB_20 fun ws hw => h ws (List.mem_cons_of_mem _ hw)]
/-! ### by rows -/
theorem rowsB_bad {f : Str → Int} : ∀ {ls : List (List Str)} {k j : Nat} {x : List Str}, (∀ (i : Nat) (y : List Str), i < j → ls[i]? = some y → (lineB f y).isSome = true) → ls[j]? = some x → lineB f x = none → rowsB f k ls = .error (k + j)
  | [], _, _, _, _, e, _ => by simp at e
  | y :: r, k, 0, x, _, e, hb => by
    have e' : y = x := by simpa using e
    subst e'
    unfold rowsB
    rw [hb]
    rfl
  | y :: r, k, j + 1, x, h, e, hb => by
    have h0 := h 0 y (Nat.succ_pos _) rfl
    obtain ⟨l, hl⟩ := Option.isSome_iff_exists.mp h0
    unfold rowsB
    rw [hl]
    simp only
    rw [rowsB_bad (k := k + 1) (j := j) (x := x) (fun i z hi e => h (i + 1) z (by omega) (by simpa using e)) (by simpa using e) hb]
    rw [show k + 1 + j = k + (j + 1) by omega]
theorem rowsB_ok {f : Str → Int} : ∀ {ls : List (List Str)} {k : Nat}, (∀ (i : Nat) (y : List Str), ls[i]? = some y → (lineB f y).isSome = true) → ∃ lk, rowsB f k ls = .ok lk ∧ ls.map (lineB f) = lk.map some
  | [], _, _ => ⟨[], rfl, rfl⟩
  | y :: r, k, h => by
    obtain ⟨l, hl⟩ := Option.isSome_iff_exists.mp (h 0 y rfl)
    obtain ⟨lk, h1, h2⟩ := rowsB_ok (ls := r) (k := k + 1) fun i z e => h (i + 1) z (by simpa using e)
    refine ⟨l :: lk, ?_, by rw [List.map_cons, List.map_cons, hl, h2]⟩
    unfold rowsB
    rw [hl]
    simp only
    rw [h1]
end T1

set_option Elab.async false
set_option linter.all false
set_option maxRecDepth 100000
set_option maxHeartbeats 4000000
namespace T1
open PySem PySem.Spec PyProof.Rows L2 C8 Fm
/-! ### the drawing state, first in the memory -/
structure Dr where
  m : Int
  k : Int
  xs : List Int
def Dr.ok (d : Dr) : Prop := 0 ≤ d.m ∧ d.m < 2147483647 ∧ 0 ≤ d.k ∧ d.xs.length ≤ 63
def dm (d : Dr) (g : Mem) : Mem := .lst (d.xs.map Tr.int) :: .lst [.int d.m, .ref 0, .int d.k] :: g
theorem dm_app {d : Dr} {g h : Mem} : dm d (g ++ h) = dm d g ++ h := rfl
theorem dm_len {d : Dr} {g : Mem} : List.length (dm d g) = List.length g + 2 := rfl
theorem dm_at {d : Dr} {g h : Mem} {k : Nat} : (dm d g ++ h)[List.length g + (k + 2)]? = h[k]? := by
  have := at_k (M := dm d g) (g := h) (k := k)
  rw [dm_len, Nat.add_assoc, Nat.add_comm 2 k] at this
  exact this
theorem dm_set {d : Dr} {g h : Mem} {k : Nat} {o : O} : (dm d g ++ h).set (List.length g + (k + 2)) o = dm d g ++ h.set k o := by
  have := set_k (M := dm d g) (g := h) (k := k) (o := o)
  rw [dm_len, Nat.add_assoc, Nat.add_comm 2 k] at this
  exact this
section
variable {K : PySem.W.Frag} {H : Hp} {ρ : List Addr}
theorem rts_ints : ∀ ys : List Int, RTs K H ρ (ys.map Tr.int) (ys.map V.int)
  | [] => RTs.nil
  | y :: ys => RTs.cons RT.int_ (rts_ints ys)
theorem rts_ints_inv : ∀ {ys : List Int} {vs : List V}, RTs K H ρ (ys.map Tr.int) vs → vs = ys.map V.int
  | [], _, h => by unfold RTs at h; exact h
  | y :: ys, _, h => by
    unfold RTs at h
    obtain ⟨x, zs, rfl, h1, h2⟩ := h
    rw [h1.int_inv, rts_ints_inv (ys := ys) h2]
    rfl
def fsNext : FSp := fun ts M P _ => ∃ n d g, ts = [.ref 1, .int n] ∧ M = dm d g ∧ d.ok ∧ 0 < n ∧ n ≤ 2000000000000000000 ∧ ∀ r d', d'.ok → 0 ≤ r → r < n → P (.int r) (dm d' g)
theorem simNext : SimSp K spNext fsNext := ⟨fun {H ρ M ts vs P PX Q E} r m h o x => by
  obtain ⟨n, d, g, rfl, rfl, ok, n0, n1, q⟩ := h
  obtain ⟨x1, x2, rfl, r1, r2⟩ := r.two
  obtain ⟨ah, h1, rfl⟩ := r1.ref_inv
  cases r2.int_inv
  obtain ⟨as, s1, xs0, s2, s3⟩ := m.at_ 0 _ rfl
  obtain ⟨ah', h2, ys0, h3, h4⟩ := m.at_ 1 _ rfl
  rw [h1] at h2
  cases h2
  rw [rts_ints_inv s3] at s2
  have e : ys0 = [.int d.m, .ref as, .int d.k] := by
    unfold RTs at h4
    obtain ⟨y1, z1, rfl, k1, h4⟩ := h4
    unfold RTs at h4
    obtain ⟨y2, z2, rfl, k2, h4⟩ := h4
    obtain ⟨y3, rfl, k3⟩ := h4.one
    obtain ⟨as', k4, rfl⟩ := k2.ref_inv
    rw [s1] at k4
    cases k4
    rw [k1.int_inv, k3.int_inv]
  subst e
  have st0 : LSt H ah as := ⟨d.m, d.k, d.xs, h3, s2, ok⟩
  refine ⟨ah, as, n, rfl, st0, n0, n1, fun r H' r0 r1 st bu => ?_⟩
  obtain ⟨m', k', xs', e1, e2, b⟩ := st.ex
  have mh : ah ∈ ρ := List.mem_of_getElem? h1
  have ms : as ∈ ρ := List.mem_of_getElem? s1
  have gr : Grow K H ρ H' ρ := ⟨⟨[], by simp⟩, fun _ _ t => bu.tup st0 t, fun a o e n _ => bu a o (fun z => n (z ▸ mh)) (fun z => n (z ▸ ms)) e, fun _ h n => absurd h n, fun c q e => bu _ _ (ne_of e h3 (fun z => by unfold LamX.CodeO at z; cases z)) (ne_of e s2 (fun z => by unfold LamX.CodeO at z; cases z)) e⟩
  refine o (.int r) (.int r) H' ρ (dm ⟨m', k', xs'⟩ g) gr ⟨m.len, fun j u eu => ?_, m.nd⟩ RT.int_ (q r ⟨m', k', xs'⟩ b r0 r1)
  match j, eu with
  | 0, eu =>
    cases eu
    exact ⟨as, s1, _, e2, rts_ints _⟩
  | 1, eu =>
    cases eu
    exact ⟨ah, h1, _, e1, RTs.cons RT.int_ (RTs.cons (by unfold RT; exact ⟨as, s1, rfl⟩) (RTs.cons RT.int_ RTs.nil))⟩
  | j + 2, eu =>
    obtain ⟨a, h5, h6⟩ := m.at_ (j + 2) u eu
    have n1 : a ≠ ah := fun z => by
      have := nodup_ix m.nd h5 (z ▸ h1)
      omega
    have n2 : a ≠ as := fun z => by
      have := nodup_ix m.nd h5 (z ▸ s1)
      omega
    have ka : H' a = H a := by
      cases u with
      | lst us => obtain ⟨xs, z, _⟩ := h6; rw [z]; exact bu _ _ n1 n2 z
      | ins C fs => obtain ⟨dx, gs, z, _⟩ := h6; rw [z]; exact bu _ _ n1 n2 z
      | tab P q => obtain ⟨rfl, ps, z, _⟩ := h6; rw [z]; exact bu _ _ n1 n2 z
    exact ⟨a, h5, h6.mono gr ka fun d z => bu _ _ (ne_of z h3 (fun z => nomatch z)) (ne_of z s2 (fun z => nomatch z)) z⟩⟩
/-! ### links, towns -/
def lkT (l : Lk) : Tr := .tup [.int l.1, .int l.2.1, .int l.2.2.1, .int l.2.2.2]
theorem lk_sq {l : Lk} {x : V} (r : RT K H ρ (lkT l) x) : ∃ a, x = .ref a ∧ SqT K H a (lv l) := by
  obtain ⟨a, xs, rfl, h1, h2⟩ := r.tup_inv
  refine ⟨a, rfl, ?_⟩
  have e : xs = lv l := by
    have := rts_ints_inv (K := K) (H := H) (ρ := ρ) (ys := [l.1, l.2.1, l.2.2.1, l.2.2.2]) h2
    rw [this]
    rfl
  rw [← e]
  exact h1
theorem lks_ll : ∀ {ls : List Lk} {vs : List V}, RTs K H ρ (ls.map lkT) vs → LL K H vs ls
  | [], _, h => by
    unfold RTs at h
    subst h
    exact LL.nil
  | l :: ls, _, h => by
    unfold RTs at h
    obtain ⟨x, ys, rfl, h1, h2⟩ := h
    obtain ⟨a, rfl, ha⟩ := lk_sq h1
    have r := lks_ll (ls := ls) h2
    refine ⟨by simp [r.1], fun j m g => ?_⟩
    match j, g with
    | 0, g =>
      cases g
      exact ⟨a, rfl, ha⟩
    | j + 1, g =>
      obtain ⟨c, g1, g2⟩ := r.2 j m (by simpa using g)
      exact ⟨c, by simpa using g1, g2⟩
theorem lks_ls {ls : List Lk} {x : V} (r : RT K H ρ (.tup (ls.map lkT)) x) : ∃ t, x = .ref t ∧ Ls K H t ls := by
  obtain ⟨a, xs, rfl, h1, h2⟩ := r.tup_inv
  exact ⟨a, rfl, xs, h1, lks_ll h2⟩
theorem bel_lks {n : Nat} : ∀ ls : List Lk, Tr.bels n (ls.map lkT) = true
  | [] => rfl
  | l :: ls => by
    rw [List.map_cons]
    unfold Tr.bels
    rw [Bool.and_eq_true]
    exact ⟨rfl, bel_lks ls⟩
/-- what stands in a made town -/
def tFT (c : Int) (ls : List Lk) : List (Str × Tr) := [("_count", .int c), ("_bridges", .tup (ls.map lkT))]
theorem tF_is (c : Int) (t : Addr) : tF c t = ([("_count", V.int c), ("_bridges", V.ref t)] : List (Str × V)) := by
  unfold tF
  simp only [putF]
  rw [if_neg (by decide +kernel)]
theorem same_grow {H' : Hp} {M : Mem} (sm : Same H H') (m : RM K H ρ M) : Grow K H ρ H' ρ ∧ RM K H' ρ M := by
  have g : Grow K H ρ H' ρ := ⟨⟨[], by simp⟩, fun _ _ t => Same.tup sm t, fun a o e _ _ => sm a o e, fun _ h n => absurd h n, fun c q e => sm _ _ e⟩
  refine ⟨g, m.len, fun k o e => ?_, m.nd⟩
  obtain ⟨a, h1, h2⟩ := m.at_ k o e
  refine ⟨a, h1, h2.mono g ?_ fun d q => sm _ _ q⟩
  cases o with
  | lst ts => obtain ⟨xs, z, _⟩ := h2; rw [z]; exact sm _ _ z
  | ins C fs => obtain ⟨dx, gs, z, _⟩ := h2; rw [z]; exact sm _ _ z
  | tab P q => obtain ⟨rfl, ps, z, _⟩ := h2; rw [z]; exact sm _ _ z
/-- InvalidTown's own fields -/
def itT (p : Str) (i : Int) : List (Str × Tr) := [("index", .int i), ("part", .str p)]
def fsTi (C CT : Addr) : FSp := fun ts M P PX => ∃ n c ls, ts = [.ref n, .int c, .tup (ls.map lkT)] ∧ M[n]? = some (.ins C []) ∧ ls.length ≤ 1000 ∧
  (∀ r, firstBad c ls = some r → PX CT (itT r.1 r.2) M) ∧ (firstBad c ls = none → P .non (M.set n (.ins C (tFT c ls))))
theorem simTi {C CT : Addr} : SimSp K (spTi K C CT) (fsTi C CT) := ⟨fun {H ρ M ts vs P PX Q E} r m h o x => by
  obtain ⟨n, c, ls, rfl, hn, hl, k1, k2⟩ := h
  unfold RTs at r
  obtain ⟨v1, w1, rfl, r1, r⟩ := r
  obtain ⟨v2, v3, rfl, r2, r3⟩ := r.two
  obtain ⟨b, h1, rfl⟩ := r1.ref_inv
  cases r2.int_inv
  obtain ⟨t, rfl, hls⟩ := lks_ls r3
  obtain ⟨b', h2, dx, gs, h3, h4, h5⟩ := m.at_ n _ hn
  rw [h1] at h2
  cases h2
  have h5 : gs = [] := h5
  subst h5
  refine ⟨b, dx, t, c, ls, rfl, h3, hls, hl, fun q hq d H' sm hd hx => ?_, fun hf H' old hx => ?_⟩
  · obtain ⟨g, m'⟩ := same_grow sm m
    exact x CT (itT q.1 q.2) (some d) H' ρ M g m' (.inr ⟨d, _, rfl, hx, _, _, rfl, RT.int_, _, _, rfl, RT.str_, rfl⟩) (k1 q hq)
  · have mb : b ∈ ρ := List.mem_of_getElem? h1
    have g : Grow K H ρ H' ρ := ⟨⟨[], by simp⟩, fun a xs q => by
      rcases q with (q | ⟨u, q⟩) | q
      · exact .inl (.inl (old _ _ (ne_of q h3 (fun z => nomatch z)) q))
      · exact .inl (.inr ⟨u, old _ _ (ne_of q h3 (fun z => nomatch z)) q⟩)
      · exact .inr q, fun a u e na _ => old a u (fun z => na (z ▸ mb)) e, fun _ h n => absurd h n, fun c q e => old _ _ (ne_of e h3 (fun z => by unfold LamX.CodeO at z; cases z)) e⟩
    refine o .non .non H' ρ _ g ⟨by rw [List.length_set]; exact m.len, fun k u e => ?_, m.nd⟩ RT.non_ (k2 hf)
    by_cases hk : n = k
    · subst hk
      rw [List.getElem?_set_self (List.getElem?_eq_some_iff.mp hn).1] at e
      cases e
      refine ⟨b, h1, dx, _, hx, old _ _ (ne_of h4 h3 (fun z => nomatch z)) h4, ?_⟩
      rw [tF_is]
      exact ⟨_, _, rfl, RT.int_, _, _, rfl, r3.mono g, rfl⟩
    · rw [List.getElem?_set_ne hk] at e
      obtain ⟨a, q1, q2⟩ := m.at_ k u e
      have na : a ≠ b := fun z => hk (nodup_ix m.nd h1 (z ▸ q1))
      refine ⟨a, q1, q2.mono g ?_ fun d q => old _ _ (ne_of q h3 (fun z => nomatch z)) q⟩
      cases u with
      | lst ts => obtain ⟨xs, z, _⟩ := q2; rw [z]; exact old _ _ na z
      | ins C fs => obtain ⟨dx, gs, z, _⟩ := q2; rw [z]; exact old _ _ na z
      | tab P q => obtain ⟨rfl, ps, z, _⟩ := q2; rw [z]; exact old _ _ na z⟩
def fsGet (C : Addr) (f : Str) : FSp := fun ts M P _ => ∃ x n fs v, ts = [x] ∧ insAt M x = some (n, C, fs) ∧ fs.lookup f = some v ∧ P v M
theorem simGet {C : Addr} {f : Str} : SimSp K (spGet C f) (fsGet C f) := ⟨fun {H ρ M ts vs P PX Q E} r m h o x => by
  obtain ⟨x, n, fs, v, rfl, e, lk, p⟩ := h
  obtain ⟨xv, rfl, rx⟩ := r.one
  obtain ⟨a, dx, gs, rfl, h1, h2, rfl, h3, h4, h5⟩ := insAt_ok m rx e
  obtain ⟨w, k1, k2⟩ := h5.look lk
  exact ⟨a, dx, gs, w, rfl, h3, k1, o _ _ _ _ _ Grow.refl m k2 p⟩⟩
end
end T1

set_option Elab.async false
set_option linter.all false
set_option maxRecDepth 100000
set_option maxHeartbeats 4000000
namespace T1
open PySem PySem.Spec PyProof.Rows L2 C8 Fm
local macro_rules | `(tactic| walk_at "hf") => `(tactic| (fail_if_success (show (fun _ => none : Hp) _ = _)); first | assumption | with_reducible exact upd_same | ((with_reducible show upd _ _ _ _ = _); first | exact up_new' (by assumption) (by walk_at "hf") | exact up_set (by walk_at "ne") (by walk_at "hf")) | exact Same.at' (by assumption) (by walk_at "hf") | exact But.at' (by assumption) (by walk_at "ne") (by walk_at "ne") (by walk_at "hf"))
local macro_rules | `(tactic| walk_at "hf0") => `(tactic| (fail_if_success (show (fun _ => none : Hp) _ = _)); first | assumption | with_reducible exact upd_same | ((with_reducible show upd _ _ _ _ = _); exact up_new' (by assumption) (by walk_at "hf0")))
local macro_rules | `(tactic| walk_at "ne") => `(tactic| first | assumption | (apply Ne.symm; assumption) | exact ne_of_none' (by assumption) (by walk_at "hf0") | exact Ne.symm (ne_of_none' (by assumption) (by walk_at "hf0")) | exact LSt.f1 (by assumption) (by walk_at "lst") | exact LSt.f2 (by assumption) (by walk_at "lst"))
local macro_rules | `(tactic| walk_at "sqt") => `(tactic| (fail_if_success (show SqT _ (fun _ => none) _ _)); first | assumption | exact SqT.of' (by walk_at "hf") | ((with_reducible show SqT _ (upd _ _ _) _ _); first | exact SqT.new' (by assumption) (by walk_at "sqt") | exact SqT.put' (by walk_at "hf") (by walk_at "sqt")) | exact Same.tup (by assumption) (by walk_at "sqt") | exact But.tup (by assumption) (by walk_at "lst") (by walk_at "sqt"))
local macro_rules | `(tactic| walk_at "sql") => `(tactic| (fail_if_success (show SqL _ (fun _ => none) _ _)); first | assumption | exact SqL.of' (by walk_at "hf") | ((with_reducible show SqL _ (upd _ _ _) _ _); exact SqL.new' (by assumption) (by walk_at "sql")) | exact Same.sql' (by assumption) (by walk_at "sql"))
local macro_rules | `(tactic| walk_at "lst") => `(tactic| (fail_if_success (show LSt (fun _ => none) _ _)); first | assumption | ((with_reducible show LSt (upd _ _ _) _ _); first | exact LSt.new (by walk_at "lst") (by assumption) | exact LSt.put (by walk_at "lst") (by walk_at "ne") (by walk_at "ne")) | exact LSt.same' (by assumption) (by walk_at "lst"))
local macro_rules | `(tactic| walk_at "but") => `(tactic| first | assumption | exact But.refl _ _ _ | ((with_reducible show But _ _ _ (upd _ _ _)); exact But.nw (by assumption) (by walk_at "but")) | exact But.bu (by assumption) (by walk_at "but") | exact But.sm (by assumption) (by walk_at "but"))
local macro_rules | `(tactic| walk_at "ls") => `(tactic| first | assumption | exact Ls.same (by walk_at "ls") (Same.upd' (by assumption)))
local macro_rules | `(tactic| walk_at "ll") => `(tactic| first | assumption | exact LL.same (by walk_at "ll") (Same.upd' (by assumption)) | exact LL.same' (by assumption) (by walk_at "ll") | exact LL.but' (by assumption) (by walk_at "lst") (by walk_at "ll"))
local macro_rules | `(tactic| walk_at "sm") => `(tactic| first | assumption | exact Same.refl _ | ((with_reducible show Same _ (upd _ _ _)); first | exact Same.put' (by assumption) (by walk_at "sm") | exact Same.trans (by walk_at "sm") (Same.upd' (by assumption))) | exact Same.trans (by walk_at "sm") (by assumption))
/-- one step of a reading -/
local macro_rules | `(tactic| walk_at "rd") => `(tactic| first
  | with_reducible refine iteF ?_
  | with_reducible refine iteT ?_
  | with_reducible refine itNotF ?_
  | with_reducible refine itNotT ?_
  | refine ⟨_, rfl, ?_⟩
  | refine ⟨_, _, rfl, rfl, ?_⟩
  | refine ⟨_, _, rfl, ?_⟩
  | refine ⟨(_ : Addr), (_ : List V), (_ : Int), (_ : V), rfl, rfl, SqL.of' (by walk_at "hf"), (by first | assumption | rfl), ?_⟩
  | refine ⟨(_ : Addr), (_ : List V), (_ : Int), (_ : V), rfl, rfl, (by walk_at "sqt" : SqT _ _ _ _), (by first | assumption | rfl), ?_⟩
  | refine .inl ⟨_, rfl, ?_⟩
  | refine ⟨_, _, rfl, .inl (by walk_at "sql" : SqL _ _ _ _), ?_⟩
  | refine ⟨_, _, rfl, .inl ⟨(by walk_at "sql" : SqL _ _ _ _), fun p hp => ?_⟩⟩
  | refine ⟨_, _, rfl, .inr ⟨(by walk_at "sqt" : SqT _ _ _ _), ?_⟩⟩
  | refine fun (p : Addr) (hp : (_ : Hp) p = none) => ?_
  | refine ⟨_, _, rfl, .inr (by walk_at "sqt" : SqT _ _ _ _), ?_⟩
  | refine And.intro (by show _ ≤ sizeLine; first | decide | walk_at "sz") (fun p hp => ?_)
  | refine ⟨(_ : Addr), (_ : Addr), (_ : List V), (_ : List V), rfl, rfl, (by walk_at "hf"), (by walk_at "hf"), (by walk_at "sz"), fun p hp => ?_⟩
  | refine ⟨(_ : Addr), (_ : Addr), (_ : List V), (_ : List V), rfl, rfl, (by walk_at "hf"), (by walk_at "hf"), (by walk_at "sz"), ?_⟩
  | refine ⟨(_ : Addr), (_ : List V), (_ : Int), (_ : Nat), rfl, rfl, (by walk_at "hf"), (by rfl), ?_⟩
  | refine And.intro ⟨_, (by walk_at "sql" : SqL _ _ _ _)⟩ ?_
  | refine And.intro ⟨_, (by walk_at "sqt" : SqT _ _ _ _)⟩ ?_
  | refine And.intro (.inl ⟨rfl, _, SqL.of' (by walk_at "hf")⟩) ?_
  | refine And.intro (by walk_at "cond") ?_
  | exact .inl ⟨rfl, _, SqL.of' (by walk_at "hf")⟩
  | with_reducible refine iteT ?_
  | with_reducible refine iteF ?_
  | refine And.intro (by rfl : scal _ _ = true) ?_
  | refine And.intro (by rfl : _ = V.non) ?_
  | refine And.intro (by rfl : wipe _ _ = wipe _ _) ?_
  | refine And.intro (by rfl : (_ : List V) = []) ?_
  | refine ⟨(_ : Addr), (_ : List V), rfl, (by walk_at "sqt" : SqT _ _ _ _), (by rfl), ?_⟩)
/-- a test: known, or both ways -/
local macro_rules | `(tactic| walk_at "if") => `(tactic| first
  | with_reducible refine itD (by omega) ?_
  | with_reducible refine itN (by omega) ?_
  | with_reducible refine itnD (by omega) ?_
  | with_reducible refine itnN (by omega) ?_
  | with_reducible refine itE (by omega) ?_
  | with_reducible refine itEn (by omega) ?_
  | with_reducible refine itnE (by omega) ?_
  | with_reducible refine itnEn (by omega) ?_
  | with_reducible refine itN (by intro z; cases z) ?_
  | with_reducible refine itD (by decide) ?_
  | with_reducible refine itN (by decide) ?_
  | with_reducible refine itnD (by decide) ?_
  | with_reducible refine itnN (by decide) ?_)
local macro_rules | `(tactic| walk_at "if2") => `(tactic| first
  | with_reducible refine itS (fun z => ?_) (fun z => ?_)
  | with_reducible refine itS' (fun z => ?_) (fun z => ?_)
  | with_reducible refine itSE (fun z => ?_) (fun z => ?_)
  | with_reducible refine itnS (fun z => ?_) (fun z => ?_)
  | with_reducible refine itnS' (fun z => ?_) (fun z => ?_)
  | with_reducible refine itnSE (fun z => ?_) (fun z => ?_))
local macro_rules | `(tactic| walk_at "go") => `(tactic| repeat' (first | walk_at "rd" | walk_at "if" | walk_at "if2" | fail))
local macro_rules | `(tactic| walk_at "sz") => `(tactic| (rw [sizeLine_eq]; simp only [List.length_append, List.length_map, List.length_cons, List.length_nil]; omega))
local macro_rules | `(tactic| walk_at "cond") => `(tactic| first | assumption | (show (_ : Int) ≠ 0; first | omega | (split <;> omega)) | (show (0 : Int) < _; first | assumption | decide) | exact ⟨by decide, by decide, by decide⟩ | exact .inr ⟨by decide, by decide⟩ | exact wide_div (b := 64) (by assumption) (by omega) (by decide) (by decide) | exact ⟨by decide, by decide⟩)


local macro_rules | `(tactic| walk_at "sim1") => `(tactic| with_reducible first
  | exact sim_nil | exact sim_var | exact sim_int | exact sim_str | exact sim_bl | exact sim_non | exact sim_raw
  | apply sim_cons | apply sim_op | apply sim_un | apply sim_tup | apply sim_lst
  | apply sim_CB | apply sim_if | apply sim_test | apply sim_B | apply sim_not | apply sim_and | apply sim_or
  | apply sim_andV | apply sim_orV | apply sim_notV | apply sim_chain | exact sim_nopart | apply sim_part
  | apply sim_sl | apply sim_BML | apply sim_BMS | apply sim_BM0S | apply sim_M1 | apply sim_M0
  | apply sim_fmt | apply sim_joined | exact SimJ.nil | apply SimJ.cons
  | exact s_I0i | exact s_I0b | exact s_Ii | exact s_Ui | exact s_eq | exact s_ne | exact s_isN | exact s_notN | exact s_ixL | exact s_ixT | exact s_ixS
  | exact s_cat | exact s_catA | exact s_rep | exact s_repT | exact s_in | exact s_slL | exact s_slA | exact s_slS | exact s_addS | exact s_leS | exact s_ltS
  | exact c_len | exact c_lenS | exact c_list | exact c_tuple | exact c_int1 | exact c_intS | exact c_strI | exact c_max2 | exact c_min2
  | exact m_append | exact m_extend | exact m_split | exact m_join | exact m_0b | exact m_1b
  | apply sim_call | exact simSpF
  | exact sim_name | exact sim_gnil | apply sim_gcons | apply sim_gtup | apply sim_gsub | exact set_list
  | exact sim_next | apply sim_seq | apply sim_cut | exact sim_break | exact sim_cont | apply sim_drop | apply sim_ret | exact sim_retN
  | apply sim_ifS | exact sim_never | apply sim_asg | apply sim_par | apply sim_aug
  | apply sim_for | apply sim_while | apply i_list | apply i_tup | apply i_rng1 | apply i_rng2 | apply i_str | apply i_enum | apply i_zip
  | apply sim_lc | exact sim_yes | exact sim_namew (by decide) | exact sim_gnilw | apply sim_gconsw | apply sim_gtupw
  | apply sim_fld | apply sim_con | apply sim_setFld | apply sim_make | apply sim_prop | apply sim_meth | apply sim_cmeth | exact c_isi | apply sim_isiT | exact s_eqD | exact s_neD
  | walk_at "sim2")
local macro_rules | `(tactic| walk_at "sim2") => `(tactic| fail)
local macro_rules | `(tactic| walk_at "sim") => `(tactic| repeat' (walk_at "sim1"))
/-- open the trees' reading as far as it goes by itself -/
local macro_rules | `(tactic| walk_at "fm") => `(tactic| simp (config := { failIfUnchanged := false }) only [fVar, fC, fOp, fUn, fNil, fCons, fTup, fLst, fCB, fIf, fTest, fNot, fAnd, fOr, fAndV, fOrV, fNotV, fChain, fNoPart, fPart, fI, fI0, fU, fEq, fNe, fIsN, fNotN, fIxL, fIxT, fIxS,
  fCat, fCatA, fRep, fRepT, fSlL, fSlA, fSlS, fSl, fLen, fLenS, fList, fTuple, fIntS, fStrI, fMax2, fMin2, fAppend, fExtend, fIn, fBM, fMS, fBMS, fBM0S, fAddS, fLeS, fLtS, fM0b, fM1b, fSplit, fJoin, fJoined, fJs,
  fName, fGNil, fGCons, fGTup, fSetL, fGSub, fNext, fSeq, fCut, fBreak, fCont, fDrop, fRet, fRetN, fIfS, fAsg, fPar, fAug, fCall, fFld, fCon, fSetFld, fMake, fProp, fMeth, fCMeth, fIsi, fIsiT, fEqD, fNeD, insAt_ref, insO_ins, fFmt, fmtS_i, fmtS_s, fmtOk_i, fmtOk_s, fIL, fIT, fIR1, fIR2, fIS, fIEn, fIZ,
  startL, List.map_cons, List.map_nil, List.length_cons, List.length_nil, List.cons_append, List.nil_append, List.replicate, List.getElem?_cons_zero, List.getElem?_cons_succ, List.set_cons_zero, List.set_cons_succ, Nat.reduceSub, Nat.reduceAdd,
  Option.some.injEq, Tr.int.injEq, Tr.str.injEq, Tr.bl.injEq, Tr.tup.injEq, Tr.ref.injEq, List.cons.injEq, exists_eq_left, exists_eq_left', exists_eq_right, true_and, and_true, and_self, exists_and_left, tupOf_tup, eqS_ii, eqS_ss, eqS_bb, eqS_ni, eqS_in, eqS_nn, isStr_s, isN_n, isN_i, isN_b, isN_s, isN_t, isN_r, noRaw_n, noRaw_i, noRaw_b, noRaw_s, noRaw_t, noRaw_r, and_assoc, reduceIte, Bool.false_eq_true, exists_const, lstAt_ref, seqAt_ref, seqAt_tup, refAt_ref, lstO_lst, app_assoc2, len_app1, at_kk, at_00, set_k, set_00, Nat.add_assoc, Option.map_some, Prod.mk.injEq, int_cast_inj, Nat.zero_le, decide_eq_true_eq, Bool.not_eq_true', decide_eq_false_iff_not, Nat.add_zero, implies_true, forall_const, ite_true, ite_false, if_true, if_false, decide_true, decide_false, Bool.not_true, Bool.not_false, asg_len, Option.isSome_some])
local macro_rules | `(tactic| walk_at "bel") => `(tactic| first | rfl | (simp (config := { failIfUnchanged := false }) only [belM, O.bel, bels_strs, bels_ints, belL, Tr.bel, Tr.bels, Bool.and_true, Bool.true_and, Bool.and_self, decide_eq_true_eq, Bool.and_eq_true, true_and, and_true, List.length_cons, List.length_nil, Nat.reduceAdd]; try omega))

abbrev sIXi : Stmt := L2.inClass (top 4) 0
abbrev sTx : Stmt := L2.inClass (top 22) 7
abbrev sPa : Stmt := L2.inClass (top 22) 9
/-- InvalidText -/
structure ProgX (K : PySem.W.Frag) (mg : Str → Option Value) (CX fX : Addr) : Prop where
  gX : mg "InvalidText" = some (.ref CX)
  ox : OexC K CX
  iX : PySem.W.findIn K (.ref CX) "__init__" = some (some (.ref fX))
  tX : PySem.W.typeIn K (.ref fX) = some (.type "function")
  nR : PySem.W.findIn K (.ref CX) "row" = some none
def ixF (i : Int) : List (Str × V) := [("row", .int i)]
def spIXi (K : PySem.W.Frag) (CX : Addr) : Sp := fun vs H Q _ => ∃ (a : Addr) (i : Int), vs = [.ref a, .int i] ∧ H a = some (exo a CX none) ∧ 0 ≤ i ∧ i ≤ 1000000 ∧
  ∀ dx H', H dx = none → dx ≠ a → H' a = some (exo a CX (some dx)) → H' dx = some (exd dx (ixF i)) → (∀ b o, b ≠ a → H b = some o → H' b = some o) → Q .non H'
section
variable {P : Program} {w : World} {K : PySem.W.Frag} {mg : Str → Option Value} {base : Heap} {CB CT fT C CX fX : Addr} {mB : Value}
theorem scIXi : FnScope ["self", "row"] ["self", "row"] (L2.defScope sIXi) := ⟨rfl, rfl, rfl, by decide +kernel, rfl, by decide +kernel, by decide +kernel⟩
theorem ok_IXi {fd : FuncData} (F : L2.Fun K "__init__" "InvalidText.__init__" sIXi fX fd) (T : Prog K mg CB CT fT C mB) (TX : ProgX K mg CX fX) : FnOk P w K mg base L2.CX0 1 fX fd ["self", "row"] (spIXi K CX) := by
  refine F.ok scIXi (fun vs H Q E h => ?_) (fun cdv A outer s H vs Q E hr h => ?_)
  · obtain ⟨a, i, rfl, _⟩ := h; rfl
  · obtain ⟨a, i, rfl, ha, i0, i1, q⟩ := h
    refine ⟨_, pss_cons (ps_expr (pe_beinit (by rfl) T.gB T.rdB T.sgB T.inB (pa_cons (pv 0) (pa_cons (pe_joined (PJ.cons pe_str (PJ.cons (pe_fmt (pv 1)) PJ.nil))) pa_nil))))
      (pss_one (ps_ost (pv 0) (pv 1))), ?_⟩
    have L0 : (Str.empty : Str).length = 0 := rfl
    have L1 : ("invalid text: row " : Str).length = 18 := by decide +kernel
    have L3 : (Str.ofString (toString i)).length ≤ 7 := PyProof.Rows.toString_length_le i0 (by decide) (by omega)
    have lg : i.natAbs.log2 < 1920 := Nat.lt_of_lt_of_le (PySem.Flt.log2_lt_of (k := 20) (by decide) (by omega)) (by decide)
    walk_at "go"
    refine ⟨by rw [sizeLine_eq, Str.length_append, L0, L1]; omega, _, rfl, .inr ⟨i, rfl, lg, _, rfl, by rw [sizeLine_eq, Str.length_append, Str.length_append, L0, L1]; omega, ?_⟩⟩
    refine ⟨a, CX, _, rfl, by show 1 ≤ 1000; decide, TX.ox, ha, ?_⟩
    refine ⟨_, rfl, _, rfl, a, CX, rfl, TX.ox, TX.nR, .inl ⟨ha, fun dx hdx nda => ?_⟩⟩
    exact q dx _ hdx nda (by first | exact upd_same | exact up_set (Ne.symm nda) upd_same) (by first | exact upd_same | exact up_set nda upd_same) fun b o nb e => by first | exact up_set nb (up_new e hdx) | exact up_set (ne_of_none e hdx) (up_set nb e)
theorem raise_ix {H1 : Hp} {i : Int} {Wk : XK} (i0 : 0 ≤ i) (i1 : i ≤ 1000000) (k : ∀ d H', Same H1 H' → H1 d = none → H' d = some (.xd (ixF i)) → Wk (.ref CX) (some d) H') :
    ([V.int i] : List V).length ≤ 1000 ∧ ∀ a, H1 a = none → spIXi K CX (.ref a :: ([.int i] ++ [])) (upd H1 a (exo a CX none))
      (fun v H2 => v = .non ∧ ∃ (d : Addr) (fs : List (Str × V)), H2 a = some (exo a CX (some d)) ∧ H2 d = some (exd d fs) ∧ H1 d = none ∧ Wk (.ref CX) (some d) (upd (L2.del H2 a) d (.xd fs))) (fun _ _ _ => False) := by
  refine ⟨by show 1 ≤ 1000; decide, fun a ha => ⟨a, i, rfl, upd_same, i0, i1, fun dx H' hdx nda e1 e2 old => ?_⟩⟩
  rw [upd_ne nda] at hdx
  refine ⟨rfl, dx, ixF i, e1, e2, hdx, k dx _ (fun b o e => ?_) hdx upd_same⟩
  have nba : b ≠ a := ne_of_none e ha
  have nbd : b ≠ dx := ne_of_none e hdx
  rw [upd_ne nbd, L2.del_ne nba]
  exact old b o nba (up_new e ha)
/-- raise InvalidText(row) -/
def ixT (i : Int) : List (Str × Tr) := [("row", .int i)]
def fRaiseX (CX : Addr) (PX : PXF) (fa : FA) : FS := fun _ L M => fa L M fun ts M1 => ∃ i : Int, ts = [.int i] ∧ 0 ≤ i ∧ i ≤ 1000000 ∧ PX CX (ixT i) M1
theorem sim_raiseX {B : Bs} {E : XK} {PX : PXF} {as : TA} {fs : FA} (hE : OutX K B.1 B.2 PX E) (a : SimA K B as fs) : SimS K B (fun _ σ H => tMkO CX (spIXi K CX) [] as σ H fun cls d H' => E cls d H') (fRaiseX CX PX fs) :=
  ⟨fun hl hm h e => a.run hl hm h fun ts xs H1 ρ1 M1 g1 m1 rx ⟨i, et, i0, i1, p⟩ => by
    subst et
    obtain ⟨x, rfl, r1⟩ := rx.one
    cases r1.int_inv
    refine raise_ix i0 i1 fun d H' sm hd hx => ?_
    obtain ⟨g2, m2⟩ := same_grow sm m1
    exact hE CX (ixT i) (some d) H' ρ1 M1 ((hl.gr.trans g1).trans g2) m2 (.inr ⟨d, _, rfl, hx, _, _, rfl, RT.int_, rfl⟩) p⟩
/-- C(..) by a variable that holds the class -/
theorem pe_makeV {X : Cx} {CX : CXT} {k i : Nat} {f C : Addr} {fd : FuncData} {ps : List Str} {ds : List Value} {dvs : List V} {sp : Sp} {E : XK} {x : Str} {e : Expr} {es : List Expr} {t : TA} {p pos : Pos} (M : L2.Mk X.K C f) (F : FnOk X.prog X.w X.K X.mg X.base CX k f fd ps sp) (hr : Room (k + 1) X.A)
    (hN : X.N[i]? = some x) (hv : Vis X.env.scope x) (hb : Binds X.K fd ps ds) (hd : Vals dvs ds) (hx : L2.Passes CX X E) (ha : PA X (e :: es) t) (hdb : (x == ("__debug__" : Str)) = false := by decide) (hcd : (x == ("__classdict__" : Str)) = false := by decide)
    (he : starEach (e :: es) X.env = (false, eval e X.env) :: starEach es X.env := by rfl) (hpl : (backTo pos (starEach es X.env)).any (·.1) = false := by rfl) :
    PE X (.Call (.Name x p) (e :: es) [] pos) (fun σ H Q => σ[i]? = some (some (.ref C)) ∧ tMake C sp dvs E t σ H Q) := by
  refine ⟨fun pins s σ H Q I ⟨hs, h⟩ => ?_⟩
  refine wpAny_Call_Name_kw (thn ((pe_var (pos := p) (i := i) hN hv hdb hcd).run pins s σ H (fun v H1 => v = .ref C ∧ H1 = H) I ⟨.ref C, hs, rfl, rfl⟩) fun u s1 ⟨v, H1, I1, r1, ev, eH⟩ => ?_)
  subst ev
  rw [eH] at I1
  cases r1
  refine PySem.W.callWith_K (h₀ := X.base) I.ok.mod.kin M.kp (thn (ha.run pos pins s1 σ H _ I1 h) fun us s2 ⟨vs, H2, I2, r, q⟩ => ⟨I2.kIn, ?_⟩) he hpl
  exact run_make M F hr hb hd hx I2 r q
def fMakeV (i : Nat) (C : Addr) (fsp : FSp) (PX : PXF) (fa : FA) : FE := fun L M P => L[i]? = some (some (.raw (.ref C))) ∧ fMake C fsp PX fa L M P
theorem sim_makeVX {B : Bs} {i : Nat} {C : Addr} {sp : Sp} {fsp : FSp} {E : XK} {PX : PXF} {as : TA} {fs : FA} (hE : OutX K B.1 B.2 PX E) (s : SimSp K sp fsp) (a : SimA K B as fs) : SimE K B (fun σ H Q => σ[i]? = some (some (.ref C)) ∧ tMake C sp [] E as σ H Q) (fMakeV i C fsp PX fs) :=
  ⟨fun hl hm ⟨e, h⟩ o => by
    obtain ⟨x, h1, h2⟩ := hl.get e
    cases h2.raw_inv
    exact ⟨h1, (sim_makeX hE s a).run hl hm h o⟩⟩
end
end T1

set_option Elab.async false
set_option linter.all false
set_option maxRecDepth 100000
set_option maxHeartbeats 4000000
namespace T2
open PySem PySem.Spec PyProof.Rows L2 C8 Fm
def top (i : Nat) : Stmt := PySem.Challenge.pw_wornbridges_k02_whole_texts_of_towns.main.body.getD i (.Pass ⟨0, 0, 0, 0⟩)
abbrev sIsNum : Stmt := top 17
abbrev sNumOf : Stmt := top 18
abbrev sRead : Stmt := top 19
structure BT (mg : Str → Option Value) : Prop where
  len : mg "len" = none
  int : mg "int" = none
  max : mg "max" = none
  range : mg "range" = none
  list : mg "list" = none
  tuple : mg "tuple" = none
  isinstance : mg "isinstance" = none
  enumerate : mg "enumerate" = none
  dict : mg "dict" = none
  str : mg "str" = none
  bool : mg "bool" = none
  zip : mg "zip" = none
  g_MOST_DIGITS : ∃ u, mg "MOST_DIGITS" = some (.int 20 u)
local macro_rules | `(tactic| walk_at "sim1") => `(tactic| with_reducible first
  | exact sim_nil | exact sim_var | exact sim_int | exact sim_str | exact sim_bl | exact sim_non | exact sim_raw
  | apply sim_cons | apply sim_op | apply sim_un | apply sim_tup | apply sim_lst
  | apply sim_CB | apply sim_if | apply sim_test | apply sim_B | apply sim_not | apply sim_and | apply sim_or
  | apply sim_andV | apply sim_orV | apply sim_notV | apply sim_chain | exact sim_nopart | apply sim_part
  | apply sim_sl | apply sim_BML | apply sim_BMS | apply sim_BM0S | apply sim_M1 | apply sim_M0
  | apply sim_fmt | apply sim_joined | exact SimJ.nil | apply SimJ.cons
  | exact s_I0i | exact s_I0b | exact s_Ii | exact s_Ui | exact s_eq | exact s_ne | exact s_isN | exact s_notN | exact s_ixL | exact s_ixT | exact s_ixS
  | exact s_cat | exact s_catA | exact s_rep | exact s_repT | exact s_in | exact s_slL | exact s_slA | exact s_slS | exact s_addS | exact s_leS | exact s_ltS
  | exact c_len | exact c_lenS | exact c_list | exact c_tuple | exact c_int1 | exact c_intS | exact c_strI | exact c_max2 | exact c_min2
  | exact m_append | exact m_extend | exact m_split | exact m_join | exact m_0b | exact m_1b
  | apply sim_call | exact simSpF
  | exact sim_name | exact sim_gnil | apply sim_gcons | apply sim_gtup | apply sim_gsub | exact set_list
  | exact sim_next | apply sim_seq | apply sim_cut | exact sim_break | exact sim_cont | apply sim_drop | apply sim_ret | exact sim_retN
  | apply sim_ifS | exact sim_never | apply sim_asg | apply sim_par | apply sim_aug
  | apply sim_for | apply sim_while | apply i_list | apply i_tup | apply i_rng1 | apply i_rng2 | apply i_str | apply i_enum | apply i_zip
  | apply sim_lc | exact sim_yes | exact sim_namew (by decide) | exact sim_gnilw | apply sim_gconsw | apply sim_gtupw
  | apply sim_fld | apply sim_con | apply sim_setFld | apply sim_make | apply sim_prop | apply sim_meth | apply sim_cmeth | exact c_isi | apply sim_isiT | exact s_eqD | exact s_neD
  | walk_at "sim2")
local macro_rules | `(tactic| walk_at "sim2") => `(tactic| fail)
local macro_rules | `(tactic| walk_at "sim") => `(tactic| repeat' (walk_at "sim1"))
/-- open the trees' reading as far as it goes by itself -/
local macro_rules | `(tactic| walk_at "fm") => `(tactic| simp (config := { failIfUnchanged := false }) only [fVar, fC, fOp, fUn, fNil, fCons, fTup, fLst, fCB, fIf, fTest, fNot, fAnd, fOr, fAndV, fOrV, fNotV, fChain, fNoPart, fPart, fI, fI0, fU, fEq, fNe, fIsN, fNotN, fIxL, fIxT, fIxS,
  fCat, fCatA, fRep, fRepT, fSlL, fSlA, fSlS, fSl, fLen, fLenS, fList, fTuple, fIntS, fStrI, fMax2, fMin2, fAppend, fExtend, fIn, fBM, fMS, fBMS, fBM0S, fAddS, fLeS, fLtS, fM0b, fM1b, fSplit, fJoin, fJoined, fJs,
  fName, fGNil, fGCons, fGTup, fSetL, fGSub, fNext, fSeq, fCut, fBreak, fCont, fDrop, fRet, fRetN, fIfS, fAsg, fPar, fAug, fCall, fFld, fCon, fSetFld, fMake, fProp, fMeth, fCMeth, fIsi, fIsiT, fEqD, fNeD, insAt_ref, insO_ins, fFmt, fmtS_i, fmtS_s, fmtOk_i, fmtOk_s, fIL, fIT, fIR1, fIR2, fIS, fIEn, fIZ,
  startL, List.map_cons, List.map_nil, List.length_cons, List.length_nil, List.cons_append, List.nil_append, List.replicate, List.getElem?_cons_zero, List.getElem?_cons_succ, List.set_cons_zero, List.set_cons_succ, Nat.reduceSub, Nat.reduceAdd,
  Option.some.injEq, Tr.int.injEq, Tr.str.injEq, Tr.bl.injEq, Tr.tup.injEq, Tr.ref.injEq, List.cons.injEq, exists_eq_left, exists_eq_left', exists_eq_right, true_and, and_true, and_self, exists_and_left, tupOf_tup, eqS_ii, eqS_ss, eqS_bb, eqS_ni, eqS_in, eqS_nn, isStr_s, isN_n, isN_i, isN_b, isN_s, isN_t, isN_r, noRaw_n, noRaw_i, noRaw_b, noRaw_s, noRaw_t, noRaw_r, and_assoc, reduceIte, Bool.false_eq_true, exists_const, lstAt_ref, seqAt_ref, seqAt_tup, refAt_ref, lstO_lst, app_assoc2, len_app1, at_kk, at_00, set_k, set_00, Nat.add_assoc, Option.map_some, Prod.mk.injEq, int_cast_inj, Nat.zero_le, decide_eq_true_eq, Bool.not_eq_true', decide_eq_false_iff_not, Nat.add_zero, implies_true, forall_const, ite_true, ite_false, if_true, if_false, decide_true, decide_false, Bool.not_true, Bool.not_false, asg_len, Option.isSome_some])
local macro_rules | `(tactic| walk_at "bel") => `(tactic| first | rfl | (simp (config := { failIfUnchanged := false }) only [belM, O.bel, bels_strs, bels_ints, belL, Tr.bel, Tr.bels, Bool.and_true, Bool.true_and, Bool.and_self, decide_eq_true_eq, Bool.and_eq_true, true_and, and_true, List.length_cons, List.length_nil, Nat.reduceAdd]; try omega))

def fsIsNum : FSp := fun ts M P _ => ∃ w, ts = [.str w] ∧ P (.bl (isNumW w)) M
def fsNumOf : FSp := fun ts M P _ => ∃ w, ts = [.str w] ∧ goodW w = true ∧ w.length ≤ 1000000 ∧ P (.int (num20 w)) M
/-- None, or a new list behind whatever else has come to stand -/
def fsRead : FSp := fun ts M P _ => ∃ line form : Str, ts = [.str line, .str form] ∧ line.length ≤ 1000000 ∧ form.length ≤ 1000 ∧ (∀ w ∈ Txt.split line " ", w.length ≤ 1000000) ∧ (Txt.split line " ").length ≤ 1000000 ∧
  (readN line form = none → P .non M) ∧ ∀ ns, readN line form = some ns → ∀ g : Mem, belM 0 g = true → P (.ref (List.length M + g.length)) (M ++ (g ++ [.lst (ns.map Tr.int)]))
section
variable {P : Program} {w : World} {K : PySem.W.Frag} {mg : Str → Option Value} {base : Heap}
structure Cs (P : Program) (w : World) (K : PySem.W.Frag) (mg : Str → Option Value) (base : Heap) : Prop where
  is_number : Cal P w K mg base 1 "is_number" (spF K fsIsNum) []
  number_of : Cal P w K mg base 1 "number_of" (spF K fsNumOf) []
theorem scIsNum : FnScope ["word"] ["word"] (fnScope sIsNum) := fnScope_by (by decide +kernel)
theorem ok_isNum {f : Addr} {fd : FuncData} (F : Def K mg "is_number" sIsNum f fd) (b : Binds K fd ["word"] []) (T : BT mg) : Cal P w K mg base 1 "is_number" (spF K fsIsNum) [] := by
  refine cal0 F b .nil scIsNum (fun vs H Q E h => ?_) (fun cdv A outer s H vs Q E hr h => ?_)
  · obtain ⟨ts, ρ, M, P, PX, r, m, ⟨w, rfl, _⟩, o, ox⟩ := h
    exact r.len
  · refine ⟨_, (pss_one (ps_ret (pe_and (pe_bm0 PySem.F.plainAttrs_str PySem.F.slot_str_isascii PySem.F.type_str_isascii mt_isascii (pv 0)) (pe_and (pe_bm0 PySem.F.plainAttrs_str PySem.F.slot_str_isdigit PySem.F.type_str_isdigit mt_isdigit (pv 0)) (pe_one (pe_or (pe_cmpR op_eq (pv 0) pe_str (nomark _)) (pe_one (pe_not (pe_bm PySem.F.plainAttrs_str PySem.F.slot_str_startswith PySem.F.type_str_startswith mt_startswith (pv 0) (pa_cons pe_str pa_nil)))))))))), ?_⟩
    obtain ⟨ts, ρ, M, P, PX, r, m, ⟨w, rfl, q⟩, o, ox⟩ := h
    simp only [nox_K, cx_K]
    refine run_in r m o (by walk_at "sim") ?_
    walk_at "fm"
    have q' := keep_same m rfl q
    unfold isNumW at q'
    by_cases h3 : w = Str.ofString "0"
    · rw [decide_eq_true h3] at q'
      rw [if_pos h3]
      generalize Txt.isascii w = a at q' ⊢
      generalize Txt.isdigit w = b at q' ⊢
      cases a <;> cases b <;> exact q'
    · rw [decide_eq_false h3] at q'
      rw [if_neg h3]
      generalize Txt.isascii w = a at q' ⊢
      generalize Txt.isdigit w = b at q' ⊢
      cases a <;> cases b <;> exact q'
theorem scNumOf : FnScope ["word"] ["word"] (fnScope sNumOf) := fnScope_by (by decide +kernel)
theorem ok_numOf {f : Addr} {fd : FuncData} (F : Def K mg "number_of" sNumOf f fd) (b : Binds K fd ["word"] []) (T : BT mg) : Cal P w K mg base 1 "number_of" (spF K fsNumOf) [] := by
  refine cal0 F b .nil scNumOf (fun vs H Q E h => ?_) (fun cdv A outer s H vs Q E hr h => ?_)
  · obtain ⟨ts, ρ, M, P, PX, r, m, ⟨w, rfl, _⟩, o, ox⟩ := h
    exact r.len
  · obtain ⟨u, hu⟩ := T.g_MOST_DIGITS
    refine ⟨_, (pss_one (ps_ret (pe_callTy call_int_str (by rfl) T.int (by decide +kernel) (pa_cons (pe_slice sl_str (pv 0) po_none (po_some (pe_glob (v := .int 20) (by rfl) hu ⟨_, rfl⟩))) pa_nil)))), ?_⟩
    obtain ⟨ts, ρ, M, P, PX, r, m, ⟨w, rfl, hg, hl, q⟩, o, ox⟩ := h
    refine run_in r m o (by walk_at "sim") ?_
    walk_at "fm"
    have hz : w.length ≤ sizeLine := by rw [sizeLine_eq]; omega
    exact ⟨hz, _, int_cut hg, by have := cut20_len w; omega, keep_same m rfl q⟩
theorem scRead : FnScope ["line", "form", "words", "parts", "numbers", "word", "part"] ["line", "form"] (fnScope sRead) := fnScope_by (by decide +kernel)
theorem ok_read {f : Addr} {fd : FuncData} (F : Def K mg "read_numbers" sRead f fd) (b : Binds K fd ["line", "form"] []) (T : BT mg) (C : Cs P w K mg base) : Cal P w K mg base 2 "read_numbers" (spF K fsRead) [] := by
  refine cal0 F b .nil scRead (fun vs H Q E h => ?_) (fun cdv A outer s H vs Q E hr h => ?_)
  · obtain ⟨ts, ρ, M, P, PX, r, m, ⟨l, f, rfl, _⟩, o, ox⟩ := h
    exact r.len
  · refine ⟨_, (pss_cons (ps_set (i := 2) scRead.nd rfl (Or.inl rfl) (pe_split (pv 0) pe_str))
 (pss_cons (ps_set (i := 3) scRead.nd rfl (Or.inl rfl) (pe_split (pv 1) pe_str))
 (pss_cons (ps_if (pt_cmpR op_ne (pe_callB call_len_seq (by rfl) T.len PySem.boot_len (pa_cons (pv 2) pa_nil)) (pe_callB call_len_seq (by rfl) T.len PySem.boot_len (pa_cons (pv 3) pa_nil)) (nomark _)) (pss_one (ps_ret pe_non)) pss_nil)
 (pss_cons (ps_set (i := 4) scRead.nd rfl (Or.inl rfl) (pe_lst pa_nil))
 (pss_cons (ps_for PassesOwn.never rfl (pi_zip (by rfl) T.zip (pa_cons (pv 2) (pa_cons (pv 3) pa_nil))) (pg_tup rfl (pgs_cons (pg_name (i := 5) scRead.nd rfl (Or.inl rfl)) (pgs_cons (pg_name (i := 6) scRead.nd rfl (Or.inl rfl)) pgs_nil))) (pss_one (ps_if (PW.pt (pw_and (pt_cmpR op_eq (pv 6) pe_str (nomark _)) (pw_and1 (pt_val (pe_c C.is_number hr (by first | decide | omega) (by rfl) (pa_cons (pv 5) pa_nil)))))) (pss_one (ps_expr (pe_bm PySem.F.plainAttrs_list PySem.F.slot_list_append PySem.F.type_list_append mt_append (pv 4) (pa_cons (pe_c C.number_of hr (by first | decide | omega) (by rfl) (pa_cons (pv 5) pa_nil)) pa_nil)))) (pss_one (ps_if (PW.pt (pw_or (pt_cmpR op_eq (pv 6) pe_str (nomark _)) (pw_or1 (pt_cmpR op_ne (pv 5) (pv 6) (nomark _))))) (pss_one (ps_ret pe_non)) pss_nil)))))
 (pss_one (ps_ret (pv 4)))))))), ?_⟩
    obtain ⟨ts, ρ, M, P, PX, r, m, ⟨l, f, rfl, hl, hf, hw, hwl, q1, q2⟩, o, ox⟩ := h
    simp only [nox_K, cx_K]
    refine run_in r m o (by walk_at "sim") ?_
    walk_at "fm"
    refine ⟨rfl, by rw [sizeLine_eq]; omega, rfl, by rw [sizeLine_eq]; omega, ?_⟩
    rw [List.length_map, List.length_map]
    unfold readN at q1 q2
    generalize Txt.split l " " = ws at q1 q2 hw hwl ⊢
    generalize Txt.split f " " = ps at q1 q2 ⊢
    by_cases hlen : ws.length = ps.length
    · rw [if_neg (by simpa using hlen)] at q1 q2
      rw [if_neg (by simpa using hlen)]
      unfold fFor
      walk_at "fm"
      refine ⟨fun i L2 M2 => ∃ (acc : List Int) (w5 w6 : Option Tr), L2 = [some (.str l), some (.str f), some (.ref (List.length M)), some (.ref (List.length M + 1)), some (.ref (List.length M + 2)), w5, w6] ∧ M2 = M ++ [.lst (ws.map Tr.str), .lst (ps.map Tr.str), .lst (acc.map Tr.int)] ∧ acc.length ≤ i ∧ goR ws ps = (goR (ws.drop i) (ps.drop i)).map (acc ++ ·), ?_, ?_, ?_, ?_⟩
      · exact ⟨[], none, none, rfl, rfl, Nat.le_refl _, by cases h : goR ws ps <;> simp [h]⟩
      · rintro i L2 M2 hi ⟨acc, w5, w6, rfl, rfl, hacc, hg⟩
        walk_at "fm"
      · rintro i t L2 M2 ht ⟨acc, w5, w6, rfl, rfl, hacc, hg⟩
        obtain ⟨w, p, hw1, hp1, rfl⟩ := zip_strs ht
        rw [drop_at hw1, drop_at hp1, goR_cons] at hg
        have hwm := hw w (List.mem_of_getElem? hw1)
        have hi := (List.getElem?_eq_some_iff.mp hw1).1
        walk_at "fm"
        unfold fsIsNum fsNumOf
        walk_at "fm"
        by_cases hp : p = "N"
        · rw [if_pos hp]
          by_cases hn : isNumW w = true
          · rw [if_pos ⟨hp, hn⟩] at hg
            rw [if_pos hn]
            refine ⟨by rw [← isNumW_good]; exact hn, hwm, by rw [sizeLine_eq, List.length_map]; omega, ?_⟩
            refine forget_not (Nat.le_refl _) ⟨acc ++ [num20 w], _, _, rfl, by simp, by simp; omega, ?_⟩ (by walk_at "bel") m.belM (by simp [belM, O.bel, bels_strs]; rw [← List.map_singleton, ← List.map_append]; exact bels_ints _)
            rw [hg, Option.map_map]
            congr 1
            funext x
            simp
          · rw [if_neg (fun z => hn z.2), if_pos (.inl hp)] at hg
            rw [if_neg hn, if_pos hp]
            exact keep_app m rfl (q1 hg)
        · rw [if_neg hp, if_neg hp]
          rw [if_neg (fun z => hp z.1)] at hg
          by_cases hwp : w = p
          · rw [if_neg (by rintro (z | z); exact hp z; exact z hwp)] at hg
            rw [if_neg (by simpa using hwp)]
            refine forget_not (Nat.le_refl _) ⟨acc, _, _, rfl, rfl, by omega, hg⟩ (by walk_at "bel") m.belM (by walk_at "bel")
          · rw [if_pos (.inr hwp)] at hg
            rw [if_pos hwp]
            exact keep_app m rfl (q1 hg)
      · rintro L2 M2 ⟨acc, w5, w6, rfl, rfl, hacc, hg⟩
        rw [zipT_len, List.length_map, List.length_map, ← hlen, Nat.min_self] at hg
        rw [List.drop_of_length_le (Nat.le_refl _)] at hg
        walk_at "fm"
        have hg : goR ws ps = some acc := by rw [hg]; simp [goR]
        have q := q2 acc hg [.lst (ws.map Tr.str), .lst (ps.map Tr.str)] (by walk_at "bel")
        exact keep_whole (by simp) (by simp [Tr.bel]) (by simpa using belM_ext m.belM (g := [.lst (ws.map Tr.str), .lst (ps.map Tr.str), .lst (acc.map Tr.int)]) (by walk_at "bel")) q
    · rw [if_pos (by simpa using hlen)] at q1
      rw [if_pos (by simpa using hlen)]
      exact keep_app m rfl (q1 rfl)
end
end T2

set_option Elab.async false
set_option linter.all false
set_option maxRecDepth 100000
set_option maxHeartbeats 4000000
namespace T1
open PySem PySem.Spec PyProof.Rows L2 C8 Fm
local macro_rules | `(tactic| walk_at "sim1") => `(tactic| with_reducible first
  | exact sim_nil | exact sim_var | exact sim_int | exact sim_str | exact sim_bl | exact sim_non | exact sim_raw
  | apply sim_cons | apply sim_op | apply sim_un | apply sim_tup | apply sim_lst
  | apply sim_CB | apply sim_if | apply sim_test | apply sim_B | apply sim_not | apply sim_and | apply sim_or
  | apply sim_andV | apply sim_orV | apply sim_notV | apply sim_chain | exact sim_nopart | apply sim_part
  | apply sim_sl | apply sim_BML | apply sim_BMS | apply sim_BM0S | apply sim_M1 | apply sim_M0
  | apply sim_fmt | apply sim_joined | exact SimJ.nil | apply SimJ.cons
  | exact s_I0i | exact s_I0b | exact s_Ii | exact s_Ui | exact s_eq | exact s_ne | exact s_isN | exact s_notN | exact s_ixL | exact s_ixT | exact s_ixS
  | exact s_cat | exact s_catA | exact s_rep | exact s_repT | exact s_in | exact s_slL | exact s_slA | exact s_slS | exact s_addS | exact s_leS | exact s_ltS
  | exact c_len | exact c_lenS | exact c_list | exact c_tuple | exact c_int1 | exact c_intS | exact c_strI | exact c_max2 | exact c_min2
  | exact m_append | exact m_extend | exact m_split | exact m_join | exact m_0b | exact m_1b
  | apply sim_call | exact simSpF
  | exact sim_name | exact sim_gnil | apply sim_gcons | apply sim_gtup | apply sim_gsub | exact set_list
  | exact sim_next | apply sim_seq | apply sim_cut | exact sim_break | exact sim_cont | apply sim_drop | apply sim_ret | exact sim_retN
  | apply sim_ifS | exact sim_never | apply sim_asg | apply sim_par | apply sim_aug
  | apply sim_for | apply sim_while | apply i_list | apply i_tup | apply i_rng1 | apply i_rng2 | apply i_str | apply i_enum | apply i_zip
  | apply sim_lc | exact sim_yes | exact sim_namew (by decide) | exact sim_gnilw | apply sim_gconsw | apply sim_gtupw
  | apply sim_fld | apply sim_con | apply sim_setFld | apply sim_make | apply sim_prop | apply sim_meth | apply sim_cmeth | exact c_isi | apply sim_isiT | exact s_eqD | exact s_neD
  | walk_at "sim2")
local macro_rules | `(tactic| walk_at "sim2") => `(tactic| fail)
local macro_rules | `(tactic| walk_at "sim") => `(tactic| repeat' (walk_at "sim1"))
/-- open the trees' reading as far as it goes by itself -/
local macro_rules | `(tactic| walk_at "fm") => `(tactic| simp (config := { failIfUnchanged := false }) only [fVar, fC, fOp, fUn, fNil, fCons, fTup, fLst, fCB, fIf, fTest, fNot, fAnd, fOr, fAndV, fOrV, fNotV, fChain, fNoPart, fPart, fI, fI0, fU, fEq, fNe, fIsN, fNotN, fIxL, fIxT, fIxS,
  fCat, fCatA, fRep, fRepT, fSlL, fSlA, fSlS, fSl, fLen, fLenS, fList, fTuple, fIntS, fStrI, fMax2, fMin2, fAppend, fExtend, fIn, fBM, fMS, fBMS, fBM0S, fAddS, fLeS, fLtS, fM0b, fM1b, fSplit, fJoin, fJoined, fJs,
  fName, fGNil, fGCons, fGTup, fSetL, fGSub, fNext, fSeq, fCut, fBreak, fCont, fDrop, fRet, fRetN, fIfS, fAsg, fPar, fAug, fCall, fFld, fCon, fSetFld, fMake, fProp, fMeth, fCMeth, fIsi, fIsiT, fEqD, fNeD, insAt_ref, insO_ins, fFmt, fmtS_i, fmtS_s, fmtOk_i, fmtOk_s, fIL, fIT, fIR1, fIR2, fIS, fIEn, fIZ,
  startL, List.map_cons, List.map_nil, List.length_cons, List.length_nil, List.cons_append, List.nil_append, List.replicate, List.getElem?_cons_zero, List.getElem?_cons_succ, List.set_cons_zero, List.set_cons_succ, Nat.reduceSub, Nat.reduceAdd,
  Option.some.injEq, Tr.int.injEq, Tr.str.injEq, Tr.bl.injEq, Tr.tup.injEq, Tr.ref.injEq, List.cons.injEq, exists_eq_left, exists_eq_left', exists_eq_right, true_and, and_true, and_self, exists_and_left, tupOf_tup, eqS_ii, eqS_ss, eqS_bb, eqS_ni, eqS_in, eqS_nn, isStr_s, isN_n, isN_i, isN_b, isN_s, isN_t, isN_r, noRaw_n, noRaw_i, noRaw_b, noRaw_s, noRaw_t, noRaw_r, and_assoc, reduceIte, Bool.false_eq_true, exists_const, lstAt_ref, seqAt_ref, seqAt_tup, refAt_ref, lstO_lst, app_assoc2, len_app1, at_kk, at_00, set_k, set_00, Nat.add_assoc, Option.map_some, Prod.mk.injEq, int_cast_inj, Nat.zero_le, decide_eq_true_eq, Bool.not_eq_true', decide_eq_false_iff_not, Nat.add_zero, implies_true, forall_const, ite_true, ite_false, if_true, if_false, decide_true, decide_false, Bool.not_true, Bool.not_false, asg_len, Option.isSome_some])
local macro_rules | `(tactic| walk_at "bel") => `(tactic| first | rfl | (simp (config := { failIfUnchanged := false }) only [belM, O.bel, bels_strs, bels_ints, belL, Tr.bel, Tr.bels, Bool.and_true, Bool.true_and, Bool.and_self, decide_eq_true_eq, Bool.and_eq_true, true_and, and_true, List.length_cons, List.length_nil, Nat.reduceAdd]; try omega))

local macro_rules | `(tactic| walk_at "sim2") => `(tactic| first | exact simGet | exact simTi | exact simNext)
local macro_rules | `(tactic| walk_at "fm2") => `(tactic| simp (config := { failIfUnchanged := false }) only [dm_app, dm_len, dm_at, dm_set, lkT])
/-! ### a town's text -/
def lineS (l : Lk) : Str := Str.empty ++ "bridge " ++ toString l.1 ++ " " ++ toString l.2.1 ++ " " ++ toString l.2.2.1 ++ " " ++ toString l.2.2.2
def headS (c : Int) : Str := Str.empty ++ "places " ++ toString c
def townS (c : Int) (ls : List Lk) : Str := Txt.join "\n" (headS c :: ls.map lineS)
def smallL (l : Lk) : Prop := 0 ≤ l.1 ∧ l.1 ≤ 100 ∧ 0 ≤ l.2.1 ∧ l.2.1 ≤ 100 ∧ 0 ≤ l.2.2.1 ∧ l.2.2.1 ≤ 100 ∧ 0 ≤ l.2.2.2 ∧ l.2.2.2 ≤ 1000000000000000000
def fsText (C : Addr) : FSp := fun ts M P _ => ∃ n c ls, ts = [.ref n] ∧ M[n]? = some (.ins C (tFT c ls)) ∧ 0 ≤ c ∧ c ≤ 100 ∧ ls.length ≤ 100 ∧ (∀ l ∈ ls, smallL l) ∧ P (.str (townS c ls)) M
section
variable {P : Program} {w : World} {K : PySem.W.Frag} {mg : Str → Option Value} {base : Heap} {CB CT fT C CX fX pS gS : Addr} {mB : Value}
theorem map_take_snocS {ls : List Lk} {i : Nat} {l : Lk} (e : ls[i]? = some l) (f : Lk → Str) : (ls.take i).map f ++ [f l] = (ls.take (i + 1)).map f := by
  rw [List.take_succ, e, List.map_append] <;> rfl
theorem sum_le {b : Nat} : ∀ {ys : List Str}, (∀ y ∈ ys, y.length ≤ b) → (ys.map (·.length)).sum ≤ ys.length * b
  | [], _ => Nat.zero_le _
  | y :: ys, h => by
    have h1 := h y List.mem_cons_self
    have h2 := sum_le (ys := ys) fun z hz => h z (List.mem_cons_of_mem _ hz)
    rw [List.map_cons, List.sum_cons, List.length_cons, Nat.succ_mul]
    omega
theorem scTx : FnScope ["self", "lines", "one", "other", "length", "life"] ["self"] (L2.defScope sTx) := ⟨rfl, rfl, rfl, by decide +kernel, rfl, by decide +kernel, by decide +kernel⟩
theorem ok_Tx {g : Addr} {fd : FuncData} (F : L2.Fun K "text" "Town.text" sTx g fd) (TT : PTown K mg C pS gS) (T : BT mg) : FnOk P w K mg base L2.CX0 1 g fd ["self"] (spF K (fsText C)) := by
  refine F.ok scTx (fun vs H Q E h => ?_) (fun cdv A outer s H vs Q E hr h => ?_)
  · obtain ⟨ts, ρ, M, P, PX, r, m, ⟨n, c, ls, rfl, _⟩, o, ox⟩ := h
    exact r.len
  · refine ⟨_, (pss_cons (ps_set (i := 1) scTx.nd rfl (Or.inl rfl) (pe_lst (pa_cons (pe_joined (PJ.cons pe_str (PJ.cons (pe_fmt (pe_fld (pv 0) rfl)) PJ.nil))) pa_nil)))
 (pss_cons (ps_for PassesOwn.never rfl (pi_tup (pe_fld (pv 0) rfl)) (pg_tup rfl (pgs_cons (pg_name (i := 2) scTx.nd rfl (Or.inl rfl)) (pgs_cons (pg_name (i := 3) scTx.nd rfl (Or.inl rfl)) (pgs_cons (pg_name (i := 4) scTx.nd rfl (Or.inl rfl)) (pgs_cons (pg_name (i := 5) scTx.nd rfl (Or.inl rfl)) pgs_nil))))) (pss_one (ps_expr (pe_bm PySem.F.plainAttrs_list PySem.F.slot_list_append PySem.F.type_list_append mt_append (pv 1) (pa_cons (pe_joined (PJ.cons pe_str (PJ.cons (pe_fmt (pv 2)) (PJ.cons pe_str (PJ.cons (pe_fmt (pv 3)) (PJ.cons pe_str (PJ.cons (pe_fmt (pv 4)) (PJ.cons pe_str (PJ.cons (pe_fmt (pv 5)) PJ.nil))))))))) pa_nil)))))
 (pss_one (ps_ret (pe_join pe_str (pv 1)))))), ?_⟩
    obtain ⟨ts, ρ, M, P, PX, r, m, ⟨n, c, ls, rfl, hn, c0, c1, hl, hs, q⟩, o, ox⟩ := h
    simp only [nox_K, cx_K]
    refine run_in r m o (by walk_at "sim") ?_
    walk_at "fm"
    rw [hn]
    have z1 : ("places " : Str).length = 7 := by decide +kernel
    have z2 : ("bridge " : Str).length = 7 := by decide +kernel
    have z3 : (" " : Str).length = 1 := by decide +kernel
    have z0 : (Str.empty : Str).length = 0 := rfl
    have len3 : ∀ i : Int, 0 ≤ i → i ≤ 1000000000000000000 → (Str.ofString (toString i)).length ≤ 19 := fun i h0 h1 => PyProof.Rows.toString_length_le h0 (by decide) (by omega)
    have lg : ∀ i : Int, 0 ≤ i → i ≤ 1000000000000000000 → i.natAbs.log2 < 1920 := fun i h0 h1 => Nat.lt_of_lt_of_le (PySem.Flt.log2_lt_of (k := 64) (by decide) (by omega)) (by decide)
    walk_at "fm"
    have k1 := len3 c c0 (by omega)
    refine ⟨by rw [sizeLine_eq, Str.length_append, z0, z1]; omega, TT.cl, TT.nC, _, rfl, lg c c0 (by omega), by rw [fmtS_i, sizeLine_eq, Str.length_append, Str.length_append, z0, z1]; omega, by rw [sizeLine_eq]; decide, ?_⟩
    unfold fFor
    walk_at "fm"
    rw [at_left hn]
    walk_at "fm"
    refine ⟨TT.cl, TT.nB, _, rfl, _, rfl, fun i L2 M2 => ∃ v2 v3 v4 v5, L2 = [some (.ref n), some (.ref (List.length M)), v2, v3, v4, v5] ∧ M2 = M ++ [.lst ((headS c :: (ls.take i).map lineS).map Tr.str)], ⟨none, none, none, none, rfl, rfl⟩, ?_, ?_⟩
    · rintro i t L2 M2 ht ⟨v2, v3, v4, v5, rfl, rfl⟩
      rw [List.getElem?_map] at ht
      cases hl' : ls[i]? with
      | none => rw [hl'] at ht; cases ht
      | some l =>
        rw [hl'] at ht
        cases ht
        have sm := hs l (List.mem_of_getElem? hl')
        obtain ⟨a0, a1, b0, b1, d0, d1, e0, e1⟩ := sm
        have hi := (List.getElem?_eq_some_iff.mp hl').1
        have y1 := len3 l.1 a0 (by omega)
        have y2 := len3 l.2.1 b0 (by omega)
        have y3 := len3 l.2.2.1 d0 (by omega)
        have y4 := len3 l.2.2.2 e0 e1
        unfold lkT
        walk_at "fm"
        refine ⟨?_, lg l.1 a0 (by omega), ?_, ?_, lg l.2.1 b0 (by omega), ?_, ?_, lg l.2.2.1 d0 (by omega), ?_, ?_, lg l.2.2.2 e0 e1, ?_, ?_, ?_⟩
        case refine_10 =>
          refine forget_not (Nat.le_refl _) ⟨_, _, _, _, rfl, ?_⟩ (by simp only [belL, Tr.bel, Bool.and_true, Bool.and_eq_true, decide_eq_true_eq, List.length_cons, List.length_nil]; have := (List.getElem?_eq_some_iff.mp hn).1; omega) m.belM ?_
          · rw [← map_take_snocS hl' lineS, List.map_append (l₁ := (ls.take i).map lineS)]
            rfl
          · show (Tr.bels _ (Tr.str (headS c) :: (((ls.take i).map lineS).map Tr.str ++ [Tr.str (lineS l)])) && true) = true
            rw [Bool.and_true]
            refine Eq.trans (congrArg (Tr.bels _) ?_) (bels_strs (headS c :: ((ls.take i).map lineS ++ [lineS l])))
            rw [List.map_cons, List.map_append]
            rfl
        all_goals (rw [sizeLine_eq]; simp only [Str.length_append, z0, z1, z2, z3, List.length_map, List.length_take]; omega)
    · rintro L2 M2 ⟨v2, v3, v4, v5, rfl, rfl⟩
      walk_at "fm"
      rw [List.length_map, List.take_length]
      refine ⟨headS c :: ls.map lineS, rfl, ?_, keep_app m rfl q⟩
      have hb : ∀ y ∈ headS c :: ls.map lineS, y.length ≤ 100 := fun y hy => by
        rcases List.mem_cons.mp hy with rfl | hy
        · unfold headS
          rw [Str.length_append, Str.length_append, z0, z1]
          omega
        · obtain ⟨l, hl', rfl⟩ := List.mem_map.mp hy
          obtain ⟨a0, a1, b0, b1, d0, d1, e0, e1⟩ := hs l hl'
          have y1 := len3 l.1 a0 (by omega)
          have y2 := len3 l.2.1 b0 (by omega)
          have y3 := len3 l.2.2.1 d0 (by omega)
          have y4 := len3 l.2.2.2 e0 e1
          unfold lineS
          simp only [Str.length_append, z0, z2, z3]
          omega
      have h1 := sum_le hb
      have h2 : ("\n" : Str).length = 1 := by decide +kernel
      rw [h2]
      have h3 : (headS c :: ls.map lineS).length ≤ 101 := by simp; omega
      omega
end
end T1

set_option Elab.async false
set_option linter.all false
set_option maxRecDepth 100000
set_option maxHeartbeats 4000000
namespace T1
open PySem PySem.Spec PyProof.Rows L2 T2
/-! ### the sizes of parts -/
theorem tl_nl : TL.tl "\n" = [10] := by decide +kernel
theorem tl_sp : TL.tl " " = [32] := by decide +kernel
theorem len_nl : ("\n" : Str).length = 1 := by decide +kernel
theorem len_sp : (" " : Str).length = 1 := by decide +kernel
theorem sum_ge {ys : List Str} : ∀ y ∈ ys, y.length ≤ (ys.map (·.length)).sum := by
  induction ys with
  | nil => intro y h; cases h
  | cons a r ih =>
    intro y h
    rw [List.map_cons, List.sum_cons]
    rcases List.mem_cons.mp h with rfl | h
    · exact Nat.le_add_right _ _
    · exact Nat.le_trans (ih y h) (Nat.le_add_left _ _)
theorem split_len {x y : Str} (hy : y.length = 1) : (Txt.split x y).length ≤ x.length + 1 := by
  have := split_weight x y (by omega)
  omega
theorem split_ne (x y : Str) : Txt.split x y ≠ [] := by
  intro e
  unfold Txt.split at e
  split at e
  · cases e
  · split at e
    · cases e
    · rw [StrLaws.partsBetween_eq] at e
      cases h : Builtin.Str.occurrences x y 0 x.length (x.length + 1) with
      | nil => rw [h] at e; cases e
      | cons c r => rw [h] at e; cases e
theorem part_len {x y p : Str} (h : p ∈ Txt.split x y) : p.length ≤ x.length := by
  have e := congrArg Str.length (StrLaws.join_split x y)
  cases hs : Txt.split x y with
  | nil => rw [hs] at h; cases h
  | cons a l =>
    rw [hs, len_join_cons] at e
    rw [hs] at h
    have := sum_ge p h
    omega
theorem wordsOf_len (t : Str) : (wordsOf t).length = (Txt.split t "\n").length := List.length_map _
theorem wordsOf_ne (t : Str) : wordsOf t ≠ [] := fun e => split_ne t "\n" (List.map_eq_nil_iff.mp e)
/-! ### row by row -/
def rowOf : Nat → List Str → Option (List Int)
  | 0, x => (lineP num20 x).map fun a => [a]
  | _ + 1, x => (lineB num20 x).map lkI
def formOf (i : Nat) : Str := if 0 < i then "bridge N N N N" else "places N"
theorem readN_row (line : Str) (i : Nat) : readN line (formOf i) = rowOf i (Txt.split line " ") := by
  cases i with
  | zero => exact readN_pl line
  | succ i => exact readN_br line
def Rok (ws : List (List Str)) (acc : List (List Int)) : Prop := ∀ (j : Nat) (r : List Int), acc[j]? = some r → ∃ x, ws[j]? = some x ∧ rowOf j x = some r
theorem Rok.nil {ws : List (List Str)} : Rok ws [] := fun j r e => by simp at e
theorem Rok.snoc {ws : List (List Str)} {acc : List (List Int)} {x : List Str} {r : List Int} (h : Rok ws acc) (e : ws[acc.length]? = some x) (hr : rowOf acc.length x = some r) : Rok ws (acc ++ [r]) := fun j q hq => by
  by_cases hj : j < acc.length
  · exact h j q (by rwa [List.getElem?_append_left hj] at hq)
  · rw [List.getElem?_append_right (by omega)] at hq
    match hz : j - acc.length, hq with
    | 0, hq =>
      cases hq
      have : j = acc.length := by omega
      subst this
      exact ⟨x, e, hr⟩
    | k + 1, hq => simp at hq
theorem readW_cons (f : Str → Int) (y : List Str) (r : List (List Str)) : readW f (y :: r) = (match lineP f y with
  | none => .text 0
  | some c => match rowsB f 1 r with
    | .error k => .text k
    | .ok ls => bad2 c ls) := rfl
theorem readW_bad {ws : List (List Str)} {acc : List (List Int)} {x : List Str} (h : Rok ws acc) (e : ws[acc.length]? = some x) (hr : rowOf acc.length x = none) : readW num20 ws = .text acc.length := by
  match ws, acc, e with
  | [], _, e => simp at e
  | y :: r, [], e =>
    have e' : y = x := by simpa using e
    subst e'
    have : lineP num20 y = none := by
      have := hr
      simp only [List.length_nil, rowOf] at this
      simpa using this
    rw [readW_cons, this]
    rfl
  | y :: r, a :: acc, e =>
    obtain ⟨y', h1, h2⟩ := h 0 a rfl
    cases h1
    obtain ⟨c, hc⟩ : ∃ c, lineP num20 y = some c := by
      cases hq : lineP num20 y with
      | none => simp only [rowOf, hq] at h2; cases h2
      | some c => exact ⟨c, rfl⟩
    have hb : lineB num20 x = none := by
      have := hr
      simp only [List.length_cons, rowOf] at this
      simpa using this
    have hx : r[acc.length]? = some x := by simpa using e
    rw [readW_cons, hc]
    simp only
    rw [rowsB_bad (k := 1) (j := acc.length) (x := x) (fun i z hi ez => by
      have hlt : i < acc.length := hi
      obtain ⟨z', h3, h4⟩ := h (i + 1) (acc[i]) (by simp [hlt])
      have : z' = z := by
        have h3' : r[i]? = some z' := by simpa using h3
        rw [ez] at h3'
        exact (Option.some.inj h3').symm
      subst this
      simp only [rowOf] at h4
      cases hq : lineB num20 z' with
      | none => rw [hq] at h4; cases h4
      | some c => rfl) hx hb]
    simp only [List.length_cons]
    rw [Nat.add_comm 1]
theorem readW_ok {ws : List (List Str)} {acc : List (List Int)} (h : Rok ws acc) (hl : acc.length = ws.length) (hn : ws ≠ []) : ∃ c ls, acc = [c] :: ls.map lkI ∧ readW num20 ws = bad2 c ls := by
  match ws, acc, hl, hn with
  | [], _, _, hn => exact absurd rfl hn
  | y :: r, a :: acc, hl, _ =>
    obtain ⟨y', h1, h2⟩ := h 0 a rfl
    cases h1
    obtain ⟨c, hc⟩ : ∃ c, lineP num20 y = some c := by
      cases hq : lineP num20 y with
      | none => simp only [rowOf, hq] at h2; cases h2
      | some c => exact ⟨c, rfl⟩
    have ha : a = [c] := by
      simp only [rowOf, hc] at h2
      exact (Option.some.inj h2).symm
    have hl' : acc.length = r.length := by simpa using hl
    have each : ∀ (i : Nat) (z : List Str), r[i]? = some z → ∃ l, lineB num20 z = some l ∧ acc[i]? = some (lkI l) := fun i z ez => by
      have hlt : i < acc.length := by have := (List.getElem?_eq_some_iff.mp ez).1; omega
      obtain ⟨z', h3, h4⟩ := h (i + 1) (acc[i]) (by simp [hlt])
      have : z' = z := by
        have h3' : r[i]? = some z' := by simpa using h3
        rw [ez] at h3'
        exact (Option.some.inj h3').symm
      subst this
      simp only [rowOf] at h4
      cases hq : lineB num20 z' with
      | none => rw [hq] at h4; cases h4
      | some l =>
        rw [hq] at h4
        exact ⟨l, rfl, by rw [List.getElem?_eq_getElem hlt]; exact congrArg some (Option.some.inj h4).symm⟩
    obtain ⟨lk, h5, h6⟩ := rowsB_ok (f := num20) (ls := r) (k := 1) fun i z ez => by
      obtain ⟨l, h7, _⟩ := each i z ez
      rw [h7]
      rfl
    have hlk : r.length = lk.length := by
      have := congrArg List.length h6
      simpa using this
    refine ⟨c, lk, ?_, ?_⟩
    · rw [ha]
      congr 1
      refine List.ext_getElem? fun i => ?_
      rw [List.getElem?_map]
      cases hz : r[i]? with
      | none =>
        have : r.length ≤ i := List.getElem?_eq_none_iff.mp hz
        rw [List.getElem?_eq_none (by omega), List.getElem?_eq_none (by omega)]
        rfl
      | some z =>
        obtain ⟨l, h7, h8⟩ := each i z hz
        have h9 := congrArg (fun q => q[i]?) h6
        simp only [List.getElem?_map, hz, Option.map_some, h7] at h9
        rw [h8]
        cases hq : lk[i]? with
        | none => rw [hq] at h9; cases h9
        | some l' =>
          rw [hq] at h9
          simp only [Option.map_some, Option.some.injEq] at h9
          rw [h9]
          rfl
    · rw [readW_cons, hc]
      simp only
      rw [h5]
end T1

set_option Elab.async false
set_option linter.all false
set_option maxRecDepth 100000
set_option maxHeartbeats 4000000
namespace T1
open PySem PySem.Spec PyProof.Rows L2 C8 Fm T2
local macro_rules | `(tactic| walk_at "sim1") => `(tactic| with_reducible first
  | exact sim_nil | exact sim_var | exact sim_int | exact sim_str | exact sim_bl | exact sim_non | exact sim_raw
  | apply sim_cons | apply sim_op | apply sim_un | apply sim_tup | apply sim_lst
  | apply sim_CB | apply sim_if | apply sim_test | apply sim_B | apply sim_not | apply sim_and | apply sim_or
  | apply sim_andV | apply sim_orV | apply sim_notV | apply sim_chain | exact sim_nopart | apply sim_part
  | apply sim_sl | apply sim_BML | apply sim_BMS | apply sim_BM0S | apply sim_M1 | apply sim_M0
  | apply sim_fmt | apply sim_joined | exact SimJ.nil | apply SimJ.cons
  | exact s_I0i | exact s_I0b | exact s_Ii | exact s_Ui | exact s_eq | exact s_ne | exact s_isN | exact s_notN | exact s_ixL | exact s_ixT | exact s_ixS
  | exact s_cat | exact s_catA | exact s_rep | exact s_repT | exact s_in | exact s_slL | exact s_slA | exact s_slS | exact s_addS | exact s_leS | exact s_ltS
  | exact c_len | exact c_lenS | exact c_list | exact c_tuple | exact c_int1 | exact c_intS | exact c_strI | exact c_max2 | exact c_min2
  | exact m_append | exact m_extend | exact m_split | exact m_join | exact m_0b | exact m_1b
  | apply sim_call | exact simSpF
  | exact sim_name | exact sim_gnil | apply sim_gcons | apply sim_gtup | apply sim_gsub | exact set_list
  | exact sim_next | apply sim_seq | apply sim_cut | exact sim_break | exact sim_cont | apply sim_drop | apply sim_ret | exact sim_retN
  | apply sim_ifS | exact sim_never | apply sim_asg | apply sim_par | apply sim_aug
  | apply sim_for | apply sim_while | apply i_list | apply i_tup | apply i_rng1 | apply i_rng2 | apply i_str | apply i_enum | apply i_zip
  | apply sim_lc | exact sim_yes | exact sim_namew (by decide) | exact sim_gnilw | apply sim_gconsw | apply sim_gtupw
  | apply sim_fld | apply sim_con | apply sim_setFld | apply sim_make | apply sim_prop | apply sim_meth | apply sim_cmeth | exact c_isi | apply sim_isiT | exact s_eqD | exact s_neD
  | walk_at "sim2")
local macro_rules | `(tactic| walk_at "sim2") => `(tactic| fail)
local macro_rules | `(tactic| walk_at "sim") => `(tactic| repeat' (walk_at "sim1"))
/-- open the trees' reading as far as it goes by itself -/
local macro_rules | `(tactic| walk_at "fm") => `(tactic| simp (config := { failIfUnchanged := false }) only [fVar, fC, fOp, fUn, fNil, fCons, fTup, fLst, fCB, fIf, fTest, fNot, fAnd, fOr, fAndV, fOrV, fNotV, fChain, fNoPart, fPart, fI, fI0, fU, fEq, fNe, fIsN, fNotN, fIxL, fIxT, fIxS,
  fCat, fCatA, fRep, fRepT, fSlL, fSlA, fSlS, fSl, fLen, fLenS, fList, fTuple, fIntS, fStrI, fMax2, fMin2, fAppend, fExtend, fIn, fBM, fMS, fBMS, fBM0S, fAddS, fLeS, fLtS, fM0b, fM1b, fSplit, fJoin, fJoined, fJs,
  fName, fGNil, fGCons, fGTup, fSetL, fGSub, fNext, fSeq, fCut, fBreak, fCont, fDrop, fRet, fRetN, fIfS, fAsg, fPar, fAug, fCall, fFld, fCon, fSetFld, fMake, fProp, fMeth, fCMeth, fIsi, fIsiT, fEqD, fNeD, insAt_ref, insO_ins, fFmt, fmtS_i, fmtS_s, fmtOk_i, fmtOk_s, fIL, fIT, fIR1, fIR2, fIS, fIEn, fIZ,
  startL, List.map_cons, List.map_nil, List.length_cons, List.length_nil, List.cons_append, List.nil_append, List.replicate, List.getElem?_cons_zero, List.getElem?_cons_succ, List.set_cons_zero, List.set_cons_succ, Nat.reduceSub, Nat.reduceAdd,
  Option.some.injEq, Tr.int.injEq, Tr.str.injEq, Tr.bl.injEq, Tr.tup.injEq, Tr.ref.injEq, List.cons.injEq, exists_eq_left, exists_eq_left', exists_eq_right, true_and, and_true, and_self, exists_and_left, tupOf_tup, eqS_ii, eqS_ss, eqS_bb, eqS_ni, eqS_in, eqS_nn, isStr_s, isN_n, isN_i, isN_b, isN_s, isN_t, isN_r, noRaw_n, noRaw_i, noRaw_b, noRaw_s, noRaw_t, noRaw_r, and_assoc, reduceIte, Bool.false_eq_true, exists_const, lstAt_ref, seqAt_ref, seqAt_tup, refAt_ref, lstO_lst, app_assoc2, len_app1, at_kk, at_00, set_k, set_00, Nat.add_assoc, Option.map_some, Prod.mk.injEq, int_cast_inj, Nat.zero_le, decide_eq_true_eq, Bool.not_eq_true', decide_eq_false_iff_not, Nat.add_zero, implies_true, forall_const, ite_true, ite_false, if_true, if_false, decide_true, decide_false, Bool.not_true, Bool.not_false, asg_len, Option.isSome_some])
local macro_rules | `(tactic| walk_at "bel") => `(tactic| first | rfl | (simp (config := { failIfUnchanged := false }) only [belM, O.bel, bels_strs, bels_ints, belL, Tr.bel, Tr.bels, Bool.and_true, Bool.true_and, Bool.and_self, decide_eq_true_eq, Bool.and_eq_true, true_and, and_true, List.length_cons, List.length_nil, Nat.reduceAdd]; try omega))

local macro_rules | `(tactic| walk_at "sim2") => `(tactic| first | exact simGet | exact simTi | exact simNext | assumption | apply sim_raiseX | apply sim_makeVX)
local macro_rules | `(tactic| walk_at "fm2") => `(tactic| simp (config := { failIfUnchanged := false }) only [dm_app, dm_len, dm_at, dm_set, lkT])
/-! ### Town.parse -/
def fsParse (C CT CX : Addr) : FSp := fun ts M P PX => ∃ t : Str, ts = [.raw (.ref C), .str t] ∧ t.length ≤ 100000 ∧ (Txt.split t "\n").length ≤ 1000 ∧
  match readW num20 (wordsOf t) with
  | .text r => PX CX (ixT (r : Int)) M
  | .town p i => PX CT (itT p i) M
  | .good c ls => ∀ g : Mem, belM 0 g = true → P (.ref (M.length + g.length)) (M ++ (g ++ [.ins C (tFT c ls)]))
def rowT (r : List Int) : Tr := .tup (r.map Tr.int)
section
variable {P : Program} {w : World} {K : PySem.W.Frag} {mg : Str → Option Value} {base : Heap} {CB CT fT C CX fX pS gS fI : Addr} {mB : Value}
theorem keepX_app {H : Hp} {ρ : List Addr} {M g : Mem} {PX : PXF} {D : Addr} {fs : List (Str × Tr)} (m : RM K H ρ M) (b : belF M.length fs = true) (p : PX D fs M) : KeepX M.length PX D fs (M ++ g) :=
  ⟨M.length, Nat.le_refl _, b, by rw [List.take_left]; exact m.belM, by rw [List.take_left]; exact p⟩
theorem at_snoc2 {a b : O} {g : Mem} {o : O} : (a :: b :: (g ++ [o]))[2 + List.length g]? = some o := by
  rw [Nat.add_comm, List.getElem?_cons_succ, List.getElem?_cons_succ, List.getElem?_append_right (Nat.le_refl _), Nat.sub_self]
  rfl
theorem bels_rows {n : Nat} : ∀ rs : List (List Int), Tr.bels n (rs.map rowT) = true
  | [] => rfl
  | r :: rs => by
    rw [List.map_cons]
    unfold Tr.bels
    rw [Bool.and_eq_true]
    exact ⟨bels_ints r, bels_rows rs⟩
theorem lk_row (l : Lk) : rowT (lkI l) = lkT l := rfl
theorem cut_tail (x : Tr) (xs : List Tr) : cutT (x :: xs) (some 1) none = xs := by
  unfold cutT
  rw [show (some 1 : Option Int) = some ((1 : Nat) : Int) from rfl, HT.sIx_nat, HT.sIx_none]
  have : min 1 (x :: xs).length = 1 := Nat.min_eq_left (by simp)
  rw [this]
  show List.take _ xs = xs
  exact List.take_of_length_le (by simp)
theorem atI_head (x : Tr) (xs : List Tr) : atI (x :: xs) 0 = some x := by
  unfold atI L2.ixN
  rw [if_pos (Int.le_refl 0), if_pos (by rw [List.length_cons]; omega)]
  rfl
theorem ite_read {t : Tr} {M : Mem} {P : PF} {PX : PXF} {i : Nat} (h : fsRead [t, .str (formOf i)] M P PX) : if (0 : Int) < ((0 + i : Nat) : Int) then fsRead [t, .str "bridge N N N N"] M P PX else fsRead [t, .str "places N"] M P PX := by
  unfold formOf at h
  by_cases hi : 0 < i
  · rw [if_pos hi] at h
    rw [if_pos (by omega)]
    exact h
  · rw [if_neg hi] at h
    rw [if_neg (by omega)]
    exact h
theorem form_len (i : Nat) : (formOf i).length ≤ 1000 := by
  unfold formOf
  split
  · decide +kernel
  · decide +kernel
theorem wordsOf_at {t : Str} {i : Nat} {l : Str} (h : (Txt.split t "\n")[i]? = some l) : (wordsOf t)[i]? = some (Txt.split l " ") := by
  unfold wordsOf
  rw [List.getElem?_map, h]
  rfl
theorem scPa : FnScope ["cls", "text", "rows", "row", "line", "numbers"] ["cls", "text"] (L2.defScope sPa) := ⟨rfl, rfl, rfl, by decide +kernel, rfl, by decide +kernel, by decide +kernel⟩
theorem ok_Pa {g : Addr} {fd fdX fdI : FuncData} (F : L2.Fun K "parse" "Town.parse" sPa g fd) (TX : ProgX K mg CX fX) (T : BT mg) (T' : T2.BT mg) (Cr : Cal P w K mg base 2 "read_numbers" (spF K fsRead) [])
    (FX : FnOk P w K mg base L2.CX0 1 fX fdX ["self", "row"] (spIXi K CX)) (bX : Binds K fdX ["self", "row"] [])
    (FI : FnOk P w K mg base (L2.CX P w) 3 fI fdI ["self", "count", "bridges"] (spTi K C CT)) (bI : Binds K fdI ["self", "count", "bridges"] []) (mk : L2.Mk K C fI) :
    FnOk P w K mg base (L2.CX P w) 5 g fd ["cls", "text"] (spF K (fsParse C CT CX)) := by
  refine F.okX scPa (fun vs H Q E h => ?_) (fun cdv A outer s H vs Q E hr h => ?_)
  · obtain ⟨ts, ρ, M, P, PX, r, m, ⟨t, rfl, _⟩, o, ox⟩ := h
    exact r.len
  · refine ⟨_, (pss_cons (ps_set (i := 2) scPa.nd rfl (Or.inl rfl) (pe_lst pa_nil))
 (pss_cons (ps_for (passes_of rfl) rfl (pi_enum (by rfl) T.enumerate (pa_cons (pe_split (pv 1) pe_str) pa_nil)) (pg_tup rfl (pgs_cons (pg_name (i := 3) scPa.nd rfl (Or.inl rfl)) (pgs_cons (pg_name (i := 4) scPa.nd rfl (Or.inl rfl)) pgs_nil))) (pss_cons (ps_set (i := 5) scPa.nd rfl (Or.inl rfl) (pe_c Cr hr (by first | decide | omega) (by rfl) (pa_cons (pv 4) (pa_cons (pe_ifExp (pt_cmpR op_gt (pv 3) pe_int (nomark _)) pe_str pe_str) pa_nil))))
 (pss_cons (ps_if (pt_cmpR op_isN (pv 5) pe_non (nomark _)) (pss_one (ps_raise rfl (takes_of rfl rfl rfl rfl) (pmk_oex TX.ox TX.iX TX.tX FX (hr.mono (by decide)) bX .nil L2.pass0 (by rfl) TX.gX (pa_cons (pv 3) pa_nil)))) pss_nil)
 (pss_one (ps_expr (pe_bm PySem.F.plainAttrs_list PySem.F.slot_list_append PySem.F.type_list_append mt_append (pv 2) (pa_cons (pe_callTy call_tuple_of (by rfl) T.tuple (by decide +kernel) (pa_cons (pv 5) pa_nil)) pa_nil)))))))
 (pss_one (ps_ret (pe_makeV (i := 0) mk FI hr rfl (.inl rfl) bI .nil (L2.passes_call (takes_of rfl rfl rfl rfl) (fun _ _ _ _ h => h)) (pa_cons (pe_ix ix_tup (pe_ix ix_list (pv 2) pe_int (fun _ _ => rfl)) pe_int (fun _ _ => rfl)) (pa_cons (pe_callTy call_tuple_of (by rfl) T.tuple (by decide +kernel) (pa_cons (pe_slice sl_list (pv 2) (po_some pe_int) po_none) pa_nil)) pa_nil))))))), ?_⟩
    obtain ⟨ts, ρ, M, P, PX, r, m, ⟨t, rfl, hl, hn, q⟩, o, ox⟩ := h
    have hE := keepX_of m ox
    simp only [nox_K, cx_K]
    refine run_in r m o (by walk_at "sim") ?_
    walk_at "fm"
    unfold fFor
    walk_at "fm"
    refine ⟨rfl, by rw [sizeLine_eq]; omega, fun i L2 M2 => ∃ (acc : List (List Int)) (w3 w4 : Option Tr), L2 = [some (.raw (.ref C)), some (.str t), some (.ref (List.length M)), w3, w4, none] ∧ M2 = M ++ [.lst (acc.map rowT), .lst ((Txt.split t "\n").map Tr.str)] ∧ acc.length = i ∧ Rok (wordsOf t) acc, ?_, ?_, ?_, ?_⟩
    · exact ⟨[], none, none, rfl, rfl, rfl, Rok.nil⟩
    · rintro i L2 M2 hi ⟨acc, w3, w4, rfl, rfl, hacc, hg⟩
      walk_at "fm"
    · rintro i x L2 M2 hx ⟨acc, w3, w4, rfl, rfl, hacc, hg⟩
      obtain ⟨u, hu, rfl⟩ := enumT_get hx
      rw [List.getElem?_map] at hu
      cases hlu : (Txt.split t "\n")[i]? with
      | none => rw [hlu] at hu; cases hu
      | some line =>
        rw [hlu] at hu
        cases hu
        have hll : line.length ≤ t.length := part_len (List.mem_of_getElem? hlu)
        have hwo := wordsOf_at hlu
        walk_at "fm"
        refine ite_read ?_
        unfold fsRead
        walk_at "fm"
        refine ⟨by omega, form_len i, fun w hw => by have := part_len hw; omega, by have := split_len (x := line) len_sp; omega, ?_, ?_⟩
        · intro hnone
          rw [readN_row] at hnone
          simp only [fRaiseX]
          walk_at "fm"
          refine ⟨by omega, by have := (List.getElem?_eq_some_iff.mp hlu).1; omega, keepX_app m rfl ?_⟩
          subst hacc
          rw [readW_bad hg hwo hnone] at q
          rw [Nat.zero_add]
          exact q
        · intro ns hsome g bg
          rw [readN_row] at hsome
          walk_at "fm"
          rw [at_snoc2]
          subst hacc
          have hi := (List.getElem?_eq_some_iff.mp hlu).1
          refine ⟨_, rfl, by rw [sizeLine_eq, List.length_map]; omega, ?_⟩
          refine forget_to (g := [_, _]) (L' := [some (.raw (.ref C)), some (.str t), some (.ref (List.length M)), none, none, none]) (by simp only [List.length_cons, List.length_nil]; omega) ?_ ⟨acc ++ [ns], _, _, rfl, ?_, by simp, hg.snoc hwo hsome⟩ (by walk_at "bel") m.belM ?_
          · exact ⟨_, rfl, _, rfl, _, rfl, _, _, rfl, _, _, rfl, _, _, rfl, rfl⟩
          · rw [List.map_append]
            rfl
          · simp only [belM, O.bel, bels_strs, Bool.and_true]
            have := bels_rows (n := List.length M + 2) (acc ++ [ns])
            rw [List.map_append] at this
            exact this
    · rintro L2 M2 ⟨acc, w3, w4, rfl, rfl, hacc, hg⟩
      walk_at "fm"
      rw [enumT_len, List.length_map, ← wordsOf_len] at hacc
      obtain ⟨c, ls, rfl, hq⟩ := readW_ok hg hacc (wordsOf_ne t)
      rw [hq] at q
      simp only [fMakeV]
      walk_at "fm"
      have hcut : cutT (rowT [c] :: List.map rowT (List.map lkI ls)) (some 1) none = ls.map lkT := by
        rw [List.map_map]
        exact cut_tail _ _
      rw [hcut]
      unfold fsTi
      refine ⟨rowT [c], atI_head _ _, [.int c], rfl, .int c, atI_head _ _, _, c, ls, rfl, ?_, ?_, ?_, ?_⟩
      · rw [at_kk]
        rfl
      · rw [wordsOf_len] at hacc
        simp only [List.length_cons, List.length_map] at hacc
        omega
      · intro r hr
        unfold bad2 at q
        rw [hr] at q
        exact keepX_app m rfl q
      · intro hr
        unfold bad2 at q
        rw [hr] at q
        walk_at "fm"
        have q' := q [.lst (rowT [c] :: List.map rowT (List.map lkI ls)), .lst ((Txt.split t "\n").map Tr.str), .lst (ls.map lkT)] (by
          simp only [belM, O.bel, bels_strs, bel_lks, Bool.and_true]
          exact bels_rows ([c] :: ls.map lkI))
        refine keep_whole (by rw [List.length_append]; exact Nat.le_add_right _ _) (by simp only [Tr.bel, List.length_append, List.length_cons, List.length_nil, decide_eq_true_eq]; omega) ?_ q'
        rw [List.length_append]
        refine belM_ext m.belM ?_
        simp only [belM, O.bel, bels_strs, bel_lks, Bool.and_true, Bool.and_eq_true]
        exact ⟨bels_rows ([c] :: ls.map lkI), by unfold tFT; simp only [belF, Tr.bel, bel_lks, Bool.and_true]; simp⟩
end
end T1

set_option Elab.async false
set_option linter.all false
set_option maxRecDepth 100000
set_option maxHeartbeats 4000000
namespace T1
open PySem PySem.Spec PyProof.Rows L2 C8 Fm
local macro_rules | `(tactic| walk_at "sim1") => `(tactic| with_reducible first
  | exact sim_nil | exact sim_var | exact sim_int | exact sim_str | exact sim_bl | exact sim_non | exact sim_raw
  | apply sim_cons | apply sim_op | apply sim_un | apply sim_tup | apply sim_lst
  | apply sim_CB | apply sim_if | apply sim_test | apply sim_B | apply sim_not | apply sim_and | apply sim_or
  | apply sim_andV | apply sim_orV | apply sim_notV | apply sim_chain | exact sim_nopart | apply sim_part
  | apply sim_sl | apply sim_BML | apply sim_BMS | apply sim_BM0S | apply sim_M1 | apply sim_M0
  | apply sim_fmt | apply sim_joined | exact SimJ.nil | apply SimJ.cons
  | exact s_I0i | exact s_I0b | exact s_Ii | exact s_Ui | exact s_eq | exact s_ne | exact s_isN | exact s_notN | exact s_ixL | exact s_ixT | exact s_ixS
  | exact s_cat | exact s_catA | exact s_rep | exact s_repT | exact s_in | exact s_slL | exact s_slA | exact s_slS | exact s_addS | exact s_leS | exact s_ltS
  | exact c_len | exact c_lenS | exact c_list | exact c_tuple | exact c_int1 | exact c_intS | exact c_strI | exact c_max2 | exact c_min2
  | exact m_append | exact m_extend | exact m_split | exact m_join | exact m_0b | exact m_1b
  | apply sim_call | exact simSpF
  | exact sim_name | exact sim_gnil | apply sim_gcons | apply sim_gtup | apply sim_gsub | exact set_list
  | exact sim_next | apply sim_seq | apply sim_cut | exact sim_break | exact sim_cont | apply sim_drop | apply sim_ret | exact sim_retN
  | apply sim_ifS | exact sim_never | apply sim_asg | apply sim_par | apply sim_aug
  | apply sim_for | apply sim_while | apply i_list | apply i_tup | apply i_rng1 | apply i_rng2 | apply i_str | apply i_enum | apply i_zip
  | apply sim_lc | exact sim_yes | exact sim_namew (by decide) | exact sim_gnilw | apply sim_gconsw | apply sim_gtupw
  | apply sim_fld | apply sim_con | apply sim_setFld | apply sim_make | apply sim_prop | apply sim_meth | apply sim_cmeth | exact c_isi | apply sim_isiT | exact s_eqD | exact s_neD
  | walk_at "sim2")
local macro_rules | `(tactic| walk_at "sim2") => `(tactic| fail)
local macro_rules | `(tactic| walk_at "sim") => `(tactic| repeat' (walk_at "sim1"))
/-- open the trees' reading as far as it goes by itself -/
local macro_rules | `(tactic| walk_at "fm") => `(tactic| simp (config := { failIfUnchanged := false }) only [fVar, fC, fOp, fUn, fNil, fCons, fTup, fLst, fCB, fIf, fTest, fNot, fAnd, fOr, fAndV, fOrV, fNotV, fChain, fNoPart, fPart, fI, fI0, fU, fEq, fNe, fIsN, fNotN, fIxL, fIxT, fIxS,
  fCat, fCatA, fRep, fRepT, fSlL, fSlA, fSlS, fSl, fLen, fLenS, fList, fTuple, fIntS, fStrI, fMax2, fMin2, fAppend, fExtend, fIn, fBM, fMS, fBMS, fBM0S, fAddS, fLeS, fLtS, fM0b, fM1b, fSplit, fJoin, fJoined, fJs,
  fName, fGNil, fGCons, fGTup, fSetL, fGSub, fNext, fSeq, fCut, fBreak, fCont, fDrop, fRet, fRetN, fIfS, fAsg, fPar, fAug, fCall, fFld, fCon, fSetFld, fMake, fProp, fMeth, fCMeth, fIsi, fIsiT, fEqD, fNeD, insAt_ref, insO_ins, fFmt, fmtS_i, fmtS_s, fmtOk_i, fmtOk_s, fIL, fIT, fIR1, fIR2, fIS, fIEn, fIZ,
  startL, List.map_cons, List.map_nil, List.length_cons, List.length_nil, List.cons_append, List.nil_append, List.replicate, List.getElem?_cons_zero, List.getElem?_cons_succ, List.set_cons_zero, List.set_cons_succ, Nat.reduceSub, Nat.reduceAdd,
  Option.some.injEq, Tr.int.injEq, Tr.str.injEq, Tr.bl.injEq, Tr.tup.injEq, Tr.ref.injEq, List.cons.injEq, exists_eq_left, exists_eq_left', exists_eq_right, true_and, and_true, and_self, exists_and_left, tupOf_tup, eqS_ii, eqS_ss, eqS_bb, eqS_ni, eqS_in, eqS_nn, isStr_s, isN_n, isN_i, isN_b, isN_s, isN_t, isN_r, noRaw_n, noRaw_i, noRaw_b, noRaw_s, noRaw_t, noRaw_r, and_assoc, reduceIte, Bool.false_eq_true, exists_const, lstAt_ref, seqAt_ref, seqAt_tup, refAt_ref, lstO_lst, app_assoc2, len_app1, at_kk, at_00, set_k, set_00, Nat.add_assoc, Option.map_some, Prod.mk.injEq, int_cast_inj, Nat.zero_le, decide_eq_true_eq, Bool.not_eq_true', decide_eq_false_iff_not, Nat.add_zero, implies_true, forall_const, ite_true, ite_false, if_true, if_false, decide_true, decide_false, Bool.not_true, Bool.not_false, asg_len, Option.isSome_some])
local macro_rules | `(tactic| walk_at "bel") => `(tactic| first | rfl | (simp (config := { failIfUnchanged := false }) only [belM, O.bel, bels_strs, bels_ints, belL, Tr.bel, Tr.bels, Bool.and_true, Bool.true_and, Bool.and_self, decide_eq_true_eq, Bool.and_eq_true, true_and, and_true, List.length_cons, List.length_nil, Nat.reduceAdd]; try omega))

local macro_rules | `(tactic| walk_at "sim2") => `(tactic| first | exact simGet | exact simTi | exact simNext | assumption | apply sim_raiseX | apply sim_makeVX)
/-! ### drawn lives and links -/
def fsLife : FSp := fun ts M P _ => ∃ wide d g, ts = [.ref 1, .bl wide] ∧ M = dm d g ∧ d.ok ∧ ∀ r d', d'.ok → 0 ≤ r → r ≤ 1000000000000000000 → P (.int r) (dm d' g)
def okL (c : Int) (l : Lk) : Prop := 0 ≤ l.1 ∧ l.1 < c ∧ 0 ≤ l.2.1 ∧ l.2.1 < c ∧ l.1 ≠ l.2.1 ∧ 1 ≤ l.2.2.1 ∧ l.2.2.1 ≤ 99 ∧ 0 ≤ l.2.2.2 ∧ l.2.2.2 ≤ 1000000000000000000
def fsLinks : FSp := fun ts M P _ => ∃ c mx wide d g, ts = [.ref 1, .int c, .int mx, .bl wide] ∧ M = dm d g ∧ d.ok ∧ 1 ≤ c ∧ c ≤ 1000 ∧ 0 ≤ mx ∧ mx ≤ 1000 ∧
  ∀ (ls : List Lk) d', d'.ok → (ls.length : Int) ≤ mx → (∀ l ∈ ls, okL c l) → P (.tup (ls.map lkT)) (dm d' g)
theorem belM_dm {n : Nat} {d d' : Dr} {g : Mem} (h : belM n (dm d g) = true) : belM n (dm d' g) = true := by
  unfold dm belM at h ⊢
  unfold belM at h ⊢
  simp only [O.bel, bels_ints, Tr.bels, Tr.bel, Bool.true_and, Bool.and_true] at h ⊢
  exact h
theorem dm_at0 {d : Dr} {g h : Mem} : (dm d g ++ h)[List.length g + 2]? = h[0]? := dm_at (k := 0)
theorem dm_set0 {d : Dr} {g h : Mem} {o : O} : (dm d g ++ h).set (List.length g + 2) o = dm d g ++ h.set 0 o := dm_set (k := 0)
theorem forget_dm {k : Nat} {J : Fm.Loc → Mem → Prop} {L L' : Fm.Loc} {d d' : Dr} {g h rest : Mem} (hk : k ≤ List.length g + 2 + List.length h) (le : LocLe L' L) (j : J L' (dm d' g ++ h)) (bl : belL (List.length g + 2 + List.length h) L' = true)
    (hM : belM (dm d g).length (dm d g) = true) (hg : belM (List.length g + 2 + List.length h) h = true) : Forget k J L (dm d' g ++ (h ++ rest)) :=
  forget_to (M := dm d' g) hk le j bl (belM_dm hM) hg
theorem bels_lk {n : Nat} : ∀ ls : List Lk, Tr.bels n (ls.map lkT) = true := bel_lks
local macro_rules | `(tactic| walk_at "fm2") => `(tactic| simp (config := { failIfUnchanged := false }) only [dm_app, dm_len, dm_at, dm_at0, dm_set, dm_set0, List.getElem?_cons_zero, List.getElem?_cons_succ, List.set_cons_zero, List.set_cons_succ, lstO_lst, Option.isSome_some, Option.map_some, Option.some.injEq, Prod.mk.injEq, Nat.add_assoc, Nat.reduceAdd, exists_eq_left', exists_eq_left, true_and, and_assoc])
local macro_rules | `(tactic| walk_at "fd") => `(tactic| (walk_at "fm"; walk_at "fm2"; walk_at "fm"; walk_at "fm2"; walk_at "fm"))
section
variable {P : Program} {w : World} {K : PySem.W.Frag} {mg : Str → Option Value} {base : Heap}
theorem keep_dm {H : Hp} {ρ : List Addr} {d d' : Dr} {g h : Mem} {P : PF} {v : Tr} (m : RM K H ρ (dm d g)) (b : Tr.bel (List.length g + 2) v = true) (p : P v (dm d' g)) : Keep (List.length g + 2) P v (dm d' g ++ h) :=
  ⟨(dm d' g).length, Nat.le_refl _, b, by rw [List.take_left]; exact belM_dm m.belM, by rw [List.take_left]; exact p⟩
structure Cl (P : Program) (w : World) (K : PySem.W.Frag) (mg : Str → Option Value) (base : Heap) : Prop where
  _law_next : Cal P w K mg base 1 "_law_next" spNext []
  _law_life : Cal P w K mg base 2 "_law_life" (spF K fsLife) []
theorem next_at {n : Int} {d : Dr} {g h : Mem} {P : PF} {PX : PXF} (hd : d.ok) (n0 : 0 < n) (n1 : n ≤ 2000000000000000000) (q : ∀ r d', d'.ok → 0 ≤ r → r < n → P (.int r) (dm d' g ++ h)) : fsNext [.ref 1, .int n] (dm d g ++ h) P PX :=
  ⟨n, d, g ++ h, rfl, rfl, hd, n0, n1, q⟩
theorem next_0 {n : Int} {d : Dr} {g : Mem} {P : PF} {PX : PXF} (hd : d.ok) (n0 : 0 < n) (n1 : n ≤ 2000000000000000000) (q : ∀ r d', d'.ok → 0 ≤ r → r < n → P (.int r) (dm d' g)) : fsNext [.ref 1, .int n] (dm d g) P PX :=
  ⟨n, d, g, rfl, rfl, hd, n0, n1, q⟩
theorem scLifeF : FnScope ["_law_h", "_law_wide"] ["_law_h", "_law_wide"] (fnScope sLife) := fnScope_by (by decide +kernel)
theorem ok_lifeF {f : Addr} {fd : FuncData} (F : Def K mg "_law_life" sLife f fd) (b : Binds K fd ["_law_h", "_law_wide"] []) (T : BT mg) (C : Cs P w K mg base) : Cal P w K mg base 2 "_law_life" (spF K fsLife) [] := by
  refine cal0 F b .nil scLifeF (fun vs H Q E h => ?_) (fun cdv A outer s H vs Q E hr h => ?_)
  · obtain ⟨ts, ρ, M, P, PX, r, m, ⟨w, d, g, rfl, _⟩, o, ox⟩ := h
    exact r.len
  · refine ⟨_, (pss_one (ps_ret (pe_c C._law_next hr (by first | decide | omega) (by rfl) (pa_cons (pv 0) (pa_cons (pe_ix ix_list (pe_lst (pa_cons pe_int (pa_cons pe_int (pa_cons (pe_op op_pow pe_int pe_int) (pa_cons (pe_op op_add (pe_op op_pow pe_int pe_int) pe_int) pa_nil))))) (pe_c C._law_next hr (by first | decide | omega) (by rfl) (pa_cons (pv 0) (pa_cons (pe_ifExp (pt_val (pv 1)) pe_int pe_int) pa_nil))) (fun _ _ => rfl)) pa_nil))))), ?_⟩
    obtain ⟨ts, ρ, M, P, PX, r, m, ⟨w, d, g, rfl, rfl, hd, q⟩, o, ox⟩ := h
    simp only [nox_K, cx_K]
    refine run_in r m o (by walk_at "sim") ?_
    walk_at "fm"
    walk_at "fm2"
    refine ⟨⟨by decide, by decide, by decide⟩, ⟨by decide, by decide, by decide⟩, by rw [sizeLine_eq]; decide, ?_⟩
    have key : ∀ (r : Int), 0 ≤ r → r < 4 → ∃ v : Int, atI ([.int 9, .int 40, .int ((10 : Int) ^ (6 : Int).toNat), .int ((10 : Int) ^ (18 : Int).toNat + 1)] : List Tr) r = some (.int v) ∧ 0 < v ∧ v ≤ 1000000000000000001 := fun r r0 r1 => by
      have hr : r = 0 ∨ r = 1 ∨ r = 2 ∨ r = 3 := by omega
      rcases hr with rfl | rfl | rfl | rfl
      · exact ⟨9, rfl, by decide, by decide⟩
      · exact ⟨40, rfl, by decide, by decide⟩
      · exact ⟨_, rfl, by decide, by decide⟩
      · exact ⟨_, rfl, by decide, by decide⟩
    have go : ∀ r d1, d1.ok → 0 ≤ r → r < 4 → ∃ ts, lstO (dm d1 g ++ [O.lst [Tr.int 9, Tr.int 40, Tr.int (10 ^ Int.toNat 6), Tr.int (10 ^ Int.toNat 18 + 1)]])[List.length g + 2]? = some ts ∧ ∃ x, Tr.int r = Tr.int x ∧ ∃ x_1, atI ts x = some x_1 ∧ fsNext [Tr.ref 1, x_1] (dm d1 g ++ [O.lst [Tr.int 9, Tr.int 40, Tr.int (10 ^ Int.toNat 6), Tr.int (10 ^ Int.toNat 18 + 1)]]) (Keep (List.length g + 2) P) noX := fun r d1 hd1 r0 r1 => by
      obtain ⟨v, hv, v0, v1⟩ := key r r0 r1
      refine ⟨_, by rw [dm_at0]; rfl, r, rfl, _, hv, next_at hd1 v0 (by omega) fun r' d2 hd2 r'0 r'1 => keep_dm m rfl (q r' d2 hd2 r'0 (by omega))⟩
    cases w
    · rw [if_neg Bool.false_ne_true]
      exact next_at hd (by decide) (by decide) fun r d1 hd1 r0 r1 => go r d1 hd1 r0 (by omega)
    · rw [if_pos rfl]
      exact next_at hd (by decide) (by decide) fun r d1 hd1 r0 r1 => go r d1 hd1 r0 r1
theorem scLinksF : FnScope ["_law_h", "_law_count", "_law_most", "_law_wide", "_law_found", "_law_k", "_law_one", "_law_other"] ["_law_h", "_law_count", "_law_most", "_law_wide"] (fnScope sLinks) := fnScope_by (by decide +kernel)
theorem ok_linksF {f : Addr} {fd : FuncData} (F : Def K mg "_law_links" sLinks f fd) (b : Binds K fd ["_law_h", "_law_count", "_law_most", "_law_wide"] []) (T : BT mg) (C : Cl P w K mg base) : Cal P w K mg base 3 "_law_links" (spF K fsLinks) [] := by
  refine cal0 F b .nil scLinksF (fun vs H Q E h => ?_) (fun cdv A outer s H vs Q E hr h => ?_)
  · obtain ⟨ts, ρ, M, P, PX, r, m, ⟨c, mx, w, d, g, rfl, _⟩, o, ox⟩ := h
    exact r.len
  · refine ⟨_, (pss_cons (ps_set (i := 4) scLinksF.nd rfl (Or.inl rfl) (pe_lst pa_nil))
 (pss_cons (ps_for PassesOwn.never rfl (pi_range1 (by rfl) T.range (pa_cons (pe_ifExp (pt_cmpR op_gt (pv 1) pe_int (nomark _)) (pe_c C._law_next hr (by first | decide | omega) (by rfl) (pa_cons (pv 0) (pa_cons (pe_op op_add (pv 2) pe_int) pa_nil))) pe_int) pa_nil)) (pg_name (i := 5) scLinksF.nd rfl (Or.inl rfl)) (pss_cons (ps_set (i := 6) scLinksF.nd rfl (Or.inl rfl) (pe_c C._law_next hr (by first | decide | omega) (by rfl) (pa_cons (pv 0) (pa_cons (pv 1) pa_nil))))
 (pss_cons (ps_set (i := 7) scLinksF.nd rfl (Or.inl rfl) (pe_op op_modN (pe_op op_add (pe_op op_add (pv 6) pe_int) (pe_c C._law_next hr (by first | decide | omega) (by rfl) (pa_cons (pv 0) (pa_cons (pe_op op_sub (pv 1) pe_int) pa_nil)))) (pv 1)))
 (pss_one (ps_expr (pe_bm PySem.F.plainAttrs_list PySem.F.slot_list_append PySem.F.type_list_append mt_append (pv 4) (pa_cons (pe_tup (pa_cons (pv 6) (pa_cons (pv 7) (pa_cons (pe_op op_add pe_int (pe_c C._law_next hr (by first | decide | omega) (by rfl) (pa_cons (pv 0) (pa_cons (pe_ix ix_list (pe_lst (pa_cons pe_int (pa_cons pe_int pa_nil))) (pe_op op_fdiv (pe_c C._law_next hr (by first | decide | omega) (by rfl) (pa_cons (pv 0) (pa_cons pe_int pa_nil))) pe_int) (fun _ _ => rfl)) pa_nil)))) (pa_cons (pe_c C._law_life hr (by first | decide | omega) (by rfl) (pa_cons (pv 0) (pa_cons (pv 3) pa_nil))) pa_nil))))) pa_nil)))))))
 (pss_one (ps_ret (pe_callTy call_tuple_of (by rfl) T.tuple (by decide +kernel) (pa_cons (pv 4) pa_nil)))))), ?_⟩
    obtain ⟨ts, ρ, M, P, PX, r, m, ⟨c, mx, w, d, g, rfl, rfl, hd, c0, c1, m0, m1, q⟩, o, ox⟩ := h
    simp only [nox_K, cx_K]
    refine run_in r m o (by walk_at "sim") ?_
    walk_at "fm"
    walk_at "fm2"
    unfold fFor
    walk_at "fm"
    by_cases c2 : 1 < c
    · rw [if_pos c2]
      refine next_at hd (by omega) (by omega) fun n d1 hd1 n0 n1 => ?_
      refine ⟨n, rfl, by omega, by omega, fun i L2 M2 => ∃ (d2 : Dr) (ls : List Lk) (v5 v6 v7 : Option Tr), d2.ok ∧ L2 = [some (.ref 1), some (.int c), some (.int mx), some (.bl w), some (.ref (List.length g + 2)), v5, v6, v7] ∧ M2 = dm d2 g ++ [.lst (ls.map lkT)] ∧ ls.length = i ∧ ∀ l ∈ ls, okL c l, ⟨d1, [], none, none, none, hd1, rfl, rfl, rfl, fun l hl => nomatch hl⟩, ?_, ?_⟩
      · rintro i t L2 M2 ht ⟨d2, ls, v5, v6, v7, hd2, rfl, rfl, hl, hok⟩
        walk_at "fm"
        refine next_at hd2 (by omega) (by omega) fun r1 d3 hd3 r10 r11 => ?_
        walk_at "fm"
        refine next_at hd3 (by omega) (by omega) fun r2 d4 hd4 r20 r21 => ?_
        walk_at "fd"
        refine ⟨by omega, by rw [sizeLine_eq]; decide, next_at hd4 (by decide) (by decide) fun r3 d5 hd5 r30 r31 => ?_⟩
        walk_at "fd"
        obtain ⟨v, hv, v0, v1⟩ : ∃ v : Int, atI ([.int 3, .int 99] : List Tr) (r3 / 3) = some (.int v) ∧ 0 < v ∧ v ≤ 99 := by
          have hr : r3 / 3 = 0 ∨ r3 / 3 = 1 := by omega
          rcases hr with e | e <;> rw [e]
          · exact ⟨3, rfl, by decide, by decide⟩
          · exact ⟨99, rfl, by decide, by decide⟩
        refine ⟨⟨by decide, by decide⟩, .int v, hv, next_at hd5 v0 (by omega) fun r4 d6 hd6 r40 r41 => ?_⟩
        walk_at "fd"
        refine ⟨w, d6, g ++ _, rfl, dm_app.symm, hd6, fun r5 d7 hd7 r50 r51 => ?_⟩
        walk_at "fd"
        have hc : 0 ≤ (r1 + 1 + r2).fmod c ∧ (r1 + 1 + r2).fmod c < c ∧ (r1 + 1 + r2).fmod c ≠ r1 := by
          rw [Int.fmod_eq_emod_of_nonneg _ (by omega)]
          refine ⟨Int.emod_nonneg _ (by omega), Int.emod_lt_of_pos _ (by omega), fun e => ?_⟩
          by_cases hlt : r1 + 1 + r2 < c
          · rw [Int.emod_eq_of_lt (by omega) hlt] at e
            omega
          · rw [← Int.sub_emod_right, Int.emod_eq_of_lt (by omega) (by omega)] at e
            omega
        obtain ⟨hc0, hc1, hc2⟩ := hc
        refine ⟨by rw [sizeLine_eq]; decide, by rw [sizeLine_eq, List.length_map]; have := (rngT_get ht).1; omega, ?_⟩
        refine forget_dm (h := [_]) (by simp) (LocLe.refl _) ⟨d7, hd7, ls ++ [(r1, (r1 + 1 + r2).fmod c, 1 + r4, r5)], _, _, _, rfl, by rw [List.map_append]; rfl, by simp [hl], ?_⟩ ?_ m.belM ?_
        · intro l hl
          rcases List.mem_append.mp hl with hl | hl
          · exact hok l hl
          · rw [List.mem_singleton.mp hl]
            exact ⟨r10, r11, hc0, hc1, fun z => hc2 z.symm, by show 1 ≤ 1 + r4; omega, by show 1 + r4 ≤ 99; omega, r50, r51⟩
        · obtain ⟨_, rfl⟩ := rngT_get ht
          walk_at "bel"
        · have := bel_lks (n := List.length g + 3) (ls ++ [(r1, (r1 + 1 + r2).fmod c, 1 + r4, r5)])
          rw [List.map_append] at this
          show (Tr.bels _ _ && true) = true
          rw [Bool.and_true]
          exact this
      · rintro L2 M2 ⟨d2, ls, v5, v6, v7, hd2, rfl, rfl, hl, hok⟩
        walk_at "fd"
        rw [rngT_len] at hl
        refine keep_dm m (by show Tr.bels _ _ = true; exact bel_lks _) (q ls d2 hd2 (by omega) hok)
    · rw [if_neg c2]
      refine ⟨by decide, by decide, fun i L2 M2 => L2 = [some (.ref 1), some (.int c), some (.int mx), some (.bl w), some (.ref (List.length g + 2)), none, none, none] ∧ M2 = dm d g ++ [.lst []], ⟨rfl, rfl⟩, ?_, ?_⟩
      · rintro i t L2 M2 ht
        simp [rngT] at ht
      · rintro L2 M2 ⟨rfl, rfl⟩
        walk_at "fd"
        exact keep_dm m rfl (q [] d hd (by simpa using m0) fun l hl => nomatch hl)
end
end T1

set_option Elab.async false
set_option linter.all false
set_option maxRecDepth 100000
set_option maxHeartbeats 4000000
namespace T1
open PySem PySem.Spec PyProof.Rows L2 C8 Fm T2
local macro_rules | `(tactic| walk_at "sim1") => `(tactic| with_reducible first
  | exact sim_nil | exact sim_var | exact sim_int | exact sim_str | exact sim_bl | exact sim_non | exact sim_raw
  | apply sim_cons | apply sim_op | apply sim_un | apply sim_tup | apply sim_lst
  | apply sim_CB | apply sim_if | apply sim_test | apply sim_B | apply sim_not | apply sim_and | apply sim_or
  | apply sim_andV | apply sim_orV | apply sim_notV | apply sim_chain | exact sim_nopart | apply sim_part
  | apply sim_sl | apply sim_BML | apply sim_BMS | apply sim_BM0S | apply sim_M1 | apply sim_M0
  | apply sim_fmt | apply sim_joined | exact SimJ.nil | apply SimJ.cons
  | exact s_I0i | exact s_I0b | exact s_Ii | exact s_Ui | exact s_eq | exact s_ne | exact s_isN | exact s_notN | exact s_ixL | exact s_ixT | exact s_ixS
  | exact s_cat | exact s_catA | exact s_rep | exact s_repT | exact s_in | exact s_slL | exact s_slA | exact s_slS | exact s_addS | exact s_leS | exact s_ltS
  | exact c_len | exact c_lenS | exact c_list | exact c_tuple | exact c_int1 | exact c_intS | exact c_strI | exact c_max2 | exact c_min2
  | exact m_append | exact m_extend | exact m_split | exact m_join | exact m_0b | exact m_1b
  | apply sim_call | exact simSpF
  | exact sim_name | exact sim_gnil | apply sim_gcons | apply sim_gtup | apply sim_gsub | exact set_list
  | exact sim_next | apply sim_seq | apply sim_cut | exact sim_break | exact sim_cont | apply sim_drop | apply sim_ret | exact sim_retN
  | apply sim_ifS | exact sim_never | apply sim_asg | apply sim_par | apply sim_aug
  | apply sim_for | apply sim_while | apply i_list | apply i_tup | apply i_rng1 | apply i_rng2 | apply i_str | apply i_enum | apply i_zip
  | apply sim_lc | exact sim_yes | exact sim_namew (by decide) | exact sim_gnilw | apply sim_gconsw | apply sim_gtupw
  | apply sim_fld | apply sim_con | apply sim_setFld | apply sim_make | apply sim_prop | apply sim_meth | apply sim_cmeth | exact c_isi | apply sim_isiT | exact s_eqD | exact s_neD
  | walk_at "sim2")
local macro_rules | `(tactic| walk_at "sim2") => `(tactic| fail)
local macro_rules | `(tactic| walk_at "sim") => `(tactic| repeat' (walk_at "sim1"))
/-- open the trees' reading as far as it goes by itself -/
local macro_rules | `(tactic| walk_at "fm") => `(tactic| simp (config := { failIfUnchanged := false }) only [fVar, fC, fOp, fUn, fNil, fCons, fTup, fLst, fCB, fIf, fTest, fNot, fAnd, fOr, fAndV, fOrV, fNotV, fChain, fNoPart, fPart, fI, fI0, fU, fEq, fNe, fIsN, fNotN, fIxL, fIxT, fIxS,
  fCat, fCatA, fRep, fRepT, fSlL, fSlA, fSlS, fSl, fLen, fLenS, fList, fTuple, fIntS, fStrI, fMax2, fMin2, fAppend, fExtend, fIn, fBM, fMS, fBMS, fBM0S, fAddS, fLeS, fLtS, fM0b, fM1b, fSplit, fJoin, fJoined, fJs,
  fName, fGNil, fGCons, fGTup, fSetL, fGSub, fNext, fSeq, fCut, fBreak, fCont, fDrop, fRet, fRetN, fIfS, fAsg, fPar, fAug, fCall, fFld, fCon, fSetFld, fMake, fProp, fMeth, fCMeth, fIsi, fIsiT, fEqD, fNeD, insAt_ref, insO_ins, fFmt, fmtS_i, fmtS_s, fmtOk_i, fmtOk_s, fIL, fIT, fIR1, fIR2, fIS, fIEn, fIZ,
  startL, List.map_cons, List.map_nil, List.length_cons, List.length_nil, List.cons_append, List.nil_append, List.replicate, List.getElem?_cons_zero, List.getElem?_cons_succ, List.set_cons_zero, List.set_cons_succ, Nat.reduceSub, Nat.reduceAdd,
  Option.some.injEq, Tr.int.injEq, Tr.str.injEq, Tr.bl.injEq, Tr.tup.injEq, Tr.ref.injEq, List.cons.injEq, exists_eq_left, exists_eq_left', exists_eq_right, true_and, and_true, and_self, exists_and_left, tupOf_tup, eqS_ii, eqS_ss, eqS_bb, eqS_ni, eqS_in, eqS_nn, isStr_s, isN_n, isN_i, isN_b, isN_s, isN_t, isN_r, noRaw_n, noRaw_i, noRaw_b, noRaw_s, noRaw_t, noRaw_r, and_assoc, reduceIte, Bool.false_eq_true, exists_const, lstAt_ref, seqAt_ref, seqAt_tup, refAt_ref, lstO_lst, app_assoc2, len_app1, at_kk, at_00, set_k, set_00, Nat.add_assoc, Option.map_some, Prod.mk.injEq, int_cast_inj, Nat.zero_le, decide_eq_true_eq, Bool.not_eq_true', decide_eq_false_iff_not, Nat.add_zero, implies_true, forall_const, ite_true, ite_false, if_true, if_false, decide_true, decide_false, Bool.not_true, Bool.not_false, asg_len, Option.isSome_some])
local macro_rules | `(tactic| walk_at "bel") => `(tactic| first | rfl | (simp (config := { failIfUnchanged := false }) only [belM, O.bel, bels_strs, bels_ints, belL, Tr.bel, Tr.bels, Bool.and_true, Bool.true_and, Bool.and_self, decide_eq_true_eq, Bool.and_eq_true, true_and, and_true, List.length_cons, List.length_nil, Nat.reduceAdd]; try omega))

local macro_rules | `(tactic| walk_at "sim2") => `(tactic| first | exact simGet | exact simTi | exact simNext | assumption | apply sim_raiseX | apply sim_makeVX)
local macro_rules | `(tactic| walk_at "fm2") => `(tactic| simp (config := { failIfUnchanged := false }) only [dm_app, dm_len, dm_at, dm_at0, dm_set, dm_set0, List.getElem?_cons_zero, List.getElem?_cons_succ, List.set_cons_zero, List.set_cons_succ, lstO_lst, Option.isSome_some, Option.map_some, Option.some.injEq, Prod.mk.injEq, Nat.add_assoc, Nat.reduceAdd, exists_eq_left', exists_eq_left, true_and, and_assoc])
local macro_rules | `(tactic| walk_at "fd") => `(tactic| (walk_at "fm"; walk_at "fm2"; walk_at "fm"; walk_at "fm2"; walk_at "fm"))
abbrev sLawText : Stmt := top 31
abbrev sNumbers : Stmt := top 32
abbrev sLawRead : Stmt := top 33
abbrev sBent : Stmt := top 34
abbrev sLawB : Stmt := top 35
/-! ### the law's own text of a town -/
def wordsL (l : Lk) : List Str := ["bridge", toString l.1, toString l.2.1, toString l.2.2.1, toString l.2.2.2]
theorem line_join (l : Lk) : Txt.join " " (wordsL l) = lineS l := by
  rw [TL.join_eq]
  refine TL.ext_tl ?_
  unfold wordsL lineS
  simp only [Str.join, TL.tl_append, List.append_assoc]
  have e0 : TL.tl Str.empty = [] := rfl
  have e1 : TL.tl "bridge " = TL.tl "bridge" ++ TL.tl " " := by decide +kernel
  rw [e0, e1, List.nil_append, List.append_assoc]
theorem head_eq (c : Int) : ("places " : Str) ++ toString c = headS c := by
  refine TL.ext_tl ?_
  unfold headS
  simp only [TL.tl_append, List.append_assoc]
  rfl
def fsLawText : FSp := fun ts M P _ => ∃ c ls, ts = [.int c, .tup (ls.map lkT)] ∧ 0 ≤ c ∧ c ≤ 100 ∧ ls.length ≤ 100 ∧ (∀ l ∈ ls, smallL l) ∧ P (.str (townS c ls)) M
def strT : Tr → Option Tr
  | .int i => some (.str (toString i))
  | _ => none
section
variable {P : Program} {w : World} {K : PySem.W.Frag} {mg : Str → Option Value} {base : Heap}
theorem scLawText : FnScope ["_law_count", "_law_links_here", "_law_lines", "_law_link", "_law_words", "_law_number"] ["_law_count", "_law_links_here"] (fnScope sLawText) := fnScope_by (by decide +kernel)
theorem ok_lawText {f : Addr} {fd : FuncData} (F : Def K mg "_law_text" sLawText f fd) (b : Binds K fd ["_law_count", "_law_links_here"] []) (T : BT mg) : Cal P w K mg base 1 "_law_text" (spF K fsLawText) [] := by
  refine cal0 F b .nil scLawText (fun vs H Q E h => ?_) (fun cdv A outer s H vs Q E hr h => ?_)
  · obtain ⟨ts, ρ, M, P, PX, r, m, ⟨c, ls, rfl, _⟩, o, ox⟩ := h
    exact r.len
  · refine ⟨_, (pss_cons (ps_set (i := 2) scLawText.nd rfl (Or.inl rfl) (pe_lst (pa_cons (pe_op op_add_str pe_str (pe_callTy call_str_int (by rfl) T.str (by decide +kernel) (pa_cons (pv 0) pa_nil))) pa_nil)))
 (pss_cons (ps_for PassesOwn.never rfl (pi_tup (pv 1)) (pg_name (i := 3) scLawText.nd rfl (Or.inl rfl)) (pss_cons (ps_set (i := 4) scLawText.nd rfl (Or.inl rfl) (pe_op op_cat (pe_lst (pa_cons pe_str pa_nil)) (pe_lc (own := [("_law_number", 5)]) (g := gName 5) rfl scLawText.nd (pi_tup (pv 3)) (blkOk_by (N := ["_law_count", "_law_links_here", "_law_lines", "_law_link", "_law_words", "_law_number"]) (sc := fnScope sLawText) (by decide +kernel)) (fun _ _ _ _ _ => pg_name (i := 5) scLawText.nd rfl (Or.inl rfl)) (fun _ _ _ _ _ => pts_nil) (fun _ _ _ _ _ => (pe_callTy call_str_int (by rfl) T.str (by decide +kernel) (pa_cons (pv 5) pa_nil))))))
 (pss_one (ps_expr (pe_bm PySem.F.plainAttrs_list PySem.F.slot_list_append PySem.F.type_list_append mt_append (pv 2) (pa_cons (pe_join pe_str (pv 4)) pa_nil))))))
 (pss_one (ps_ret (pe_join pe_str (pv 2)))))), ?_⟩
    obtain ⟨ts, ρ, M, P, PX, r, m, ⟨c, ls, rfl, c0, c1, hl, hs, q⟩, o, ox⟩ := h
    simp only [nox_K, cx_K]
    refine run_in r m o (by walk_at "sim") ?_
    walk_at "fm"
    have len3 : ∀ i : Int, 0 ≤ i → i ≤ 1000000000000000000 → (Str.ofString (toString i)).length ≤ 19 := fun i h0 h1 => PyProof.Rows.toString_length_le h0 (by decide) (by omega)
    have lg : ∀ i : Int, 0 ≤ i → i ≤ 1000000000000000000 → i.natAbs.log2 < 1920 := fun i h0 h1 => Nat.lt_of_lt_of_le (PySem.Flt.log2_lt_of (k := 64) (by decide) (by omega)) (by decide)
    have z1 : ("places " : Str).length = 7 := by decide +kernel
    have z2 : ("bridge " : Str).length = 7 := by decide +kernel
    have z3 : (" " : Str).length = 1 := by decide +kernel
    have z4 : ("bridge" : Str).length = 6 := by decide +kernel
    have z0 : (Str.empty : Str).length = 0 := rfl
    have k1 := len3 c c0 (by omega)
    refine ⟨lg c c0 (by omega), by rw [sizeLine_eq, z1]; omega, by rw [sizeLine_eq]; decide, ?_⟩
    rw [head_eq]
    unfold fFor
    walk_at "fm"
    refine ⟨fun i L2 M2 => ∃ v3 v4 v5, L2 = [some (.int c), some (.tup (ls.map lkT)), some (.ref (List.length M)), v3, v4, v5] ∧ M2 = M ++ [.lst ((headS c :: (ls.take i).map lineS).map Tr.str)], ⟨none, none, none, rfl, rfl⟩, ?_, ?_⟩
    · rintro i t L2 M2 ht ⟨v3, v4, v5, rfl, rfl⟩
      rw [List.getElem?_map] at ht
      cases hl' : ls[i]? with
      | none => rw [hl'] at ht; cases ht
      | some l =>
        rw [hl'] at ht
        cases ht
        obtain ⟨a0, a1, b0, b1, d0, d1, e0, e1⟩ := hs l (List.mem_of_getElem? hl')
        have hi := (List.getElem?_eq_some_iff.mp hl').1
        have y1 := len3 l.1 a0 (by omega)
        have y2 := len3 l.2.1 b0 (by omega)
        have y3 := len3 l.2.2.1 d0 (by omega)
        have y4 := len3 l.2.2.2 e0 e1
        walk_at "fm"
        refine ⟨by rw [sizeLine_eq]; decide, ?_⟩
        refine lc_T (ts := [.int l.1, .int l.2.1, .int l.2.2.1, .int l.2.2.2]) strT rfl ?_ (by rw [sizeLine_eq]; show 4 ≤ 16777216; decide) ?_ ?_ ?_
        · rw [List.length_append]
          refine belM_ext m.belM ?_
          simp only [belM, O.bel, Tr.bels, Tr.bel, bels_strs, Bool.and_true]
        · intro t ht y hy
          simp only [List.mem_cons, List.not_mem_nil, or_false] at ht
          rcases ht with rfl | rfl | rfl | rfl <;> cases hy <;> rfl
        · intro t ht R N hR hN
          have : ∃ j, t = .int j ∧ 0 ≤ j ∧ j ≤ 1000000000000000000 := by
            simp only [List.mem_cons, List.not_mem_nil, or_false] at ht
            rcases ht with rfl | rfl | rfl | rfl
            · exact ⟨_, rfl, a0, by omega⟩
            · exact ⟨_, rfl, b0, by omega⟩
            · exact ⟨_, rfl, d0, by omega⟩
            · exact ⟨_, rfl, e0, e1⟩
          obtain ⟨j, rfl, j0, j1⟩ := this
          simp only [wipeF]
          walk_at "fm"
          exact ⟨lg j j0 j1, (hR _ rfl).1⟩
        · have e : [Tr.int l.1, .int l.2.1, .int l.2.2.1, .int l.2.2.2].filterMap strT = [.str (toString l.1), .str (toString l.2.1), .str (toString l.2.2.1), .str (toString l.2.2.2)] := rfl
          rw [e]
          walk_at "fm"
          refine ⟨by rw [sizeLine_eq]; decide, wordsL l, rfl, ?_, ?_, ?_⟩
          · rw [z3]
            unfold wordsL
            simp only [List.map_cons, List.map_nil, List.sum_cons, List.sum_nil, List.length_cons, List.length_nil, z4]
            omega
          · rw [sizeLine_eq, List.length_map, List.length_map, List.length_take]
            omega
          · rw [line_join]
            refine forget_to (g := [_]) (L' := [some (.int c), some (.tup (ls.map lkT)), some (.ref (List.length M)), none, none, none]) (by simp only [List.length_cons, List.length_nil]; omega) ?_ ⟨_, _, _, rfl, ?_⟩ ?_ m.belM ?_
            · exact ⟨_, rfl, _, rfl, _, rfl, _, _, rfl, _, _, rfl, _, _, rfl, rfl⟩
            · rw [← map_take_snocS hl' lineS, List.map_append (l₁ := (ls.take i).map lineS)]
              rfl
            · simp only [belL, Tr.bel, bel_lks, Bool.and_true, Bool.true_and, decide_eq_true_eq, List.length_cons, List.length_nil]
              omega
            · show (Tr.bels _ (Tr.str (headS c) :: (((ls.take i).map lineS).map Tr.str ++ [Tr.str (lineS l)])) && true) = true
              rw [Bool.and_true]
              refine Eq.trans (congrArg (Tr.bels _) ?_) (bels_strs (headS c :: ((ls.take i).map lineS ++ [lineS l])))
              rw [List.map_cons, List.map_append]
              rfl
    · rintro L2 M2 ⟨v3, v4, v5, rfl, rfl⟩
      walk_at "fm"
      rw [List.length_map, List.take_length]
      refine ⟨headS c :: ls.map lineS, rfl, ?_, keep_app m rfl q⟩
      have hb : ∀ y ∈ headS c :: ls.map lineS, y.length ≤ 100 := fun y hy => by
        rcases List.mem_cons.mp hy with rfl | hy
        · unfold headS
          rw [Str.length_append, Str.length_append, z0, z1]
          omega
        · obtain ⟨l, hl', rfl⟩ := List.mem_map.mp hy
          obtain ⟨a0, a1, b0, b1, d0, d1, e0, e1⟩ := hs l hl'
          have y1 := len3 l.1 a0 (by omega)
          have y2 := len3 l.2.1 b0 (by omega)
          have y3 := len3 l.2.2.1 d0 (by omega)
          have y4 := len3 l.2.2.2 e0 e1
          unfold lineS
          simp only [Str.length_append, z0, z2, z3]
          omega
      have h1 := sum_le hb
      have h2 : ("\n" : Str).length = 1 := by decide +kernel
      rw [h2]
      have h3 : (headS c :: ls.map lineS).length ≤ 101 := by simp; omega
      omega
end
end T1

set_option Elab.async false
set_option linter.all false
set_option maxRecDepth 100000
set_option maxHeartbeats 4000000
namespace T1
open PySem PySem.Spec PyProof.Rows L2 C8 Fm T2
local macro_rules | `(tactic| walk_at "sim1") => `(tactic| with_reducible first
  | exact sim_nil | exact sim_var | exact sim_int | exact sim_str | exact sim_bl | exact sim_non | exact sim_raw
  | apply sim_cons | apply sim_op | apply sim_un | apply sim_tup | apply sim_lst
  | apply sim_CB | apply sim_if | apply sim_test | apply sim_B | apply sim_not | apply sim_and | apply sim_or
  | apply sim_andV | apply sim_orV | apply sim_notV | apply sim_chain | exact sim_nopart | apply sim_part
  | apply sim_sl | apply sim_BML | apply sim_BMS | apply sim_BM0S | apply sim_M1 | apply sim_M0
  | apply sim_fmt | apply sim_joined | exact SimJ.nil | apply SimJ.cons
  | exact s_I0i | exact s_I0b | exact s_Ii | exact s_Ui | exact s_eq | exact s_ne | exact s_isN | exact s_notN | exact s_ixL | exact s_ixT | exact s_ixS
  | exact s_cat | exact s_catA | exact s_rep | exact s_repT | exact s_in | exact s_slL | exact s_slA | exact s_slS | exact s_addS | exact s_leS | exact s_ltS
  | exact c_len | exact c_lenS | exact c_list | exact c_tuple | exact c_int1 | exact c_intS | exact c_strI | exact c_max2 | exact c_min2
  | exact m_append | exact m_extend | exact m_split | exact m_join | exact m_0b | exact m_1b
  | apply sim_call | exact simSpF
  | exact sim_name | exact sim_gnil | apply sim_gcons | apply sim_gtup | apply sim_gsub | exact set_list
  | exact sim_next | apply sim_seq | apply sim_cut | exact sim_break | exact sim_cont | apply sim_drop | apply sim_ret | exact sim_retN
  | apply sim_ifS | exact sim_never | apply sim_asg | apply sim_par | apply sim_aug
  | apply sim_for | apply sim_while | apply i_list | apply i_tup | apply i_rng1 | apply i_rng2 | apply i_str | apply i_enum | apply i_zip
  | apply sim_lc | exact sim_yes | exact sim_namew (by decide) | exact sim_gnilw | apply sim_gconsw | apply sim_gtupw
  | apply sim_fld | apply sim_con | apply sim_setFld | apply sim_make | apply sim_prop | apply sim_meth | apply sim_cmeth | exact c_isi | apply sim_isiT | exact s_eqD | exact s_neD
  | walk_at "sim2")
local macro_rules | `(tactic| walk_at "sim2") => `(tactic| fail)
local macro_rules | `(tactic| walk_at "sim") => `(tactic| repeat' (walk_at "sim1"))
/-- open the trees' reading as far as it goes by itself -/
local macro_rules | `(tactic| walk_at "fm") => `(tactic| simp (config := { failIfUnchanged := false }) only [fVar, fC, fOp, fUn, fNil, fCons, fTup, fLst, fCB, fIf, fTest, fNot, fAnd, fOr, fAndV, fOrV, fNotV, fChain, fNoPart, fPart, fI, fI0, fU, fEq, fNe, fIsN, fNotN, fIxL, fIxT, fIxS,
  fCat, fCatA, fRep, fRepT, fSlL, fSlA, fSlS, fSl, fLen, fLenS, fList, fTuple, fIntS, fStrI, fMax2, fMin2, fAppend, fExtend, fIn, fBM, fMS, fBMS, fBM0S, fAddS, fLeS, fLtS, fM0b, fM1b, fSplit, fJoin, fJoined, fJs,
  fName, fGNil, fGCons, fGTup, fSetL, fGSub, fNext, fSeq, fCut, fBreak, fCont, fDrop, fRet, fRetN, fIfS, fAsg, fPar, fAug, fCall, fFld, fCon, fSetFld, fMake, fProp, fMeth, fCMeth, fIsi, fIsiT, fEqD, fNeD, insAt_ref, insO_ins, fFmt, fmtS_i, fmtS_s, fmtOk_i, fmtOk_s, fIL, fIT, fIR1, fIR2, fIS, fIEn, fIZ,
  startL, List.map_cons, List.map_nil, List.length_cons, List.length_nil, List.cons_append, List.nil_append, List.replicate, List.getElem?_cons_zero, List.getElem?_cons_succ, List.set_cons_zero, List.set_cons_succ, Nat.reduceSub, Nat.reduceAdd,
  Option.some.injEq, Tr.int.injEq, Tr.str.injEq, Tr.bl.injEq, Tr.tup.injEq, Tr.ref.injEq, List.cons.injEq, exists_eq_left, exists_eq_left', exists_eq_right, true_and, and_true, and_self, exists_and_left, tupOf_tup, eqS_ii, eqS_ss, eqS_bb, eqS_ni, eqS_in, eqS_nn, isStr_s, isN_n, isN_i, isN_b, isN_s, isN_t, isN_r, noRaw_n, noRaw_i, noRaw_b, noRaw_s, noRaw_t, noRaw_r, and_assoc, reduceIte, Bool.false_eq_true, exists_const, lstAt_ref, seqAt_ref, seqAt_tup, refAt_ref, lstO_lst, app_assoc2, len_app1, at_kk, at_00, set_k, set_00, Nat.add_assoc, Option.map_some, Prod.mk.injEq, int_cast_inj, Nat.zero_le, decide_eq_true_eq, Bool.not_eq_true', decide_eq_false_iff_not, Nat.add_zero, implies_true, forall_const, ite_true, ite_false, if_true, if_false, decide_true, decide_false, Bool.not_true, Bool.not_false, asg_len, Option.isSome_some])
local macro_rules | `(tactic| walk_at "bel") => `(tactic| first | rfl | (simp (config := { failIfUnchanged := false }) only [belM, O.bel, bels_strs, bels_ints, belL, Tr.bel, Tr.bels, Bool.and_true, Bool.true_and, Bool.and_self, decide_eq_true_eq, Bool.and_eq_true, true_and, and_true, List.length_cons, List.length_nil, Nat.reduceAdd]; try omega))

/-! ### the law's own reading of words -/
def fsNumbers : FSp := fun ts M P _ => ∃ (n : Nat) (ws : List Str), ts = [.ref n] ∧ M[n]? = some (.lst (ws.map Tr.str)) ∧ ws.length ≤ 1000 ∧ (∀ w ∈ ws, w.length ≤ 20 ∧ PyData.strOk w = true) ∧
  (ws.all goodW = false → P .non M) ∧ (ws.all goodW = true → P (.ref M.length) (M ++ [.lst (ws.map fun w => Tr.int (numV w))]))
def chrDig (x : Str) : Bool := (!decide (x.cps.toList < ("0" : Str).cps.toList)) && (!decide (("9" : Str).cps.toList < x.cps.toList))
theorem cps0 : ("0" : Str).cps.toList = [48] := by decide +kernel
theorem cps9 : ("9" : Str).cps.toList = [57] := by decide +kernel
theorem chrDig_one (k : Nat) : chrDig ⟨#[k]⟩ = dig k := by
  unfold chrDig dig
  rw [cps0, cps9]
  show ((!decide ([k] < [48])) && (!decide ([57] < [k]))) = _
  have h1 : ([k] < [48]) ↔ k < 48 := by simp [List.cons_lt_cons_iff]
  have h2 : ([57] < [k]) ↔ 57 < k := by simp [List.cons_lt_cons_iff]
  rw [Bool.eq_iff_iff]
  simp only [Bool.and_eq_true, Bool.not_eq_true', decide_eq_false_iff_not, decide_eq_true_eq, h1, h2]
  omega
def ndT : Tr → Option Tr
  | .str x => if chrDig x = true then none else some (.str x)
  | _ => none
theorem ndT_one (k : Nat) : ndT (.str ⟨#[k]⟩) = if dig k = true then none else some (.str ⟨#[k]⟩) := by
  show (if chrDig ⟨#[k]⟩ = true then none else some (Tr.str ⟨#[k]⟩)) = _
  rw [chrDig_one]
def ndS (w : Str) : List Str := ((TL.tl w).filter fun k => !dig k).map fun k => ⟨#[k]⟩
theorem nd_eq (w : Str) : (chrsT w).filterMap ndT = (ndS w).map Tr.str := by
  unfold chrsT ndS TL.tl
  induction w.cps.toList with
  | nil => rfl
  | cons k r ih =>
    rw [List.map_cons, List.filterMap_cons, List.filter_cons]
    rw [ndT_one]
    cases h : dig k <;> simp [ih]
theorem nd_nil (w : Str) : ndS w = [] ↔ (TL.tl w).all dig = true := by
  unfold ndS
  rw [List.map_eq_nil_iff, List.filter_eq_nil_iff, List.all_eq_true]
  exact ⟨fun h c hc => by have := h c hc; simpa using this, fun h c hc => by simp [h c hc]⟩
theorem one_ok {w : Str} {k : Nat} (h : PyData.strOk w = true) (hk : k ∈ TL.tl w) : PyData.strOk ⟨#[k]⟩ = true := by
  unfold PyData.strOk at h ⊢
  rw [all_arr, List.all_eq_true] at h
  have := h k hk
  simpa using this
theorem eqv_nil : ∀ ys : List Str, PyData.eqv (.list (ys.map PyData.str)) (.list []) = decide (ys = [])
  | [] => rfl
  | y :: ys => by rw [decide_eq_false (by simp)]; rfl
theorem da_strs {M : Mem} : ∀ ys : List Str, DaAll M (ys.map Tr.str) (ys.map PyData.str)
  | [] => .nil
  | y :: ys => .cons (.str y) (da_strs ys)
theorem lay_strs : ∀ ys : List Str, (∀ y ∈ ys, PyData.strOk y = true) → PyData.canLayAll0 (ys.map PyData.str) = true
  | [], _ => by simp [PyData.canLayAll0]
  | l :: ls, h => by simp [PyData.canLayAll0, PyData.canLay0, h l List.mem_cons_self, lay_strs ls fun y hy => h y (List.mem_cons_of_mem _ hy)]
theorem depth_strs : ∀ ys : List Str, PyData.depthAll (ys.map PyData.str) ≤ 1
  | [] => by simp [PyData.depthAll]
  | l :: ls => by
    have := depth_strs ls
    simp only [List.map_cons, PyData.depthAll, PyData.depth]
    omega
theorem shaped_strs (ys : List Str) (h0 : ∀ y ∈ ys, PyData.strOk y = true) : SeqAt.shaped (.list (ys.map PyData.str)) = true := by
  have h := depth_strs ys
  have hd : PyData.depth (.list (ys.map PyData.str)) ≤ 64 := by simp only [PyData.depth]; omega
  have hc : PyData.canLay0 (.list (ys.map PyData.str)) = true := by simp only [PyData.canLay0]; exact lay_strs ys h0
  unfold SeqAt.shaped
  rw [hc, decide_eq_true hd] <;> rfl
theorem good_iff {w : Str} : goodW w = true ↔ w ≠ "" ∧ (TL.tl w).all dig = true ∧ ¬ (1 < (w.length : Int) ∧ (TL.tl w)[0]? = some 48) := by
  unfold goodW
  rw [TL.len_tl]
  have e : w = "" ↔ TL.tl w = [] := ⟨fun h => by rw [h]; rfl, fun h => TL.ext_tl (by rw [h]; rfl)⟩
  rw [ne_eq, e]
  cases TL.tl w with
  | nil => simp [goodL]
  | cons c r =>
    cases r with
    | nil => simp [goodL]
    | cons d r => simp [goodL, and_assoc]; omega
theorem forget_base {k : Nat} {J : Fm.Loc → Mem → Prop} {L L' : Fm.Loc} {M h : Mem} (hk : k ≤ List.length M) (le : LocLe L' L) (j : J L' M) (bl : belL (List.length M) L' = true) (hM : belM M.length M = true) : Forget k J L (M ++ h) :=
  ⟨M.length, L', hk, le, bl, by rw [List.take_left]; exact hM, by rw [List.take_left]; exact j⟩
def valT : Tr → Option Tr
  | .str x => some (.int (numV x))
  | _ => none
theorem val_eq : ∀ ws : List Str, (ws.map Tr.str).filterMap valT = ws.map fun w => Tr.int (numV w)
  | [] => rfl
  | w :: ws => by
    rw [List.map_cons, List.filterMap_cons]
    show Tr.int (numV w) :: _ = _
    rw [val_eq ws]
    rfl
section
variable {P : Program} {w : World} {K : PySem.W.Frag} {mg : Str → Option Value} {base : Heap}
theorem scNumbers : FnScope ["_law_words", "_law_word", "_law_c"] ["_law_words"] (fnScope sNumbers) := fnScope_by (by decide +kernel)
theorem ok_numbers {f : Addr} {fd : FuncData} (F : Def K mg "_law_numbers" sNumbers f fd) (b : Binds K fd ["_law_words"] []) (T : BT mg) : Cal P w K mg base 1 "_law_numbers" (spF K fsNumbers) [] := by
  refine cal0 F b .nil scNumbers (fun vs H Q E h => ?_) (fun cdv A outer s H vs Q E hr h => ?_)
  · obtain ⟨ts, ρ, M, P, PX, r, m, ⟨n, ws, rfl, _⟩, o, ox⟩ := h
    exact r.len
  · refine ⟨_, (pss_cons (ps_for PassesOwn.never rfl (pi_list (pv 0)) (pg_name (i := 1) scNumbers.nd rfl (Or.inl rfl)) (pss_one (ps_if (PW.pt (pw_or (pt_cmpR op_eq (pv 1) pe_str (nomark _)) (pw_or (pt_cmpR (op_neD hr.units) (pe_lc (own := [("_law_c", 2)]) (g := gName 2) rfl scNumbers.nd (pi_str (pv 1)) (blkOk_by (N := ["_law_words", "_law_word", "_law_c"]) (sc := fnScope sNumbers) (by decide +kernel)) (fun _ _ _ _ _ => pg_name (i := 2) scNumbers.nd rfl (Or.inl rfl)) (fun _ _ _ _ _ => (pts_one (pt_not (pt_chain op_le_str op_le_str pe_str (pv 2) pe_str)))) (fun _ _ _ _ _ => (pv 2))) (pe_lst pa_nil) (nomark _)) (pw_or1 (PW.pt (pw_and (pt_cmpR op_gt (pe_callB call_len_str (by rfl) T.len PySem.boot_len (pa_cons (pv 1) pa_nil)) pe_int (nomark _)) (pw_and1 (pt_cmpR op_eq (pe_ix ix_str (pv 1) pe_int (fun _ _ => rfl)) pe_str (nomark _))))))))) (pss_one (ps_ret pe_non)) pss_nil)))
 (pss_one (ps_ret (pe_lc (own := [("_law_word", 1)]) (g := gName 1) rfl scNumbers.nd (pi_list (pv 0)) (blkOk_by (N := ["_law_words", "_law_word", "_law_c"]) (sc := fnScope sNumbers) (by decide +kernel)) (fun _ _ _ _ _ => pg_name (i := 1) scNumbers.nd rfl (Or.inl rfl)) (fun _ _ _ _ _ => pts_nil) (fun _ _ _ _ _ => (pe_callTy call_int_str (by rfl) T.int (by decide +kernel) (pa_cons (pv 1) pa_nil))))))), ?_⟩
    obtain ⟨ts, ρ, M, P, PX, r, m, ⟨n, ws, rfl, hn, hl, hw, q1, q2⟩, o, ox⟩ := h
    simp only [nox_K, cx_K]
    refine run_in r m o (by walk_at "sim") ?_
    walk_at "fm"
    unfold fFor
    walk_at "fm"
    rw [hn]
    walk_at "fm"
    refine ⟨fun i L2 M2 => ∃ v1 : Option Tr, L2 = [some (.ref n), v1, none] ∧ M2 = M ∧ (ws.take i).all goodW = true, ⟨none, rfl, rfl, rfl⟩, ?_, ?_, ?_⟩
    · rintro i L2 M2 _ ⟨v1, rfl, rfl, _⟩
      rw [hn]
      rfl
    · rintro i t L2 M2 ht ⟨v1, rfl, rfl, hg⟩
      rw [List.getElem?_map] at ht
      cases hlw : ws[i]? with
      | none => rw [hlw] at ht; cases ht
      | some w =>
        rw [hlw] at ht
        cases ht
        have hwm := List.mem_of_getElem? hlw
        obtain ⟨hwl, hwk⟩ := hw w hwm
        have bad : goodW w = false → P .non M2 := fun hb => q1 (by
          rw [← Bool.not_eq_true, List.all_eq_true]
          intro z
          rw [z w hwm] at hb
          cases hb)
        walk_at "fm"
        by_cases he : w = ""
        · rw [if_pos he]
          refine keep_same m rfl (bad ?_)
          rw [← Bool.not_eq_true, good_iff]
          exact fun z => z.1 he
        · rw [if_neg he]
          refine lc_S (z := w) ndT rfl m.belM (by rw [sizeLine_eq]; omega) ?_ ?_ ?_
          · intro t ht y hy
            unfold chrsT at ht
            obtain ⟨k, _, rfl⟩ := List.mem_map.mp ht
            rw [ndT_one] at hy
            split at hy <;> cases hy
            rfl
          · intro t ht R N hR hN
            unfold chrsT at ht
            obtain ⟨k, _, rfl⟩ := List.mem_map.mp ht
            simp only [wipeF]
            walk_at "fm"
            rw [cps0, cps9]
            rw [ndT_one] at hR hN
            have h1 : ([k] < [48]) ↔ k < 48 := by simp [List.cons_lt_cons_iff]
            have h2 : ([57] < [k]) ↔ 57 < k := by simp [List.cons_lt_cons_iff]
            by_cases hk : dig k = true
            · have hk' := dig_iff.mp hk
              rw [if_pos hk] at hN
              rw [if_pos (by rw [h1]; omega), if_neg (by simp only [Bool.not_eq_false', Bool.not_eq_true', decide_eq_false_iff_not, Bool.not_eq_false, h2]; simp; omega)]
              exact (hN rfl).1
            · have hk' : ¬ (48 ≤ k ∧ k ≤ 57) := fun z => hk (dig_iff.mpr z)
              rw [if_neg hk] at hR
              have key := (hR _ rfl).1
              split
              · rename_i h3
                rw [h1] at h3
                rw [if_pos (by simp only [Bool.not_eq_false', decide_eq_true_eq, h2]; omega)]
                exact key
              · exact key
          · rw [nd_eq]
            refine ⟨.list ((ndS w).map PyData.str), .lst (by rw [lstAt_ref, List.append_assoc, at_00]; rfl) (da_strs _), .list [], .lst (by rw [lstAt_ref, at_00]; rfl) .nil, shaped_strs _ (fun y hy => by unfold ndS at hy; obtain ⟨k, hk, rfl⟩ := List.mem_map.mp hy; exact one_ok hwk (List.mem_filter.mp hk).1), by decide +kernel, ?_⟩
            rw [eqv_nil]
            by_cases hz : ndS w = []
            · rw [if_neg (by simp [hz])]
              have hall := (nd_nil w).mp hz
              have hws : w.length ≤ sizeLine := by rw [sizeLine_eq]; omega
              have fin : ¬ (1 < (w.length : Int) ∧ (TL.tl w)[0]? = some 48) → Forget (List.length M2) (fun L2 M2_1 => ∃ v1, L2 = [some (Tr.ref n), v1, none] ∧ M2_1 = M2 ∧ (List.take (i + 1) ws).all goodW = true)
                  [some (Tr.ref n), some (Tr.str w), none] (M2 ++ [O.lst (List.map Tr.str (ndS w))] ++ [O.lst []]) := fun h48 => by
                rw [List.append_assoc]
                refine forget_base (L' := [some (.ref n), none, none]) (Nat.le_refl _) ⟨_, rfl, _, _, rfl, _, _, rfl, rfl⟩ ⟨none, rfl, rfl, ?_⟩ ?_ m.belM
                · rw [List.take_succ, hlw, List.all_append, hg]
                  show (true && (goodW w && true)) = true
                  rw [good_iff.mpr ⟨he, hall, h48⟩]
                  rfl
                · have := (List.getElem?_eq_some_iff.mp hn).1
                  simp only [belL, Tr.bel, Bool.and_true, decide_eq_true_eq]
                  exact this
              refine ⟨hws, ?_⟩
              by_cases h1 : 1 < (w.length : Int)
              · rw [if_pos h1]
                obtain ⟨x, hx⟩ : ∃ x, (TL.tl w)[0]? = some x := by
                  cases e : TL.tl w with
                  | nil => rw [TL.len_tl, e] at h1; simp at h1
                  | cons c r => exact ⟨c, rfl⟩
                refine ⟨hws, x, ?_, ?_⟩
                · unfold atI L2.ixN
                  have hlen : w.cps.toList.length = w.length := by rw [TL.len_tl]
                  rw [if_pos (Int.le_refl 0), if_pos (by rw [hlen]; omega)]
                  exact hx
                · by_cases h48 : ({ cps := #[x] } : Str) = "0"
                  · rw [if_pos h48]
                    have hx48 : x = 48 := by
                      have := congrArg TL.tl h48
                      rw [tl_zero] at this
                      have e : TL.tl ({ cps := #[x] } : Str) = [x] := rfl
                      rw [e] at this
                      exact List.head_eq_of_cons_eq this
                    rw [List.append_assoc]
                    refine keep_app m rfl (bad ?_)
                    rw [← Bool.not_eq_true, good_iff]
                    exact fun z => z.2.2 ⟨h1, by rw [hx, hx48]⟩
                  · rw [if_neg h48]
                    refine fin fun z => h48 ?_
                    rw [hx] at z
                    cases z.2
                    exact TL.ext_tl tl_zero.symm
              · rw [if_neg h1]
                exact fin fun z => h1 z.1
            · rw [if_pos (by simp [hz]), List.append_assoc]
              refine keep_app m rfl (bad ?_)
              rw [← Bool.not_eq_true, good_iff]
              exact fun z => hz ((nd_nil w).mpr z.2.1)
    · rintro L2 M2 ⟨v1, rfl, rfl, hg⟩
      rw [List.length_map, List.take_length] at hg
      refine lc_L (ts := ws.map Tr.str) valT rfl (by rw [lstAt_ref, hn]; rfl) m.belM (by rw [sizeLine_eq, List.length_map]; omega) ?_ ?_ ?_
      · intro t ht y hy
        obtain ⟨k, _, rfl⟩ := List.mem_map.mp ht
        cases hy
        rfl
      · intro t ht R N hR hN
        obtain ⟨k, hk, rfl⟩ := List.mem_map.mp ht
        simp only [wipeF]
        walk_at "fm"
        have hlk := (hw k hk).1
        exact ⟨_, int_good (List.all_eq_true.mp hg k hk) (by omega), by omega, (hR _ rfl).1⟩
      · rw [val_eq]
        refine keep_whole (by rw [List.length_append]; exact Nat.le_add_right _ _) (by simp [Tr.bel]) ?_ (q2 hg)
        rw [List.length_append]
        refine belM_ext m.belM ?_
        simp only [belM, O.bel, Bool.and_true]
        have := bels_ints (n := List.length M2 + 1) (ws.map numV)
        rw [List.map_map] at this
        exact this
end
end T1

set_option Elab.async false
set_option linter.all false
set_option maxRecDepth 100000
set_option maxHeartbeats 4000000
namespace T1
open PySem PySem.Spec PyProof.Rows L2 C8 Fm T2
local macro_rules | `(tactic| walk_at "sim1") => `(tactic| with_reducible first
  | exact sim_nil | exact sim_var | exact sim_int | exact sim_str | exact sim_bl | exact sim_non | exact sim_raw
  | apply sim_cons | apply sim_op | apply sim_un | apply sim_tup | apply sim_lst
  | apply sim_CB | apply sim_if | apply sim_test | apply sim_B | apply sim_not | apply sim_and | apply sim_or
  | apply sim_andV | apply sim_orV | apply sim_notV | apply sim_chain | exact sim_nopart | apply sim_part
  | apply sim_sl | apply sim_BML | apply sim_BMS | apply sim_BM0S | apply sim_M1 | apply sim_M0
  | apply sim_fmt | apply sim_joined | exact SimJ.nil | apply SimJ.cons
  | exact s_I0i | exact s_I0b | exact s_Ii | exact s_Ui | exact s_eq | exact s_ne | exact s_isN | exact s_notN | exact s_ixL | exact s_ixT | exact s_ixS
  | exact s_cat | exact s_catA | exact s_rep | exact s_repT | exact s_in | exact s_slL | exact s_slA | exact s_slS | exact s_addS | exact s_leS | exact s_ltS
  | exact c_len | exact c_lenS | exact c_list | exact c_tuple | exact c_int1 | exact c_intS | exact c_strI | exact c_max2 | exact c_min2
  | exact m_append | exact m_extend | exact m_split | exact m_join | exact m_0b | exact m_1b
  | apply sim_call | exact simSpF
  | exact sim_name | exact sim_gnil | apply sim_gcons | apply sim_gtup | apply sim_gsub | exact set_list
  | exact sim_next | apply sim_seq | apply sim_cut | exact sim_break | exact sim_cont | apply sim_drop | apply sim_ret | exact sim_retN
  | apply sim_ifS | exact sim_never | apply sim_asg | apply sim_par | apply sim_aug
  | apply sim_for | apply sim_while | apply i_list | apply i_tup | apply i_rng1 | apply i_rng2 | apply i_str | apply i_enum | apply i_zip
  | apply sim_lc | exact sim_yes | exact sim_namew (by decide) | exact sim_gnilw | apply sim_gconsw | apply sim_gtupw
  | apply sim_fld | apply sim_con | apply sim_setFld | apply sim_make | apply sim_prop | apply sim_meth | apply sim_cmeth | exact c_isi | apply sim_isiT | exact s_eqD | exact s_neD
  | walk_at "sim2")
local macro_rules | `(tactic| walk_at "sim2") => `(tactic| fail)
local macro_rules | `(tactic| walk_at "sim") => `(tactic| repeat' (walk_at "sim1"))
/-- open the trees' reading as far as it goes by itself -/
local macro_rules | `(tactic| walk_at "fm") => `(tactic| simp (config := { failIfUnchanged := false }) only [fVar, fC, fOp, fUn, fNil, fCons, fTup, fLst, fCB, fIf, fTest, fNot, fAnd, fOr, fAndV, fOrV, fNotV, fChain, fNoPart, fPart, fI, fI0, fU, fEq, fNe, fIsN, fNotN, fIxL, fIxT, fIxS,
  fCat, fCatA, fRep, fRepT, fSlL, fSlA, fSlS, fSl, fLen, fLenS, fList, fTuple, fIntS, fStrI, fMax2, fMin2, fAppend, fExtend, fIn, fBM, fMS, fBMS, fBM0S, fAddS, fLeS, fLtS, fM0b, fM1b, fSplit, fJoin, fJoined, fJs,
  fName, fGNil, fGCons, fGTup, fSetL, fGSub, fNext, fSeq, fCut, fBreak, fCont, fDrop, fRet, fRetN, fIfS, fAsg, fPar, fAug, fCall, fFld, fCon, fSetFld, fMake, fProp, fMeth, fCMeth, fIsi, fIsiT, fEqD, fNeD, insAt_ref, insO_ins, fFmt, fmtS_i, fmtS_s, fmtOk_i, fmtOk_s, fIL, fIT, fIR1, fIR2, fIS, fIEn, fIZ,
  startL, List.map_cons, List.map_nil, List.length_cons, List.length_nil, List.cons_append, List.nil_append, List.replicate, List.getElem?_cons_zero, List.getElem?_cons_succ, List.set_cons_zero, List.set_cons_succ, Nat.reduceSub, Nat.reduceAdd,
  Option.some.injEq, Tr.int.injEq, Tr.str.injEq, Tr.bl.injEq, Tr.tup.injEq, Tr.ref.injEq, List.cons.injEq, exists_eq_left, exists_eq_left', exists_eq_right, true_and, and_true, and_self, exists_and_left, tupOf_tup, eqS_ii, eqS_ss, eqS_bb, eqS_ni, eqS_in, eqS_nn, isStr_s, isN_n, isN_i, isN_b, isN_s, isN_t, isN_r, noRaw_n, noRaw_i, noRaw_b, noRaw_s, noRaw_t, noRaw_r, and_assoc, reduceIte, Bool.false_eq_true, exists_const, lstAt_ref, seqAt_ref, seqAt_tup, refAt_ref, lstO_lst, app_assoc2, len_app1, at_kk, at_00, set_k, set_00, Nat.add_assoc, Option.map_some, Prod.mk.injEq, int_cast_inj, Nat.zero_le, decide_eq_true_eq, Bool.not_eq_true', decide_eq_false_iff_not, Nat.add_zero, implies_true, forall_const, ite_true, ite_false, if_true, if_false, decide_true, decide_false, Bool.not_true, Bool.not_false, asg_len, Option.isSome_some])
local macro_rules | `(tactic| walk_at "bel") => `(tactic| first | rfl | (simp (config := { failIfUnchanged := false }) only [belM, O.bel, bels_strs, bels_ints, belL, Tr.bel, Tr.bels, Bool.and_true, Bool.true_and, Bool.and_self, decide_eq_true_eq, Bool.and_eq_true, true_and, and_true, List.length_cons, List.length_nil, Nat.reduceAdd]; try omega))

/-! ### the law's own reading of a text -/
def okW (w : Str) : Prop := w.length ≤ 20 ∧ PyData.strOk w = true
/-- texts of few short words -/
structure Neat (N : Nat) (t : Str) : Prop where
  rows : (wordsOf t).length ≤ N
  few : ∀ ws ∈ wordsOf t, ws.length ≤ N ∧ ∀ w ∈ ws, okW w
  len : t.length ≤ 50000
def rdT : Rd → Tr
  | .text r => .tup [.str "text", .int (r : Int)]
  | .town p i => .tup [.str "town", .str p, .int i]
  | .good c ls => .tup [.str "good", .int c, .tup (ls.map lkT)]
def fsLawRead : FSp := fun ts M P _ => ∃ t : Str, ts = [.str t] ∧ Neat 100 t ∧ P (rdT (readW numV (wordsOf t))) M
/-- the memory once the text is cut: at x the list of its lines' words -/
structure BF (M : Mem) (t : Str) (B : Mem) (x : Nat) (refs : List Tr) : Prop where
  hx : ∀ g : Mem, (B ++ g)[x]? = some (O.lst refs)
  xlt : x < B.length
  hw : ∀ (g : Mem) (k : Nat) (ws : List Str), (wordsOf t)[k]? = some ws → ∃ a, refs[k]? = some (Tr.ref a) ∧ (B ++ g)[a]? = some (O.lst (ws.map Tr.str))
  len : refs.length = (wordsOf t).length
  bel : belM B.length B = true
  pre : ∃ h : Mem, B = M ++ h
def wlO (ws : List Str) : O := .lst (ws.map Tr.str)
theorem bels_refs {n : Nat} : ∀ {ks : List Nat}, (∀ k ∈ ks, k < n) → Tr.bels n (ks.map Tr.ref) = true
  | [], _ => rfl
  | k :: ks, h => by
    rw [List.map_cons]
    unfold Tr.bels
    rw [Bool.and_eq_true]
    exact ⟨by unfold Tr.bel; exact decide_eq_true (h k List.mem_cons_self), bels_refs fun j hj => h j (List.mem_cons_of_mem _ hj)⟩
theorem bel_wl {n : Nat} : ∀ (wss : List (List Str)), belM n (wss.map wlO) = true
  | [] => rfl
  | ws :: wss => by
    rw [List.map_cons]
    unfold belM
    rw [Bool.and_eq_true]
    exact ⟨bels_strs ws, bel_wl wss⟩
theorem lc_split {M : Mem} {t : Str} {L : Fm.Loc} {P : PF} (hv : L[0]? = some (some (.str t))) (hv1 : 2 < L.length) (ht : t.length ≤ 50000) (hM : belM M.length M = true) (fin : ∀ B x refs, BF M t B x refs → P (.ref x) B) :
    fLc (fIL (fMS fSplit (fVar 0) (fCons (fC (.str "\n")) fNil))) (fName 2) (fun x M P => P true M) (fMS fSplit (fVar 2) (fCons (fC (.str " ")) fNil)) [2] L M P := by
  have hlen := split_len (x := t) len_nl
  unfold fLc
  walk_at "fm"
  rw [hv]
  walk_at "fm"
  refine ⟨by rw [len_nl]; rfl, by rw [sizeLine_eq]; omega, ?_⟩
  let Lo : O := .lst ((Txt.split t "\n").map Tr.str)
  let rf : Nat → Tr := fun j => .ref (M.length + 1 + j)
  have hb : ∀ i, i ≤ (Txt.split t "\n").length → belM (M.length + 1 + i) (M ++ (Lo :: ((wordsOf t).take i).map wlO)) = true := fun i hi => by
    rw [belM_app]
    rw [Bool.and_eq_true]
    refine ⟨belM_mono (by omega) hM, ?_⟩
    show (Tr.bels _ _ && belM _ _) = true
    rw [Bool.and_eq_true]
    exact ⟨bels_strs _, bel_wl _⟩
  have hl : ∀ i, i ≤ (Txt.split t "\n").length → List.length (M ++ (Lo :: ((wordsOf t).take i).map wlO)) = M.length + 1 + i := fun i hi => by
    rw [List.length_append, List.length_cons, List.length_map, List.length_take, wordsOf_len, Nat.min_eq_left hi]
    omega
  refine ⟨fun i acc M2 => i ≤ (Txt.split t "\n").length ∧ M2 = M ++ (Lo :: ((wordsOf t).take i).map wlO) ∧ acc = (List.range i).map rf, ⟨Nat.zero_le _, rfl, rfl⟩, ?_, ?_, ?_⟩
  · rintro i acc M2 _ ⟨_, rfl, rfl⟩
    exact lstAt_of at_0
  · rintro i y acc M2 hy ⟨hi, rfl, rfl⟩
    rw [List.getElem?_map] at hy
    cases hlu : (Txt.split t "\n")[i]? with
    | none => rw [hlu] at hy; cases hy
    | some line =>
      rw [hlu] at hy
      cases hy
      have hlt := (List.getElem?_eq_some_iff.mp hlu).1
      have hll : line.length ≤ t.length := part_len (List.mem_of_getElem? hlu)
      have hwo := wordsOf_at hlu
      have hset : (List.set (wipeF L [2]) 2 (some (Tr.str line)))[2]? = some (some (Tr.str line)) := by
        rw [List.getElem?_set_self]
        simp only [wipeF, List.length_set]
        exact hv1
      refine ⟨_, hset, rfl, line, rfl, by rw [len_sp]; rfl, by rw [sizeLine_eq]; omega, by rw [sizeLine_eq, List.length_map, List.length_range]; omega, ?_⟩
      have htk : (wordsOf t).take (i + 1) = (wordsOf t).take i ++ [Txt.split line " "] := by
        rw [List.take_succ, hwo]
        rfl
      have hmem : M ++ Lo :: ((wordsOf t).take i).map wlO ++ [O.lst ((Txt.split line " ").map Tr.str)] = M ++ Lo :: ((wordsOf t).take (i + 1)).map wlO := by
        rw [htk, List.map_append, List.append_assoc]
        rfl
      have hacc : (List.range i).map rf ++ [Tr.ref (List.length (M ++ Lo :: ((wordsOf t).take i).map wlO))] = (List.range (i + 1)).map rf := by
        rw [hl i hi, List.range_succ, List.map_append]
        rfl
      rw [hmem, hacc]
      refine ⟨M.length + 1 + (i + 1), by omega, ?_, ?_, ?_⟩
      · have e : (List.range (i + 1)).map rf = ((List.range (i + 1)).map fun j => M.length + 1 + j).map Tr.ref := by rw [List.map_map]; rfl
        rw [e]
        refine bels_refs fun k hk => ?_
        obtain ⟨j, hj, rfl⟩ := List.mem_map.mp hk
        have := List.mem_range.mp hj
        omega
      · rw [List.take_of_length_le (by rw [hl (i + 1) hlt]; exact Nat.le_refl _)]
        exact hb (i + 1) hlt
      · rw [List.take_of_length_le (by rw [hl (i + 1) hlt]; exact Nat.le_refl _)]
        exact ⟨hlt, rfl, rfl⟩
  · rintro acc M2 ⟨hi, rfl, rfl⟩
    rw [List.length_map] at hi ⊢
    have hall : (wordsOf t).take (Txt.split t "\n").length = wordsOf t := by rw [← wordsOf_len, List.take_length]
    have hl2 := hl _ (Nat.le_refl _)
    have hb2 := hb _ (Nat.le_refl _)
    rw [hall] at hl2 hb2 ⊢
    have hwn := wordsOf_len t
    refine fin _ _ ((List.range (Txt.split t "\n").length).map rf) ⟨fun g => ?_, ?_, fun g k ws hk => ?_, ?_, ?_, ?_⟩
    · rw [List.append_assoc]
      exact at_0
    · rw [List.length_append (bs := [_])]
      exact Nat.lt_succ_self _
    · have hkl := (List.getElem?_eq_some_iff.mp hk).1
      refine ⟨M.length + 1 + k, ?_, ?_⟩
      · rw [List.getElem?_map, List.getElem?_range (by omega)]
        rfl
      · rw [List.append_assoc, List.append_assoc, Nat.add_assoc, at_k, Nat.add_comm 1 k]
        show (Lo :: (((wordsOf t).map wlO) ++ _))[k + 1]? = _
        rw [List.getElem?_cons_succ, List.getElem?_append_left (by rw [List.length_map]; exact hkl), List.getElem?_map, hk]
        rfl
    · rw [List.length_map, List.length_range, hwn]
    · rw [List.length_append (bs := [_]), belM_app, Bool.and_eq_true]
      refine ⟨belM_mono ?_ hb2, ?_⟩
      · rw [hl2]
        exact Nat.le_succ _
      · show (Tr.bels _ _ && true) = true
        rw [Bool.and_true]
        have e : (List.range (Txt.split t "\n").length).map rf = ((List.range (Txt.split t "\n").length).map fun j => M.length + 1 + j).map Tr.ref := by rw [List.map_map]; rfl
        rw [e]
        refine bels_refs fun k hk => ?_
        obtain ⟨j, hj, rfl⟩ := List.mem_map.mp hk
        have := List.mem_range.mp hj
        rw [hl2]
        simp only [List.length_cons, List.length_nil]
        omega
    · exact ⟨_, by rw [List.append_assoc]⟩
theorem BF.x0 {M : Mem} {t : Str} {B : Mem} {x : Nat} {refs : List Tr} (h : BF M t B x refs) : B[x]? = some (O.lst refs) := by
  have := h.hx []
  rwa [List.append_nil] at this
theorem BF.w0 {M : Mem} {t : Str} {B : Mem} {x : Nat} {refs : List Tr} (h : BF M t B x refs) {k : Nat} {ws : List Str} (e : (wordsOf t)[k]? = some ws) : ∃ a, refs[k]? = some (Tr.ref a) ∧ ∀ g : Mem, (B ++ g)[a]? = some (O.lst (ws.map Tr.str)) := by
  obtain ⟨a, h1, h2⟩ := h.hw [] k ws e
  refine ⟨a, h1, fun g => ?_⟩
  obtain ⟨a', h3, h4⟩ := h.hw g k ws e
  rw [h1] at h3
  cases h3
  exact h4
theorem atI_nat {xs : List Tr} {k : Nat} {x : Tr} (h : xs[k]? = some x) : atI xs (k : Int) = some x := by
  have hl := (List.getElem?_eq_some_iff.mp h).1
  unfold atI L2.ixN
  rw [if_pos (by omega), if_pos (by omega)]
  exact h
theorem keep_B {K : PySem.W.Frag} {H : Hp} {ρ : List Addr} {M : Mem} {P : PF} {v : Tr} {t : Str} {B g : Mem} {x : Nat} {refs : List Tr} (h : BF M t B x refs) (m : RM K H ρ M) (b : Tr.bel M.length v = true) (p : P v M) : Keep M.length P v (B ++ g) := by
  obtain ⟨h', e⟩ := h.pre
  rw [e, List.append_assoc]
  exact keep_app m b p
theorem words_ne {t : Str} {ws : List Str} (h : ws ∈ wordsOf t) : ws ≠ [] := by
  unfold wordsOf at h
  obtain ⟨l, _, rfl⟩ := List.mem_map.mp h
  exact split_ne _ _
theorem lineP_none {f : Str → Int} {k : Str} {r : List Str} (h : ¬ (k = "places" ∧ r.all goodW = true ∧ r.length = 1)) : lineP f (k :: r) = none := by
  match r with
  | [] => rfl
  | [a] =>
    show (if k = "places" ∧ goodW a = true then some (f a) else none) = none
    rw [if_neg fun z => h ⟨z.1, by simp [z.2], rfl⟩]
  | _ :: _ :: _ => rfl
theorem lineP_some {f : Str → Int} {a : Str} (h : goodW a = true) : lineP f ["places", a] = some (f a) := by
  show (if ("places" : Str) = "places" ∧ goodW a = true then some (f a) else none) = _
  rw [if_pos ⟨rfl, h⟩]
theorem lineB_none {f : Str → Int} {k : Str} {r : List Str} (h : ¬ (k = "bridge" ∧ r.all goodW = true ∧ r.length = 4)) : lineB f (k :: r) = none := by
  match r with
  | [] => rfl
  | [_] => rfl
  | [_, _] => rfl
  | [_, _, _] => rfl
  | [a, b, c, d] =>
    show (if k = "bridge" ∧ goodW a = true ∧ goodW b = true ∧ goodW c = true ∧ goodW d = true then some (f a, f b, f c, f d) else none) = none
    rw [if_neg fun z => h ⟨z.1, by simp [z.2], rfl⟩]
  | _ :: _ :: _ :: _ :: _ :: _ => rfl
theorem lineB_some {f : Str → Int} {a b c d : Str} (h : [a, b, c, d].all goodW = true) : lineB f ["bridge", a, b, c, d] = some (f a, f b, f c, f d) := by
  show (if ("bridge" : Str) = "bridge" ∧ goodW a = true ∧ goodW b = true ∧ goodW c = true ∧ goodW d = true then some (f a, f b, f c, f d) else none) = _
  rw [if_pos ⟨rfl, by simpa using h⟩]
theorem readW_0 {f : Str → Int} {w : List Str} {r : List (List Str)} (h : lineP f w = none) : readW f (w :: r) = .text 0 := by
  rw [readW_cons, h]
theorem rowsB_len {f : Str → Int} : ∀ {ls : List (List Str)} {k : Nat} {lk : List Lk}, rowsB f k ls = .ok lk → lk.length = ls.length ∧ ∀ l ∈ lk, ∃ ws, lineB f ws = some l
  | [], _, lk, h => by
    unfold rowsB at h
    cases h
    exact ⟨rfl, fun l hl => nomatch hl⟩
  | x :: r, k, lk, h => by
    unfold rowsB at h
    cases hb : lineB f x with
    | none => rw [hb] at h; cases h
    | some l =>
      rw [hb] at h
      simp only at h
      cases hr : rowsB f (k + 1) r with
      | error e => rw [hr] at h; cases h
      | ok lr =>
        rw [hr] at h
        cases h
        obtain ⟨h1, h2⟩ := rowsB_len hr
        refine ⟨by simp [h1], fun m hm => ?_⟩
        rcases List.mem_cons.mp hm with rfl | hm
        · exact ⟨x, hb⟩
        · exact h2 m hm
theorem lineB_nn {ws : List Str} {l : Lk} (h : lineB numV ws = some l) : 0 ≤ l.1 ∧ 0 ≤ l.2.1 ∧ 0 ≤ l.2.2.1 ∧ 0 ≤ l.2.2.2 := by
  unfold lineB at h
  split at h
  · split at h
    · cases h
      exact ⟨numL_nn _, numL_nn _, numL_nn _, numL_nn _⟩
    · cases h
  · cases h
theorem bad_iff {c : Int} {l : Lk} {i : Nat} (p1 : 0 ≤ l.1) (p2 : 0 ≤ l.2.1) (p4 : 0 ≤ l.2.2.2) : badAt c l i = true ↔ (i = 24 ∨ ¬ (l.1 < c ∧ l.2.1 < c ∧ l.1 ≠ l.2.1 ∧ 1 ≤ l.2.2.1 ∧ l.2.2.1 ≤ 99 ∧ l.2.2.2 ≤ 1000000000000000000)) := by
  unfold badAt isLink
  simp only [Bool.or_eq_true, Bool.not_eq_true', decide_eq_true_eq, Bool.and_eq_false_iff, Bool.or_eq_false_iff, Bool.not_eq_false', decide_eq_false_iff_not]
  omega
theorem forget_same {k : Nat} {J : Fm.Loc → Mem → Prop} {L L' : Fm.Loc} {M : Mem} (le : LocLe L' L) (j : J L' M) (hk : k ≤ List.length M ∧ belL (List.length M) L' = true) (hM : belM (List.length M) M = true) : Forget k J L M :=
  ⟨M.length, L', hk.1, le, hk.2, by rw [List.take_length]; exact hM, by rw [List.take_length]; exact j⟩
structure Cr (P : Program) (w : World) (K : PySem.W.Frag) (mg : Str → Option Value) (base : Heap) : Prop where
  _law_numbers : Cal P w K mg base 1 "_law_numbers" (spF K fsNumbers) []
section
variable {P : Program} {w : World} {K : PySem.W.Frag} {mg : Str → Option Value} {base : Heap}
theorem scLawRead : FnScope ["_law_text_here", "_law_lines", "_law_line", "_law_counts", "_law_links_here", "_law_k", "_law_numbers_here", "_law_count", "_law_one", "_law_other", "_law_length", "_law_life_here", "_law_good"] ["_law_text_here"] (fnScope sLawRead) := fnScope_by (by decide +kernel)
theorem ok_lawRead {f : Addr} {fd : FuncData} (F : Def K mg "_law_read" sLawRead f fd) (b : Binds K fd ["_law_text_here"] []) (T : BT mg) (C : Cr P w K mg base) : Cal P w K mg base 2 "_law_read" (spF K fsLawRead) [] := by
  refine cal0 F b .nil scLawRead (fun vs H Q E h => ?_) (fun cdv A outer s H vs Q E hr h => ?_)
  · obtain ⟨ts, ρ, M, P, PX, r, m, ⟨t, rfl, _⟩, o, ox⟩ := h
    exact r.len
  · refine ⟨_, (pss_cons (ps_setLc (i := 1) (own := [("_law_line", 2)]) (g := gName 2) rfl scLawRead.nd rfl rfl (sw_true rfl rfl rfl rfl) (pi_list (pe_split (pv 0) pe_str)) (blkOk_by (N := ["_law_text_here", "_law_lines", "_law_line", "_law_counts", "_law_links_here", "_law_k", "_law_numbers_here", "_law_count", "_law_one", "_law_other", "_law_length", "_law_life_here", "_law_good"]) (sc := fnScope sLawRead) (by decide +kernel)) (fun _ _ _ _ _ => pg_name (i := 2) scLawRead.nd rfl (Or.inl rfl)) (fun _ _ _ _ _ => pts_nil) (fun _ _ _ _ _ => (pe_split (pv 2) pe_str)))
 (pss_cut (ps_par (i := 3) (j := 4) (by rfl) scLawRead.nd rfl rfl (by decide) rfl rfl (pa_cons (pe_c C._law_numbers hr (by first | decide | omega) (by rfl) (pa_cons (pe_slice sl_list (pe_ix ix_list (pv 1) pe_int (fun _ _ => rfl)) (po_some pe_int) po_none) pa_nil)) (pa_cons (pe_lst pa_nil) pa_nil)) (by rfl))
 (pss_cons (ps_if (PW.pt (pw_or (pt_cmpR op_ne (pe_ix ix_list (pe_ix ix_list (pv 1) pe_int (fun _ _ => rfl)) pe_int (fun _ _ => rfl)) pe_str (nomark _)) (pw_or (pt_cmpR op_isN (pv 3) pe_non (nomark _)) (pw_or1 (pt_cmpR op_ne (pe_callB call_len_seq (by rfl) T.len PySem.boot_len (pa_cons (pv 3) pa_nil)) pe_int (nomark _)))))) (pss_one (ps_ret (pe_tup (pa_cons pe_str (pa_cons pe_int pa_nil))))) pss_nil)
 (pss_cut (ps_for PassesOwn.never rfl (pi_range2 (by rfl) T.range (pa_cons pe_int (pa_cons (pe_callB call_len_seq (by rfl) T.len PySem.boot_len (pa_cons (pv 1) pa_nil)) pa_nil))) (pg_name (i := 5) scLawRead.nd rfl (Or.inl rfl)) (pss_cons (ps_set (i := 6) scLawRead.nd rfl (Or.inl rfl) (pe_c C._law_numbers hr (by first | decide | omega) (by rfl) (pa_cons (pe_slice sl_list (pe_ix ix_list (pv 1) (pv 5) (fun _ _ => rfl)) (po_some pe_int) po_none) pa_nil)))
 (pss_cons (ps_if (PW.pt (pw_or (pt_cmpR op_ne (pe_ix ix_list (pe_ix ix_list (pv 1) (pv 5) (fun _ _ => rfl)) pe_int (fun _ _ => rfl)) pe_str (nomark _)) (pw_or (pt_cmpR op_isN (pv 6) pe_non (nomark _)) (pw_or1 (pt_cmpR op_ne (pe_callB call_len_seq (by rfl) T.len PySem.boot_len (pa_cons (pv 6) pa_nil)) pe_int (nomark _)))))) (pss_one (ps_ret (pe_tup (pa_cons pe_str (pa_cons (pv 5) pa_nil))))) pss_nil)
 (pss_one (ps_expr (pe_bm PySem.F.plainAttrs_list PySem.F.slot_list_append PySem.F.type_list_append mt_append (pv 4) (pa_cons (pe_callTy call_tuple_of (by rfl) T.tuple (by decide +kernel) (pa_cons (pv 6) pa_nil)) pa_nil)))))))
 (pss_cut (ps_set (i := 7) scLawRead.nd rfl (Or.inl rfl) (pe_ix ix_list (pv 3) pe_int (fun _ _ => rfl)))
 (pss_cons (ps_if (pt_not (pt_chain op_le op_le pe_int (pv 7) pe_int)) (pss_one (ps_ret (pe_tup (pa_cons pe_str (pa_cons pe_str (pa_cons pe_int pa_nil)))))) pss_nil)
 (pss_cut (ps_for PassesOwn.never rfl (pi_range1 (by rfl) T.range (pa_cons (pe_callB call_len_seq (by rfl) T.len PySem.boot_len (pa_cons (pv 4) pa_nil)) pa_nil)) (pg_name (i := 5) scLawRead.nd rfl (Or.inl rfl)) (pss_cons (ps_asg (pe_ix ix_list (pv 4) (pv 5) (fun _ _ => rfl)) (pg_tup rfl (pgs_cons (pg_name (i := 8) scLawRead.nd rfl (Or.inl rfl)) (pgs_cons (pg_name (i := 9) scLawRead.nd rfl (Or.inl rfl)) (pgs_cons (pg_name (i := 10) scLawRead.nd rfl (Or.inl rfl)) (pgs_cons (pg_name (i := 11) scLawRead.nd rfl (Or.inl rfl)) pgs_nil))))))
 (pss_cons (ps_set (i := 12) scLawRead.nd rfl (Or.inl rfl) (pe_and (pe_cmpR op_lt (pv 8) (pv 7) (nomark _)) (pe_and (pe_cmpR op_lt (pv 9) (pv 7) (nomark _)) (pe_and (pe_cmpR op_ne (pv 8) (pv 9) (nomark _)) (pe_and (pe_chain op_le op_le pe_int (pv 10) pe_int) (pe_one (pe_cmpR op_le (pv 11) (pe_op op_pow pe_int pe_int) (nomark _))))))))
 (pss_one (ps_if (PW.pt (pw_or (pt_cmpR op_eq (pv 5) pe_int (nomark _)) (pw_or1 (pt_not (pt_val (pv 12)))))) (pss_one (ps_ret (pe_tup (pa_cons pe_str (pa_cons pe_str (pa_cons (pv 5) pa_nil)))))) pss_nil)))))
 (pss_one (ps_ret (pe_tup (pa_cons pe_str (pa_cons (pv 7) (pa_cons (pe_callTy call_tuple_of (by rfl) T.tuple (by decide +kernel) (pa_cons (pv 4) pa_nil)) pa_nil))))))))))))), ?_⟩
    obtain ⟨ts, ρ, M, P, PX, r, m, ⟨t, rfl, hN, q⟩, o, ox⟩ := h
    simp only [nox_K, cx_K]
    refine run_in r m o (by walk_at "sim") ?_
    walk_at "fm"
    refine lc_split rfl (by simp) hN.len m.belM fun B x refs hB => ?_
    obtain ⟨w0, rest, hws⟩ : ∃ w0 rest, wordsOf t = w0 :: rest := by
      cases h : wordsOf t with
      | nil => exact absurd h (wordsOf_ne t)
      | cons a r => exact ⟨a, r, rfl⟩
    obtain ⟨k0, r0, rfl⟩ : ∃ k0 r0, w0 = k0 :: r0 := by
      cases h : w0 with
      | nil => exact absurd h (words_ne (t := t) (by rw [hws]; exact List.mem_cons_self))
      | cons a r => exact ⟨a, r, rfl⟩
    obtain ⟨hr0, hw0⟩ := hN.few (k0 :: r0) (by rw [hws]; exact List.mem_cons_self)
    obtain ⟨a0, ha0, hm0⟩ := hB.w0 (k := 0) (ws := k0 :: r0) (by rw [hws]; rfl)
    have hi0 : atI refs 0 = some (.ref a0) := atI_nat ha0
    have hx0 := hB.x0
    have hm00 : B[a0]? = some (O.lst ((k0 :: r0).map Tr.str)) := by have := hm0 []; rwa [List.append_nil] at this
    refine ⟨fun L' M' => (r0.all goodW = false ∧ L' = [some (.str t), some (.ref x), none, some .non, some (.ref (List.length B + 1)), none, none, none, none, none, none, none, none] ∧ M' = B ++ [.lst (r0.map Tr.str), .lst []]) ∨
      (r0.all goodW = true ∧ L' = [some (.str t), some (.ref x), none, some (.ref (List.length B + 1)), some (.ref (List.length B + 2)), none, none, none, none, none, none, none, none] ∧ M' = B ++ [.lst (r0.map Tr.str), .lst (r0.map fun w => Tr.int (numV w)), .lst []]), ?_, ?_⟩
    · refine ⟨_, lstAt_of hx0, _, hi0, _, lstAt_of hm00, ?_⟩
      rw [List.map_cons, cut_tail]
      refine ⟨_, r0, rfl, at_0, by simp at hr0; omega, fun w hw => hw0 w (List.mem_cons_of_mem _ hw), fun hb => .inl ⟨hb, ?_, ?_⟩, fun hg => .inr ⟨hg, ?_, ?_⟩⟩
      · simp
      · simp
      · simp
      · simp
    · rintro L' M' (⟨hb, rfl, rfl⟩ | ⟨hg, rfl, rfl⟩)
      · have hq : readW numV (wordsOf t) = .text 0 := by
          rw [hws]
          exact readW_0 (lineP_none fun z => by rw [hb] at z; cases z.2.1)
        rw [hq] at q
        walk_at "fm"
        rw [hB.hx]
        walk_at "fm"
        refine ⟨_, hi0, ?_⟩
        walk_at "fm"
        rw [hm0]
        walk_at "fm"
        refine ⟨_, atI_head _ _, ?_⟩
        walk_at "fm"
        have k2 : 2 ≤ sizeLine := by rw [sizeLine_eq]; decide
        have fin := keep_B (g := [O.lst (List.map Tr.str r0), O.lst []]) hB m (v := .tup [.str "text", .int 0]) rfl q
        split
        · exact ⟨k2, fin⟩
        · exact ⟨k2, fin⟩
      · walk_at "fm"
        rw [hB.hx]
        walk_at "fm"
        refine ⟨_, hi0, ?_⟩
        walk_at "fm"
        rw [hm0]
        walk_at "fm"
        refine ⟨_, atI_head _ _, ?_⟩
        walk_at "fm"
        have k2 : 2 ≤ sizeLine := by rw [sizeLine_eq]; decide
        by_cases hk : k0 = "places" ∧ r0.length = 1
        · obtain ⟨hk1, hk2⟩ := hk
          obtain ⟨a, rfl⟩ : ∃ a, r0 = [a] := by
            match r0, hk2 with
            | [a], _ => exact ⟨a, rfl⟩
          subst hk1
          rw [if_neg (by simp), if_neg (by simp)]
          have hga : goodW a = true := by simpa using hg
          have hP : lineP numV ["places", a] = some (numV a) := lineP_some hga
          have hn : refs.length = rest.length + 1 := by rw [hB.len, hws]; rfl
          have hn100 : rest.length ≤ 99 := by have := hN.rows; rw [hws] at this; simp at this; omega
          refine ⟨fun L' M' => ∃ (ls : List Lk) (v5 : Option Tr), rowsB numV 1 rest = .ok ls ∧ L' = [some (.str t), some (.ref x), none, some (.ref (List.length B + 1)), some (.ref (List.length B + 2)), v5, none, none, none, none, none, none, none] ∧ M' = B ++ [O.lst [Tr.str a], O.lst [Tr.int (numV a)], O.lst (ls.map lkT)], ?_, ?_⟩
          · unfold fFor
            walk_at "fm"
            rw [hB.hx]
            walk_at "fm"
            refine ⟨by omega, by omega, by omega, by omega, fun i L2 M2 => ∃ (ls : List Lk) (v5 : Option Tr), (ls.length = i ∧ ∀ (j : Nat) (l : Lk), ls[j]? = some l → ∃ ws, rest[j]? = some ws ∧ lineB numV ws = some l) ∧ L2 = [some (.str t), some (.ref x), none, some (.ref (List.length B + 1)), some (.ref (List.length B + 2)), v5, none, none, none, none, none, none, none] ∧ M2 = B ++ [O.lst [Tr.str a], O.lst [Tr.int (numV a)], O.lst (ls.map lkT)], ?_, ?_, ?_⟩
            · exact ⟨[], none, ⟨rfl, fun j l e => by simp at e⟩, rfl, rfl⟩
            · rintro i y L2 M2 hy ⟨ls, v5, ⟨hl, hls⟩, rfl, rfl⟩
              obtain ⟨hi, rfl⟩ := rngT_get hy
              have hi' : i < rest.length := by rw [hn] at hi; simp at hi; omega
              obtain ⟨ws, hwsi⟩ : ∃ ws, rest[i]? = some ws := ⟨_, List.getElem?_eq_getElem hi'⟩
              have hwt : (wordsOf t)[i + 1]? = some ws := by rw [hws, List.getElem?_cons_succ]; exact hwsi
              have hmem := List.mem_of_getElem? hwt
              obtain ⟨k, r, rfl⟩ : ∃ k r, ws = k :: r := by
                cases h : ws with
                | nil => exact absurd h (words_ne hmem)
                | cons a r => exact ⟨a, r, rfl⟩
              obtain ⟨hr1, hw1⟩ := hN.few _ hmem
              obtain ⟨a1, ha1, hm1⟩ := hB.w0 hwt
              have hia : atI refs (1 + (i : Int)) = some (.ref a1) := by
                have := atI_nat ha1
                rwa [show ((i + 1 : Nat) : Int) = 1 + (i : Int) by omega] at this
              walk_at "fm"
              rw [hB.hx]
              walk_at "fm"
              refine ⟨_, hia, ?_⟩
              walk_at "fm"
              rw [hm1]
              walk_at "fm"
              rw [cut_tail]
              have hbad : lineB numV (k :: r) = none → ∀ g : Mem, Keep M.length P (.tup [.str "text", .int (1 + (i : Int))]) (B ++ g) := fun hb g => by
                have h1 : rowsB numV 1 rest = .error (1 + i) := rowsB_bad (fun j y hj ey => by
                  obtain ⟨ws', e1, e2⟩ := hls j (ls[j]'(by omega)) (List.getElem?_eq_getElem (by omega))
                  rw [ey] at e1
                  cases e1
                  rw [e2]
                  rfl) hwsi hb
                have hq : readW numV (wordsOf t) = .text (1 + i) := by rw [hws, readW_cons, hP, h1]
                rw [hq] at q
                refine keep_B hB m rfl ?_
                have e : ((1 + i : Nat) : Int) = 1 + (i : Int) := by omega
                have q' : P (.tup [.str "text", .int ((1 + i : Nat) : Int)]) M := q
                rwa [e] at q'
              refine ⟨_, r, rfl, by rw [at_kk]; rfl, by simp at hr1; omega, fun w hw => hw1 w (List.mem_cons_of_mem _ hw), fun hb => ?_, fun hg1 => ?_⟩
              · have fin := hbad (lineB_none fun z => by rw [hb] at z; cases z.2.1) [.lst [.str a], .lst [.int (numV a)], .lst (ls.map lkT), .lst (r.map Tr.str)]
                walk_at "fm"
                rw [hB.hx]
                walk_at "fm"
                refine ⟨_, hia, ?_⟩
                walk_at "fm"
                rw [hm1]
                walk_at "fm"
                refine ⟨_, atI_head _ _, ?_⟩
                walk_at "fm"
                split
                · exact ⟨k2, fin⟩
                · exact ⟨k2, fin⟩
              · walk_at "fm"
                rw [hB.hx]
                walk_at "fm"
                refine ⟨_, hia, ?_⟩
                walk_at "fm"
                rw [hm1]
                walk_at "fm"
                refine ⟨_, atI_head _ _, ?_⟩
                walk_at "fm"
                have fin := fun h => hbad h [.lst [.str a], .lst [.int (numV a)], .lst (ls.map lkT), .lst (r.map Tr.str), .lst (r.map fun w => Tr.int (numV w))]
                by_cases hkb : k = "bridge"
                · rw [if_neg (by simpa using hkb)]
                  by_cases hr4 : r.length = 4
                  · rw [if_neg (by simp; omega)]
                    obtain ⟨b1, b2, b3, b4, rfl⟩ : ∃ b1 b2 b3 b4, r = [b1, b2, b3, b4] := by
                      match r, hr4 with
                      | [b1, b2, b3, b4], _ => exact ⟨b1, b2, b3, b4, rfl⟩
                    subst hkb
                    have hnew := lineB_some (f := numV) hg1
                    refine ⟨by rw [sizeLine_eq, List.length_map]; omega, ?_⟩
                    refine forget_to (g := [_, _, _]) (L' := [some (.str t), some (.ref x), none, some (.ref (List.length B + 1)), some (.ref (List.length B + 2)), none, none, none, none, none, none, none, none]) (by simp only [List.length_cons, List.length_nil]; omega) ?_ ⟨ls ++ [(numV b1, numV b2, numV b3, numV b4)], by simp [hl], ?_, _, rfl, ?_⟩ ?_ hB.bel ?_
                    · exact ⟨_, rfl, _, rfl, _, _, rfl, _, rfl, _, rfl, _, _, rfl, _, _, rfl, _, _, rfl, _, _, rfl, _, _, rfl, _, _, rfl, _, _, rfl, _, _, rfl, rfl⟩
                    · intro j l hj
                      by_cases hjl : j < ls.length
                      · exact hls j l (by rwa [List.getElem?_append_left hjl] at hj)
                      · rw [List.getElem?_append_right (by omega)] at hj
                        match hz : j - ls.length, hj with
                        | 0, hj =>
                          cases hj
                          have : j = i := by omega
                          subst this
                          exact ⟨_, hwsi, hnew⟩
                        | q + 1, hj => simp at hj
                    · rw [List.map_append]
                      rfl
                    · have := hB.xlt
                      simp only [belL, Tr.bel, Bool.and_true, Bool.true_and, Bool.and_eq_true, decide_eq_true_eq, List.length_cons, List.length_nil]
                      omega
                    · have e := bel_lks (n := List.length B + 3) (ls ++ [(numV b1, numV b2, numV b3, numV b4)])
                      rw [List.map_append] at e
                      show (Tr.bels _ [Tr.str a] && (Tr.bels _ [Tr.int (numV a)] && (Tr.bels _ _ && true))) = true
                      rw [Bool.and_true]
                      exact e
                  · rw [if_pos (by simp; omega)]
                    exact ⟨k2, fin (lineB_none fun z => hr4 z.2.2)⟩
                · rw [if_pos (by simpa using hkb)]
                  exact ⟨k2, fin (lineB_none fun z => hkb z.1)⟩
            · rintro L2 M2 ⟨ls, v5, ⟨hl, hls⟩, rfl, rfl⟩
              rw [rngT_len] at hl
              have hlr : ls.length = rest.length := by rw [hl, hn]; simp
              obtain ⟨lk, h5, h6⟩ := rowsB_ok (f := numV) (ls := rest) (k := 1) fun j z ez => by
                have hj : j < ls.length := by rw [hlr]; exact (List.getElem?_eq_some_iff.mp ez).1
                obtain ⟨ws', e1, e2⟩ := hls j _ (List.getElem?_eq_getElem hj)
                rw [ez] at e1
                cases e1
                rw [e2]
                rfl
              have e : ls = lk := by
                have h7 : ls.map some = lk.map some := by
                  rw [← h6]
                  refine List.ext_getElem? fun j => ?_
                  rw [List.getElem?_map, List.getElem?_map]
                  cases hj : ls[j]? with
                  | none =>
                    have := List.getElem?_eq_none_iff.mp hj
                    rw [List.getElem?_eq_none (by omega)]
                    rfl
                  | some l =>
                    obtain ⟨ws', e1, e2⟩ := hls j l hj
                    rw [e1]
                    show some (some l) = some (lineB numV ws')
                    rw [e2]
                exact List.map_inj_right (fun _ _ z => Option.some.inj z) |>.mp h7
              subst e
              exact ⟨ls, h5, v5, rfl, rfl⟩
          · rintro L' M' ⟨ls, v5, hrows, rfl, rfl⟩
            have hq : readW numV (wordsOf t) = bad2 (numV a) ls := by rw [hws, readW_cons, hP, hrows]
            have hlr : ls.length ≤ 99 := by rw [(rowsB_len hrows).1]; exact hn100
            have hpos : ∀ l ∈ ls, 0 ≤ l.1 ∧ 0 ≤ l.2.1 ∧ 0 ≤ l.2.2.1 ∧ 0 ≤ l.2.2.2 := fun l hl => by
              obtain ⟨ws, hb⟩ := (rowsB_len hrows).2 l hl
              exact lineB_nn hb
            have ha0 : 0 ≤ numV a := numL_nn _
            rw [hq] at q
            generalize numV a = c at *
            refine ⟨fun L' M' => L' = [some (.str t), some (.ref x), none, some (.ref (List.length B + 1)), some (.ref (List.length B + 2)), v5, none, some (.int c), none, none, none, none, none] ∧ M' = B ++ [O.lst [Tr.str a], O.lst [Tr.int c], O.lst (ls.map lkT)], ?_, ?_⟩
            · walk_at "fm"
              exact atI_head _ _
            · rintro L' M' ⟨rfl, rfl⟩
              walk_at "fm"
              have k3 : 3 ≤ sizeLine := by rw [sizeLine_eq]; decide
              have fin := fun (p : Str) (i : Int) (h : firstBad c ls = some (p, i)) => keep_B (g := [O.lst [Tr.str a], O.lst [Tr.int c], O.lst (ls.map lkT)]) hB m (v := .tup [.str "town", .str p, .int i]) rfl (by
                unfold bad2 at q
                rw [h] at q
                exact q)
              by_cases hc : 1 ≤ c ∧ c ≤ 12
              · rw [if_pos hc.1, if_neg (by omega)]
                refine ⟨fun L' M' => ∃ v5 v8 v9 v10 v11 v12, firstBad c ls = none ∧ L' = [some (.str t), some (.ref x), none, some (.ref (List.length B + 1)), some (.ref (List.length B + 2)), v5, none, some (.int c), v8, v9, v10, v11, v12] ∧ M' = B ++ [O.lst [Tr.str a], O.lst [Tr.int c], O.lst (ls.map lkT)], ?_, ?_⟩
                · unfold fFor
                  walk_at "fm"
                  refine ⟨by omega, by simp; omega, fun i L2 M2 => ∃ v5 v8 v9 v10 v11 v12, (∀ (j : Nat) (l : Lk), j < i → ls[j]? = some l → badAt c l j = false) ∧ L2 = [some (.str t), some (.ref x), none, some (.ref (List.length B + 1)), some (.ref (List.length B + 2)), v5, none, some (.int c), v8, v9, v10, v11, v12] ∧ M2 = B ++ [O.lst [Tr.str a], O.lst [Tr.int c], O.lst (ls.map lkT)], ?_, ?_, ?_⟩
                  · exact ⟨_, _, _, _, _, _, fun j l hj => absurd hj (Nat.not_lt_zero j), rfl, rfl⟩
                  · rintro i y L2 M2 hy ⟨v5, v8, v9, v10, v11, v12, hgood, rfl, rfl⟩
                    obtain ⟨hi, rfl⟩ := rngT_get hy
                    have hil : i < ls.length := by simpa using hi
                    obtain ⟨l, hli⟩ : ∃ l, ls[i]? = some l := ⟨_, List.getElem?_eq_getElem hil⟩
                    obtain ⟨p1, p2, p3, p4⟩ := hpos l (List.mem_of_getElem? hli)
                    have hat : atI (ls.map lkT) (0 + (i : Int)) = some (lkT l) := by
                      have := atI_nat (xs := ls.map lkT) (k := i) (x := lkT l) (by rw [List.getElem?_map, hli]; rfl)
                      rwa [show ((i : Nat) : Int) = 0 + (i : Int) by omega] at this
                    walk_at "fm"
                    refine ⟨_, hat, _, rfl, ?_⟩
                    walk_at "fm"
                    have e18 : (10 : Int) ^ Int.toNat 18 = 1000000000000000000 := by decide
                    have cp : CPow 10 18 = True := eq_true ⟨by decide, by decide, by decide⟩
                    have bi := bad_iff (c := c) (i := i) p1 p2 p4
                    have bad := fun (hb : badAt c l i = true) => fin "bridges" (0 + (i : Int)) (by
                      unfold firstBad
                      rw [if_pos hc, firstFrom_some (k := 0) (i := i) (m := l) (fun j m hj e => by rw [Nat.zero_add]; exact hgood j m hj e) hli (by rw [Nat.zero_add]; exact hb)]
                      show some (("bridges" : Str), ((0 + i : Nat) : Int)) = _
                      rw [show ((0 + i : Nat) : Int) = 0 + (i : Int) by omega])
                    simp only [e18, cp, true_and]
                    repeat' split
                    all_goals first
                      | exact ⟨k3, bad (bi.mpr (by omega))⟩
                      | skip
                    refine forget_same (L' := [some (.str t), some (.ref x), none, some (.ref (List.length B + 1)), some (.ref (List.length B + 2)), none, none, some (.int c), none, none, none, none, none]) ?_ ⟨fun j m hj e => ?_, _, _, _, _, _, _, rfl, rfl⟩ ?_ ?_
                    · exact ⟨_, rfl, _, rfl, _, _, rfl, _, rfl, _, rfl, _, _, rfl, _, _, rfl, _, rfl, _, _, rfl, _, _, rfl, _, _, rfl, _, _, rfl, _, _, rfl, rfl⟩
                    · by_cases hji : j < i
                      · exact hgood j m hji e
                      · have : j = i := by omega
                        subst this
                        rw [hli] at e
                        cases e
                        rw [← Bool.not_eq_true, bi]
                        omega
                    · have := hB.xlt
                      simp only [belL, Tr.bel, Bool.and_true, Bool.true_and, Bool.and_eq_true, decide_eq_true_eq, List.length_append, List.length_cons, List.length_nil]
                      omega
                    · rw [List.length_append]
                      refine belM_ext hB.bel ?_
                      simp only [belM, O.bel, Tr.bels, Tr.bel, bel_lks, Bool.and_true]
                  · rintro L2 M2 ⟨v5, v8, v9, v10, v11, v12, hgood, rfl, rfl⟩
                    rw [rngT_len] at hgood
                    refine ⟨?_, v5, v8, v9, v10, v11, v12, rfl, rfl⟩
                    unfold firstBad
                    rw [if_pos hc, firstFrom_none (k := 0) fun j l hj => by rw [Nat.zero_add]; exact hgood j l (by have := (List.getElem?_eq_some_iff.mp hj).1; simpa using this) hj]
                    rfl
                · rintro L' M' ⟨v5, v8, v9, v10, v11, v12, hf, rfl, rfl⟩
                  walk_at "fm"
                  refine ⟨k3, keep_B hB m (v := .tup [.str "good", .int c, .tup (ls.map lkT)]) ?_ ?_⟩
                  · simp only [Tr.bel, Tr.bels, bel_lks, Bool.and_true]
                  · unfold bad2 at q
                    rw [hf] at q
                    exact q
              · have hf : firstBad c ls = some (("count" : Str), (0 : Int)) := by
                  unfold firstBad
                  rw [if_neg hc]
                split
                · rw [if_pos (by omega)]
                  exact ⟨k3, fin _ _ hf⟩
                · exact ⟨k3, fin _ _ hf⟩
        · have hq : readW numV (wordsOf t) = .text 0 := by
            rw [hws]
            exact readW_0 (lineP_none fun z => hk ⟨z.1, z.2.2⟩)
          rw [hq] at q
          have fin := keep_B (g := [O.lst (List.map Tr.str r0), O.lst (r0.map fun w => Tr.int (numV w)), O.lst []]) hB m (v := .tup [.str "text", .int 0]) rfl q
          by_cases hk1 : k0 = "places"
          · rw [if_neg (by simp [hk1]), if_pos (by simp; exact fun z => hk ⟨hk1, by omega⟩)]
            exact ⟨k2, fin⟩
          · rw [if_pos (by simpa using hk1)]
            exact ⟨k2, fin⟩
end
end T1

set_option Elab.async false
set_option linter.all false
set_option maxRecDepth 100000
set_option maxHeartbeats 4000000
namespace T1
open PySem PySem.Spec PyProof.Rows L2 C8 Fm T2
/-! ### bent texts stay neat -/
theorem mem_join {y p : Str} : ∀ {l : List Str} {c : Nat}, p ∈ l → c ∈ TL.tl p → c ∈ TL.tl (Str.join y l)
  | [a], c, h, hc => by
    rw [List.mem_singleton.mp h] at hc
    exact hc
  | a :: b :: r, c, h, hc => by
    show c ∈ TL.tl (a ++ y ++ Str.join y (b :: r))
    rw [TL.tl_append, TL.tl_append, List.mem_append, List.mem_append]
    rcases List.mem_cons.mp h with rfl | h
    · exact .inl (.inl hc)
    · exact .inr (mem_join h hc)
theorem join_mem {y : Str} : ∀ {l : List Str} {c : Nat}, c ∈ TL.tl (Str.join y l) → c ∈ TL.tl y ∨ ∃ p ∈ l, c ∈ TL.tl p
  | [], c, h => by cases h
  | [a], c, h => .inr ⟨a, List.mem_singleton.mpr rfl, h⟩
  | a :: b :: r, c, h => by
    have h : c ∈ TL.tl (a ++ y ++ Str.join y (b :: r)) := h
    rw [TL.tl_append, TL.tl_append, List.mem_append, List.mem_append] at h
    rcases h with (h | h) | h
    · exact .inr ⟨a, List.mem_cons_self, h⟩
    · exact .inl h
    · rcases join_mem h with h | ⟨p, hp, hc⟩
      · exact .inl h
      · exact .inr ⟨p, List.mem_cons_of_mem _ hp, hc⟩
theorem part_mem {x y p : Str} {c : Nat} (h : p ∈ Txt.split x y) (hc : c ∈ TL.tl p) : c ∈ TL.tl x := by
  rw [← StrLaws.join_split x y]
  exact mem_join h hc
theorem nl_is : ("\n" : Str) = ⟨#[10]⟩ := TL.ext_tl tl_nl
theorem sp_is : (" " : Str) = ⟨#[32]⟩ := TL.ext_tl tl_sp
theorem line_free {t l : Str} (h : l ∈ Txt.split t "\n") : 10 ∉ TL.tl l := by
  rw [nl_is] at h
  exact StrLaws.split_free t 10 l h
theorem word_free {t l : Str} (h : l ∈ Txt.split t " ") : 32 ∉ TL.tl l := by
  rw [sp_is] at h
  exact StrLaws.split_free t 32 l h
/-- a word, a line -/
structure OkW (w : Str) : Prop where
  ok : okW w
  sp : 32 ∉ TL.tl w
  nl : 10 ∉ TL.tl w
structure OkL (N : Nat) (l : Str) : Prop where
  nl : 10 ∉ TL.tl l
  few : (Txt.split l " ").length ≤ N
  ws : ∀ w ∈ Txt.split l " ", okW w
theorem okW_empty : okW "" := ⟨by decide +kernel, by decide +kernel⟩
theorem split_empty {y : Str} (hy : y.length = 1) : Txt.split "" y = [("" : Str)] := by
  have h := split_weight "" y (by omega)
  have h0 : ("" : Str).length = 0 := by decide +kernel
  rw [h0] at h
  cases hs : Txt.split "" y with
  | nil => exact absurd hs (split_ne _ _)
  | cons a l =>
    rw [hs] at h
    simp only [List.map_cons, List.sum_cons, List.length_cons] at h
    have hl : l = [] := List.length_eq_zero_iff.mp (by omega)
    have ha : a.length = 0 := by omega
    subst hl
    rw [show a = "" from TL.ext_tl (by
      rw [TL.len_tl] at ha
      rw [List.length_eq_zero_iff.mp ha]
      rfl)]
theorem join_nil {y : Str} : Txt.join y [] = "" := by
  rw [TL.join_eq]
  exact TL.ext_tl rfl
theorem sum_le' {b : Nat} : ∀ {ys : List Str}, (∀ y ∈ ys, y.length ≤ b) → (ys.map (·.length)).sum ≤ ys.length * b := sum_le
theorem join_le {y : Str} (hy : y.length = 1) {b : Nat} {ws : List Str} (h : ∀ w ∈ ws, w.length ≤ b) : (Str.join y ws).length ≤ ws.length * (b + 1) := by
  cases ws with
  | nil => exact Nat.zero_le _
  | cons a l =>
    rw [len_join_cons, hy]
    have := sum_le' h
    rw [Nat.mul_add, Nat.mul_one]
    simp only [List.length_cons] at this ⊢
    omega
theorem OkL.of_words {N : Nat} {ws : List Str} (h : ∀ w ∈ ws, OkW w) (hn : ws.length ≤ N) (h1 : 1 ≤ N) : OkL N (Txt.join " " ws) := by
  by_cases e : ws = []
  · rw [e, join_nil]
    refine ⟨(fun z => by cases z), ?_, ?_⟩
    · rw [split_empty len_sp]
      exact h1
    · rw [split_empty len_sp]
      intro w hw
      rw [List.mem_singleton.mp hw]
      exact okW_empty
  · have hs : Txt.split (Txt.join " " ws) " " = ws := TL.split_join tl_sp (by decide +kernel) e fun p hp => (h p hp).sp
    refine ⟨?_, by rw [hs]; exact hn, by rw [hs]; exact fun w hw => (h w hw).ok⟩
    rw [TL.join_eq]
    intro z
    rcases join_mem z with z | ⟨p, hp, z⟩
    · rw [tl_sp] at z
      simp at z
    · exact (h p hp).nl z
theorem OkL.words {N : Nat} {l : Str} (h : OkL N l) : ∀ w ∈ Txt.split l " ", OkW w := fun w hw => ⟨h.ws w hw, word_free hw, fun z => h.nl (part_mem hw z)⟩
theorem OkL.mono {N K : Nat} {l : Str} (h : OkL N l) (hk : N ≤ K) : OkL K l := ⟨h.nl, Nat.le_trans h.few hk, h.ws⟩
theorem OkL.len {N : Nat} {l : Str} (h : OkL N l) : l.length ≤ N * 21 := by
  rw [← StrLaws.join_split l " "]
  exact Nat.le_trans (join_le len_sp fun w hw => (h.ws w hw).1) (Nat.mul_le_mul_right _ h.few)
theorem Neat.lines {N : Nat} {t : Str} (h : Neat N t) : ∀ l ∈ Txt.split t "\n", OkL N l := fun l hl => by
  have hw : Txt.split l " " ∈ wordsOf t := List.mem_map.mpr ⟨l, hl, rfl⟩
  obtain ⟨h1, h2⟩ := h.few _ hw
  exact ⟨line_free hl, h1, h2⟩
theorem OkL.empty {N : Nat} (h : 1 ≤ N) : OkL N "" := by
  rw [← join_nil (y := " ")]
  exact OkL.of_words (fun w hw => nomatch hw) (Nat.zero_le _) h
theorem Neat.of_lines {N : Nat} {ls : List Str} (h : ∀ l ∈ ls, OkL N l) (hn : ls.length ≤ N) (h1 : 1 ≤ N) (h40 : N ≤ 40) : Neat N (Txt.join "\n" ls) := by
  have hs : ∃ ks, Txt.split (Txt.join "\n" ls) "\n" = ks ∧ ks.length ≤ N ∧ ∀ l ∈ ks, OkL N l := by
    by_cases e : ls = []
    · rw [e, join_nil, split_empty len_nl]
      exact ⟨_, rfl, h1, fun l hl => by rw [List.mem_singleton.mp hl]; exact OkL.empty h1⟩
    · exact ⟨_, TL.split_join tl_nl (by decide +kernel) e fun p hp => (h p hp).nl, hn, h⟩
  obtain ⟨ks, e, hk, hok⟩ := hs
  refine ⟨by rw [wordsOf_len, e]; exact hk, fun ws hw => ?_, ?_⟩
  · unfold wordsOf at hw
    rw [e] at hw
    obtain ⟨l, hl, rfl⟩ := List.mem_map.mp hw
    exact ⟨(hok l hl).few, (hok l hl).ws⟩
  · rw [TL.join_eq]
    have h2 := join_le (y := "\n") len_nl (b := N * 21) fun l hl => (h l hl).len
    refine Nat.le_trans h2 ?_
    refine Nat.le_trans (Nat.mul_le_mul hn (Nat.add_le_add_right (Nat.mul_le_mul_right 21 h40) 1)) ?_
    refine Nat.le_trans (Nat.mul_le_mul_right _ h40) (by decide)
end T1

set_option Elab.async false
set_option linter.all false
set_option maxRecDepth 100000
set_option maxHeartbeats 4000000
namespace T1
open PySem PySem.Spec PyProof.Rows L2 C8 Fm T2
local macro_rules | `(tactic| walk_at "sim1") => `(tactic| with_reducible first
  | exact sim_nil | exact sim_var | exact sim_int | exact sim_str | exact sim_bl | exact sim_non | exact sim_raw
  | apply sim_cons | apply sim_op | apply sim_un | apply sim_tup | apply sim_lst
  | apply sim_CB | apply sim_if | apply sim_test | apply sim_B | apply sim_not | apply sim_and | apply sim_or
  | apply sim_andV | apply sim_orV | apply sim_notV | apply sim_chain | exact sim_nopart | apply sim_part
  | apply sim_sl | apply sim_BML | apply sim_BMS | apply sim_BM0S | apply sim_M1 | apply sim_M0
  | apply sim_fmt | apply sim_joined | exact SimJ.nil | apply SimJ.cons
  | exact s_I0i | exact s_I0b | exact s_Ii | exact s_Ui | exact s_eq | exact s_ne | exact s_isN | exact s_notN | exact s_ixL | exact s_ixT | exact s_ixS
  | exact s_cat | exact s_catA | exact s_rep | exact s_repT | exact s_in | exact s_slL | exact s_slA | exact s_slS | exact s_addS | exact s_leS | exact s_ltS
  | exact c_len | exact c_lenS | exact c_list | exact c_tuple | exact c_int1 | exact c_intS | exact c_strI | exact c_max2 | exact c_min2
  | exact m_append | exact m_extend | exact m_split | exact m_join | exact m_0b | exact m_1b
  | apply sim_call | exact simSpF
  | exact sim_name | exact sim_gnil | apply sim_gcons | apply sim_gtup | apply sim_gsub | exact set_list
  | exact sim_next | apply sim_seq | apply sim_cut | exact sim_break | exact sim_cont | apply sim_drop | apply sim_ret | exact sim_retN
  | apply sim_ifS | exact sim_never | apply sim_asg | apply sim_par | apply sim_aug
  | apply sim_for | apply sim_while | apply i_list | apply i_tup | apply i_rng1 | apply i_rng2 | apply i_str | apply i_enum | apply i_zip
  | apply sim_lc | exact sim_yes | exact sim_namew (by decide) | exact sim_gnilw | apply sim_gconsw | apply sim_gtupw
  | apply sim_fld | apply sim_con | apply sim_setFld | apply sim_make | apply sim_prop | apply sim_meth | apply sim_cmeth | exact c_isi | apply sim_isiT | exact s_eqD | exact s_neD
  | walk_at "sim2")
local macro_rules | `(tactic| walk_at "sim2") => `(tactic| fail)
local macro_rules | `(tactic| walk_at "sim") => `(tactic| repeat' (walk_at "sim1"))
/-- open the trees' reading as far as it goes by itself -/
local macro_rules | `(tactic| walk_at "fm") => `(tactic| simp (config := { failIfUnchanged := false }) only [fVar, fC, fOp, fUn, fNil, fCons, fTup, fLst, fCB, fIf, fTest, fNot, fAnd, fOr, fAndV, fOrV, fNotV, fChain, fNoPart, fPart, fI, fI0, fU, fEq, fNe, fIsN, fNotN, fIxL, fIxT, fIxS,
  fCat, fCatA, fRep, fRepT, fSlL, fSlA, fSlS, fSl, fLen, fLenS, fList, fTuple, fIntS, fStrI, fMax2, fMin2, fAppend, fExtend, fIn, fBM, fMS, fBMS, fBM0S, fAddS, fLeS, fLtS, fM0b, fM1b, fSplit, fJoin, fJoined, fJs,
  fName, fGNil, fGCons, fGTup, fSetL, fGSub, fNext, fSeq, fCut, fBreak, fCont, fDrop, fRet, fRetN, fIfS, fAsg, fPar, fAug, fCall, fFld, fCon, fSetFld, fMake, fProp, fMeth, fCMeth, fIsi, fIsiT, fEqD, fNeD, insAt_ref, insO_ins, fFmt, fmtS_i, fmtS_s, fmtOk_i, fmtOk_s, fIL, fIT, fIR1, fIR2, fIS, fIEn, fIZ,
  startL, List.map_cons, List.map_nil, List.length_cons, List.length_nil, List.cons_append, List.nil_append, List.replicate, List.getElem?_cons_zero, List.getElem?_cons_succ, List.set_cons_zero, List.set_cons_succ, Nat.reduceSub, Nat.reduceAdd,
  Option.some.injEq, Tr.int.injEq, Tr.str.injEq, Tr.bl.injEq, Tr.tup.injEq, Tr.ref.injEq, List.cons.injEq, exists_eq_left, exists_eq_left', exists_eq_right, true_and, and_true, and_self, exists_and_left, tupOf_tup, eqS_ii, eqS_ss, eqS_bb, eqS_ni, eqS_in, eqS_nn, isStr_s, isN_n, isN_i, isN_b, isN_s, isN_t, isN_r, noRaw_n, noRaw_i, noRaw_b, noRaw_s, noRaw_t, noRaw_r, and_assoc, reduceIte, Bool.false_eq_true, exists_const, lstAt_ref, seqAt_ref, seqAt_tup, refAt_ref, lstO_lst, app_assoc2, len_app1, at_kk, at_00, set_k, set_00, Nat.add_assoc, Option.map_some, Prod.mk.injEq, int_cast_inj, Nat.zero_le, decide_eq_true_eq, Bool.not_eq_true', decide_eq_false_iff_not, Nat.add_zero, implies_true, forall_const, ite_true, ite_false, if_true, if_false, decide_true, decide_false, Bool.not_true, Bool.not_false, asg_len, Option.isSome_some])
local macro_rules | `(tactic| walk_at "bel") => `(tactic| first | rfl | (simp (config := { failIfUnchanged := false }) only [belM, O.bel, bels_strs, bels_ints, belL, Tr.bel, Tr.bels, Bool.and_true, Bool.true_and, Bool.and_self, decide_eq_true_eq, Bool.and_eq_true, true_and, and_true, List.length_cons, List.length_nil, Nat.reduceAdd]; try omega))

local macro_rules | `(tactic| walk_at "sim2") => `(tactic| first | exact simGet | exact simTi | exact simNext | assumption | apply sim_raiseX | apply sim_makeVX | apply sim_revL)
local macro_rules | `(tactic| walk_at "fm2") => `(tactic| simp (config := { failIfUnchanged := false }) only [dm_app, dm_len, dm_at, dm_at0, dm_set, dm_set0, List.getElem?_cons_zero, List.getElem?_cons_succ, List.set_cons_zero, List.set_cons_succ, lstO_lst, Option.isSome_some, Option.map_some, Option.some.injEq, Prod.mk.injEq, Nat.add_assoc, Nat.reduceAdd, exists_eq_left', exists_eq_left, true_and, and_assoc])
local macro_rules | `(tactic| walk_at "fd") => `(tactic| (walk_at "fm"; walk_at "fm2"; walk_at "fm"; walk_at "fm2"; walk_at "fm"))
/-! ### a text bent -/
def fsBent : FSp := fun ts M P _ => ∃ (t : Str) (d : Dr) (g : Mem) (N : Nat), ts = [.ref 1, .str t] ∧ M = dm d g ∧ d.ok ∧ Neat N t ∧ 1 ≤ N ∧ N ≤ 20 ∧ ∀ t' d', d'.ok → Neat (N + 1) t' → P (.str t') (dm d' g)
theorem cut_hi {xs : List Tr} {k : Nat} (h : k ≤ xs.length) : cutT xs none (some (k : Int)) = xs.take k := by
  unfold cutT
  rw [HT.sIx_none, HT.sIx_nat, Nat.min_eq_left h, List.drop_zero, Nat.sub_zero]
theorem cut_lo {xs : List Tr} {k : Nat} (h : k ≤ xs.length) : cutT xs (some (k : Int)) none = xs.drop k := by
  unfold cutT
  rw [HT.sIx_none, HT.sIx_nat, Nat.min_eq_left h]
  exact List.take_of_length_le (by rw [List.length_drop]; exact Nat.le_refl _)
theorem cut_mid {xs : List Tr} {k : Nat} (h : k + 1 ≤ xs.length) : cutT xs (some (k : Int)) (some ((k + 1 : Nat) : Int)) = (xs.drop k).take 1 := by
  unfold cutT
  rw [HT.sIx_nat, HT.sIx_nat, Nat.min_eq_left h, Nat.min_eq_left (by omega)]
  congr 1
  omega
def odds : List Str := ["", "0", "01", "-1", "bridge", "places", "Bridge", "x", "99", "100", "13"]
theorem odds_ok : ∀ o ∈ odds, OkW o := fun o h => by
  have z : ∀ o ∈ odds, (o.length ≤ 20 ∧ PyData.strOk o = true) ∧ 32 ∉ TL.tl o ∧ 10 ∉ TL.tl o := by decide +kernel
  obtain ⟨h1, h2, h3⟩ := z o h
  exact ⟨h1, h2, h3⟩
/-- more may stand behind g -/
theorem dm_in {d : Dr} {g gg h : Mem} {i : Nat} {o : O} (e : gg[i]? = some o) : (dm d (g ++ gg) ++ h)[List.length g + (i + 2)]? = some o := by
  rw [dm_app, List.append_assoc, dm_at, List.getElem?_append_left (List.getElem?_eq_some_iff.mp e).1, e]
theorem keep_dm2 {K : PySem.W.Frag} {H : Hp} {ρ : List Addr} {d d' : Dr} {g gg h : Mem} {P : PF} {v : Tr} (m : RM K H ρ (dm d g)) (b : Tr.bel (List.length g + 2) v = true) (p : P v (dm d' g)) : Keep (List.length g + 2) P v (dm d' (g ++ gg) ++ h) := by
  rw [dm_app, List.append_assoc]
  exact keep_dm m b p
section
variable {P : Program} {w : World} {K : PySem.W.Frag} {mg : Str → Option Value} {base : Heap}
theorem scBent : FnScope ["_law_h", "_law_text_here", "_law_lines", "_law_k", "_law_words", "_law_j", "_law_odd", "_law_changed", "_law_rows"] ["_law_h", "_law_text_here"] (fnScope sBent) := fnScope_by (by decide +kernel)
theorem ok_bent {f : Addr} {fd : FuncData} (F : Def K mg "_law_bent" sBent f fd) (b : Binds K fd ["_law_h", "_law_text_here"] []) (T : BT mg) (C : Cl P w K mg base) : Cal P w K mg base 2 "_law_bent" (spF K fsBent) [] := by
  refine cal0 F b .nil scBent (fun vs H Q E h => ?_) (fun cdv A outer s H vs Q E hr h => ?_)
  · obtain ⟨ts, ρ, M, P, PX, r, m, ⟨t, d, g, N, rfl, _⟩, o, ox⟩ := h
    exact r.len
  · refine ⟨_, (pss_cons (ps_set (i := 2) scBent.nd rfl (Or.inl rfl) (pe_split (pv 1) pe_str))
 (pss_cons (ps_set (i := 3) scBent.nd rfl (Or.inl rfl) (pe_c C._law_next hr (by first | decide | omega) (by rfl) (pa_cons (pv 0) (pa_cons (pe_callB call_len_seq (by rfl) T.len PySem.boot_len (pa_cons (pv 2) pa_nil)) pa_nil))))
 (pss_cons (ps_set (i := 4) scBent.nd rfl (Or.inl rfl) (pe_split (pe_ix ix_list (pv 2) (pv 3) (fun _ _ => rfl)) pe_str))
 (pss_cons (ps_set (i := 5) scBent.nd rfl (Or.inl rfl) (pe_c C._law_next hr (by first | decide | omega) (by rfl) (pa_cons (pv 0) (pa_cons (pe_callB call_len_seq (by rfl) T.len PySem.boot_len (pa_cons (pv 4) pa_nil)) pa_nil))))
 (pss_cut (ps_set (i := 6) scBent.nd rfl (Or.inl rfl) (pe_ix ix_list (pe_lst (pa_cons pe_str (pa_cons pe_str (pa_cons pe_str (pa_cons pe_str (pa_cons pe_str (pa_cons pe_str (pa_cons pe_str (pa_cons pe_str (pa_cons pe_str (pa_cons pe_str (pa_cons pe_str pa_nil)))))))))))) (pe_c C._law_next hr (by first | decide | omega) (by rfl) (pa_cons (pv 0) (pa_cons pe_int pa_nil))) (fun _ _ => rfl)))
 (pss_cut (ps_set (i := 4) scBent.nd rfl (Or.inl rfl) (pe_ix ix_list (pe_lst (pa_cons (pe_op op_cat (pe_op op_cat (pe_slice sl_list (pv 4) po_none (po_some (pv 5))) (pe_lst (pa_cons (pv 6) pa_nil))) (pe_slice sl_list (pv 4) (po_some (pe_op op_add (pv 5) pe_int)) po_none)) (pa_cons (pe_op op_cat (pe_slice sl_list (pv 4) po_none (po_some (pv 5))) (pe_slice sl_list (pv 4) (po_some (pe_op op_add (pv 5) pe_int)) po_none)) (pa_cons (pe_op op_cat (pe_op op_cat (pe_slice sl_list (pv 4) po_none (po_some (pv 5))) (pe_lst (pa_cons (pv 6) pa_nil))) (pe_slice sl_list (pv 4) (po_some (pv 5)) po_none)) pa_nil)))) (pe_c C._law_next hr (by first | decide | omega) (by rfl) (pa_cons (pv 0) (pa_cons pe_int pa_nil))) (fun _ _ => rfl)))
 (pss_cut (ps_set (i := 7) scBent.nd rfl (Or.inl rfl) (pe_join pe_str (pv 4)))
 (pss_cut (ps_set (i := 8) scBent.nd rfl (Or.inl rfl) (pe_lst (pa_cons (pe_op op_cat (pe_op op_cat (pe_slice sl_list (pv 2) po_none (po_some (pv 3))) (pe_lst (pa_cons (pv 7) pa_nil))) (pe_slice sl_list (pv 2) (po_some (pe_op op_add (pv 3) pe_int)) po_none)) (pa_cons (pe_op op_cat (pe_slice sl_list (pv 2) po_none (po_some (pv 3))) (pe_slice sl_list (pv 2) (po_some (pe_op op_add (pv 3) pe_int)) po_none)) (pa_cons (pe_op op_cat (pe_op op_cat (pe_slice sl_list (pv 2) po_none (po_some (pv 3))) (pe_op op_rep (pe_slice sl_list (pv 2) (po_some (pv 3)) (po_some (pe_op op_add (pv 3) pe_int))) pe_int)) (pe_slice sl_list (pv 2) (po_some (pe_op op_add (pv 3) pe_int)) po_none)) pa_nil)))))
 (pss_one (ps_ret (pe_join pe_str (pe_ix ix_list (pe_lst (pa_cons (pe_ix ix_list (pv 8) pe_int (fun _ _ => rfl)) (pa_cons (pe_ix ix_list (pv 8) pe_int (fun _ _ => rfl)) (pa_cons (pe_ix ix_list (pv 8) pe_int (fun _ _ => rfl)) (pa_cons (pe_ix ix_list (pv 8) pe_int (fun _ _ => rfl)) (pa_cons (pe_op op_cat (pv 2) (pe_lst (pa_cons pe_str pa_nil))) (pa_cons (pe_revL (pv 2)) pa_nil))))))) (pe_c C._law_next hr (by first | decide | omega) (by rfl) (pa_cons (pv 0) (pa_cons pe_int pa_nil))) (fun _ _ => rfl))))))))))))), ?_⟩
    obtain ⟨ts, ρ, M, P, PX, r, m, ⟨t, d, g, N, rfl, rfl, hd, hN, N1, N20, q⟩, o, ox⟩ := h
    simp only [nox_K, cx_K]
    refine run_in r m o (by walk_at "sim") ?_
    walk_at "fm"
    have hlt : t.length + 2 ≤ sizeLine := by rw [sizeLine_eq]; have := hN.len; omega
    have hll := hN.lines
    have hln : (Txt.split t "\n").length ≤ N := by rw [← wordsOf_len]; exact hN.rows
    have hl0 : 0 < (Txt.split t "\n").length := List.length_pos_iff.mpr (split_ne _ _)
    refine ⟨by rw [len_nl]; rfl, hlt, ?_⟩
    generalize Txt.split t "\n" = lines at hll hln hl0 ⊢
    refine next_at hd (by rw [List.length_map]; omega) (by rw [List.length_map]; omega) fun x1 d1 hd1 x10 x11 => ?_
    obtain ⟨k, rfl⟩ := Int.eq_ofNat_of_zero_le x10
    rw [List.length_map] at x11
    have hk : k < lines.length := by omega
    have hline := hll _ (List.getElem_mem hk)
    walk_at "fd"
    refine ⟨.str lines[k], atI_nat (by rw [List.getElem?_map, List.getElem?_eq_getElem hk]; rfl), ?_⟩
    walk_at "fd"
    have hwl : lines[k].length ≤ 1000 := Nat.le_trans hline.len (by omega)
    have hw := hline.words
    have hwn := hline.few
    have hw0 : 0 < (Txt.split lines[k] " ").length := List.length_pos_iff.mpr (split_ne _ _)
    refine ⟨by rw [len_sp]; rfl, by rw [sizeLine_eq]; omega, ?_⟩
    generalize Txt.split lines[k] " " = ws at hw hwn hw0 ⊢
    refine next_at hd1 (by rw [List.length_map]; omega) (by rw [List.length_map]; omega) fun x2 d2 hd2 x20 x21 => ?_
    obtain ⟨j, rfl⟩ := Int.eq_ofNat_of_zero_le x20
    rw [List.length_map] at x21
    have hj : j < ws.length := by omega
    walk_at "fd"
    refine ⟨by rw [sizeLine_eq]; decide, fun (L' : Fm.Loc) (M' : Mem) => ∃ (d' : Dr) (o : Str), d'.ok ∧ OkW o ∧ L' = [some (.ref 1), some (.str t), some (.ref (List.length g + 2)), some (.int k), some (.ref (List.length g + 3)), some (.int j), some (.str o), none, none] ∧ M' = dm d' (g ++ [.lst (lines.map Tr.str), .lst (ws.map Tr.str), .lst (odds.map Tr.str)]), ?_, ?_⟩
    · refine next_at hd2 (by decide) (by decide) fun x3 d3 hd3 x30 x31 => ?_
      obtain ⟨n, rfl⟩ := Int.eq_ofNat_of_zero_le x30
      obtain ⟨o, ho⟩ : ∃ o, odds[n]? = some o := ⟨_, List.getElem?_eq_getElem (show n < odds.length by show n < 11; omega)⟩
      walk_at "fd"
      refine ⟨_, atI_nat (xs := odds.map Tr.str) (by rw [List.getElem?_map, ho]; rfl), d3, hd3, o, odds_ok o (List.mem_of_getElem? ho), rfl, rfl⟩
    · rintro L' M' ⟨d3, o, hd3, ho, rfl, rfl⟩
      have f1 : ∀ d h, (dm d (g ++ [O.lst (lines.map Tr.str), .lst (ws.map Tr.str), .lst (odds.map Tr.str)]) ++ h)[List.length g + 2]? = some (O.lst (lines.map Tr.str)) := fun d h => dm_in (i := 0) rfl
      have f2 : ∀ d h, (dm d (g ++ [O.lst (lines.map Tr.str), .lst (ws.map Tr.str), .lst (odds.map Tr.str)]) ++ h)[List.length g + 3]? = some (O.lst (ws.map Tr.str)) := fun d h => dm_in (i := 1) rfl
      obtain ⟨gg, hgg⟩ : ∃ gg, g ++ [O.lst (lines.map Tr.str), .lst (ws.map Tr.str), .lst (odds.map Tr.str)] = g ++ gg := ⟨_, rfl⟩
      rw [hgg] at f1 f2 ⊢
      generalize hg2 : g ++ gg = g2 at f1 f2 ⊢
      have f20 : ∀ d, (dm d g2)[List.length g + 3]? = some (O.lst (ws.map Tr.str)) := fun d => by have := f2 d []; rwa [List.append_nil] at this
      have c1 : cutT (ws.map Tr.str) none (some (j : Int)) = (ws.take j).map Tr.str := by rw [cut_hi (by rw [List.length_map]; omega), List.map_take]
      have c2 : cutT (ws.map Tr.str) (some ((j : Int) + 1)) none = (ws.drop (j + 1)).map Tr.str := by
        rw [show (j : Int) + 1 = ((j + 1 : Nat) : Int) by omega, cut_lo (by rw [List.length_map]; omega), List.map_drop]
      have c3 : cutT (ws.map Tr.str) (some (j : Int)) none = (ws.drop j).map Tr.str := by rw [cut_lo (by rw [List.length_map]; omega), List.map_drop]
      walk_at "fm"
      simp only [f2, f20, lstO_lst, Option.some.injEq, exists_eq_left', c1, c2, c3]
      refine ⟨fun (L' : Fm.Loc) (M' : Mem) => ∃ (d' : Dr) (g' gg : Mem) (wi : Nat) (w' : List Str), d'.ok ∧ g' = g ++ gg ∧ (∀ w ∈ w', OkW w) ∧ w'.length ≤ N + 1 ∧ (∀ d h, (dm d g' ++ h)[List.length g + 2]? = some (O.lst (lines.map Tr.str))) ∧
        (∀ d h, (dm d g' ++ h)[wi]? = some (O.lst (w'.map Tr.str))) ∧ L' = [some (.ref 1), some (.str t), some (.ref (List.length g + 2)), some (.int k), some (.ref wi), some (.int j), some (.str o), none, none] ∧ M' = dm d' g', ?_, ?_⟩
      · have l1 : ((ws.take j).map Tr.str).length = j := by rw [List.length_map, List.length_take]; omega
        have l2 : ((ws.drop (j + 1)).map Tr.str).length = ws.length - (j + 1) := by rw [List.length_map, List.length_drop]
        have l3 : ((ws.drop j).map Tr.str).length = ws.length - j := by rw [List.length_map, List.length_drop]
        simp only [List.length_append, l1, l2, l3, List.length_cons, List.length_nil]
        rw [sizeLine_eq]
        refine ⟨by omega, by omega, by omega, by omega, by omega, by omega, by omega, by omega, next_at hd3 (by decide) (by decide) fun r d4 hd4 r0 r1 => ?_⟩
        refine ⟨_, (congrArg lstO (dm_at (k := 13))).trans rfl, r, rfl, ?_⟩
        have wt : ∀ w ∈ ws.take j, OkW w := fun w h => hw w (List.mem_of_mem_take h)
        have wd : ∀ n, ∀ w ∈ ws.drop n, OkW w := fun n w h => hw w (List.mem_of_mem_drop h)
        have w1 : ∀ w ∈ [o], OkW w := fun w h => by rw [List.mem_singleton.mp h]; exact ho
        have app : ∀ {a b : List Str}, (∀ w ∈ a, OkW w) → (∀ w ∈ b, OkW w) → ∀ w ∈ a ++ b, OkW w := fun ha hb w h => (List.mem_append.mp h).elim (ha w) (hb w)
        have hr : r = 0 ∨ r = 1 ∨ r = 2 := by omega
        rcases hr with rfl | rfl | rfl
        · refine ⟨_, rfl, d4, _, _, _, ws.take j ++ [o] ++ ws.drop (j + 1), hd4, by rw [← hg2, List.append_assoc], app (app wt w1) (wd _), by simp; omega, fun d h => by rw [dm_app, List.append_assoc]; exact f1 d _, fun d h => dm_in (i := 4) (by rw [List.map_append, List.map_append]; rfl), rfl, dm_app.symm⟩
        · refine ⟨_, rfl, d4, _, _, _, ws.take j ++ ws.drop (j + 1), hd4, by rw [← hg2, List.append_assoc], app wt (wd _), by simp; omega, fun d h => by rw [dm_app, List.append_assoc]; exact f1 d _, fun d h => dm_in (i := 7) (by rw [List.map_append]; rfl), rfl, dm_app.symm⟩
        · refine ⟨_, rfl, d4, _, _, _, ws.take j ++ [o] ++ ws.drop j, hd4, by rw [← hg2, List.append_assoc], app (app wt w1) (wd _), by simp; omega, fun d h => by rw [dm_app, List.append_assoc]; exact f1 d _, fun d h => dm_in (i := 12) (by rw [List.map_append, List.map_append]; rfl), rfl, dm_app.symm⟩
      · rintro L' M' ⟨d4, g3, gg3, wi, w', hd4, hg3, hw', hwn', f3, f4, rfl, rfl⟩
        have f40 : ∀ d, (dm d g3)[wi]? = some (O.lst (w'.map Tr.str)) := fun d => by have := f4 d []; rwa [List.append_nil] at this
        have hch := OkL.of_words hw' hwn' (by omega)
        walk_at "fm"
        rw [f40]
        refine ⟨fun (L' : Fm.Loc) (M' : Mem) => L' = [some (.ref 1), some (.str t), some (.ref (List.length g + 2)), some (.int k), some (.ref wi), some (.int j), some (.str o), some (.str (Txt.join " " w')), none] ∧ M' = dm d4 g3, ⟨w', rfl, ?_, rfl, rfl⟩, ?_⟩
        · rw [len_sp]
          have := sum_le' (b := 20) fun w h => (hw' w h).ok.1
          omega
        · rintro L' M' ⟨rfl, rfl⟩
          generalize Txt.join " " w' = ch at hch ⊢
          have f30 : ∀ d, (dm d g3)[List.length g + 2]? = some (O.lst (lines.map Tr.str)) := fun d => by have := f3 d []; rwa [List.append_nil] at this
          have c1 : cutT (lines.map Tr.str) none (some (k : Int)) = (lines.take k).map Tr.str := by rw [cut_hi (by rw [List.length_map]; omega), List.map_take]
          have c2 : cutT (lines.map Tr.str) (some ((k : Int) + 1)) none = (lines.drop (k + 1)).map Tr.str := by
            rw [show (k : Int) + 1 = ((k + 1 : Nat) : Int) by omega, cut_lo (by rw [List.length_map]; omega), List.map_drop]
          have c3 : cutT (lines.map Tr.str) (some (k : Int)) (some ((k : Int) + 1)) = [Tr.str lines[k]] := by
            rw [show (k : Int) + 1 = ((k + 1 : Nat) : Int) by omega, cut_mid (by rw [List.length_map]; omega), ← List.map_drop, List.drop_eq_getElem_cons hk]
            rfl
          have fl : (List.replicate (Int.toNat 2) [Tr.str lines[k]]).flatten = [Tr.str lines[k], Tr.str lines[k]] := rfl
          walk_at "fm"
          simp only [f3, f30, lstO_lst, Option.some.injEq, exists_eq_left', c1, c2, c3, fl]
          have l1 : ((lines.take k).map Tr.str).length = k := by rw [List.length_map, List.length_take]; omega
          have l2 : ((lines.drop (k + 1)).map Tr.str).length = lines.length - (k + 1) := by rw [List.length_map, List.length_drop]
          refine ⟨fun (L' : Fm.Loc) (M' : Mem) => ∃ (g4 gg4 : Mem) (ri a0 a1 a2 : Nat) (l0 l1 l2 : List Str), g4 = g ++ gg4 ∧ ((∀ l ∈ l0, OkL (N + 1) l) ∧ (∀ l ∈ l1, OkL (N + 1) l) ∧ (∀ l ∈ l2, OkL (N + 1) l)) ∧ (l0.length ≤ N + 1 ∧ l1.length ≤ N + 1 ∧ l2.length ≤ N + 1) ∧
            (∀ d h, (dm d g4 ++ h)[List.length g + 2]? = some (O.lst (lines.map Tr.str))) ∧ (∀ d h, (dm d g4 ++ h)[ri]? = some (O.lst [Tr.ref a0, Tr.ref a1, Tr.ref a2])) ∧
            (∀ d h, (dm d g4 ++ h)[a0]? = some (O.lst (l0.map Tr.str))) ∧ (∀ d h, (dm d g4 ++ h)[a1]? = some (O.lst (l1.map Tr.str))) ∧ (∀ d h, (dm d g4 ++ h)[a2]? = some (O.lst (l2.map Tr.str))) ∧
            L' = [some (.ref 1), some (.str t), some (.ref (List.length g + 2)), some (.int k), some (.ref wi), some (.int j), some (.str o), some (.str ch), some (.ref ri)] ∧ M' = dm d4 g4, ?_, ?_⟩
          · simp only [List.length_append, l1, l2, List.length_cons, List.length_nil]
            rw [sizeLine_eq]
            have t1 : ∀ l ∈ lines.take k, OkL (N + 1) l := fun l h => (hll l (List.mem_of_mem_take h)).mono (Nat.le_succ _)
            have t2 : ∀ l ∈ lines.drop (k + 1), OkL (N + 1) l := fun l h => (hll l (List.mem_of_mem_drop h)).mono (Nat.le_succ _)
            have t3 : ∀ l ∈ [lines[k], lines[k]], OkL (N + 1) l := fun l h => by
              simp only [List.mem_cons, List.not_mem_nil, or_false, or_self] at h
              rw [h]
              exact hline.mono (Nat.le_succ _)
            have t4 : ∀ l ∈ [ch], OkL (N + 1) l := fun l h => by rw [List.mem_singleton.mp h]; exact hch
            have app : ∀ {a b : List Str}, (∀ w ∈ a, OkL (N + 1) w) → (∀ w ∈ b, OkL (N + 1) w) → ∀ w ∈ a ++ b, OkL (N + 1) w := fun ha hb w h => (List.mem_append.mp h).elim (ha w) (hb w)
            refine ⟨by omega, by omega, by omega, by omega, by decide, by decide, by decide, by omega, by omega, by omega, ?_⟩
            refine ⟨_, _, _, _, _, _, lines.take k ++ [ch] ++ lines.drop (k + 1), lines.take k ++ lines.drop (k + 1), lines.take k ++ [lines[k], lines[k]] ++ lines.drop (k + 1), by rw [hg3, List.append_assoc], ⟨app (app t1 t4) t2, app t1 t2, app (app t1 t3) t2⟩, ⟨by simp; omega, by simp; omega, by simp; omega⟩,
              fun d h => by rw [dm_app, List.append_assoc]; exact f3 d _, fun d h => dm_in (i := 14) rfl, fun d h => dm_in (i := 4) (by rw [List.map_append, List.map_append]; rfl), fun d h => dm_in (i := 7) (by rw [List.map_append]; rfl), fun d h => dm_in (i := 13) (by rw [List.map_append, List.map_append]; rfl), rfl, dm_app.symm⟩
          · rintro L' M' ⟨g4, gg4, ri, a0, a1, a2, r0, r1, r2, hg4, ⟨ok0, ok1, ok2⟩, ⟨n0, n1, n2⟩, e1, e2, e3, e4, e5, rfl, rfl⟩
            have e10 : ∀ d, (dm d g4)[List.length g + 2]? = some (O.lst (lines.map Tr.str)) := fun d => by have := e1 d []; rwa [List.append_nil] at this
            have e20 : ∀ d, (dm d g4)[ri]? = some (O.lst [Tr.ref a0, Tr.ref a1, Tr.ref a2]) := fun d => by have := e2 d []; rwa [List.append_nil] at this
            walk_at "fm"
            simp only [e1, e10, e2, e20, lstO_lst, Option.some.injEq, exists_eq_left', exists_eq_left]
            have hsz : (lines.map Tr.str).length + 1 ≤ sizeLine := by rw [sizeLine_eq, List.length_map]; omega
            refine ⟨_, rfl, _, rfl, _, rfl, _, rfl, by rw [sizeLine_eq]; decide, hsz, ?_⟩
            unfold fRevL
            walk_at "fm"
            rw [e1]
            walk_at "fm"
            rw [← List.map_reverse]
            refine ⟨by rw [sizeLine_eq]; decide, next_at hd4 (by decide) (by decide) fun r d5 hd5 r00 r01 => ?_⟩
            refine ⟨_, (congrArg lstO (dm_at (k := 3))).trans rfl, r, rfl, ?_⟩
            have fin : ∀ l : List Str, (∀ x ∈ l, OkL (N + 1) x) → l.length ≤ N + 1 → ∀ h : Mem, (l.map (·.length)).sum + l.length * ("\n" : Str).length ≤ 16777216 ∧ Keep (List.length g + 2) P (Tr.str (Txt.join "\n" l)) (dm d5 g4 ++ h) := fun l hok hn h => by
              refine ⟨?_, ?_⟩
              · rw [len_nl]
                have := sum_le' (b := (N + 1) * 21) fun x hx => (hok x hx).len
                have h2 : l.length * ((N + 1) * 21) ≤ (N + 1) * ((N + 1) * 21) := Nat.mul_le_mul_right _ hn
                have h3 : (N + 1) * ((N + 1) * 21) ≤ 21 * (21 * 21) := Nat.mul_le_mul (by omega) (Nat.mul_le_mul_right _ (by omega))
                omega
              · rw [hg4]
                exact keep_dm2 m rfl (q _ _ hd5 (Neat.of_lines hok hn (by omega) (by omega)))
            have okl : ∀ l ∈ lines, OkL (N + 1) l := fun l h => (hll l h).mono (Nat.le_succ _)
            have hr : r = 0 ∨ r = 1 ∨ r = 2 ∨ r = 3 ∨ r = 4 ∨ r = 5 := by omega
            rcases hr with rfl | rfl | rfl | rfl | rfl | rfl
            · exact ⟨_, rfl, r0, by rw [seqAt_of (e3 _ _)], fin r0 ok0 n0 _⟩
            · exact ⟨_, rfl, r0, by rw [seqAt_of (e3 _ _)], fin r0 ok0 n0 _⟩
            · exact ⟨_, rfl, r1, by rw [seqAt_of (e4 _ _)], fin r1 ok1 n1 _⟩
            · exact ⟨_, rfl, r2, by rw [seqAt_of (e5 _ _)], fin r2 ok2 n2 _⟩
            · refine ⟨_, rfl, lines ++ [("" : Str)], ?_, fin _ (fun x hx => (List.mem_append.mp hx).elim (okl x) fun h => by rw [List.mem_singleton.mp h]; exact OkL.empty (by omega)) (by simp; omega) _⟩
              refine (seqAt_of (dm_at (k := 1))).trans ?_
              rw [List.map_append]
              rfl
            · exact ⟨_, rfl, lines.reverse, (seqAt_of (dm_at (k := 2))).trans rfl, fin _ (fun x hx => okl x (List.mem_reverse.mp hx)) (by rw [List.length_reverse]; omega) _⟩
end
end T1

set_option Elab.async false
set_option linter.all false
set_option maxRecDepth 100000
set_option maxHeartbeats 4000000
namespace T1
open PySem PySem.Spec PyProof.Rows L2 C8 Fm T2
local macro_rules | `(tactic| walk_at "sim1") => `(tactic| with_reducible first
  | exact sim_nil | exact sim_var | exact sim_int | exact sim_str | exact sim_bl | exact sim_non | exact sim_raw
  | apply sim_cons | apply sim_op | apply sim_un | apply sim_tup | apply sim_lst
  | apply sim_CB | apply sim_if | apply sim_test | apply sim_B | apply sim_not | apply sim_and | apply sim_or
  | apply sim_andV | apply sim_orV | apply sim_notV | apply sim_chain | exact sim_nopart | apply sim_part
  | apply sim_sl | apply sim_BML | apply sim_BMS | apply sim_BM0S | apply sim_M1 | apply sim_M0
  | apply sim_fmt | apply sim_joined | exact SimJ.nil | apply SimJ.cons
  | exact s_I0i | exact s_I0b | exact s_Ii | exact s_Ui | exact s_eq | exact s_ne | exact s_isN | exact s_notN | exact s_ixL | exact s_ixT | exact s_ixS
  | exact s_cat | exact s_catA | exact s_rep | exact s_repT | exact s_in | exact s_slL | exact s_slA | exact s_slS | exact s_addS | exact s_leS | exact s_ltS
  | exact c_len | exact c_lenS | exact c_list | exact c_tuple | exact c_int1 | exact c_intS | exact c_strI | exact c_max2 | exact c_min2
  | exact m_append | exact m_extend | exact m_split | exact m_join | exact m_0b | exact m_1b
  | apply sim_call | exact simSpF
  | exact sim_name | exact sim_gnil | apply sim_gcons | apply sim_gtup | apply sim_gsub | exact set_list
  | exact sim_next | apply sim_seq | apply sim_cut | exact sim_break | exact sim_cont | apply sim_drop | apply sim_ret | exact sim_retN
  | apply sim_ifS | exact sim_never | apply sim_asg | apply sim_par | apply sim_aug
  | apply sim_for | apply sim_while | apply i_list | apply i_tup | apply i_rng1 | apply i_rng2 | apply i_str | apply i_enum | apply i_zip
  | apply sim_lc | exact sim_yes | exact sim_namew (by decide) | exact sim_gnilw | apply sim_gconsw | apply sim_gtupw
  | apply sim_fld | apply sim_con | apply sim_setFld | apply sim_make | apply sim_prop | apply sim_meth | apply sim_cmeth | exact c_isi | apply sim_isiT | exact s_eqD | exact s_neD
  | walk_at "sim2")
local macro_rules | `(tactic| walk_at "sim2") => `(tactic| fail)
local macro_rules | `(tactic| walk_at "sim") => `(tactic| repeat' (walk_at "sim1"))
/-- open the trees' reading as far as it goes by itself -/
local macro_rules | `(tactic| walk_at "fm") => `(tactic| simp (config := { failIfUnchanged := false }) only [fVar, fC, fOp, fUn, fNil, fCons, fTup, fLst, fCB, fIf, fTest, fNot, fAnd, fOr, fAndV, fOrV, fNotV, fChain, fNoPart, fPart, fI, fI0, fU, fEq, fNe, fIsN, fNotN, fIxL, fIxT, fIxS,
  fCat, fCatA, fRep, fRepT, fSlL, fSlA, fSlS, fSl, fLen, fLenS, fList, fTuple, fIntS, fStrI, fMax2, fMin2, fAppend, fExtend, fIn, fBM, fMS, fBMS, fBM0S, fAddS, fLeS, fLtS, fM0b, fM1b, fSplit, fJoin, fJoined, fJs,
  fName, fGNil, fGCons, fGTup, fSetL, fGSub, fNext, fSeq, fCut, fBreak, fCont, fDrop, fRet, fRetN, fIfS, fAsg, fPar, fAug, fCall, fFld, fCon, fSetFld, fMake, fProp, fMeth, fCMeth, fIsi, fIsiT, fEqD, fNeD, insAt_ref, insO_ins, fFmt, fmtS_i, fmtS_s, fmtOk_i, fmtOk_s, fIL, fIT, fIR1, fIR2, fIS, fIEn, fIZ,
  startL, List.map_cons, List.map_nil, List.length_cons, List.length_nil, List.cons_append, List.nil_append, List.replicate, List.getElem?_cons_zero, List.getElem?_cons_succ, List.set_cons_zero, List.set_cons_succ, Nat.reduceSub, Nat.reduceAdd,
  Option.some.injEq, Tr.int.injEq, Tr.str.injEq, Tr.bl.injEq, Tr.tup.injEq, Tr.ref.injEq, List.cons.injEq, exists_eq_left, exists_eq_left', exists_eq_right, true_and, and_true, and_self, exists_and_left, tupOf_tup, eqS_ii, eqS_ss, eqS_bb, eqS_ni, eqS_in, eqS_nn, isStr_s, isN_n, isN_i, isN_b, isN_s, isN_t, isN_r, noRaw_n, noRaw_i, noRaw_b, noRaw_s, noRaw_t, noRaw_r, and_assoc, reduceIte, Bool.false_eq_true, exists_const, lstAt_ref, seqAt_ref, seqAt_tup, refAt_ref, lstO_lst, app_assoc2, len_app1, at_kk, at_00, set_k, set_00, Nat.add_assoc, Option.map_some, Prod.mk.injEq, int_cast_inj, Nat.zero_le, decide_eq_true_eq, Bool.not_eq_true', decide_eq_false_iff_not, Nat.add_zero, implies_true, forall_const, ite_true, ite_false, if_true, if_false, decide_true, decide_false, Bool.not_true, Bool.not_false, asg_len, Option.isSome_some])
local macro_rules | `(tactic| walk_at "bel") => `(tactic| first | rfl | (simp (config := { failIfUnchanged := false }) only [belM, O.bel, bels_strs, bels_ints, belL, Tr.bel, Tr.bels, Bool.and_true, Bool.true_and, Bool.and_self, decide_eq_true_eq, Bool.and_eq_true, true_and, and_true, List.length_cons, List.length_nil, Nat.reduceAdd]; try omega))

local macro_rules | `(tactic| walk_at "sim1") => `(tactic| with_reducible apply sim_isiT)
/-! ### alike: texts; data -/
def fsAlikeS : FSp := fun ts M P _ => ∃ x : Str, ts = [.str x, .str x] ∧ P (.bl true) M
section
variable {P : Program} {w : World} {K : PySem.W.Frag} {mg : Str → Option Value} {base : Heap}
theorem kb_str_dict : kitB "str" "dict" = some false := by decide +kernel
theorem kb_str_tuple : kitB "str" "tuple" = some false := by decide +kernel
theorem kb_str_list : kitB "str" "list" = some false := by decide +kernel
theorem kb_str_str : kitB "str" "str" = some true := by decide +kernel
theorem ok_alikeS {f : Addr} {fd : FuncData} (F : Def K mg "_law_alike" sAlike f fd) (b : Binds K fd ["_law_found", "_law_due"] []) (T : BT mg) : Cal P w K mg base 1 "_law_alike" (spF K fsAlikeS) [] := by
  refine cal0 F b .nil scAlike (fun vs H Q E h => ?_) (fun cdv A outer s H vs Q E hr h => ?_)
  · obtain ⟨ts, ρ, M, P, PX, r, m, ⟨x, rfl, _⟩, o, ox⟩ := h
    exact r.len
  · refine ⟨_, (pss_cons (ps_if (pt_val (pe_callB call_isi (by rfl) T.isinstance (by decide +kernel) (pa_cons (pv 1) (pa_cons (pe_bltn (v := .ty "dict") (by rfl) T.dict (by decide +kernel) rfl) pa_nil)))) (pss_one ps_never) pss_nil)
 (pss_cons (ps_if (pt_val (pe_callB call_isiT (by rfl) T.isinstance (by decide +kernel) (pa_cons (pv 1) (pa_cons (pe_tup (pa_cons (pe_bltn (v := .ty "tuple") (by rfl) T.tuple (by decide +kernel) rfl) (pa_cons (pe_bltn (v := .ty "list") (by rfl) T.list (by decide +kernel) rfl) pa_nil))) pa_nil)))) (pss_cons (ps_if (PW.pt (pw_or (pt_not (pt_val (pe_callB call_isiT (by rfl) T.isinstance (by decide +kernel) (pa_cons (pv 0) (pa_cons (pe_tup (pa_cons (pe_bltn (v := .ty "tuple") (by rfl) T.tuple (by decide +kernel) rfl) (pa_cons (pe_bltn (v := .ty "list") (by rfl) T.list (by decide +kernel) rfl) pa_nil))) pa_nil))))) (pw_or1 (pt_cmpR op_ne (pe_callB call_isi (by rfl) T.isinstance (by decide +kernel) (pa_cons (pv 0) (pa_cons (pe_bltn (v := .ty "list") (by rfl) T.list (by decide +kernel) rfl) pa_nil))) (pe_callB call_isi (by rfl) T.isinstance (by decide +kernel) (pa_cons (pv 1) (pa_cons (pe_bltn (v := .ty "list") (by rfl) T.list (by decide +kernel) rfl) pa_nil))) (nomark _))))) (pss_one (ps_ret pe_bl)) pss_nil)
 (pss_cons (ps_if (pt_cmpR op_ne (pe_callB call_len_seq (by rfl) T.len PySem.boot_len (pa_cons (pv 0) pa_nil)) (pe_callB call_len_seq (by rfl) T.len PySem.boot_len (pa_cons (pv 1) pa_nil)) (nomark _)) (pss_one (ps_ret pe_bl)) pss_nil)
 (pss_one ps_never))) pss_nil)
 (pss_cons (ps_if (PW.pt (pw_or (pt_cmpR op_isN (pv 1) pe_non (nomark _)) (pw_or1 (pt_val (pe_callB call_isi (by rfl) T.isinstance (by decide +kernel) (pa_cons (pv 1) (pa_cons (pe_bltn (v := .ty "str") (by rfl) T.str (by decide +kernel) rfl) pa_nil))))))) (pss_one (ps_ret (pe_and (pe_cmpR op_eq (pv 0) (pv 1) (nomark _)) (pe_one (pe_cmpR op_eq (pe_callB call_isi (by rfl) T.isinstance (by decide +kernel) (pa_cons (pv 0) (pa_cons (pe_bltn (v := .ty "str") (by rfl) T.str (by decide +kernel) rfl) pa_nil))) (pe_callB call_isi (by rfl) T.isinstance (by decide +kernel) (pa_cons (pv 1) (pa_cons (pe_bltn (v := .ty "str") (by rfl) T.str (by decide +kernel) rfl) pa_nil))) (nomark _)))))) pss_nil)
 (pss_one (ps_ret (pe_and (pe_callB call_isi (by rfl) T.isinstance (by decide +kernel) (pa_cons (pv 0) (pa_cons (pe_bltn (v := .ty "int") (by rfl) T.int (by decide +kernel) rfl) pa_nil))) (pe_and (pe_cmpR op_eq (pe_callB call_isi (by rfl) T.isinstance (by decide +kernel) (pa_cons (pv 0) (pa_cons (pe_bltn (v := .ty "bool") (by rfl) T.bool (by decide +kernel) rfl) pa_nil))) (pe_callB call_isi (by rfl) T.isinstance (by decide +kernel) (pa_cons (pv 1) (pa_cons (pe_bltn (v := .ty "bool") (by rfl) T.bool (by decide +kernel) rfl) pa_nil))) (nomark _)) (pe_one (pe_cmpR op_eq (pv 0) (pv 1) (nomark _)))))))))), ?_⟩
    obtain ⟨ts, ρ, M, P, PX, r, m, ⟨x, rfl, q⟩, o, ox⟩ := h
    simp only [nox_K, cx_K]
    refine run_in r m o (by walk_at "sim") ?_
    have nd : ∀ M, tyN M (.str x) = some "str" := fun _ => rfl
    walk_at "fm"
    simp only [Tr.raw.injEq, V.ty.injEq, exists_eq_left', nd, Option.some.injEq, kb_str_dict, kb_str_tuple, kb_str_list, kb_str_str, Bool.or_false, Bool.false_eq_true, if_false, if_true]
    walk_at "fm"
    exact keep_same m rfl q
/-- data on trees -/
def fsAlike (n : Nat) : FSp := fun ts M P _ => ∃ (x y : Tr) (d : PyData), ts = [x, y] ∧ Da M x d ∧ Da M y d ∧ okd n d ∧ P (.bl true) M
theorem simAlike {n : Nat} : SimSp K (spAlike K n) (fsAlike n) := ⟨fun {H ρ M ts vs P PX Q E} r m h o x => by
  obtain ⟨x, y, d, rfl, h1, h2, h3, q⟩ := h
  obtain ⟨xv, yv, rfl, r1, r2⟩ := r.two
  refine ⟨xv, yv, d, rfl, h1.dp m r1, h2.dp m r2, h3, fun H' sm => ?_⟩
  obtain ⟨g, m'⟩ := same_grow sm m
  exact o (.bl true) (.bl true) H' ρ M g m' RT.bl_ q⟩
end
end T1

set_option Elab.async false
set_option linter.all false
set_option maxRecDepth 100000
set_option maxHeartbeats 4000000
namespace T1
open PySem PySem.Spec PyProof.Rows L2 C8
local macro_rules | `(tactic| walk_at "hf") => `(tactic| (fail_if_success (show (fun _ => none : Hp) _ = _)); first | assumption | with_reducible exact upd_same | ((with_reducible show upd _ _ _ _ = _); first | exact up_new' (by assumption) (by walk_at "hf") | exact up_set (by walk_at "ne") (by walk_at "hf")) | exact Same.at' (by assumption) (by walk_at "hf") | exact But.at' (by assumption) (by walk_at "ne") (by walk_at "ne") (by walk_at "hf"))
local macro_rules | `(tactic| walk_at "hf0") => `(tactic| (fail_if_success (show (fun _ => none : Hp) _ = _)); first | assumption | with_reducible exact upd_same | ((with_reducible show upd _ _ _ _ = _); exact up_new' (by assumption) (by walk_at "hf0")))
local macro_rules | `(tactic| walk_at "ne") => `(tactic| first | assumption | (apply Ne.symm; assumption) | exact ne_of_none' (by assumption) (by walk_at "hf0") | exact Ne.symm (ne_of_none' (by assumption) (by walk_at "hf0")) | exact LSt.f1 (by assumption) (by walk_at "lst") | exact LSt.f2 (by assumption) (by walk_at "lst"))
local macro_rules | `(tactic| walk_at "sqt") => `(tactic| (fail_if_success (show SqT _ (fun _ => none) _ _)); first | assumption | exact SqT.of' (by walk_at "hf") | ((with_reducible show SqT _ (upd _ _ _) _ _); first | exact SqT.new' (by assumption) (by walk_at "sqt") | exact SqT.put' (by walk_at "hf") (by walk_at "sqt")) | exact Same.tup (by assumption) (by walk_at "sqt") | exact But.tup (by assumption) (by walk_at "lst") (by walk_at "sqt"))
local macro_rules | `(tactic| walk_at "sql") => `(tactic| (fail_if_success (show SqL _ (fun _ => none) _ _)); first | assumption | exact SqL.of' (by walk_at "hf") | ((with_reducible show SqL _ (upd _ _ _) _ _); exact SqL.new' (by assumption) (by walk_at "sql")) | exact Same.sql' (by assumption) (by walk_at "sql"))
local macro_rules | `(tactic| walk_at "lst") => `(tactic| (fail_if_success (show LSt (fun _ => none) _ _)); first | assumption | ((with_reducible show LSt (upd _ _ _) _ _); first | exact LSt.new (by walk_at "lst") (by assumption) | exact LSt.put (by walk_at "lst") (by walk_at "ne") (by walk_at "ne")) | exact LSt.same' (by assumption) (by walk_at "lst"))
local macro_rules | `(tactic| walk_at "but") => `(tactic| first | assumption | exact But.refl _ _ _ | ((with_reducible show But _ _ _ (upd _ _ _)); exact But.nw (by assumption) (by walk_at "but")) | exact But.bu (by assumption) (by walk_at "but") | exact But.sm (by assumption) (by walk_at "but"))
local macro_rules | `(tactic| walk_at "ls") => `(tactic| first | assumption | exact Ls.same (by walk_at "ls") (Same.upd' (by assumption)))
local macro_rules | `(tactic| walk_at "ll") => `(tactic| first | assumption | exact LL.same (by walk_at "ll") (Same.upd' (by assumption)) | exact LL.same' (by assumption) (by walk_at "ll") | exact LL.but' (by assumption) (by walk_at "lst") (by walk_at "ll"))
local macro_rules | `(tactic| walk_at "sm") => `(tactic| first | assumption | exact Same.refl _ | ((with_reducible show Same _ (upd _ _ _)); first | exact Same.put' (by assumption) (by walk_at "sm") | exact Same.trans (by walk_at "sm") (Same.upd' (by assumption))) | exact Same.trans (by walk_at "sm") (by assumption))
/-- one step of a reading -/
local macro_rules | `(tactic| walk_at "rd") => `(tactic| first
  | with_reducible refine iteF ?_
  | with_reducible refine iteT ?_
  | with_reducible refine itNotF ?_
  | with_reducible refine itNotT ?_
  | refine ⟨_, rfl, ?_⟩
  | refine ⟨_, _, rfl, rfl, ?_⟩
  | refine ⟨_, _, rfl, ?_⟩
  | refine ⟨(_ : Addr), (_ : List V), (_ : Int), (_ : V), rfl, rfl, SqL.of' (by walk_at "hf"), (by first | assumption | rfl), ?_⟩
  | refine ⟨(_ : Addr), (_ : List V), (_ : Int), (_ : V), rfl, rfl, (by walk_at "sqt" : SqT _ _ _ _), (by first | assumption | rfl), ?_⟩
  | refine .inl ⟨_, rfl, ?_⟩
  | refine ⟨_, _, rfl, .inl (by walk_at "sql" : SqL _ _ _ _), ?_⟩
  | refine ⟨_, _, rfl, .inl ⟨(by walk_at "sql" : SqL _ _ _ _), fun p hp => ?_⟩⟩
  | refine ⟨_, _, rfl, .inr ⟨(by walk_at "sqt" : SqT _ _ _ _), ?_⟩⟩
  | refine fun (p : Addr) (hp : (_ : Hp) p = none) => ?_
  | refine ⟨_, _, rfl, .inr (by walk_at "sqt" : SqT _ _ _ _), ?_⟩
  | refine And.intro (by show _ ≤ sizeLine; first | decide | walk_at "sz") (fun p hp => ?_)
  | refine ⟨(_ : Addr), (_ : Addr), (_ : List V), (_ : List V), rfl, rfl, (by walk_at "hf"), (by walk_at "hf"), (by walk_at "sz"), fun p hp => ?_⟩
  | refine ⟨(_ : Addr), (_ : Addr), (_ : List V), (_ : List V), rfl, rfl, (by walk_at "hf"), (by walk_at "hf"), (by walk_at "sz"), ?_⟩
  | refine ⟨(_ : Addr), (_ : List V), (_ : Int), (_ : Nat), rfl, rfl, (by walk_at "hf"), (by rfl), ?_⟩
  | refine And.intro ⟨_, (by walk_at "sql" : SqL _ _ _ _)⟩ ?_
  | refine And.intro ⟨_, (by walk_at "sqt" : SqT _ _ _ _)⟩ ?_
  | refine And.intro (.inl ⟨rfl, _, SqL.of' (by walk_at "hf")⟩) ?_
  | refine And.intro (by walk_at "cond") ?_
  | exact .inl ⟨rfl, _, SqL.of' (by walk_at "hf")⟩
  | with_reducible refine iteT ?_
  | with_reducible refine iteF ?_
  | refine And.intro (by rfl : scal _ _ = true) ?_
  | refine And.intro (by rfl : _ = V.non) ?_
  | refine And.intro (by rfl : wipe _ _ = wipe _ _) ?_
  | refine And.intro (by rfl : (_ : List V) = []) ?_
  | refine ⟨(_ : Addr), (_ : List V), rfl, (by walk_at "sqt" : SqT _ _ _ _), (by rfl), ?_⟩)
/-- a test: known, or both ways -/
local macro_rules | `(tactic| walk_at "if") => `(tactic| first
  | with_reducible refine itD (by omega) ?_
  | with_reducible refine itN (by omega) ?_
  | with_reducible refine itnD (by omega) ?_
  | with_reducible refine itnN (by omega) ?_
  | with_reducible refine itE (by omega) ?_
  | with_reducible refine itEn (by omega) ?_
  | with_reducible refine itnE (by omega) ?_
  | with_reducible refine itnEn (by omega) ?_
  | with_reducible refine itN (by intro z; cases z) ?_
  | with_reducible refine itD (by decide) ?_
  | with_reducible refine itN (by decide) ?_
  | with_reducible refine itnD (by decide) ?_
  | with_reducible refine itnN (by decide) ?_)
local macro_rules | `(tactic| walk_at "if2") => `(tactic| first
  | with_reducible refine itS (fun z => ?_) (fun z => ?_)
  | with_reducible refine itS' (fun z => ?_) (fun z => ?_)
  | with_reducible refine itSE (fun z => ?_) (fun z => ?_)
  | with_reducible refine itnS (fun z => ?_) (fun z => ?_)
  | with_reducible refine itnS' (fun z => ?_) (fun z => ?_)
  | with_reducible refine itnSE (fun z => ?_) (fun z => ?_))
local macro_rules | `(tactic| walk_at "go") => `(tactic| repeat' (first | walk_at "rd" | walk_at "if" | walk_at "if2" | fail))
local macro_rules | `(tactic| walk_at "sz") => `(tactic| (rw [sizeLine_eq]; simp only [List.length_append, List.length_map, List.length_cons, List.length_nil]; omega))
local macro_rules | `(tactic| walk_at "cond") => `(tactic| first | assumption | (show (_ : Int) ≠ 0; first | omega | (split <;> omega)) | (show (0 : Int) < _; first | assumption | decide) | exact ⟨by decide, by decide, by decide⟩ | exact .inr ⟨by decide, by decide⟩ | exact wide_div (b := 64) (by assumption) (by omega) (by decide) (by decide) | exact ⟨by decide, by decide⟩)


/-! ### list.count of flat things -/
theorem cnt_eqU {y : V} : ∀ {ys : List V} {us : List Value}, Vals ys us → ys.all flatV = true → us.countP (eqU y) = ys.countP fun z => eqV z y
  | _, _, .nil, _ => rfl
  | z :: ys, u :: us, .cons r t, f => by
    rw [List.all_cons, Bool.and_eq_true] at f
    rw [List.countP_cons, List.countP_cons, cnt_eqU t f.2, eqU_of r f.1]
theorem mt_cntV {X : Cx} : MtR X "list.count" (fun x xs H Q => ∃ (a : Addr) (ys : List V) (y : V), x = .ref a ∧ xs = [y] ∧ SqL X.K H a ys ∧ flatV y = true ∧ ys.all flatV = true ∧ Q (.int ((ys.countP fun z => eqV z y : Nat))) H) := by
  rintro pins s σ H _ _ v us Q I rx rxs ⟨a, ys, y, rfl, rfl, hs, fy, fys, q⟩
  cases rx
  obtain _ | ⟨ry, _ | _⟩ := rxs
  rename_i uy
  obtain ⟨its, rv, ⟨⟨c, dd, dt, sl⟩, n, ho, hc, _, hd⟩, _⟩ := I.list hs
  obtain rfl : c = .type "list" := hc
  obtain rfl : dt = .seq its.toArray n := hd
  refine call_meets PySem.F.slot_list_count ⟨_, ho, rfl⟩ PySem.F.entry_list_count (PySem.F.args_list_count_2 _ _)
    (SeqAt.list_countAt a its.toArray n dd sl uy (eqU y)) ⟨ho, fun u hu => mem_eqAt ry fy rv fys u (by simpa using hu), ?_⟩
  refine ⟨.int ((ys.countP fun z => eqV z y : Nat)), H, I.tok _, ⟨s.toks, ?_⟩, q⟩
  show Value.int ((its.toArray.toList.countP (eqU y) : Nat) : Int) s.toks = _
  rw [List.toList_toArray, cnt_eqU rv fys]
/-! ### what the law's catcher makes of a call -/
/-- the module's error classes: their names and where they stand -/
structure Errs (K : PySem.W.Frag) (mg : Str → Option Value) (CB CT CX : Addr) : Prop where
  gB : mg "BridgeError" = some (.ref CB)
  gT : mg "InvalidTown" = some (.ref CT)
  gX : mg "InvalidText" = some (.ref CX)
  at_ : ∀ x ∈ (["InvalidTrips", "InvalidCount", "InvalidLife", "InvalidLoad", "UnknownPlace", "UnknownBridge", "UnknownKind", "TooManyBridges", "DifferentTowns", "Contradiction"] : List Str), ∃ c : Addr, mg x = some (.ref c) ∧ PySem.W.kitOne K (.ref CT) (.ref c) = some false ∧ PySem.W.kitOne K (.ref CX) (.ref c) = some false
  tt : PySem.W.kitOne K (.ref CT) (.ref CT) = some true
  tx : PySem.W.kitOne K (.ref CT) (.ref CX) = some false
  xt : PySem.W.kitOne K (.ref CX) (.ref CT) = some false
  xx : PySem.W.kitOne K (.ref CX) (.ref CX) = some true
  veT : PySem.W.kitOne K (.ref CT) (.type "ValueError") = some true
  veX : PySem.W.kitOne K (.ref CX) (.type "ValueError") = some true
  gV : mg "ValueError" = none
  exT : ExcC K CT
  exX : ExcC K CX
  xfT : XfC K CT
  xfX : XfC K CX
  nP : PySem.W.findIn K (.ref CT) "part" = some none
  nI : PySem.W.findIn K (.ref CT) "index" = some none
  nR : PySem.W.findIn K (.ref CX) "row" = some none
  emT : PySem.W.exmOne K (.ref CT) (.ref CB) = some true
  emX : PySem.W.exmOne K (.ref CX) (.ref CB) = some true
/-- what one may raise, and what the catcher makes of it -/
def ErrOf (K : PySem.W.Frag) (CT CX : Addr) (Q : VK) : XK := fun cls d H' => ∃ dd, d = some dd ∧
  ((cls = .ref CT ∧ ∃ p i, H' dd = some (.xd (itF p i)) ∧ ∀ b H'', Same H' H'' → SqT K H'' b [.str "town", .str p, .int i] → Q (.ref b) H'') ∨
   (cls = .ref CX ∧ ∃ i, H' dd = some (.xd (ixF i)) ∧ ∀ b H'', Same H' H'' → SqT K H'' b [.str "text", .int i] → Q (.ref b) H''))
def TTerr (K : PySem.W.Frag) (CT CX : Addr) : (XK → Hp → VK → Prop) → Hp → VK → Prop := fun tl H Q =>
  tl (ErrOf K CT CX Q) H (fun _ H' => 1 ≤ sizeLine ∧ ∀ a, H' a = none → Q (.ref a) (upd H' a (.tup [.str "none"])))
def trySuite (s : Stmt) : List Stmt := match s with
  | .Try _ (.ExceptHandler _ _ b _ :: _) _ _ _ => b
  | _ => []
abbrev sSuite : List Stmt := trySuite ((fnBody sError).getD 0 (.Pass ⟨0, 0, 0, 0⟩))
local macro_rules | `(tactic| walk_at "isd") => `(tactic| first
  | refine ⟨_, _, _, _, rfl, (by walk_at "hf"), (fun _ z => z), (by assumption), ?_⟩
  | refine ⟨_, _, _, rfl, rfl, (by walk_at "sql" : SqL _ _ _ _), (by rfl), (by rfl), ?_⟩
  | refine ⟨rfl, rfl, _, _, _, rfl, (by walk_at "hf"), (by rfl), ?_⟩)
local macro_rules | `(tactic| walk_at "go3") => `(tactic| repeat' (first | walk_at "rd" | walk_at "if" | walk_at "isd" | fail))
/-- the call of what the catcher got, for the try's body -/
def TCall (f c' : Addr) (q : Str) (tl : XK → Hp → VK → Prop) : WX → TS := fun W D σ H =>
  ∃ Ech : XK, (∀ cls d σ' H', Ech cls d H' → W cls d σ' H') ∧ σ[0]? = some (some (.ref f)) ∧ H c' = some (LamX.CodeO c' q) ∧ tl Ech H fun _ H' => D.nx σ H'
/-- the suite -/
def TSu (K : PySem.W.Frag) (CT CX : Addr) : Addr → Value → Option Addr → TS := fun a cls d D σ H => ∃ τ : L2.St, σ = τ.set 1 (some (.ref a)) ∧ ErrOf K CT CX D.rt cls d H
theorem scErr : FnScope ["_law_call", "e", "_law_kinds", "_law_names", "_law_name"] ["_law_call"] (fnScope sError) := fnScope_by (by decide +kernel)
theorem err_gives {X : Cx} {g CB CT CX : Addr} {cdg : Value} {q : Str} (T : BT X.mg) (T1 : Errs X.K X.mg CB CT CX) :
    LamX.GivesTo X ["_law_call", "e", "_law_kinds", "_law_names", "_law_name"] "_law_error" (fnScope sError) g cdg (fnBody sError) "_law_call" q (TTerr X.K CT CX) := by
  intro f c' s H Q tl act hc h
  obtain ⟨c1, g1, k1, j1⟩ := T1.at_ "InvalidTrips" (by simp)
  obtain ⟨c2, g2, k2, j2⟩ := T1.at_ "InvalidCount" (by simp)
  obtain ⟨c3, g3, k3, j3⟩ := T1.at_ "InvalidLife" (by simp)
  obtain ⟨c4, g4, k4, j4⟩ := T1.at_ "InvalidLoad" (by simp)
  obtain ⟨c5, g5, k5, j5⟩ := T1.at_ "UnknownPlace" (by simp)
  obtain ⟨c6, g6, k6, j6⟩ := T1.at_ "UnknownBridge" (by simp)
  obtain ⟨c7, g7, k7, j7⟩ := T1.at_ "UnknownKind" (by simp)
  obtain ⟨c8, g8, k8, j8⟩ := T1.at_ "TooManyBridges" (by simp)
  obtain ⟨c9, g9, k9, j9⟩ := T1.at_ "DifferentTowns" (by simp)
  obtain ⟨c10, g10, k10, j10⟩ := T1.at_ "Contradiction" (by simp)
  let X0 : Cx := (cxOf C8.CX0 X.prog X.w X.K X.mg X.base ["_law_call", "e", "_law_kinds", "_law_names", "_law_name"] "_law_error" (fnScope sError) g cdg X.A X.stack s H C8.E0).nox
  have su : ∀ (a dd : Addr) (oe : Obj) (pn : List (Addr × Obj)), Zc (.ref CT) (some dd) oe → (∃ vs, oe.data = .fields vs) → ∃ t : TS, PSs (X0.suite a ((a, oe) :: pn)) sSuite t ∧
      ∀ (D : Ends) (v0 v2 v3 v4 : Option V) (H1 : Hp) (p : Str) (i : Int), H1 dd = some (.xd (itF p i)) → (∀ b H2, Same H1 H2 → SqT X.K H2 b [.str "town", .str p, .int i] → D.rt (.ref b) H2) → t D [v0, some (.ref a), v2, v3, v4] H1 := by
    intro a dd oe pn hz hf
    refine ⟨_, (pss_cons (ps_set (i := 2) scErr.nd rfl (Or.inl rfl) (pe_lst (pa_cons (pe_callB (call_isD (X := X0) T1.exT hz hf) (by rfl) T.isinstance (by decide +kernel) (pa_cons (pv 1) (pa_cons (pe_gc (v := .ref CT) (by rfl) ⟨_, T1.gT, rfl⟩) pa_nil))) (pa_cons (pe_callB (call_isD (X := X0) T1.exT hz hf) (by rfl) T.isinstance (by decide +kernel) (pa_cons (pv 1) (pa_cons (pe_gc (v := .ref CX) (by rfl) ⟨_, T1.gX, rfl⟩) pa_nil))) (pa_cons (pe_callB (call_isD (X := X0) T1.exT hz hf) (by rfl) T.isinstance (by decide +kernel) (pa_cons (pv 1) (pa_cons (pe_gc (v := .ref c1) (by rfl) ⟨_, g1, rfl⟩) pa_nil))) pa_nil)))))
 (pss_cons (ps_expr (pe_bm PySem.F.plainAttrs_list PySem.F.slot_list_extend PySem.F.type_list_extend mt_extend (pv 2) (pa_cons (pe_lst (pa_cons (pe_callB (call_isD (X := X0) T1.exT hz hf) (by rfl) T.isinstance (by decide +kernel) (pa_cons (pv 1) (pa_cons (pe_gc (v := .ref c2) (by rfl) ⟨_, g2, rfl⟩) pa_nil))) (pa_cons (pe_callB (call_isD (X := X0) T1.exT hz hf) (by rfl) T.isinstance (by decide +kernel) (pa_cons (pv 1) (pa_cons (pe_gc (v := .ref c3) (by rfl) ⟨_, g3, rfl⟩) pa_nil))) (pa_cons (pe_callB (call_isD (X := X0) T1.exT hz hf) (by rfl) T.isinstance (by decide +kernel) (pa_cons (pv 1) (pa_cons (pe_gc (v := .ref c4) (by rfl) ⟨_, g4, rfl⟩) pa_nil))) pa_nil)))) pa_nil)))
 (pss_cons (ps_expr (pe_bm PySem.F.plainAttrs_list PySem.F.slot_list_extend PySem.F.type_list_extend mt_extend (pv 2) (pa_cons (pe_lst (pa_cons (pe_callB (call_isD (X := X0) T1.exT hz hf) (by rfl) T.isinstance (by decide +kernel) (pa_cons (pv 1) (pa_cons (pe_gc (v := .ref c5) (by rfl) ⟨_, g5, rfl⟩) pa_nil))) (pa_cons (pe_callB (call_isD (X := X0) T1.exT hz hf) (by rfl) T.isinstance (by decide +kernel) (pa_cons (pv 1) (pa_cons (pe_gc (v := .ref c6) (by rfl) ⟨_, g6, rfl⟩) pa_nil))) (pa_cons (pe_callB (call_isD (X := X0) T1.exT hz hf) (by rfl) T.isinstance (by decide +kernel) (pa_cons (pv 1) (pa_cons (pe_gc (v := .ref c7) (by rfl) ⟨_, g7, rfl⟩) pa_nil))) pa_nil)))) pa_nil)))
 (pss_cons (ps_expr (pe_bm PySem.F.plainAttrs_list PySem.F.slot_list_extend PySem.F.type_list_extend mt_extend (pv 2) (pa_cons (pe_lst (pa_cons (pe_callB (call_isD (X := X0) T1.exT hz hf) (by rfl) T.isinstance (by decide +kernel) (pa_cons (pv 1) (pa_cons (pe_gc (v := .ref c8) (by rfl) ⟨_, g8, rfl⟩) pa_nil))) (pa_cons (pe_callB (call_isD (X := X0) T1.exT hz hf) (by rfl) T.isinstance (by decide +kernel) (pa_cons (pv 1) (pa_cons (pe_gc (v := .ref c9) (by rfl) ⟨_, g9, rfl⟩) pa_nil))) (pa_cons (pe_callB (call_isD (X := X0) T1.exT hz hf) (by rfl) T.isinstance (by decide +kernel) (pa_cons (pv 1) (pa_cons (pe_gc (v := .ref c10) (by rfl) ⟨_, g10, rfl⟩) pa_nil))) pa_nil)))) pa_nil)))
 (pss_cons (ps_if (PW.pt (pw_or (pt_cmpR op_ne (pe_bm PySem.F.plainAttrs_list PySem.F.slot_list_count PySem.F.type_list_count mt_cntV (pv 2) (pa_cons pe_bl pa_nil)) pe_int (nomark _)) (pw_or1 (pt_not (pt_val (pe_callB (call_isD (X := X0) T1.exT hz hf) (by rfl) T.isinstance (by decide +kernel) (pa_cons (pv 1) (pa_cons (pe_bltn (v := .ty "ValueError") (by rfl) T1.gV (by decide +kernel) rfl) pa_nil)))))))) (pss_one (ps_ret (pe_tup (pa_cons pe_str pa_nil)))) pss_nil)
 (pss_cons (ps_set (i := 3) scErr.nd rfl (Or.inl rfl) (pe_lst (pa_cons pe_str (pa_cons pe_str (pa_cons pe_str (pa_cons pe_str (pa_cons pe_str (pa_cons pe_str (pa_cons pe_str (pa_cons pe_str (pa_cons pe_str (pa_cons pe_str (pa_cons pe_str pa_nil)))))))))))))
 (pss_cons (ps_set (i := 4) scErr.nd rfl (Or.inl rfl) (pe_ix ix_list (pe_op op_cat (pv 3) (pe_lst (pa_cons pe_str pa_nil))) (pe_bm PySem.F.plainAttrs_list PySem.F.slot_list_index PySem.F.type_list_index mt_index (pv 2) (pa_cons pe_bl pa_nil)) (fun _ _ => rfl)))
 (pss_cons (ps_if (pt_cmpR op_eq (pv 4) pe_str (nomark _)) (pss_one (ps_ret (pe_tup (pa_cons (pv 4) (pa_cons (pe_xf (X := X0) T1.xfT T1.nP hz hf (pv 1)) (pa_cons (pe_xf (X := X0) T1.xfT T1.nI hz hf (pv 1)) pa_nil)))))) pss_nil)
 (pss_cons ps_never
 (pss_one ps_never)))))))))), fun D v0 v2 v3 v4 H1 p i hdd k => ?_⟩
    have kO := T1.tt
    have kO2 := T1.tx
    have kV := T1.veT
    walk_at "go3"
    refine ⟨_, _, _, 0, .bl true, rfl, rfl, (by walk_at "sql" : SqL _ _ _ _), rfl, rfl, rfl, rfl, fun m z h => absurd h (Nat.not_lt_zero m), ?_⟩
    walk_at "go3"
    exact k _ _ (by walk_at "sm") (SqT.of' upd_same)
  have sx : ∀ (a dd : Addr) (oe : Obj) (pn : List (Addr × Obj)), Zc (.ref CX) (some dd) oe → (∃ vs, oe.data = .fields vs) → ∃ t : TS, PSs (X0.suite a ((a, oe) :: pn)) sSuite t ∧
      ∀ (D : Ends) (v0 v2 v3 v4 : Option V) (H1 : Hp) (i : Int), H1 dd = some (.xd (ixF i)) → (∀ b H2, Same H1 H2 → SqT X.K H2 b [.str "text", .int i] → D.rt (.ref b) H2) → t D [v0, some (.ref a), v2, v3, v4] H1 := by
    intro a dd oe pn hz hf
    refine ⟨_, (pss_cons (ps_set (i := 2) scErr.nd rfl (Or.inl rfl) (pe_lst (pa_cons (pe_callB (call_isD (X := X0) T1.exX hz hf) (by rfl) T.isinstance (by decide +kernel) (pa_cons (pv 1) (pa_cons (pe_gc (v := .ref CT) (by rfl) ⟨_, T1.gT, rfl⟩) pa_nil))) (pa_cons (pe_callB (call_isD (X := X0) T1.exX hz hf) (by rfl) T.isinstance (by decide +kernel) (pa_cons (pv 1) (pa_cons (pe_gc (v := .ref CX) (by rfl) ⟨_, T1.gX, rfl⟩) pa_nil))) (pa_cons (pe_callB (call_isD (X := X0) T1.exX hz hf) (by rfl) T.isinstance (by decide +kernel) (pa_cons (pv 1) (pa_cons (pe_gc (v := .ref c1) (by rfl) ⟨_, g1, rfl⟩) pa_nil))) pa_nil)))))
 (pss_cons (ps_expr (pe_bm PySem.F.plainAttrs_list PySem.F.slot_list_extend PySem.F.type_list_extend mt_extend (pv 2) (pa_cons (pe_lst (pa_cons (pe_callB (call_isD (X := X0) T1.exX hz hf) (by rfl) T.isinstance (by decide +kernel) (pa_cons (pv 1) (pa_cons (pe_gc (v := .ref c2) (by rfl) ⟨_, g2, rfl⟩) pa_nil))) (pa_cons (pe_callB (call_isD (X := X0) T1.exX hz hf) (by rfl) T.isinstance (by decide +kernel) (pa_cons (pv 1) (pa_cons (pe_gc (v := .ref c3) (by rfl) ⟨_, g3, rfl⟩) pa_nil))) (pa_cons (pe_callB (call_isD (X := X0) T1.exX hz hf) (by rfl) T.isinstance (by decide +kernel) (pa_cons (pv 1) (pa_cons (pe_gc (v := .ref c4) (by rfl) ⟨_, g4, rfl⟩) pa_nil))) pa_nil)))) pa_nil)))
 (pss_cons (ps_expr (pe_bm PySem.F.plainAttrs_list PySem.F.slot_list_extend PySem.F.type_list_extend mt_extend (pv 2) (pa_cons (pe_lst (pa_cons (pe_callB (call_isD (X := X0) T1.exX hz hf) (by rfl) T.isinstance (by decide +kernel) (pa_cons (pv 1) (pa_cons (pe_gc (v := .ref c5) (by rfl) ⟨_, g5, rfl⟩) pa_nil))) (pa_cons (pe_callB (call_isD (X := X0) T1.exX hz hf) (by rfl) T.isinstance (by decide +kernel) (pa_cons (pv 1) (pa_cons (pe_gc (v := .ref c6) (by rfl) ⟨_, g6, rfl⟩) pa_nil))) (pa_cons (pe_callB (call_isD (X := X0) T1.exX hz hf) (by rfl) T.isinstance (by decide +kernel) (pa_cons (pv 1) (pa_cons (pe_gc (v := .ref c7) (by rfl) ⟨_, g7, rfl⟩) pa_nil))) pa_nil)))) pa_nil)))
 (pss_cons (ps_expr (pe_bm PySem.F.plainAttrs_list PySem.F.slot_list_extend PySem.F.type_list_extend mt_extend (pv 2) (pa_cons (pe_lst (pa_cons (pe_callB (call_isD (X := X0) T1.exX hz hf) (by rfl) T.isinstance (by decide +kernel) (pa_cons (pv 1) (pa_cons (pe_gc (v := .ref c8) (by rfl) ⟨_, g8, rfl⟩) pa_nil))) (pa_cons (pe_callB (call_isD (X := X0) T1.exX hz hf) (by rfl) T.isinstance (by decide +kernel) (pa_cons (pv 1) (pa_cons (pe_gc (v := .ref c9) (by rfl) ⟨_, g9, rfl⟩) pa_nil))) (pa_cons (pe_callB (call_isD (X := X0) T1.exX hz hf) (by rfl) T.isinstance (by decide +kernel) (pa_cons (pv 1) (pa_cons (pe_gc (v := .ref c10) (by rfl) ⟨_, g10, rfl⟩) pa_nil))) pa_nil)))) pa_nil)))
 (pss_cons (ps_if (PW.pt (pw_or (pt_cmpR op_ne (pe_bm PySem.F.plainAttrs_list PySem.F.slot_list_count PySem.F.type_list_count mt_cntV (pv 2) (pa_cons pe_bl pa_nil)) pe_int (nomark _)) (pw_or1 (pt_not (pt_val (pe_callB (call_isD (X := X0) T1.exX hz hf) (by rfl) T.isinstance (by decide +kernel) (pa_cons (pv 1) (pa_cons (pe_bltn (v := .ty "ValueError") (by rfl) T1.gV (by decide +kernel) rfl) pa_nil)))))))) (pss_one (ps_ret (pe_tup (pa_cons pe_str pa_nil)))) pss_nil)
 (pss_cons (ps_set (i := 3) scErr.nd rfl (Or.inl rfl) (pe_lst (pa_cons pe_str (pa_cons pe_str (pa_cons pe_str (pa_cons pe_str (pa_cons pe_str (pa_cons pe_str (pa_cons pe_str (pa_cons pe_str (pa_cons pe_str (pa_cons pe_str (pa_cons pe_str pa_nil)))))))))))))
 (pss_cons (ps_set (i := 4) scErr.nd rfl (Or.inl rfl) (pe_ix ix_list (pe_op op_cat (pv 3) (pe_lst (pa_cons pe_str pa_nil))) (pe_bm PySem.F.plainAttrs_list PySem.F.slot_list_index PySem.F.type_list_index mt_index (pv 2) (pa_cons pe_bl pa_nil)) (fun _ _ => rfl)))
 (pss_cons (ps_if (pt_cmpR op_eq (pv 4) pe_str (nomark _)) (pss_one ps_never) pss_nil)
 (pss_cons (ps_if (pt_cmpR op_eq (pv 4) pe_str (nomark _)) (pss_one (ps_ret (pe_tup (pa_cons (pv 4) (pa_cons (pe_xf (X := X0) T1.xfX T1.nR hz hf (pv 1)) pa_nil))))) pss_nil)
 (pss_one ps_never)))))))))), fun D v0 v2 v3 v4 H1 i hdd k => ?_⟩
    have kO := T1.xx
    have kO2 := T1.xt
    have kV := T1.veX
    walk_at "go3"
    refine ⟨_, _, _, 1, .bl true, rfl, rfl, (by walk_at "sql" : SqL _ _ _ _), rfl, rfl, rfl, rfl, (fun m z h e => by (have hm : m = 0 := by omega); (subst hm); (cases e); rfl), ?_⟩
    walk_at "go3"
    exact k _ _ (by walk_at "sm") (SqT.of' upd_same)
  refine ⟨_, pss_cons (ps_try_as (X := X0) (c := .ref CB) (i := 1) (n := "e") (tb := TCall f c' q tl) (ts := TSu X.K CT CX) (Wout := fun _ _ _ _ => False) rfl rfl scErr.nd rfl rfl ⟨rfl, by decide, .inl T1.gB⟩ LamX.takes0 (fun W pn xe tk _ => ?_) (fun a oe cls d pn hz hf => ?_))
    (pss_one (ps_ret (pe_tup (pa_cons pe_str pa_nil)))), ?_⟩
  · refine ⟨fun pins s1 σ H1 D I h1 => ?_⟩
    obtain ⟨Ech, hW, e1, e2, e3⟩ := h1
    exact (pss_one (ps_expr (act W pn xe Ech _ _ tk hW))).run pins s1 σ H1 D I ⟨e1, e2, e3⟩
  · refine ⟨fun pins s1 σ H1 D I h1 => ?_⟩
    obtain ⟨τ, rfl, dd, rfl, h1⟩ := h1
    have five : τ.length = 5 := (List.length_set ..).symm.trans I.len
    rcases h1 with ⟨rfl, p, i, hdd, k⟩ | ⟨rfl, i, hdd, k⟩
    · obtain ⟨t, ht, read⟩ := su a dd oe pn hz hf
      match τ, five with
      | [v0, _, v2, v3, v4], _ => exact ht.run pins s1 _ H1 D I (read D v0 v2 v3 v4 H1 p i hdd k)
    · obtain ⟨t, ht, read⟩ := sx a dd oe pn hz hf
      match τ, five with
      | [v0, _, v2, v3, v4], _ => exact ht.run pins s1 _ H1 D I (read D v0 v2 v3 v4 H1 i hdd k)
  · refine ⟨ErrOf X.K CT CX Q, fun cls d σ H1 h1 => ?_, rfl, hc, ?_⟩
    · have em : PySem.W.exmOne X.K cls (.ref CB) = some true := by
        obtain ⟨dd, _, ⟨rfl, _⟩ | ⟨rfl, _⟩⟩ := h1
        · exact T1.emT
        · exact T1.emX
      exact ⟨true, em, fun _ a ha => ⟨σ, rfl, h1⟩, fun z => Bool.noConfusion z⟩
    · exact h
end T1

set_option Elab.async false
set_option linter.all false
set_option maxRecDepth 100000
set_option maxHeartbeats 4000000
namespace T1
open PySem PySem.Spec PyProof.Rows L2 C8 Fm T2
/-! ### the catcher with a lambda, said of trees -/
def tabsAre (Pt : Addr) (q : Str) : Mem → Prop
  | [] => True
  | .tab P' q' :: g => (P' = Pt ∧ q' = q) ∧ tabsAre Pt q g
  | .lst _ :: g => tabsAre Pt q g
  | .ins _ _ :: g => tabsAre Pt q g
theorem tabsAre.at {Pt : Addr} {q : Str} : ∀ {M : Mem} {n : Nat} {P' : Addr} {q' : Str}, tabsAre Pt q M → M[n]? = some (.tab P' q') → P' = Pt ∧ q' = q
  | [], n, _, _, _, e => by simp at e
  | o :: g, 0, _, _, h, e => by
    cases e
    exact h.1
  | o :: g, n + 1, P2, q2, h, e => by
    have e' : g[n]? = some (O.tab P2 q2) := by simpa using e
    cases o with
    | tab _ _ => exact tabsAre.at (M := g) h.2 e'
    | lst _ => exact tabsAre.at (M := g) h e'
    | ins _ _ => exact tabsAre.at (M := g) h e'
def lamX' (CT CX : Addr) (P : PF) : PXF := fun C fs M' => (C = CT ∧ ∃ p i, fs = itT p i ∧ P (.tup [.str "town", .str p, .int i]) M') ∨ (C = CX ∧ ∃ i, fs = ixT i ∧ P (.tup [.str "text", .int i]) M')
def fLam (CT CX Pt : Addr) (q : Str) (fb : PXF → FE) : FE := fun L M P => ∃ n : Nat, M[n]? = some (O.tab Pt q) ∧ tabsAre Pt q M ∧ fb (lamX' CT CX P) L M fun _ M' => P (.tup [.str "none"]) M'
section
variable {K : PySem.W.Frag} {B : Bs} {H H1 : Hp} {ρ : List Addr} {M : Mem} {CT CX Pt : Addr} {q : Str}
theorem sqT_ext (e : LamX.ExtN H H1) {a : Addr} {xs : List V} (h : SqT K H a xs) : SqT K H1 a xs := by
  rcases h with (h | ⟨u, h⟩) | h
  · exact .inl (.inl (e _ _ h fun ps z => nomatch z))
  · exact .inl (.inr ⟨u, e _ _ h fun ps z => nomatch z⟩)
  · exact .inr h
theorem ext_grow (e : LamX.ExtN H H1) (T : LamX.TabS H1 Pt q) (ta : tabsAre Pt q M) (m : RM K H ρ M) : Grow K H ρ H1 ρ ∧ RM K H1 ρ M := by
  have g : Grow K H ρ H1 ρ := ⟨⟨[], by simp⟩, fun _ _ t => sqT_ext e t, fun a o h _ nt => e a o h nt, fun _ h n => absurd h n, fun c q h => e _ _ h fun ps z => by unfold LamX.CodeO at z; cases z⟩
  refine ⟨g, m.len, fun k o ek => ?_, m.nd⟩
  obtain ⟨a, h1, h2⟩ := m.at_ k o ek
  refine ⟨a, h1, ?_⟩
  cases o with
  | lst ts =>
    obtain ⟨xs, z, r⟩ := h2
    exact ⟨xs, e _ _ z (fun ps y => nomatch y), r.mono g⟩
  | ins C fs =>
    obtain ⟨dx, gs, z, zd, r⟩ := h2
    exact ⟨dx, gs, e _ _ z (fun ps y => nomatch y), e _ _ zd (fun ps y => nomatch y), r.mono g⟩
  | tab P' q' =>
    obtain ⟨rfl, _⟩ := h2
    obtain ⟨rfl, rfl⟩ := ta.at ek
    exact ⟨rfl, T⟩
theorem xr_it {p : Str} {i : Int} {d : Option Addr} (x : XR K H ρ (itT p i) d) : ∃ dd, d = some dd ∧ H dd = some (.xd (itF p i)) := by
  rcases x with ⟨x, _⟩ | ⟨dd, gs, rfl, h, y1, r1, rfl, h1, y2, r2, rfl, h2, rfl⟩
  · cases x
  · rw [h1.int_inv, h2.str_inv] at h
    exact ⟨dd, rfl, h⟩
theorem xr_ix {i : Int} {d : Option Addr} (x : XR K H ρ (ixT i) d) : ∃ dd, d = some dd ∧ H dd = some (.xd (ixF i)) := by
  rcases x with ⟨x, _⟩ | ⟨dd, gs, rfl, h, y1, r1, rfl, h1, rfl⟩
  · cases x
  · rw [h1.int_inv] at h
    exact ⟨dd, rfl, h⟩
theorem sim_lam {t : XK → TE} {fb : PXF → FE} (s : ∀ (B : Bs) (E : XK) (PX : PXF), OutX K B.1 B.2 PX E → SimE K B (t E) (fb PX)) : SimE K B (LamX.tLam [(Pt, q)] (TTerr K CT CX) t) (fLam CT CX Pt q fb) := ⟨fun {σ H ρ L M P Q} hl hm h o => by
  obtain ⟨n, hn, ta, h⟩ := h
  obtain ⟨a, h1, rfl, hT⟩ := hm.at_ n _ hn
  refine ⟨fun p hp => by rw [List.mem_singleton.mp hp]; exact hT, fun H1 e1 T1 => ?_⟩
  obtain ⟨g1, m1⟩ := ext_grow e1 (T1 (a, q) (List.mem_singleton.mpr rfl)) ta hm
  show t (ErrOf K CT CX Q) σ H1 (fun _ H' => 1 ≤ sizeLine ∧ ∀ a, H' a = none → Q (.ref a) (upd H' a (.tup [.str "none"])))
  have hE : OutX K H1 ρ (lamX' CT CX P) (ErrOf K CT CX Q) := fun C fs d H' ρ' M' g m x p => by
    rcases p with ⟨rfl, p, i, rfl, p1⟩ | ⟨rfl, i, rfl, p1⟩
    · obtain ⟨dd, rfl, hdd⟩ := xr_it x
      refine ⟨dd, rfl, .inl ⟨rfl, p, i, hdd, fun b H'' sm sq => ?_⟩⟩
      obtain ⟨g2, m2⟩ := same_grow sm m
      exact o _ _ _ _ _ ((g1.trans g).trans g2) m2 (by unfold RT; exact ⟨b, _, rfl, sq, RTs.cons RT.str_ (RTs.cons RT.str_ (RTs.cons RT.int_ RTs.nil))⟩) p1
    · obtain ⟨dd, rfl, hdd⟩ := xr_ix x
      refine ⟨dd, rfl, .inr ⟨rfl, i, hdd, fun b H'' sm sq => ?_⟩⟩
      obtain ⟨g2, m2⟩ := same_grow sm m
      exact o _ _ _ _ _ ((g1.trans g).trans g2) m2 (by unfold RT; exact ⟨b, _, rfl, sq, RTs.cons RT.str_ (RTs.cons RT.int_ RTs.nil)⟩) p1
  refine (s (H1, ρ) _ _ hE).run ⟨(hl.mono g1).rl, Grow.refl⟩ m1 h fun v xv H' ρ' M' g m r p => ⟨by rw [sizeLine_eq]; decide, fun b hb => ?_⟩
  exact out_tup m (ts := [.str "none"]) (RTs.cons RT.str_ RTs.nil) (o.step (g1.trans g)) p b hb⟩
end
end T1

set_option Elab.async false
set_option linter.all false
set_option maxRecDepth 100000
set_option maxHeartbeats 4000000
namespace T1
open PySem PySem.Spec PyProof.Rows L2 C8 Fm T2
/-! ### a town's text, read back -/
theorem num_head : ∀ n : Nat, 1 ≤ n → ∃ c r, TL.numL n = c :: r ∧ c ≠ 48 := by
  intro n
  induction n using Nat.strongRecOn with
  | _ n ih =>
    intro h
    by_cases hn : n < 10
    · exact ⟨48 + n, [], TL.numL_lt hn, by omega⟩
    · obtain ⟨c, r, e, hc⟩ := ih (n / 10) (by omega) (by omega)
      exact ⟨c, r ++ [48 + n % 10], by rw [TL.numL_step (by omega), e]; rfl, hc⟩
theorem num_dig (n : Nat) : (TL.numL n).all dig = true := List.all_eq_true.mpr fun c hc => dig_iff.mpr (TL.numL_digits n c hc)
theorem goodL_of {l : List Nat} (h : l.all dig = true) (hc : ∃ c r, l = c :: r ∧ c ≠ 48) : goodL l = true := by
  obtain ⟨c, r, rfl, hc⟩ := hc
  cases r with
  | nil => simpa [goodL] using h
  | cons d r =>
    unfold goodL
    rw [Bool.and_eq_true]
    exact ⟨by simpa using h, by simpa using hc⟩
theorem good_num (n : Nat) : goodW (Str.ofString (toString (n : Int))) = true := by
  unfold goodW
  rw [TL.tl_num]
  by_cases h : n = 0
  · subst h
    rw [TL.numL_lt (by decide)]
    rfl
  · exact goodL_of (num_dig n) (num_head n (by omega))
theorem numV_num (n : Nat) : numV (Str.ofString (toString (n : Int))) = n := by
  unfold numV
  rw [TL.tl_num]
  show ((NumText.digitsVal (TL.numL n) : Nat) : Int) = n
  rw [TL.numL_val]
theorem num_ok {n : Nat} (h : n ≤ 1000000000000000000) : OkW (Str.ofString (toString (n : Int))) := by
  refine ⟨⟨?_, ?_⟩, ?_, ?_⟩
  · rw [TL.len_tl, TL.tl_num]
    exact TL.numL_len (by decide) (by omega)
  · unfold PyData.strOk
    rw [all_arr, List.all_eq_true]
    intro c hc
    have hc : c ∈ TL.tl (Str.ofString (toString (n : Int))) := hc
    rw [TL.tl_num] at hc
    have := TL.numL_digits n c hc
    exact decide_eq_true (by omega)
  · rw [TL.tl_num]
    exact TL.numL_free (by decide)
  · rw [TL.tl_num]
    exact TL.numL_free (by decide)
def iS (i : Int) : Str := Str.ofString (toString i)
theorem good_int {i : Int} (h : 0 ≤ i) : goodW (iS i) = true := by
  obtain ⟨n, rfl⟩ := Int.eq_ofNat_of_zero_le h
  exact good_num n
theorem numV_int {i : Int} (h : 0 ≤ i) : numV (iS i) = i := by
  obtain ⟨n, rfl⟩ := Int.eq_ofNat_of_zero_le h
  exact numV_num n
theorem int_ok {i : Int} (h : 0 ≤ i) (h1 : i ≤ 1000000000000000000) : OkW (iS i) := by
  obtain ⟨n, rfl⟩ := Int.eq_ofNat_of_zero_le h
  exact num_ok (by omega)
theorem kw_ok : OkW "places" ∧ OkW "bridge" := by
  have z : ∀ o ∈ (["places", "bridge"] : List Str), (o.length ≤ 20 ∧ PyData.strOk o = true) ∧ 32 ∉ TL.tl o ∧ 10 ∉ TL.tl o := by decide +kernel
  obtain ⟨a1, a2, a3⟩ := z "places" (by simp)
  obtain ⟨b1, b2, b3⟩ := z "bridge" (by simp)
  exact ⟨⟨a1, a2, a3⟩, ⟨b1, b2, b3⟩⟩
def wordsT (c : Int) (ls : List Lk) : List (List Str) := ["places", iS c] :: ls.map fun l => ["bridge", iS l.1, iS l.2.1, iS l.2.2.1, iS l.2.2.2]
theorem head_join (c : Int) : headS c = Txt.join " " ["places", iS c] := by
  rw [TL.join_eq]
  refine TL.ext_tl ?_
  unfold headS iS
  simp only [Str.join, TL.tl_append, List.append_assoc]
  have e0 : TL.tl Str.empty = [] := rfl
  have e1 : TL.tl "places " = TL.tl "places" ++ TL.tl " " := by decide +kernel
  rw [e0, e1, List.nil_append]
  simp only [List.append_assoc]
theorem line_join' (l : Lk) : lineS l = Txt.join " " ["bridge", iS l.1, iS l.2.1, iS l.2.2.1, iS l.2.2.2] := by
  rw [TL.join_eq]
  refine TL.ext_tl ?_
  unfold lineS iS
  simp only [Str.join, TL.tl_append, List.append_assoc]
  have e0 : TL.tl Str.empty = [] := rfl
  have e1 : TL.tl "bridge " = TL.tl "bridge" ++ TL.tl " " := by decide +kernel
  rw [e0, e1, List.nil_append, List.append_assoc]
theorem townS_join (c : Int) (ls : List Lk) : townS c ls = Txt.join "\n" ((wordsT c ls).map (Txt.join " ")) := by
  unfold townS wordsT
  rw [List.map_cons, head_join, List.map_map]
  rw [List.map_congr_left (g := Txt.join " " ∘ fun l : Lk => ["bridge", iS l.1, iS l.2.1, iS l.2.2.1, iS l.2.2.2]) fun l _ => line_join' l]
theorem wordsT_ok {c : Int} {ls : List Lk} (c0 : 0 ≤ c) (c1 : c ≤ 100) (h : ∀ l ∈ ls, smallL l) : ∀ ws ∈ wordsT c ls, ws ≠ [] ∧ ws.length ≤ 7 ∧ ∀ w ∈ ws, OkW w := by
  intro ws hws
  unfold wordsT at hws
  rcases List.mem_cons.mp hws with rfl | hws
  · refine ⟨by simp, by simp, fun w hw => ?_⟩
    simp only [List.mem_cons, List.not_mem_nil, or_false] at hw
    rcases hw with rfl | rfl
    · exact kw_ok.1
    · exact int_ok c0 (by omega)
  · obtain ⟨l, hl, rfl⟩ := List.mem_map.mp hws
    obtain ⟨a0, a1, b0, b1, d0, d1, e0, e1⟩ := h l hl
    refine ⟨by simp, by simp, fun w hw => ?_⟩
    simp only [List.mem_cons, List.not_mem_nil, or_false] at hw
    rcases hw with rfl | rfl | rfl | rfl | rfl
    · exact kw_ok.2
    · exact int_ok a0 (by omega)
    · exact int_ok b0 (by omega)
    · exact int_ok d0 (by omega)
    · exact int_ok e0 e1
theorem neat_town {c : Int} {ls : List Lk} (c0 : 0 ≤ c) (c1 : c ≤ 100) (hl : ls.length ≤ 6) (h : ∀ l ∈ ls, smallL l) : Neat 7 (townS c ls) := by
  rw [townS_join]
  refine Neat.of_lines (fun l hl => ?_) ?_ (by decide) (by decide)
  · obtain ⟨ws, hws, rfl⟩ := List.mem_map.mp hl
    obtain ⟨_, h2, h3⟩ := wordsT_ok c0 c1 h ws hws
    exact OkL.of_words h3 h2 (by decide)
  · unfold wordsT
    simp
    omega
theorem words_town {c : Int} {ls : List Lk} (c0 : 0 ≤ c) (c1 : c ≤ 100) (h : ∀ l ∈ ls, smallL l) : wordsOf (townS c ls) = wordsT c ls := by
  unfold wordsOf
  rw [townS_join, TL.split_join tl_nl (by decide +kernel) (by unfold wordsT; simp) fun p hp => ?_]
  · rw [List.map_map]
    refine (List.map_congr_left (g := id) fun ws hws => ?_).trans (List.map_id _)
    obtain ⟨h1, _, h3⟩ := wordsT_ok c0 c1 h ws hws
    exact TL.split_join tl_sp (by decide +kernel) h1 fun p hp => (h3 p hp).sp
  · obtain ⟨ws, hws, rfl⟩ := List.mem_map.mp hp
    obtain ⟨_, h2, h3⟩ := wordsT_ok c0 c1 h ws hws
    exact (OkL.of_words h3 h2 (by decide)).nl
theorem rowsB_town {f : Str → Int} (hf : ∀ i : Int, 0 ≤ i → i ≤ 1000000000000000000 → f (iS i) = i) : ∀ {ls : List Lk} {k : Nat}, (∀ l ∈ ls, smallL l) → rowsB f k (ls.map fun l => ["bridge", iS l.1, iS l.2.1, iS l.2.2.1, iS l.2.2.2]) = .ok ls
  | [], _, _ => rfl
  | l :: ls, k, h => by
    obtain ⟨a0, a1, b0, b1, d0, d1, e0, e1⟩ := h l List.mem_cons_self
    have hb : lineB f ["bridge", iS l.1, iS l.2.1, iS l.2.2.1, iS l.2.2.2] = some l := by
      rw [lineB_some (by simp [good_int a0, good_int b0, good_int d0, good_int e0]), hf _ a0 (by omega), hf _ b0 (by omega), hf _ d0 (by omega), hf _ e0 e1]
    rw [List.map_cons]
    unfold rowsB
    rw [hb]
    simp only
    rw [rowsB_town hf fun m hm => h m (List.mem_cons_of_mem _ hm)]
theorem read_town {c : Int} {ls : List Lk} (c0 : 0 ≤ c) (c1 : c ≤ 100) (h : ∀ l ∈ ls, smallL l) : readW num20 (wordsOf (townS c ls)) = bad2 c ls := by
  have hf : ∀ i : Int, 0 ≤ i → i ≤ 1000000000000000000 → num20 (iS i) = i := fun i h0 h1 => by
    rw [num20_eq (int_ok h0 h1).ok.1, numV_int h0]
  rw [words_town c0 c1 h]
  unfold wordsT
  rw [readW_cons, lineP_some (good_int c0), hf c c0 (by omega)]
  simp only
  rw [rowsB_town hf h]
end T1

set_option Elab.async false
set_option linter.all false
set_option maxRecDepth 100000
set_option maxHeartbeats 4000000
namespace T1
open PySem PySem.Spec PyProof.Rows L2 C8 Fm T2
/-! ### data of the law's compares -/
theorem da_lk {M : Mem} (l : Lk) : Da M (lkT l) (ld l) := .tup (.cons (.int _) (.cons (.int _) (.cons (.int _) (.cons (.int _) .nil))))
theorem da_lks {M : Mem} : ∀ ls : List Lk, DaAll M (ls.map lkT) (ls.map ld)
  | [] => .nil
  | l :: ls => .cons (da_lk l) (da_lks ls)
theorem okd_int : ∀ {n : Nat} {i : Int}, okd n (.int i)
  | 0, i => .inl ⟨i, rfl⟩
  | _ + 1, i => .inl (.inl ⟨i, rfl⟩)
theorem okd_lk {n : Nat} (l : Lk) : okd (n + 1) (ld l) := .inr ⟨_, .inr rfl, by show 4 ≤ 1000; decide, fun e he => by
  simp only [List.mem_cons, List.not_mem_nil, or_false] at he
  rcases he with rfl | rfl | rfl | rfl <;> exact okd_int⟩
theorem okd_lks {n : Nat} {ls : List Lk} (h : ls.length ≤ 1000) : okd (n + 2) (.tuple (ls.map ld)) := .inr ⟨_, .inr rfl, by simpa using h, fun e he => by
  obtain ⟨l, _, rfl⟩ := List.mem_map.mp he
  exact okd_lk l⟩
theorem okd_cl {n : Nat} {c : Int} {ls : List Lk} (h : ls.length ≤ 1000) : okd (n + 3) (.list [.int c, .tuple (ls.map ld)]) := .inr ⟨_, .inl rfl, by show 2 ≤ 1000; decide, fun e he => by
  simp only [List.mem_cons, List.not_mem_nil, or_false] at he
  rcases he with rfl | rfl
  · exact okd_int
  · exact okd_lks h⟩
def erT : Rd → Tr
  | .text r => .tup [.str "text", .int (r : Int)]
  | .town p i => .tup [.str "town", .str p, .int i]
  | .good _ _ => .tup [.str "none"]
def erD : Rd → PyData
  | .text r => .tuple [.str "text", .int (r : Int)]
  | .town p i => .tuple [.str "town", .str p, .int i]
  | .good _ _ => .tuple [.str "none"]
theorem da_er {M : Mem} : ∀ r : Rd, Da M (erT r) (erD r)
  | .text _ => .tup (.cons (.str _) (.cons (.int _) .nil))
  | .town _ _ => .tup (.cons (.str _) (.cons (.str _) (.cons (.int _) .nil)))
  | .good _ _ => .tup (.cons (.str _) .nil)
theorem bad_part {c : Int} {ls : List Lk} {r : Str × Int} (h : firstBad c ls = some r) : r.1 = "bridges" ∨ r.1 = "count" := by
  unfold firstBad at h
  split at h
  · obtain ⟨k, _, e⟩ := Option.map_eq_some_iff.mp h
    rw [← e]
    exact .inl rfl
  · cases h
    exact .inr rfl
/-- a reading's part is one of two words -/
def Rd.fine : Rd → Prop
  | .town p _ => p = "bridges" ∨ p = "count"
  | _ => True
theorem bad2_fine {c : Int} {ls : List Lk} : (bad2 c ls).fine := by
  unfold bad2
  split
  · rename_i r h
    exact bad_part h
  · trivial
theorem readW_fine {f : Str → Int} : ∀ ws : List (List Str), (readW f ws).fine
  | [] => trivial
  | x :: r => by
    unfold readW
    repeat' split
    all_goals first | exact bad2_fine | trivial
theorem shaped_er : ∀ {r : Rd}, r.fine → SeqAt.shaped (erD r) = true
  | .text _, _ => by
    have h : PyData.strOk "text" = true := by decide +kernel
    simp [SeqAt.shaped, erD, PyData.canLay0, PyData.canLayAll0, PyData.depth, PyData.depthAll, h]
  | .town p _, h => by
    have h1 : PyData.strOk "town" = true := by decide +kernel
    have h2 : PyData.strOk p = true := by
      rcases h with rfl | rfl <;> decide +kernel
    simp [SeqAt.shaped, erD, PyData.canLay0, PyData.canLayAll0, PyData.depth, PyData.depthAll, h1, h2]
  | .good _ _, _ => by
    have h : PyData.strOk "none" = true := by decide +kernel
    simp [SeqAt.shaped, erD, PyData.canLay0, PyData.canLayAll0, PyData.depth, PyData.depthAll, h]
theorem eqv_er : ∀ r : Rd, PyData.eqv (erD r) (erD r) = true
  | .text _ => by simp [erD, PyData.eqv, PyData.eqvAll]
  | .town _ _ => by simp [erD, PyData.eqv, PyData.eqvAll]
  | .good _ _ => by simp [erD, PyData.eqv, PyData.eqvAll]
theorem ne_er {M : Mem} {P : PF} {r : Rd} (h : r.fine) (p : P (.bl false) M) : fNeD (erT r) (erT r) M P := ⟨_, _, da_er r, da_er r, shaped_er h, shaped_er h, by rw [eqv_er r]; exact p⟩
theorem insAt_end {M g : Mem} {C : Addr} {fs : List (Str × Tr)} : insAt (M ++ (g ++ [O.ins C fs])) (.ref (M.length + g.length)) = some (M.length + g.length, C, fs) := by
  have e : (M ++ (g ++ [O.ins C fs]))[M.length + g.length]? = some (.ins C fs) := by
    rw [← List.append_assoc, List.getElem?_append_right (by simp)]
    simp
  rw [insAt_ref, e]
  rfl
theorem bel_mem {d : Dr} {Pt C : Addr} {q : Str} {c : Int} {ls : List Lk} {n : Nat} (h : 1 ≤ n) : belM n (dm d [O.tab Pt q, O.ins C (tFT c ls)]) = true := by
  unfold dm tFT
  simp [belM, O.bel, bels_ints, Tr.bels, Tr.bel, belF, bel_lks]
  omega
theorem bel_mem2 {d : Dr} {Pt C : Addr} {q : Str} {c : Int} {ls : List Lk} {n : Nat} {rs : List Tr} {g : Mem} (h : 1 ≤ n) (hr : Tr.bels n rs = true) (hg : belM n g = true) : belM n (dm d [O.tab Pt q, O.ins C (tFT c ls)] ++ O.lst rs :: g) = true := by
  rw [belM_app, bel_mem h, Bool.true_and]
  show (O.bel n (O.lst rs) && belM n g) = true
  rw [hg, Bool.and_true]
  exact hr
theorem insAt_of {M : Mem} {k : Nat} {C : Addr} {fs : List (Str × Tr)} (e : M[k]? = some (.ins C fs)) : insAt M (.ref k) = some (k, C, fs) := by
  rw [insAt_ref, e]
  rfl
theorem not_good : eqS (.str "text") (.str "good") = some false ∧ eqS (.str "town") (.str "good") = some false ∧ eqS (.str "good") (.str "good") = some true := by decide +kernel
theorem readW_len {f : Str → Int} {ws : List (List Str)} {c : Int} {ls : List Lk} (h : readW f ws = .good c ls) : ls.length ≤ ws.length := by
  cases ws with
  | nil => cases h
  | cons x r =>
    rw [readW_cons] at h
    cases hP : lineP f x with
    | none => rw [hP] at h; cases h
    | some c0 =>
      rw [hP] at h
      simp only at h
      cases hR : rowsB f 1 r with
      | error k => rw [hR] at h; cases h
      | ok lk =>
        rw [hR] at h
        simp only at h
        unfold bad2 at h
        cases hF : firstBad c0 lk with
        | some q => rw [hF] at h; cases h
        | none =>
          rw [hF] at h
          cases h
          have := (rowsB_len hR).1
          simp only [List.length_cons]
          omega
end T1

set_option Elab.async false
set_option linter.all false
set_option maxRecDepth 100000
set_option maxHeartbeats 4000000
namespace T1
open PySem PySem.Spec PyProof.Rows L2 C8 Fm T2
local macro_rules | `(tactic| walk_at "hf") => `(tactic| (fail_if_success (show (fun _ => none : Hp) _ = _)); first | assumption | with_reducible exact upd_same | ((with_reducible show upd _ _ _ _ = _); first | exact up_new' (by assumption) (by walk_at "hf") | exact up_set (by walk_at "ne") (by walk_at "hf")) | exact Same.at' (by assumption) (by walk_at "hf") | exact But.at' (by assumption) (by walk_at "ne") (by walk_at "ne") (by walk_at "hf"))
local macro_rules | `(tactic| walk_at "hf0") => `(tactic| (fail_if_success (show (fun _ => none : Hp) _ = _)); first | assumption | with_reducible exact upd_same | ((with_reducible show upd _ _ _ _ = _); exact up_new' (by assumption) (by walk_at "hf0")))
local macro_rules | `(tactic| walk_at "ne") => `(tactic| first | assumption | (apply Ne.symm; assumption) | exact ne_of_none' (by assumption) (by walk_at "hf0") | exact Ne.symm (ne_of_none' (by assumption) (by walk_at "hf0")) | exact LSt.f1 (by assumption) (by walk_at "lst") | exact LSt.f2 (by assumption) (by walk_at "lst"))
local macro_rules | `(tactic| walk_at "sqt") => `(tactic| (fail_if_success (show SqT _ (fun _ => none) _ _)); first | assumption | exact SqT.of' (by walk_at "hf") | ((with_reducible show SqT _ (upd _ _ _) _ _); first | exact SqT.new' (by assumption) (by walk_at "sqt") | exact SqT.put' (by walk_at "hf") (by walk_at "sqt")) | exact Same.tup (by assumption) (by walk_at "sqt") | exact But.tup (by assumption) (by walk_at "lst") (by walk_at "sqt"))
local macro_rules | `(tactic| walk_at "sql") => `(tactic| (fail_if_success (show SqL _ (fun _ => none) _ _)); first | assumption | exact SqL.of' (by walk_at "hf") | ((with_reducible show SqL _ (upd _ _ _) _ _); exact SqL.new' (by assumption) (by walk_at "sql")) | exact Same.sql' (by assumption) (by walk_at "sql"))
local macro_rules | `(tactic| walk_at "lst") => `(tactic| (fail_if_success (show LSt (fun _ => none) _ _)); first | assumption | ((with_reducible show LSt (upd _ _ _) _ _); first | exact LSt.new (by walk_at "lst") (by assumption) | exact LSt.put (by walk_at "lst") (by walk_at "ne") (by walk_at "ne")) | exact LSt.same' (by assumption) (by walk_at "lst"))
local macro_rules | `(tactic| walk_at "but") => `(tactic| first | assumption | exact But.refl _ _ _ | ((with_reducible show But _ _ _ (upd _ _ _)); exact But.nw (by assumption) (by walk_at "but")) | exact But.bu (by assumption) (by walk_at "but") | exact But.sm (by assumption) (by walk_at "but"))
local macro_rules | `(tactic| walk_at "ls") => `(tactic| first | assumption | exact Ls.same (by walk_at "ls") (Same.upd' (by assumption)))
local macro_rules | `(tactic| walk_at "ll") => `(tactic| first | assumption | exact LL.same (by walk_at "ll") (Same.upd' (by assumption)) | exact LL.same' (by assumption) (by walk_at "ll") | exact LL.but' (by assumption) (by walk_at "lst") (by walk_at "ll"))
local macro_rules | `(tactic| walk_at "sm") => `(tactic| first | assumption | exact Same.refl _ | ((with_reducible show Same _ (upd _ _ _)); first | exact Same.put' (by assumption) (by walk_at "sm") | exact Same.trans (by walk_at "sm") (Same.upd' (by assumption))) | exact Same.trans (by walk_at "sm") (by assumption))
/-- one step of a reading -/
local macro_rules | `(tactic| walk_at "rd") => `(tactic| first
  | with_reducible refine iteF ?_
  | with_reducible refine iteT ?_
  | with_reducible refine itNotF ?_
  | with_reducible refine itNotT ?_
  | refine ⟨_, rfl, ?_⟩
  | refine ⟨_, _, rfl, rfl, ?_⟩
  | refine ⟨_, _, rfl, ?_⟩
  | refine ⟨(_ : Addr), (_ : List V), (_ : Int), (_ : V), rfl, rfl, SqL.of' (by walk_at "hf"), (by first | assumption | rfl), ?_⟩
  | refine ⟨(_ : Addr), (_ : List V), (_ : Int), (_ : V), rfl, rfl, (by walk_at "sqt" : SqT _ _ _ _), (by first | assumption | rfl), ?_⟩
  | refine .inl ⟨_, rfl, ?_⟩
  | refine ⟨_, _, rfl, .inl (by walk_at "sql" : SqL _ _ _ _), ?_⟩
  | refine ⟨_, _, rfl, .inl ⟨(by walk_at "sql" : SqL _ _ _ _), fun p hp => ?_⟩⟩
  | refine ⟨_, _, rfl, .inr ⟨(by walk_at "sqt" : SqT _ _ _ _), ?_⟩⟩
  | refine fun (p : Addr) (hp : (_ : Hp) p = none) => ?_
  | refine ⟨_, _, rfl, .inr (by walk_at "sqt" : SqT _ _ _ _), ?_⟩
  | refine And.intro (by show _ ≤ sizeLine; first | decide | walk_at "sz") (fun p hp => ?_)
  | refine ⟨(_ : Addr), (_ : Addr), (_ : List V), (_ : List V), rfl, rfl, (by walk_at "hf"), (by walk_at "hf"), (by walk_at "sz"), fun p hp => ?_⟩
  | refine ⟨(_ : Addr), (_ : Addr), (_ : List V), (_ : List V), rfl, rfl, (by walk_at "hf"), (by walk_at "hf"), (by walk_at "sz"), ?_⟩
  | refine ⟨(_ : Addr), (_ : List V), (_ : Int), (_ : Nat), rfl, rfl, (by walk_at "hf"), (by rfl), ?_⟩
  | refine And.intro ⟨_, (by walk_at "sql" : SqL _ _ _ _)⟩ ?_
  | refine And.intro ⟨_, (by walk_at "sqt" : SqT _ _ _ _)⟩ ?_
  | refine And.intro (.inl ⟨rfl, _, SqL.of' (by walk_at "hf")⟩) ?_
  | refine And.intro (by walk_at "cond") ?_
  | exact .inl ⟨rfl, _, SqL.of' (by walk_at "hf")⟩
  | with_reducible refine iteT ?_
  | with_reducible refine iteF ?_
  | refine And.intro (by rfl : scal _ _ = true) ?_
  | refine And.intro (by rfl : _ = V.non) ?_
  | refine And.intro (by rfl : wipe _ _ = wipe _ _) ?_
  | refine And.intro (by rfl : (_ : List V) = []) ?_
  | refine ⟨(_ : Addr), (_ : List V), rfl, (by walk_at "sqt" : SqT _ _ _ _), (by rfl), ?_⟩)
/-- a test: known, or both ways -/
local macro_rules | `(tactic| walk_at "if") => `(tactic| first
  | with_reducible refine itD (by omega) ?_
  | with_reducible refine itN (by omega) ?_
  | with_reducible refine itnD (by omega) ?_
  | with_reducible refine itnN (by omega) ?_
  | with_reducible refine itE (by omega) ?_
  | with_reducible refine itEn (by omega) ?_
  | with_reducible refine itnE (by omega) ?_
  | with_reducible refine itnEn (by omega) ?_
  | with_reducible refine itN (by intro z; cases z) ?_
  | with_reducible refine itD (by decide) ?_
  | with_reducible refine itN (by decide) ?_
  | with_reducible refine itnD (by decide) ?_
  | with_reducible refine itnN (by decide) ?_)
local macro_rules | `(tactic| walk_at "if2") => `(tactic| first
  | with_reducible refine itS (fun z => ?_) (fun z => ?_)
  | with_reducible refine itS' (fun z => ?_) (fun z => ?_)
  | with_reducible refine itSE (fun z => ?_) (fun z => ?_)
  | with_reducible refine itnS (fun z => ?_) (fun z => ?_)
  | with_reducible refine itnS' (fun z => ?_) (fun z => ?_)
  | with_reducible refine itnSE (fun z => ?_) (fun z => ?_))
local macro_rules | `(tactic| walk_at "go") => `(tactic| repeat' (first | walk_at "rd" | walk_at "if" | walk_at "if2" | fail))
local macro_rules | `(tactic| walk_at "sz") => `(tactic| (rw [sizeLine_eq]; simp only [List.length_append, List.length_map, List.length_cons, List.length_nil]; omega))
local macro_rules | `(tactic| walk_at "cond") => `(tactic| first | assumption | (show (_ : Int) ≠ 0; first | omega | (split <;> omega)) | (show (0 : Int) < _; first | assumption | decide) | exact ⟨by decide, by decide, by decide⟩ | exact .inr ⟨by decide, by decide⟩ | exact wide_div (b := 64) (by assumption) (by omega) (by decide) (by decide) | exact ⟨by decide, by decide⟩)


local macro_rules | `(tactic| walk_at "sim1") => `(tactic| with_reducible first
  | exact sim_nil | exact sim_var | exact sim_int | exact sim_str | exact sim_bl | exact sim_non | exact sim_raw
  | apply sim_cons | apply sim_op | apply sim_un | apply sim_tup | apply sim_lst
  | apply sim_CB | apply sim_if | apply sim_test | apply sim_B | apply sim_not | apply sim_and | apply sim_or
  | apply sim_andV | apply sim_orV | apply sim_notV | apply sim_chain | exact sim_nopart | apply sim_part
  | apply sim_sl | apply sim_BML | apply sim_BMS | apply sim_BM0S | apply sim_M1 | apply sim_M0
  | apply sim_fmt | apply sim_joined | exact SimJ.nil | apply SimJ.cons
  | exact s_I0i | exact s_I0b | exact s_Ii | exact s_Ui | exact s_eq | exact s_ne | exact s_isN | exact s_notN | exact s_ixL | exact s_ixT | exact s_ixS
  | exact s_cat | exact s_catA | exact s_rep | exact s_repT | exact s_in | exact s_slL | exact s_slA | exact s_slS | exact s_addS | exact s_leS | exact s_ltS
  | exact c_len | exact c_lenS | exact c_list | exact c_tuple | exact c_int1 | exact c_intS | exact c_strI | exact c_max2 | exact c_min2
  | exact m_append | exact m_extend | exact m_split | exact m_join | exact m_0b | exact m_1b
  | apply sim_call | exact simSpF
  | exact sim_name | exact sim_gnil | apply sim_gcons | apply sim_gtup | apply sim_gsub | exact set_list
  | exact sim_next | apply sim_seq | apply sim_cut | exact sim_break | exact sim_cont | apply sim_drop | apply sim_ret | exact sim_retN
  | apply sim_ifS | exact sim_never | apply sim_asg | apply sim_par | apply sim_aug
  | apply sim_for | apply sim_while | apply i_list | apply i_tup | apply i_rng1 | apply i_rng2 | apply i_str | apply i_enum | apply i_zip
  | apply sim_lc | exact sim_yes | exact sim_namew (by decide) | exact sim_gnilw | apply sim_gconsw | apply sim_gtupw
  | apply sim_fld | apply sim_con | apply sim_setFld | apply sim_make | apply sim_prop | apply sim_meth | apply sim_cmeth | exact c_isi | apply sim_isiT | exact s_eqD | exact s_neD
  | walk_at "sim2")
local macro_rules | `(tactic| walk_at "sim2") => `(tactic| fail)
local macro_rules | `(tactic| walk_at "sim") => `(tactic| repeat' (walk_at "sim1"))
/-- open the trees' reading as far as it goes by itself -/
local macro_rules | `(tactic| walk_at "fm") => `(tactic| simp (config := { failIfUnchanged := false }) only [fVar, fC, fOp, fUn, fNil, fCons, fTup, fLst, fCB, fIf, fTest, fNot, fAnd, fOr, fAndV, fOrV, fNotV, fChain, fNoPart, fPart, fI, fI0, fU, fEq, fNe, fIsN, fNotN, fIxL, fIxT, fIxS,
  fCat, fCatA, fRep, fRepT, fSlL, fSlA, fSlS, fSl, fLen, fLenS, fList, fTuple, fIntS, fStrI, fMax2, fMin2, fAppend, fExtend, fIn, fBM, fMS, fBMS, fBM0S, fAddS, fLeS, fLtS, fM0b, fM1b, fSplit, fJoin, fJoined, fJs,
  fName, fGNil, fGCons, fGTup, fSetL, fGSub, fNext, fSeq, fCut, fBreak, fCont, fDrop, fRet, fRetN, fIfS, fAsg, fPar, fAug, fCall, fFld, fCon, fSetFld, fMake, fProp, fMeth, fCMeth, fIsi, fIsiT, fEqD, fNeD, insAt_ref, insO_ins, fFmt, fmtS_i, fmtS_s, fmtOk_i, fmtOk_s, fIL, fIT, fIR1, fIR2, fIS, fIEn, fIZ,
  startL, List.map_cons, List.map_nil, List.length_cons, List.length_nil, List.cons_append, List.nil_append, List.replicate, List.getElem?_cons_zero, List.getElem?_cons_succ, List.set_cons_zero, List.set_cons_succ, Nat.reduceSub, Nat.reduceAdd,
  Option.some.injEq, Tr.int.injEq, Tr.str.injEq, Tr.bl.injEq, Tr.tup.injEq, Tr.ref.injEq, List.cons.injEq, exists_eq_left, exists_eq_left', exists_eq_right, true_and, and_true, and_self, exists_and_left, tupOf_tup, eqS_ii, eqS_ss, eqS_bb, eqS_ni, eqS_in, eqS_nn, isStr_s, isN_n, isN_i, isN_b, isN_s, isN_t, isN_r, noRaw_n, noRaw_i, noRaw_b, noRaw_s, noRaw_t, noRaw_r, and_assoc, reduceIte, Bool.false_eq_true, exists_const, lstAt_ref, seqAt_ref, seqAt_tup, refAt_ref, lstO_lst, app_assoc2, len_app1, at_kk, at_00, set_k, set_00, Nat.add_assoc, Option.map_some, Prod.mk.injEq, int_cast_inj, Nat.zero_le, decide_eq_true_eq, Bool.not_eq_true', decide_eq_false_iff_not, Nat.add_zero, implies_true, forall_const, ite_true, ite_false, if_true, if_false, decide_true, decide_false, Bool.not_true, Bool.not_false, asg_len, Option.isSome_some])
local macro_rules | `(tactic| walk_at "bel") => `(tactic| first | rfl | (simp (config := { failIfUnchanged := false }) only [belM, O.bel, bels_strs, bels_ints, belL, Tr.bel, Tr.bels, Bool.and_true, Bool.true_and, Bool.and_self, decide_eq_true_eq, Bool.and_eq_true, true_and, and_true, List.length_cons, List.length_nil, Nat.reduceAdd]; try omega))

local macro_rules | `(tactic| walk_at "sim2") => `(tactic| first | exact simGet | exact simTi | exact simNext | exact simAlike | assumption | apply sim_raiseX | apply sim_makeVX)
local macro_rules | `(tactic| walk_at "sim1") => `(tactic| with_reducible first | apply sim_cutF | apply sim_isiT)
local macro_rules | `(tactic| walk_at "fm2") => `(tactic| simp (config := { failIfUnchanged := false }) only [dm_app, dm_len, dm_at, dm_at0, dm_set, dm_set0, List.getElem?_cons_zero, List.getElem?_cons_succ, List.set_cons_zero, List.set_cons_succ, lstO_lst, Option.isSome_some, Option.map_some, Option.some.injEq, Prod.mk.injEq, Nat.add_assoc, Nat.reduceAdd, exists_eq_left', exists_eq_left, true_and, and_assoc])
local macro_rules | `(tactic| walk_at "fd") => `(tactic| (walk_at "fm"; walk_at "fm2"; walk_at "fm"; walk_at "fm2"; walk_at "fm"))
local macro_rules | `(tactic| walk_at "locle") => `(tactic| (repeat (first | refine ⟨_, rfl, ?_⟩ | refine ⟨_, _, rfl, ?_⟩)) <;> rfl)
structure LawC (P : Program) (w : World) (K : PySem.W.Frag) (mg : Str → Option Value) (base : Heap) : Prop where
  _law_mix : Cal P w K mg base 1 "_law_mix" (spMix K) []
  _law_next : Cal P w K mg base 1 "_law_next" spNext []
  _law_links : Cal P w K mg base 3 "_law_links" (spF K fsLinks) []
  _law_text : Cal P w K mg base 1 "_law_text" (spF K fsLawText) []
  _law_bent : Cal P w K mg base 2 "_law_bent" (spF K fsBent) []
  _law_read : Cal P w K mg base 2 "_law_read" (spF K fsLawRead) []
  _law_alike : Cal P w K mg base 4 "_law_alike" (spAlike K 3) []
  alikeS : Cal P w K mg base 1 "_law_alike" (spF K fsAlikeS) []
def spLaw (K : PySem.W.Frag) (Pt : Addr) (q : Str) : Sp := fun vs H Q _ => ∃ (a : Addr) (ns : List Int), vs = [.ref a] ∧ SqL K H a (ns.map V.int) ∧ ns.length ≤ 63 ∧ LamX.Tabs [(Pt, q)] H ∧ ∀ H', Q (.bl true) H'
/-- the catcher as it stands behind the top -/
structure CatchAt (K : PySem.W.Frag) (mg : Str → Option Value) (gE : Addr) (oc : Value) (od : Option Addr) (dV kV doc pm : Value) (an : Option Addr) (cdE ct : Value) (osl : Array (Option Value)) : Prop where
  mgE : mg "_law_error" = some (.ref gE)
  kE : PySem.W.keepIn K (.ref gE) = true
  lkE : K.lookup gE = some ⟨oc, od, .func (PySem.W.fnOf "_law_error" "_law_error" (fnArgs sError) (fnBody sError) (fnScope sError) dV kV doc pm an cdE ct), osl⟩
  coE : PySem.W.codeIn K cdE "_law_error" = true
  bE : L2.Binds K (PySem.W.fnOf "_law_error" "_law_error" (fnArgs sError) (fnBody sError) (fnScope sError) dV kV doc pm an cdE ct) ["_law_call"] []
def assignedE (s : Stmt) : Expr := match s with
  | .Assign _ e _ => e
  | _ => .Constant .none 0 ⟨0, 0, 0, 0⟩
def forBody (s : Stmt) : List Stmt := match s with
  | .For _ _ b _ _ => b
  | _ => []
abbrev lamX : Expr := assignedE ((forBody ((fnBody sLawB).getD 1 (.Pass ⟨0, 0, 0, 0⟩))).getD 6 (.Pass ⟨0, 0, 0, 0⟩))
abbrev lamQ : Str := (envOfC "law" (fnScope sLawB) 0 0 .none).qual ++ "<lambda>"
def lamT (K : PySem.W.Frag) (C CT CX : Addr) : XK → TE := fun E => tBM K "list" rAppend (tVar 8) (tCons (ClX.tCMeth C (spF K (fsParse C CT CX)) E (tC (.ref C)) (tCons (tVar 5) tNil)) tNil)
theorem pass_no {X : Cx} : Passes (L2.CX X.prog X.w) X (fun _ _ _ => False) := fun _ _ _ _ _ _ _ ⟨_, _, _, _, _, _, _, _, _, _, _, _, h⟩ => h.elim
theorem first_ok {c : Int} {ls : List Lk} (c0 : 1 ≤ c) (c1 : c ≤ 12) (hl : ls.length ≤ 23) (h : ∀ l ∈ ls, okL c l) : firstBad c ls = none := by
  unfold firstBad
  rw [if_pos ⟨c0, c1⟩, firstFrom_none (k := 0) fun j l e => ?_]
  · rfl
  · have hj := (List.getElem?_eq_some_iff.mp e).1
    obtain ⟨a0, a1, b0, b1, n, d0, d1, e0, e1⟩ := h l (List.mem_of_getElem? e)
    rw [← Bool.not_eq_true, bad_iff a0 b0 e0]
    omega
theorem okL_small {c : Int} {l : Lk} (c1 : c ≤ 100) (h : okL c l) : smallL l := by
  obtain ⟨a0, a1, b0, b1, n, d0, d1, e0, e1⟩ := h
  exact ⟨a0, by omega, b0, by omega, by omega, by omega, e0, e1⟩
theorem Neat.mono {N K : Nat} {t : Str} (h : Neat N t) (hk : N ≤ K) : Neat K t := ⟨Nat.le_trans h.rows hk, fun ws hw => ⟨Nat.le_trans (h.few ws hw).1 hk, (h.few ws hw).2⟩, h.len⟩
theorem sim_lamLaw {K : PySem.W.Frag} {B : Bs} {C CT CX Pt : Addr} {q : Str} : SimE K B (LamX.tLam [(Pt, q)] (TTerr K CT CX) (lamT K C CT CX)) (fLam CT CX Pt q fun PX => fBM fAppend (fVar 8) (fCons (fCMeth C (fsParse C CT CX) PX (fC (.raw (.ref C))) (fCons (fVar 5) fNil)) fNil)) :=
  sim_lam fun B E PX hE => by
    unfold lamT
    exact sim_BML m_append sim_var (sim_cons (sim_cmethX hE simSpF sim_raw (sim_cons sim_var sim_nil)) sim_nil)
local macro_rules | `(tactic| walk_at "sim2") => `(tactic| exact sim_lamLaw)
theorem run_at {K : PySem.W.Frag} {B : Bs} {H : Hp} {ρ : List Addr} {L : Fm.Loc} {σ : L2.St} {M : Mem} {t : TS} {f : FS} {D' : FEnds} {D : Ends} (sim : SimS K B t f) (hl : RX K B H ρ L σ) (hm : RM K H ρ M) (p : f D' L M) (e : EndR K B H ρ D' D) : t D σ H := sim.run hl hm p e
theorem dm_start {K : PySem.W.Frag} {H : Hp} {h s Pt : Addr} {q : Str} (st : LSt H h s) (T : LamX.TabS H Pt q) : ∃ d : Dr, d.ok ∧ RM K H [s, h, Pt] (dm d [O.tab Pt q]) := by
  obtain ⟨m, k, xs, h1, h2, ok⟩ := st.ex
  have hT := T
  obtain ⟨ps, h3, _⟩ := T
  have n1 : s ≠ h := st.ne.symm
  have n2 : h ≠ Pt := ne_of h1 h3 (fun z => nomatch z)
  have n3 : s ≠ Pt := ne_of h2 h3 (fun z => nomatch z)
  refine ⟨⟨m, k, xs⟩, ok, rfl, fun n o e => ?_, by simp [n1, n2, n3]⟩
  match n, e with
  | 0, e =>
    cases e
    exact ⟨s, rfl, _, h2, rts_ints _⟩
  | 1, e =>
    cases e
    exact ⟨h, rfl, _, h1, RTs.cons RT.int_ (RTs.cons (by unfold RT; exact ⟨s, rfl, rfl⟩) (RTs.cons RT.int_ RTs.nil))⟩
  | 2, e =>
    cases e
    exact ⟨Pt, rfl, rfl, hT⟩
  | n + 3, e => simp [dm] at e
section
variable {P : Program} {w : World} {K : PySem.W.Frag} {mg : Str → Option Value} {base : Heap} {CB CT fT C CX fX pS gS : Addr} {mB : Value}
theorem scLaw : FnScope ["_law_script", "_law_h", "_law_turn", "_law_count", "_law_links_here", "_law_text_here", "_law_town", "_law_due", "_law_results", "_law_change", "_law_error_here"] ["_law_script"] (fnScope sLawB) := fnScope_by (by decide +kernel)
theorem ok_law {f cl Pt fTi pP gP p1 p2 p4 g1 g2 g4 gE : Addr} {fdTi fd1 fd2 fd4 : FuncData} {mC : Value} {oc dV kV doc pm ct oc' dV' kV' doc' pm' cdE ct' : Value} {od an od' an' : Option Addr} {osl osl' : Array (Option Value)}
    (lk : K.lookup f = some ⟨oc, od, .func (PySem.W.fnOf "law" "law" (fnArgs sLawB) (fnBody sLawB) (fnScope sLawB) dV kV doc pm an (.ref cl) ct), osl⟩) (cdL : PySem.W.codeIn K (.ref cl) "law" = true)
    (T0 : Prog K mg CB CT fT C mB) (TT : PTown K mg C pS gS) (T : BT mg) (T1 : Errs K mg CB CT CX) (C9 : LawC P w K mg base) (LH : CatchAt K mg gE oc' od' dV' kV' doc' pm' an' cdE ct' osl') (TB : LamX.TabB base mg cl Pt)
    (MT : Mk K C fTi) (GTi : FnOk P w K mg base (L2.CX P w) 3 fTi fdTi ["self", "count", "bridges"] (spTi K C CT)) (bTi : Binds K fdTi ["self", "count", "bridges"] [])
    (RC : ClX.CRead K C mC) (MP : ClX.CMet K C mC "parse" pP gP) (FP : FnR P w K mg base (L2.CX P w) 5 gP (spF K (fsParse C CT CX)))
    (P1 : PropOf K C "place_count" p1 g1) (G1 : FnOk P w K mg base L2.CX0 1 g1 fd1 ["self"] (spGet C "_count")) (b1 : Binds K fd1 ["self"] [])
    (P2 : PropOf K C "bridges" p2 g2) (G2 : FnOk P w K mg base L2.CX0 1 g2 fd2 ["self"] (spGet C "_bridges")) (b2 : Binds K fd2 ["self"] [])
    (P4 : PropOf K C "text" p4 g4) (G4 : FnOk P w K mg base L2.CX0 1 g4 fd4 ["self"] (spF K (fsText C))) (b4 : Binds K fd4 ["self"] []) :
    FnOk P w K mg base C8.CX0 9 f (PySem.W.fnOf "law" "law" (fnArgs sLawB) (fnBody sLawB) (fnScope sLawB) dV kV doc pm an (.ref cl) ct) ["_law_script"] (spLaw K Pt lamQ) := by
  refine fn_of lk cdL scLaw (fun vs H Q E h => ?_) (fun A outer s H vs Q E hr h => ?_)
  · obtain ⟨a, ns, rfl, _⟩ := h; rfl
  obtain ⟨a, ns, rfl, ha, hl, hT, q⟩ := h
  have hand : ∃ t, PSs (cxOf C8.CX0 P w K mg base ["_law_script", "_law_h", "_law_turn", "_law_count", "_law_links_here", "_law_text_here", "_law_town", "_law_due", "_law_results", "_law_change", "_law_error_here"] "law" (fnScope sLawB) f (.ref cl) A outer s H E).nox (fnBody sLawB) t ∧ t { nx := fun _ H' => Q .non H', rt := Q } (L2.start ["_law_script", "_law_h", "_law_turn", "_law_count", "_law_links_here", "_law_text_here", "_law_town", "_law_due", "_law_results", "_law_change", "_law_error_here"] [.ref a]) H := by
    let CC : Addr := C
    let X0 : Cx := (cxOf C8.CX0 P w K mg base ["_law_script", "_law_h", "_law_turn", "_law_count", "_law_links_here", "_law_text_here", "_law_town", "_law_due", "_law_results", "_law_change", "_law_error_here"] "law" (fnScope sLawB) f (.ref cl) A outer s H E).nox
    have lamE : PE X0 lamX (LamX.tLam [(Pt, lamQ)] (TTerr K CT CX) (lamT K C CT CX)) := (LamX.pe_lamcall (T := [(Pt, lamQ)]) (TT := TTerr K CT CX) (a := "_law_call") (k := 5) (t := lamT K C CT CX) (by rfl) LH.mgE LH.kE LH.lkE LH.coE LH.bE scErr rfl (Or.inl rfl) (err_gives T T1) TB rfl (List.mem_singleton.mpr rfl) (fun p hp _ => by rw [List.mem_singleton.mp hp] <;> rfl) (hr.mono (by decide : 7 ≤ 8)) (LamX.lamS_by (sc := fnScope sLawB) (by decide +kernel)) rfl (fun _ _ _ _ _ => rfl) (fun A outer s H E f c' hr2 => pe_bm PySem.F.plainAttrs_list PySem.F.slot_list_append PySem.F.type_list_append mt_append (pv 8) (pa_cons (ClX.pe_cmeth (pe_gc (v := .ref CC) (by rfl) ⟨_, T0.gC, rfl⟩) RC MP FP hr2 (passes_call (takes_of rfl rfl rfl rfl) (fun _ _ _ _ z => z)) (pa_cons (pv 5) pa_nil)) pa_nil)))
    have C := C9
    have lamE := lamE
    refine ⟨_, (pss_cons (ps_set (i := 1) scLaw.nd rfl (Or.inl rfl) (pe_c C._law_mix hr (by first | decide | omega) (by rfl) (pa_cons (pv 0) (pa_cons pe_int pa_nil))))
 (pss_cons (ps_for PassesOwn.never rfl (pi_range1 (by rfl) T.range (pa_cons pe_int pa_nil)) (pg_name (i := 2) scLaw.nd rfl (Or.inl rfl)) (pss_cons (ps_set (i := 3) scLaw.nd rfl (Or.inl rfl) (pe_op op_add pe_int (pe_c C._law_next hr (by first | decide | omega) (by rfl) (pa_cons (pv 1) (pa_cons pe_int pa_nil)))))
 (pss_cons (ps_set (i := 4) scLaw.nd rfl (Or.inl rfl) (pe_c C._law_links hr (by first | decide | omega) (by rfl) (pa_cons (pv 1) (pa_cons (pv 3) (pa_cons pe_int (pa_cons pe_bl pa_nil))))))
 (pss_cons (ps_asg (pe_tup (pa_cons (pe_make MT GTi (hr.mono (by decide : 4 ≤ 8)) (by rfl) T0.gC bTi .nil pass_no (pa_cons (pv 3) (pa_cons (pv 4) pa_nil))) (pa_cons (pe_c C._law_text hr (by first | decide | omega) (by rfl) (pa_cons (pv 3) (pa_cons (pv 4) pa_nil))) pa_nil))) (pg_tup rfl (pgs_cons (pg_name (i := 6) scLaw.nd rfl (Or.inl rfl)) (pgs_cons (pg_name (i := 5) scLaw.nd rfl (Or.inr rfl)) pgs_nil))))
 (pss_cut (ps_if (PW.pt (pw_or (pt_not (pt_val (pe_c C.alikeS hr (by first | decide | omega) (by rfl) (pa_cons (pe_prop (pv 6) TT.cl P4 G4 (hr.mono (by decide : 2 ≤ 8)) b4 .nil L2.pass0 rfl) (pa_cons (pv 5) pa_nil))))) (pw_or1 (pt_not (pt_val (pe_c C._law_alike hr (by first | decide | omega) (by rfl) (pa_cons (pe_prop (ClX.pe_cmeth (pe_gc (v := .ref CC) (by rfl) ⟨_, T0.gC, rfl⟩) RC MP FP (hr.mono (by decide : 5 ≤ 8)) pass_no (pa_cons (pv 5) pa_nil)) TT.cl P2 G2 (hr.mono (by decide : 2 ≤ 8)) b2 .nil L2.pass0 rfl) (pa_cons (pv 4) pa_nil)))))))) (pss_one (ps_ret pe_bl)) pss_nil)
 (pss_cut (ps_for PassesOwn.never rfl (pi_range1 (by rfl) T.range (pa_cons (pe_op op_add pe_int (pe_c C._law_next hr (by first | decide | omega) (by rfl) (pa_cons (pv 1) (pa_cons pe_int pa_nil)))) pa_nil)) (pg_name (i := 9) scLaw.nd rfl (Or.inl rfl)) (pss_one (ps_set (i := 5) scLaw.nd rfl (Or.inr rfl) (pe_c C._law_bent hr (by first | decide | omega) (by rfl) (pa_cons (pv 1) (pa_cons (pv 5) pa_nil))))))
 (pss_cons (ps_asg (pe_tup (pa_cons (pe_c C._law_read hr (by first | decide | omega) (by rfl) (pa_cons (pv 5) pa_nil)) (pa_cons (pe_lst pa_nil) pa_nil))) (pg_tup rfl (pgs_cons (pg_name (i := 7) scLaw.nd rfl (Or.inl rfl)) (pgs_cons (pg_name (i := 8) scLaw.nd rfl (Or.inr rfl)) pgs_nil))))
 (pss_cut (ps_set (i := 10) scLaw.nd rfl (Or.inl rfl) lamE)
 (pss_cons (ps_if (pt_cmpR (op_neD hr.units) (pv 10) (pe_ifExp (pt_cmpR op_eq (pe_ix ix_tup (pv 7) pe_int (fun _ _ => rfl)) pe_str (nomark _)) (pe_tup (pa_cons pe_str pa_nil)) (pv 7)) (nomark _)) (pss_one (ps_ret pe_bl)) pss_nil)
 (pss_one (ps_if (PW.pt (pw_and (pt_cmpR op_eq (pe_ix ix_tup (pv 7) pe_int (fun _ _ => rfl)) pe_str (nomark _)) (pw_and1 (pt_not (pt_val (pe_c C._law_alike hr (by first | decide | omega) (by rfl) (pa_cons (pe_lst (pa_cons (pe_prop (pe_ix ix_list (pv 8) pe_int (fun _ _ => rfl)) TT.cl P1 G1 (hr.mono (by decide : 2 ≤ 8)) b1 .nil L2.pass0 rfl) (pa_cons (pe_prop (pe_ix ix_list (pv 8) pe_int (fun _ _ => rfl)) TT.cl P2 G2 (hr.mono (by decide : 2 ≤ 8)) b2 .nil L2.pass0 rfl) pa_nil))) (pa_cons (pe_lst (pa_cons (pe_ix ix_tup (pv 7) pe_int (fun _ _ => rfl)) (pa_cons (pe_ix ix_tup (pv 7) pe_int (fun _ _ => rfl)) pa_nil))) pa_nil)))))))) (pss_one (ps_ret pe_bl)) pss_nil)))))))))))
 (pss_one (ps_ret pe_bl)))), ?_⟩
    walk_at "go"
    refine ⟨a, ns, rfl, ha, hl, fun h s H1 st1 sm1 => ?_⟩
    have tb1 : LamX.Tabs [(Pt, lamQ)] H1 := hT.ext sm1
    obtain ⟨d, m0⟩ := dm_start st1 (tb1 (Pt, lamQ) (List.mem_singleton.mpr rfl))
    obtain ⟨hd, m0⟩ := m0
    have hl0 : RX K (H1, [s, h, Pt]) H1 [s, h, Pt] [some (.raw (.ref a)), some (.ref 1), none, none, none, none, none, none, none, none, none] ((L2.start ["_law_script", "_law_h", "_law_turn", "_law_count", "_law_links_here", "_law_text_here", "_law_town", "_law_due", "_law_results", "_law_change", "_law_error_here"] [.ref a]).set 1 (some (.ref h))) := by
      refine ⟨?_, Grow.refl⟩
      refine ⟨_, _, rfl, ⟨_, rfl, by unfold RT; rfl⟩, _, _, rfl, ⟨_, rfl, by unfold RT; exact ⟨h, rfl, rfl⟩⟩, ?_⟩
      exact RL.nones 9 _ rfl
    simp only [nox_K, cx_K]
    dsimp only [gName]
    show tSeq (tFor _ _ _) _ _ _ _
    refine run_at (D' := { nx := fun _ _ => False, rt := fun v _ => v = .bl true }) (by walk_at "sim") hl0 m0 ?_ ⟨fun _ _ _ _ _ _ _ _ p => p.elim, fun v x H' ρ' M' g m r p => ?_, fun _ _ _ _ _ _ _ _ p => p.elim, fun _ _ _ _ _ _ _ _ p => p.elim⟩
    · walk_at "fm"
      unfold fFor
      walk_at "fm"
      refine ⟨by decide, by decide, fun i L2 M2 => ∃ (d : Dr) (v2 v3 v4 v5 v6 v7 v8 v9 v10 : Option Tr), d.ok ∧ L2 = [some (.raw (.ref a)), some (.ref 1), v2, v3, v4, v5, v6, v7, v8, v9, v10] ∧ M2 = dm d [O.tab Pt lamQ], ⟨d, none, none, none, none, none, none, none, none, none, hd, rfl, rfl⟩, ?_⟩
      · rintro i y L2 M2 hy ⟨d0, v2, v3, v4, v5, v6, v7, v8, v9, v10, hd0, rfl, rfl⟩
        walk_at "fm"
        refine next_0 hd0 (by decide) (by decide) fun r1 d1 hd1 r10 r11 => ?_
        walk_at "fm"
        refine ⟨1 + r1, 6, true, d1, [O.tab Pt lamQ], rfl, rfl, hd1, by omega, by omega, by decide, by decide, fun ls d2 hd2 hls hok => ?_⟩
        walk_at "fm"
        have hf : firstBad (1 + r1) ls = none := first_ok (by omega) (by omega) (by omega) hok
        have hsm : ∀ l ∈ ls, smallL l := fun l hl => okL_small (c := 1 + r1) (by omega) (hok l hl)
        refine ⟨_, 1 + r1, ls, rfl, at_0, by omega, fun r e => (by rw [hf] at e; cases e), fun _ => ?_⟩
        rw [set_0]
        refine ⟨rfl, 1 + r1, ls, rfl, by omega, by omega, by omega, hsm, ?_⟩
        refine ⟨by rw [sizeLine_eq]; decide, ?_⟩
        have c0 : 0 ≤ 1 + r1 := by omega
        have c1 : 1 + r1 ≤ 100 := by omega
        have nt0 : Neat 7 (townS (1 + r1) ls) := neat_town c0 c1 (by omega) hsm
        have hrt := read_town c0 c1 hsm
        have hg : bad2 (1 + r1) ls = .good (1 + r1) ls := by unfold bad2; rw [hf]
        rw [hg] at hrt
        refine ⟨fun L' M' => L' = [some (.raw (.ref a)), some (.ref 1), none, none, none, some (.str (townS (1 + r1) ls)), none, none, none, none, none] ∧ M' = dm d2 ([O.tab Pt lamQ] ++ [O.ins CC (tFT (1 + r1) ls)]), ?_, ?_⟩
        · walk_at "fm"
          refine ⟨_, 1 + r1, ls, rfl, at_0, by omega, by omega, by omega, hsm, ⟨_, rfl, true, rfl, ?_⟩⟩
          rw [if_neg (by decide)]
          refine ⟨rfl, _, rfl, Nat.le_trans nt0.len (by decide), by have := nt0.rows; rw [wordsOf_len] at this; omega, ?_⟩
          rw [hrt]
          intro g bg
          refine ⟨_, _, insAt_end, ⟨_, _, _, _, rfl, insAt_end, rfl, ?_⟩⟩
          refine ⟨_, _, _, rfl, .tup (da_lks ls), .tup (da_lks ls), okd_lks (n := 1) (by omega), true, rfl, ?_⟩
          rw [if_neg (by decide)]
          refine forget_base (M := dm d2 [O.tab Pt lamQ] ++ [O.ins CC (tFT (1 + r1) ls)]) (by simp) ?_ ⟨rfl, rfl⟩ rfl (bel_mem (by simp [dm_len]))
          walk_at "locle"
        · rintro L' M' ⟨rfl, rfl⟩
          refine ⟨fun L' M' => ∃ (d : Dr) (t : Str), d.ok ∧ Neat 100 t ∧ L' = [some (.raw (.ref a)), some (.ref 1), none, none, none, some (.str t), none, none, none, none, none] ∧ M' = dm d ([O.tab Pt lamQ] ++ [O.ins CC (tFT (1 + r1) ls)]), ?_, ?_⟩
          · refine ⟨_, rfl, next_0 hd2 (by decide) (by decide) fun r3 d3 hd3 r30 r31 => ?_⟩
            refine ⟨_, rfl, by omega, by omega, fun i L2 M2 => ∃ (d : Dr) (t : Str), d.ok ∧ Neat (7 + i) t ∧ L2 = [some (.raw (.ref a)), some (.ref 1), none, none, none, some (.str t), none, none, none, none, none] ∧ M2 = dm d ([O.tab Pt lamQ] ++ [O.ins CC (tFT (1 + r1) ls)]), ⟨d3, _, hd3, nt0, rfl, rfl⟩, ?_, ?_⟩
            · rintro i u L2 M2 hu ⟨d4, t, hd4, nt, rfl, rfl⟩
              have hi := (rngT_get hu).1
              refine ⟨_, rfl, _, rfl, t, d4, _, 7 + i, rfl, rfl, hd4, nt, by omega, by omega, fun t' d5 hd5 nt' => ?_⟩
              refine forget_same (M := dm d5 ([O.tab Pt lamQ] ++ [O.ins CC (tFT (1 + r1) ls)])) (L' := [some (.raw (.ref a)), some (.ref 1), none, none, none, some (.str t'), none, none, none, none, none]) ?_ ⟨d5, t', hd5, nt', rfl, rfl⟩ ⟨Nat.le_refl _, rfl⟩ (bel_mem (by simp [dm_len]))
              show LocLe _ [_, _, _, _, _, _, _, _, _, _, _]
              walk_at "locle"
            · rintro L2 M2 ⟨d4, t, hd4, nt, rfl, rfl⟩
              rw [rngT_len] at nt
              dsimp only
              exact forget_same (LocLe.refl _) ⟨d4, t, hd4, nt.mono (by omega), rfl, rfl⟩ ⟨Nat.le_refl _, rfl⟩ (bel_mem (by simp [dm_len]))
          · rintro L' M' ⟨d4, t, hd4, nt, rfl, rfl⟩
            walk_at "fm"
            refine ⟨t, rfl, nt, ?_⟩
            walk_at "fm"
            have h20 : readW num20 (wordsOf t) = readW numV (wordsOf t) := readW_20 fun ws hw w hm => ((nt.few ws hw).2 w hm).1
            have hfine := readW_fine (f := numV) (wordsOf t)
            obtain ⟨rd, hrd⟩ : ∃ rd, readW numV (wordsOf t) = rd := ⟨_, rfl⟩
            rw [hrd] at h20 hfine ⊢
            refine ⟨by rw [sizeLine_eq]; decide, ?_⟩
            refine ⟨fun L' M' => ∃ (rs : List Tr) (h : Mem), L' = [some (.raw (.ref a)), some (.ref 1), none, none, none, none, none, some (rdT rd), some (.ref 4), none, some (erT rd)] ∧ M' = dm d4 ([O.tab Pt lamQ] ++ [O.ins CC (tFT (1 + r1) ls)]) ++ O.lst rs :: h ∧ ∀ c ls', rd = .good c ls' → ∃ k, rs = [.ref k] ∧ M'[k]? = some (.ins CC (tFT c ls')), ?_, ?_⟩
            · walk_at "fm"
              refine ⟨2, rfl, ⟨⟨rfl, rfl⟩, trivial⟩, ?_⟩
              walk_at "fm"
              refine ⟨t, rfl, Nat.le_trans nt.len (by decide), by have := nt.rows; rw [wordsOf_len] at this; omega, ?_⟩
              rw [h20]
              cases rd with
              | text r =>
                refine .inr ⟨rfl, _, rfl, ?_⟩
                refine forget_same (M := dm d4 [O.tab Pt lamQ, O.ins CC (tFT (1 + r1) ls)] ++ [O.lst []]) ?_ ⟨rfl, [], [], rfl, fun _ _ e => nomatch e⟩ ⟨Nat.le_refl _, rfl⟩ (bel_mem2 (by simp [dm_len]) rfl rfl)
                walk_at "locle"
              | town p j =>
                refine .inl ⟨rfl, _, _, rfl, ?_⟩
                refine forget_same (M := dm d4 [O.tab Pt lamQ, O.ins CC (tFT (1 + r1) ls)] ++ [O.lst []]) ?_ ⟨rfl, [], [], rfl, fun _ _ e => nomatch e⟩ ⟨Nat.le_refl _, rfl⟩ (bel_mem2 (by simp [dm_len]) rfl rfl)
                walk_at "locle"
              | good c ls' =>
                intro g bg
                refine ⟨4, [], rfl, by rw [sizeLine_eq]; decide, ?_⟩
                show Forget _ _ _ (dm d4 [O.tab Pt lamQ, O.ins CC (tFT (1 + r1) ls)] ++ O.lst [.ref (5 + g.length)] :: (g ++ [O.ins CC (tFT c ls')]))
                have eg : (dm d4 [O.tab Pt lamQ, O.ins CC (tFT (1 + r1) ls)] ++ O.lst [.ref (5 + g.length)] :: (g ++ [O.ins CC (tFT c ls')]))[5 + g.length]? = some (O.ins CC (tFT c ls')) := by
                  show (_ :: _ :: _ :: _ :: _ :: (g ++ [O.ins CC (tFT c ls')]))[5 + g.length]? = _
                  rw [Nat.add_comm 5]
                  simp only [List.getElem?_cons_succ]
                  simp
                refine forget_same (L' := [some (.raw (.ref a)), some (.ref 1), none, none, none, none, none, some (rdT (.good c ls')), some (.ref 4), none, some (erT (.good c ls'))]) ?_ ⟨rfl, _, _, rfl, fun _ _ e => by cases e; exact ⟨_, rfl, eg⟩⟩ ⟨?_, ?_⟩ (bel_mem2 ?_ ?_ ?_)
                · walk_at "locle"
                · simp [dm_len]; omega
                · simp [belL, Tr.bel, Tr.bels, rdT, erT, bel_lks, dm_len]; omega
                · simp [dm_len]; omega
                · simp [dm_len, Tr.bels, Tr.bel]; omega
                · rw [belM_app, belM_mono (Nat.zero_le _) bg, Bool.true_and]
                  simp [belM, O.bel, belF, tFT, Tr.bel, bel_lks]
            · rintro L' M' ⟨rs, h, rfl, rfl, hk⟩
              walk_at "fm"
              have fin : ∀ (g : Mem) (e7 e10 : Tr), Forget (List.length (dm d [O.tab Pt lamQ])) (fun L2 M2 => ∃ d : Dr, d.ok ∧ ∃ (v2 v3 v4 v5 v6 v7 v8 v9 v10 : Option Tr), L2 = [some (.raw (.ref a)), some (.ref 1), v2, v3, v4, v5, v6, v7, v8, v9, v10] ∧ M2 = dm d [O.tab Pt lamQ]) [some (.raw (.ref a)), some (.ref 1), none, none, none, none, none, some e7, some (.ref 4), none, some e10] (dm d4 [O.tab Pt lamQ, O.ins CC (tFT (1 + r1) ls)] ++ g) := by
                intro g e7 e10
                refine ⟨3, [some (.raw (.ref a)), some (.ref 1), none, none, none, none, none, none, none, none, none], Nat.le_refl 3, ?_, rfl, ?_, ⟨d4, hd4, none, none, none, none, none, none, none, none, none, rfl, rfl⟩⟩
                · walk_at "locle"
                · show belM 3 (dm d4 [O.tab Pt lamQ]) = true
                  unfold dm
                  simp [belM, O.bel, bels_ints, Tr.bels, Tr.bel]
              cases rd with
              | text r =>
                refine ⟨_, rfl, _, rfl, false, not_good.1, ?_⟩
                rw [if_neg (by decide)]
                refine ⟨_, da_er (.text r), _, da_er (.text r), shaped_er hfine, shaped_er hfine, ?_⟩
                rw [eqv_er, if_neg (by decide)]
                refine ⟨_, rfl, _, rfl, false, not_good.1, ?_⟩
                rw [if_neg (by decide)]
                exact fin _ _ _
              | town p j =>
                refine ⟨_, rfl, _, rfl, false, not_good.2.1, ?_⟩
                rw [if_neg (by decide)]
                refine ⟨_, da_er (.town p j), _, da_er (.town p j), shaped_er hfine, shaped_er hfine, ?_⟩
                rw [eqv_er, if_neg (by decide)]
                refine ⟨_, rfl, _, rfl, false, not_good.2.1, ?_⟩
                rw [if_neg (by decide)]
                exact fin _ _ _
              | good c ls' =>
                have hn : ls'.length ≤ 1000 := Nat.le_trans (readW_len hrd) (Nat.le_trans nt.rows (by decide))
                obtain ⟨k, rfl, ek⟩ := hk c ls' rfl
                refine ⟨_, rfl, _, rfl, true, not_good.2.2, ?_⟩
                rw [if_pos rfl]
                refine ⟨by rw [sizeLine_eq]; decide, _, da_er (.good c ls'), _, da_er (.good c ls'), shaped_er hfine, shaped_er hfine, ?_⟩
                rw [eqv_er, if_neg (by decide)]
                refine ⟨_, rfl, _, rfl, true, not_good.2.2, ?_⟩
                rw [if_pos rfl]
                refine ⟨_, rfl, _, rfl, _, _, insAt_of ek, ⟨_, _, _, _, rfl, insAt_of ek, rfl, ?_⟩⟩
                refine ⟨_, rfl, _, rfl, _, _, insAt_of ek, ⟨_, _, _, _, rfl, insAt_of ek, rfl, ?_⟩⟩
                refine ⟨by rw [sizeLine_eq]; decide, _, rfl, _, rfl, _, rfl, _, rfl, by rw [sizeLine_eq]; decide, ?_⟩
                refine ⟨_, _, .list [.int c, .tuple (ls'.map ld)], rfl, .lst (ts := [.int c, .tup (ls'.map lkT)]) ?_ (.cons (.int _) (.cons (.tup (da_lks _)) .nil)), .lst (ts := [.int c, .tup (ls'.map lkT)]) ?_ (.cons (.int _) (.cons (.tup (da_lks _)) .nil)), okd_cl (n := 0) hn, true, rfl, ?_⟩
                · rw [lstAt_ref, at_0]
                  rfl
                · rw [lstAt_ref, List.getElem?_append_right (Nat.le_succ _)]
                  simp
                  rfl
                rw [if_neg (by decide)]
                rw [List.append_assoc]
                exact fin _ _ _
    · subst p
      rw [r.bl_inv]
      exact q H'
  obtain ⟨t, ht, hq⟩ := hand
  exact ⟨t, ht.nox, hq⟩
end
end T1

set_option Elab.async false
set_option linter.all false
set_option maxRecDepth 100000
set_option maxHeartbeats 4000000
namespace T1
open PySem PySem.Spec PyProof.Rows L2 C8 Fm T2
theorem tabs_new {P : Addr} {q : Str} {H : Hp} (h : H P = some (.tbl #[])) : LamX.Tabs [(P, q)] H := fun p hp => by
  rw [List.mem_singleton.mp hp]
  exact ⟨#[], h, trivial, fun pos cv hc => by cases hc⟩
set_option maxHeartbeats 8000000 in
theorem all_mk {l : PySem.W.OpenLaw} {w : World} {K : PySem.W.Frag} {h : Heap} {mg : Str → Option Value} {fa : Addr} (X : K.In h) (G : h.Ns mainGlobals mg) (hfa : mg "law" = some (.ref fa))
    {CB CT CX fT fX C pS gS fTi p1 p2 p4 pP gP g1 g2 g4 fL cl Pt c0 c1 c2 c3 c4 c5 c6 c7 c8 c9 fMix fNext fAlike fError fLife fLinks fLawText fNumbers fLawRead fBent fIsNum fNumOf fRead : Addr} {nmT qT : Str} {NT : Addr} {bsT bmT : List Value} {snT : List Str} {subT : List Value} {abT : Bool} {colT : Option Bool} {ddT : Option Addr} {m0T m1T m2T m3T m5T : Option Value} {nmX qX : Str} {NX : Addr} {bsX bmX : List Value} {snX : List Str} {subX : List Value} {abX : Bool} {colX : Option Bool} {ddX : Option Addr} {m0X m1X m2X m3X m5X : Option Value} {mB : Value} {u0 u1 u4 u5 u6 : Tok} {rS rP r1 r2 r4 : List Value}
    {ocMix kVMix dcMix pmMix cdMix ctMix ocNext kVNext dcNext pmNext cdNext ctNext ocAlike kVAlike dcAlike pmAlike cdAlike ctAlike ocError kVError dcError pmError cdError ctError ocLife kVLife dcLife pmLife cdLife ctLife ocLinks kVLinks dcLinks pmLinks cdLinks ctLinks ocLawText kVLawText dcLawText pmLawText cdLawText ctLawText ocNumbers kVNumbers dcNumbers pmNumbers cdNumbers ctNumbers ocLawRead kVLawRead dcLawRead pmLawRead cdLawRead ctLawRead ocBent kVBent dcBent pmBent cdBent ctBent ocIsNum kVIsNum dcIsNum pmIsNum cdIsNum ctIsNum ocNumOf kVNumOf dcNumOf pmNumOf cdNumOf ctNumOf ocRead kVRead dcRead pmRead cdRead ctRead ocL kVL dcL pmL ctL ocITi kVITi dcITi pmITi cdITi ctITi ocIXi kVIXi dcIXi pmIXi cdIXi ctIXi ocTi kVTi dcTi pmTi cdTi ctTi ocS kVS dcS pmS cdS ctS ocPa kVPa dcPa pmPa cdPa ctPa ocg1 kVg1 dcg1 pmg1 cdg1 ctg1 ocg2 kVg2 dcg2 pmg2 cdg2 ctg2 ocg4 kVg4 dcg4 pmg4 cdg4 ctg4 : Value} {odMix anMix odNext anNext odAlike anAlike odError anError odLife anLife odLinks anLinks odLawText anLawText odNumbers anNumbers odLawRead anLawRead odBent anBent odIsNum anIsNum odNumOf anNumOf odRead anRead odL anL odITi anITi odIXi anIXi odTi anTi odS anS odPa anPa odg1 ang1 odg2 ang2 odg4 ang4 : Option Addr} {slMix slNext slAlike slError slLife slLinks slLawText slNumbers slLawRead slBent slIsNum slNumOf slRead slL slITi slIXi slTi slS slPa slg1 slg2 slg4 : Array (Option Value)}
    (aCB : PySem.W.nsIn K mainGlobals "BridgeError" = some (some (.ref CB)))
    (aCT : PySem.W.nsIn K mainGlobals "InvalidTown" = some (some (.ref CT)))
    (aCX : PySem.W.nsIn K mainGlobals "InvalidText" = some (some (.ref CX)))
    (aC : PySem.W.nsIn K mainGlobals "Town" = some (some (.ref C)))
    (ae0 : PySem.W.nsIn K mainGlobals "InvalidTrips" = some (some (.ref c0)))
    (ke0 : PySem.W.kitOne K (.ref CT) (.ref c0) = some false)
    (kf0 : PySem.W.kitOne K (.ref CX) (.ref c0) = some false)
    (ae1 : PySem.W.nsIn K mainGlobals "InvalidCount" = some (some (.ref c1)))
    (ke1 : PySem.W.kitOne K (.ref CT) (.ref c1) = some false)
    (kf1 : PySem.W.kitOne K (.ref CX) (.ref c1) = some false)
    (ae2 : PySem.W.nsIn K mainGlobals "InvalidLife" = some (some (.ref c2)))
    (ke2 : PySem.W.kitOne K (.ref CT) (.ref c2) = some false)
    (kf2 : PySem.W.kitOne K (.ref CX) (.ref c2) = some false)
    (ae3 : PySem.W.nsIn K mainGlobals "InvalidLoad" = some (some (.ref c3)))
    (ke3 : PySem.W.kitOne K (.ref CT) (.ref c3) = some false)
    (kf3 : PySem.W.kitOne K (.ref CX) (.ref c3) = some false)
    (ae4 : PySem.W.nsIn K mainGlobals "UnknownPlace" = some (some (.ref c4)))
    (ke4 : PySem.W.kitOne K (.ref CT) (.ref c4) = some false)
    (kf4 : PySem.W.kitOne K (.ref CX) (.ref c4) = some false)
    (ae5 : PySem.W.nsIn K mainGlobals "UnknownBridge" = some (some (.ref c5)))
    (ke5 : PySem.W.kitOne K (.ref CT) (.ref c5) = some false)
    (kf5 : PySem.W.kitOne K (.ref CX) (.ref c5) = some false)
    (ae6 : PySem.W.nsIn K mainGlobals "UnknownKind" = some (some (.ref c6)))
    (ke6 : PySem.W.kitOne K (.ref CT) (.ref c6) = some false)
    (kf6 : PySem.W.kitOne K (.ref CX) (.ref c6) = some false)
    (ae7 : PySem.W.nsIn K mainGlobals "TooManyBridges" = some (some (.ref c7)))
    (ke7 : PySem.W.kitOne K (.ref CT) (.ref c7) = some false)
    (kf7 : PySem.W.kitOne K (.ref CX) (.ref c7) = some false)
    (ae8 : PySem.W.nsIn K mainGlobals "DifferentTowns" = some (some (.ref c8)))
    (ke8 : PySem.W.kitOne K (.ref CT) (.ref c8) = some false)
    (kf8 : PySem.W.kitOne K (.ref CX) (.ref c8) = some false)
    (ae9 : PySem.W.nsIn K mainGlobals "Contradiction" = some (some (.ref c9)))
    (ke9 : PySem.W.kitOne K (.ref CT) (.ref c9) = some false)
    (kf9 : PySem.W.kitOne K (.ref CX) (.ref c9) = some false)
    (egT : PySem.W.findIn K (.ref CT) "__getattribute__" = some (some (.builtin "BaseException.__getattribute__")))
    (ekT : PySem.W.findIn K (.ref CT) "__getattr__" = some none)
    (esT : PySem.W.subIn K (.ref CT) (.type "BaseException") = some true)
    (edT : PySem.W.hasDictIn K CT = true)
    (eaT : PySem.W.findIn K (.ref CT) "__class__" = some (some (.builtin "object.__class__")))
    (emT : PySem.W.mroIn K CT (.type "object") = some true)
    (exmT : PySem.W.exmOne K (.ref CT) (.ref CB) = some true)
    (olT : K.lookup CT = some (excClassObj nmT qT CT NT bsT bmT true snT subT abT colT ddT m0T m1T m2T m3T m5T "ValueError.__new__"))
    (osT : PySem.W.findIn K (.ref CT) "__setattr__" = some (some (.builtin "object.__setattr__")))
    (otT : PySem.W.typeIn K (.ref CT) = some (.type "type"))
    (okpT : PySem.W.keepIn K (.ref CT) = true)
    (veT : PySem.W.kitOne K (.ref CT) (.type "ValueError") = some true)
    (egX : PySem.W.findIn K (.ref CX) "__getattribute__" = some (some (.builtin "BaseException.__getattribute__")))
    (ekX : PySem.W.findIn K (.ref CX) "__getattr__" = some none)
    (esX : PySem.W.subIn K (.ref CX) (.type "BaseException") = some true)
    (edX : PySem.W.hasDictIn K CX = true)
    (eaX : PySem.W.findIn K (.ref CX) "__class__" = some (some (.builtin "object.__class__")))
    (emX : PySem.W.mroIn K CX (.type "object") = some true)
    (exmX : PySem.W.exmOne K (.ref CX) (.ref CB) = some true)
    (olX : K.lookup CX = some (excClassObj nmX qX CX NX bsX bmX true snX subX abX colX ddX m0X m1X m2X m3X m5X "ValueError.__new__"))
    (osX : PySem.W.findIn K (.ref CX) "__setattr__" = some (some (.builtin "object.__setattr__")))
    (otX : PySem.W.typeIn K (.ref CX) = some (.type "type"))
    (okpX : PySem.W.keepIn K (.ref CX) = true)
    (veX : PySem.W.kitOne K (.ref CX) (.type "ValueError") = some true)
    (iX : PySem.W.findIn K (.ref CX) "__init__" = some (some (.ref fX)))
    (tX : PySem.W.typeIn K (.ref fX) = some (.type "function"))
    (nR : PySem.W.findIn K (.ref CX) "row" = some none)
    (k_tx : PySem.W.kitOne K (.ref CT) (.ref CX) = some false)
    (k_xt : PySem.W.kitOne K (.ref CX) (.ref CT) = some false)
    (k_xx : PySem.W.kitOne K (.ref CX) (.ref CX) = some true)
    (mdx : PySem.W.nsIn K mainGlobals "MOST_DIGITS" = some (some (.int 20 u6)))
    (pcf : PySem.W.findCls K (.ref C) (.type "type") "parse" = some (.get (.builtin "classmethod.__get__") (.ref pP) .none (.ref C)))
    (pcr : PySem.W.recIn K pP "classmethod" = some (.ref gP :: rP))
    (pci : PySem.W.fnIn K gP = true)
    (own : PySem.W.kitOne K (.ref CT) (.ref CT) = some true)
    (gV : PySem.W.nsIn K mainGlobals "ValueError" = some none)
    (ehn : PySem.W.specialIn K (.builtin "object.__class__") "__get__" = some (some (.builtin "getset_descriptor.__get__")))
    (eht : PySem.W.takesIn K (.builtin "object.__class__") = some true)
    (nP : PySem.W.findIn K (.ref CT) "part" = some none)
    (nI : PySem.W.findIn K (.ref CT) "index" = some none)
    (rdB : PySem.W.readsIn K CB mB = true)
    (sgB : PySem.W.specialIn K (.ref CB) "__getattribute__" = some (some (.builtin "type.__getattribute__")))
    (inB : PySem.W.findCls K (.ref CB) mB "__init__" = some (.val (.builtin "ValueError.__init__")))
    (iT : PySem.W.findIn K (.ref CT) "__init__" = some (some (.ref fT)))
    (tT : PySem.W.typeIn K (.ref fT) = some (.type "function"))
    (mxl : PySem.W.nsIn K mainGlobals "MAX_LENGTH" = some (some (.int 99 u0)))
    (crd : PySem.W.readsIn K C (.type "type") = true)
    (cga : PySem.W.specialIn K (.ref C) "__getattribute__" = some (some (.builtin "type.__getattribute__")))
    (vML : PySem.W.findCls K (.ref C) (.type "type") "MAX_LIFE" = some (.val (.int 1000000000000000000 u1)))
    (cpg : PySem.W.plainGet K C Str.empty = true)
    (chd : PySem.W.hasDictIn K C = true)
    (cpo : PySem.W.plainOver K C = true)
    (csa : PySem.W.findIn K (.ref C) "__setattr__" = some (some (.builtin "object.__setattr__")))
    (nC : PySem.W.findIn K (.ref C) "_count" = some none)
    (nB : PySem.W.findIn K (.ref C) "_bridges" = some none)
    (mpa : PySem.W.findIn K (.ref C) "MAX_PLACES" = some (some (.int 12 u4)))
    (mpg : PySem.W.specialIn K (.int 12 u4) "__get__" = some none)
    (mba : PySem.W.findIn K (.ref C) "MAX_BRIDGES" = some (some (.int 24 u5)))
    (mbg : PySem.W.specialIn K (.int 24 u5) "__get__" = some none)
    (sIc : PySem.W.isClsIn K C = true)
    (sIf : PySem.W.findIn K (.ref C) "is_bridge" = some (some (.ref pS)))
    (sIt : PySem.W.typeIn K (.ref pS) = some (.type "staticmethod"))
    (sIs : PySem.W.specialIn K (.ref pS) "__get__" = some (some (.builtin "staticmethod.__get__")))
    (sIk : PySem.W.takesIn K (.ref pS) = some false)
    (sIr : PySem.W.recIn K pS "staticmethod" = some (.ref gS :: rS))
    (cmk : PySem.W.makesIn K C = true)
    (iTi : PySem.W.findIn K (.ref C) "__init__" = some (some (.ref fTi)))
    (fTiF : PySem.W.isFn K (.ref fTi) = true)
    (ckp : PySem.W.keepIn K (.ref C) = true)
    (pa1 : PySem.W.findIn K (.ref C) "place_count" = some (some (.ref p1)))
    (pg1 : PySem.W.specialIn K (.ref p1) "__get__" = some (some (.builtin "property.__get__")))
    (pt1 : PySem.W.takesIn K (.ref p1) = some true)
    (pr1 : PySem.W.recIn K p1 "property" = some (.ref g1 :: r1))
    (pa2 : PySem.W.findIn K (.ref C) "bridges" = some (some (.ref p2)))
    (pg2 : PySem.W.specialIn K (.ref p2) "__get__" = some (some (.builtin "property.__get__")))
    (pt2 : PySem.W.takesIn K (.ref p2) = some true)
    (pr2 : PySem.W.recIn K p2 "property" = some (.ref g2 :: r2))
    (pa4 : PySem.W.findIn K (.ref C) "text" = some (some (.ref p4)))
    (pg4 : PySem.W.specialIn K (.ref p4) "__get__" = some (some (.builtin "property.__get__")))
    (pt4 : PySem.W.takesIn K (.ref p4) = some true)
    (pr4 : PySem.W.recIn K p4 "property" = some (.ref g4 :: r4))
    (aMix : PySem.W.nsIn K mainGlobals "_law_mix" = some (some (.ref fMix)))
    (lMix : K.lookup fMix = some ⟨ocMix, odMix, .func (PySem.W.fnOf "_law_mix" "_law_mix" (fnArgs sMix) (fnBody sMix) (fnScope sMix) .none kVMix dcMix pmMix anMix cdMix ctMix), slMix⟩)
    (ccMix : PySem.W.codeIn K cdMix "_law_mix" = true)
    (kkMix : PySem.W.keepIn K (.ref fMix) = true)
    (aNext : PySem.W.nsIn K mainGlobals "_law_next" = some (some (.ref fNext)))
    (lNext : K.lookup fNext = some ⟨ocNext, odNext, .func (PySem.W.fnOf "_law_next" "_law_next" (fnArgs sNext) (fnBody sNext) (fnScope sNext) .none kVNext dcNext pmNext anNext cdNext ctNext), slNext⟩)
    (ccNext : PySem.W.codeIn K cdNext "_law_next" = true)
    (kkNext : PySem.W.keepIn K (.ref fNext) = true)
    (aAlike : PySem.W.nsIn K mainGlobals "_law_alike" = some (some (.ref fAlike)))
    (lAlike : K.lookup fAlike = some ⟨ocAlike, odAlike, .func (PySem.W.fnOf "_law_alike" "_law_alike" (fnArgs sAlike) (fnBody sAlike) (fnScope sAlike) .none kVAlike dcAlike pmAlike anAlike cdAlike ctAlike), slAlike⟩)
    (ccAlike : PySem.W.codeIn K cdAlike "_law_alike" = true)
    (kkAlike : PySem.W.keepIn K (.ref fAlike) = true)
    (aError : PySem.W.nsIn K mainGlobals "_law_error" = some (some (.ref fError)))
    (lError : K.lookup fError = some ⟨ocError, odError, .func (PySem.W.fnOf "_law_error" "_law_error" (fnArgs sError) (fnBody sError) (fnScope sError) .none kVError dcError pmError anError cdError ctError), slError⟩)
    (ccError : PySem.W.codeIn K cdError "_law_error" = true)
    (kkError : PySem.W.keepIn K (.ref fError) = true)
    (aLife : PySem.W.nsIn K mainGlobals "_law_life" = some (some (.ref fLife)))
    (lLife : K.lookup fLife = some ⟨ocLife, odLife, .func (PySem.W.fnOf "_law_life" "_law_life" (fnArgs sLife) (fnBody sLife) (fnScope sLife) .none kVLife dcLife pmLife anLife cdLife ctLife), slLife⟩)
    (ccLife : PySem.W.codeIn K cdLife "_law_life" = true)
    (kkLife : PySem.W.keepIn K (.ref fLife) = true)
    (aLinks : PySem.W.nsIn K mainGlobals "_law_links" = some (some (.ref fLinks)))
    (lLinks : K.lookup fLinks = some ⟨ocLinks, odLinks, .func (PySem.W.fnOf "_law_links" "_law_links" (fnArgs sLinks) (fnBody sLinks) (fnScope sLinks) .none kVLinks dcLinks pmLinks anLinks cdLinks ctLinks), slLinks⟩)
    (ccLinks : PySem.W.codeIn K cdLinks "_law_links" = true)
    (kkLinks : PySem.W.keepIn K (.ref fLinks) = true)
    (aLawText : PySem.W.nsIn K mainGlobals "_law_text" = some (some (.ref fLawText)))
    (lLawText : K.lookup fLawText = some ⟨ocLawText, odLawText, .func (PySem.W.fnOf "_law_text" "_law_text" (fnArgs sLawText) (fnBody sLawText) (fnScope sLawText) .none kVLawText dcLawText pmLawText anLawText cdLawText ctLawText), slLawText⟩)
    (ccLawText : PySem.W.codeIn K cdLawText "_law_text" = true)
    (kkLawText : PySem.W.keepIn K (.ref fLawText) = true)
    (aNumbers : PySem.W.nsIn K mainGlobals "_law_numbers" = some (some (.ref fNumbers)))
    (lNumbers : K.lookup fNumbers = some ⟨ocNumbers, odNumbers, .func (PySem.W.fnOf "_law_numbers" "_law_numbers" (fnArgs sNumbers) (fnBody sNumbers) (fnScope sNumbers) .none kVNumbers dcNumbers pmNumbers anNumbers cdNumbers ctNumbers), slNumbers⟩)
    (ccNumbers : PySem.W.codeIn K cdNumbers "_law_numbers" = true)
    (kkNumbers : PySem.W.keepIn K (.ref fNumbers) = true)
    (aLawRead : PySem.W.nsIn K mainGlobals "_law_read" = some (some (.ref fLawRead)))
    (lLawRead : K.lookup fLawRead = some ⟨ocLawRead, odLawRead, .func (PySem.W.fnOf "_law_read" "_law_read" (fnArgs sLawRead) (fnBody sLawRead) (fnScope sLawRead) .none kVLawRead dcLawRead pmLawRead anLawRead cdLawRead ctLawRead), slLawRead⟩)
    (ccLawRead : PySem.W.codeIn K cdLawRead "_law_read" = true)
    (kkLawRead : PySem.W.keepIn K (.ref fLawRead) = true)
    (aBent : PySem.W.nsIn K mainGlobals "_law_bent" = some (some (.ref fBent)))
    (lBent : K.lookup fBent = some ⟨ocBent, odBent, .func (PySem.W.fnOf "_law_bent" "_law_bent" (fnArgs sBent) (fnBody sBent) (fnScope sBent) .none kVBent dcBent pmBent anBent cdBent ctBent), slBent⟩)
    (ccBent : PySem.W.codeIn K cdBent "_law_bent" = true)
    (kkBent : PySem.W.keepIn K (.ref fBent) = true)
    (aIsNum : PySem.W.nsIn K mainGlobals "is_number" = some (some (.ref fIsNum)))
    (lIsNum : K.lookup fIsNum = some ⟨ocIsNum, odIsNum, .func (PySem.W.fnOf "is_number" "is_number" (fnArgs sIsNum) (fnBody sIsNum) (fnScope sIsNum) .none kVIsNum dcIsNum pmIsNum anIsNum cdIsNum ctIsNum), slIsNum⟩)
    (ccIsNum : PySem.W.codeIn K cdIsNum "is_number" = true)
    (kkIsNum : PySem.W.keepIn K (.ref fIsNum) = true)
    (aNumOf : PySem.W.nsIn K mainGlobals "number_of" = some (some (.ref fNumOf)))
    (lNumOf : K.lookup fNumOf = some ⟨ocNumOf, odNumOf, .func (PySem.W.fnOf "number_of" "number_of" (fnArgs sNumOf) (fnBody sNumOf) (fnScope sNumOf) .none kVNumOf dcNumOf pmNumOf anNumOf cdNumOf ctNumOf), slNumOf⟩)
    (ccNumOf : PySem.W.codeIn K cdNumOf "number_of" = true)
    (kkNumOf : PySem.W.keepIn K (.ref fNumOf) = true)
    (aRead : PySem.W.nsIn K mainGlobals "read_numbers" = some (some (.ref fRead)))
    (lRead : K.lookup fRead = some ⟨ocRead, odRead, .func (PySem.W.fnOf "read_numbers" "read_numbers" (fnArgs sRead) (fnBody sRead) (fnScope sRead) .none kVRead dcRead pmRead anRead cdRead ctRead), slRead⟩)
    (ccRead : PySem.W.codeIn K cdRead "read_numbers" = true)
    (kkRead : PySem.W.keepIn K (.ref fRead) = true)
    (aL : PySem.W.nsIn K mainGlobals "law" = some (some (.ref fL)))
    (lL : K.lookup fL = some ⟨ocL, odL, .func (PySem.W.fnOf "law" "law" (fnArgs sLawB) (fnBody sLawB) (fnScope sLawB) .none kVL dcL pmL anL (.ref cl) ctL), slL⟩)
    (ccL : PySem.W.codeIn K (.ref cl) "law" = true)
    (kkL : PySem.W.keepIn K (.ref fL) = true)
    (lITi : K.lookup fT = some ⟨ocITi, odITi, .func (PySem.W.fnOf "__init__" "InvalidTown.__init__" (L2.defArgs sITi) (L2.defBody sITi) (L2.defScope sITi) .none kVITi dcITi pmITi anITi cdITi ctITi), slITi⟩)
    (ccITi : PySem.W.codeIn K cdITi "InvalidTown.__init__" = true)
    (kkITi : PySem.W.keepIn K (.ref fT) = true)
    (lIXi : K.lookup fX = some ⟨ocIXi, odIXi, .func (PySem.W.fnOf "__init__" "InvalidText.__init__" (L2.defArgs sIXi) (L2.defBody sIXi) (L2.defScope sIXi) .none kVIXi dcIXi pmIXi anIXi cdIXi ctIXi), slIXi⟩)
    (ccIXi : PySem.W.codeIn K cdIXi "InvalidText.__init__" = true)
    (kkIXi : PySem.W.keepIn K (.ref fX) = true)
    (lTi : K.lookup fTi = some ⟨ocTi, odTi, .func (PySem.W.fnOf "__init__" "Town.__init__" (L2.defArgs sTi) (L2.defBody sTi) (L2.defScope sTi) .none kVTi dcTi pmTi anTi cdTi ctTi), slTi⟩)
    (ccTi : PySem.W.codeIn K cdTi "Town.__init__" = true)
    (kkTi : PySem.W.keepIn K (.ref fTi) = true)
    (lS : K.lookup gS = some ⟨ocS, odS, .func (PySem.W.fnOf "is_bridge" "Town.is_bridge" (L2.defArgs sIsB) (L2.defBody sIsB) (L2.defScope sIsB) .none kVS dcS pmS anS cdS ctS), slS⟩)
    (ccS : PySem.W.codeIn K cdS "Town.is_bridge" = true)
    (kkS : PySem.W.keepIn K (.ref gS) = true)
    (lPa : K.lookup gP = some ⟨ocPa, odPa, .func (PySem.W.fnOf "parse" "Town.parse" (L2.defArgs sPa) (L2.defBody sPa) (L2.defScope sPa) .none kVPa dcPa pmPa anPa cdPa ctPa), slPa⟩)
    (ccPa : PySem.W.codeIn K cdPa "Town.parse" = true)
    (kkPa : PySem.W.keepIn K (.ref gP) = true)
    (lg1 : K.lookup g1 = some ⟨ocg1, odg1, .func (PySem.W.fnOf "place_count" "Town.place_count" (L2.defArgs sPc) (L2.defBody sPc) (L2.defScope sPc) .none kVg1 dcg1 pmg1 ang1 cdg1 ctg1), slg1⟩)
    (ccg1 : PySem.W.codeIn K cdg1 "Town.place_count" = true)
    (kkg1 : PySem.W.keepIn K (.ref g1) = true)
    (lg2 : K.lookup g2 = some ⟨ocg2, odg2, .func (PySem.W.fnOf "bridges" "Town.bridges" (L2.defArgs sBr) (L2.defBody sBr) (L2.defScope sBr) .none kVg2 dcg2 pmg2 ang2 cdg2 ctg2), slg2⟩)
    (ccg2 : PySem.W.codeIn K cdg2 "Town.bridges" = true)
    (kkg2 : PySem.W.keepIn K (.ref g2) = true)
    (lg4 : K.lookup g4 = some ⟨ocg4, odg4, .func (PySem.W.fnOf "text" "Town.text" (L2.defArgs sTx) (L2.defBody sTx) (L2.defScope sTx) .none kVg4 dcg4 pmg4 ang4 cdg4 ctg4), slg4⟩)
    (ccg4 : PySem.W.codeIn K cdg4 "Town.text" = true)
    (kkg4 : PySem.W.keepIn K (.ref g4) = true)
    (z_len : PySem.W.nsIn K mainGlobals "len" = some none)
    (z_int : PySem.W.nsIn K mainGlobals "int" = some none)
    (z_max : PySem.W.nsIn K mainGlobals "max" = some none)
    (z_range : PySem.W.nsIn K mainGlobals "range" = some none)
    (z_list : PySem.W.nsIn K mainGlobals "list" = some none)
    (z_tuple : PySem.W.nsIn K mainGlobals "tuple" = some none)
    (z_isinstance : PySem.W.nsIn K mainGlobals "isinstance" = some none)
    (z_enumerate : PySem.W.nsIn K mainGlobals "enumerate" = some none)
    (z_dict : PySem.W.nsIn K mainGlobals "dict" = some none)
    (z_str : PySem.W.nsIn K mainGlobals "str" = some none)
    (z_bool : PySem.W.nsIn K mainGlobals "bool" = some none)
    (z_zip : PySem.W.nsIn K mainGlobals "zip" = some none)
    (ntP : K.lookup Pt = none)
    (cdH : PySem.W.codeHdIn K cl Pt = true)
    (oxrT : PySem.HandSPX.refsVE bmT = true) (oxrX : PySem.HandSPX.refsVE bmX = true) (tab : h.get? Pt = some { cls := .none, data := .fields #[] }) : LamX.LawAtS l w K C8.CX0 9 63 "_law_script" mg fa h := by
  have e := hfa.symm.trans (PySem.W.mg_of X G aL)
  cases e
  have T : BT mg := ⟨PySem.W.mg_none_of X G z_len, PySem.W.mg_none_of X G z_int, PySem.W.mg_none_of X G z_max, PySem.W.mg_none_of X G z_range, PySem.W.mg_none_of X G z_list, PySem.W.mg_none_of X G z_tuple, PySem.W.mg_none_of X G z_isinstance, PySem.W.mg_none_of X G z_enumerate, PySem.W.mg_none_of X G z_dict, PySem.W.mg_none_of X G z_str, PySem.W.mg_none_of X G z_bool⟩
  have U : _root_.T2.BT mg := ⟨PySem.W.mg_none_of X G z_len, PySem.W.mg_none_of X G z_int, PySem.W.mg_none_of X G z_max, PySem.W.mg_none_of X G z_range, PySem.W.mg_none_of X G z_list, PySem.W.mg_none_of X G z_tuple, PySem.W.mg_none_of X G z_isinstance, PySem.W.mg_none_of X G z_enumerate, PySem.W.mg_none_of X G z_dict, PySem.W.mg_none_of X G z_str, PySem.W.mg_none_of X G z_bool, PySem.W.mg_none_of X G z_zip, ⟨u6, PySem.W.mg_of X G mdx⟩⟩
  have oxT : OexC K CT := ⟨⟨nmT, qT, NT, bsT, bmT, snT, subT, abT, colT, ddT, m0T, m1T, m2T, m3T, m5T, olT, oxrT⟩, osT, esT, otT, okpT⟩
  have oxX : OexC K CX := ⟨⟨nmX, qX, NX, bsX, bmX, snX, subX, abX, colX, ddX, m0X, m1X, m2X, m3X, m5X, olX, oxrX⟩, osX, esX, otX, okpX⟩
  have T0 : Prog K mg CB CT fT C mB := ⟨PySem.W.mg_of X G aCB, rdB, sgB, inB, PySem.W.mg_of X G aCT, oxT, iT, tT, nP, nI, ⟨u0, PySem.W.mg_of X G mxl⟩, PySem.W.mg_of X G aC, ⟨crd, cga⟩, ⟨_, ⟨vML, ⟨_, rfl⟩⟩⟩⟩
  have TT : PTown K mg C pS gS := ⟨⟨cpg, chd, cpo, csa⟩, nC, nB, ⟨_, ⟨mpa, ⟨_, rfl⟩, mpg, by decide +kernel⟩⟩, ⟨_, ⟨mba, ⟨_, rfl⟩, mbg, by decide +kernel⟩⟩, ⟨cpg, sIc, sIf, sIt, sIs, sIk, by decide +kernel, ⟨_, sIr⟩⟩, kkS⟩
  have TX : ProgX K mg CX fX := ⟨PySem.W.mg_of X G aCX, oxX, iX, tX, nR⟩
  have T1 : Errs K mg CB CT CX := ⟨PySem.W.mg_of X G aCB, PySem.W.mg_of X G aCT, PySem.W.mg_of X G aCX, fun x hx => by
      simp only [List.mem_cons, List.not_mem_nil, or_false] at hx
      rcases hx with rfl | rfl | rfl | rfl | rfl | rfl | rfl | rfl | rfl | rfl
      · exact ⟨c0, PySem.W.mg_of X G ae0, ke0, kf0⟩
      · exact ⟨c1, PySem.W.mg_of X G ae1, ke1, kf1⟩
      · exact ⟨c2, PySem.W.mg_of X G ae2, ke2, kf2⟩
      · exact ⟨c3, PySem.W.mg_of X G ae3, ke3, kf3⟩
      · exact ⟨c4, PySem.W.mg_of X G ae4, ke4, kf4⟩
      · exact ⟨c5, PySem.W.mg_of X G ae5, ke5, kf5⟩
      · exact ⟨c6, PySem.W.mg_of X G ae6, ke6, kf6⟩
      · exact ⟨c7, PySem.W.mg_of X G ae7, ke7, kf7⟩
      · exact ⟨c8, PySem.W.mg_of X G ae8, ke8, kf8⟩
      · exact ⟨c9, PySem.W.mg_of X G ae9, ke9, kf9⟩
    , own, k_tx, k_xt, k_xx, veT, veX, PySem.W.mg_none_of X G gV, ⟨egT, ekT, esT, edT, eaT, ehn, eht, emT⟩, ⟨egX, ekX, esX, edX, eaX, ehn, eht, emX⟩, ⟨egT, ekT, esT, edT⟩, ⟨egX, ekX, esX, edX⟩, nP, nI, nR, exmT, exmX⟩
  have FMix : C8.Fun K "_law_mix" "_law_mix" sMix fMix _ := ⟨_, _, _, _, _, _, _, _, _, _, rfl, lMix, ccMix⟩
  have DMix : Def K mg "_law_mix" sMix fMix _ := ⟨FMix, PySem.W.mg_of X G aMix, kkMix⟩
  have bMix := FMix.binds rfl (ps := ["_law_script", "_law_seed"]) fun _ _ _ _ _ _ us hl => match us, hl with | [_, _], _ => rfl
  have FNext : C8.Fun K "_law_next" "_law_next" sNext fNext _ := ⟨_, _, _, _, _, _, _, _, _, _, rfl, lNext, ccNext⟩
  have DNext : Def K mg "_law_next" sNext fNext _ := ⟨FNext, PySem.W.mg_of X G aNext, kkNext⟩
  have bNext := FNext.binds rfl (ps := ["_law_h", "_law_limit"]) fun _ _ _ _ _ _ us hl => match us, hl with | [_, _], _ => rfl
  have FAlike : C8.Fun K "_law_alike" "_law_alike" sAlike fAlike _ := ⟨_, _, _, _, _, _, _, _, _, _, rfl, lAlike, ccAlike⟩
  have DAlike : Def K mg "_law_alike" sAlike fAlike _ := ⟨FAlike, PySem.W.mg_of X G aAlike, kkAlike⟩
  have bAlike := FAlike.binds rfl (ps := ["_law_found", "_law_due"]) fun _ _ _ _ _ _ us hl => match us, hl with | [_, _], _ => rfl
  have FError : C8.Fun K "_law_error" "_law_error" sError fError _ := ⟨_, _, _, _, _, _, _, _, _, _, rfl, lError, ccError⟩
  have DError : Def K mg "_law_error" sError fError _ := ⟨FError, PySem.W.mg_of X G aError, kkError⟩
  have bError := FError.binds rfl (ps := ["_law_call"]) fun _ _ _ _ _ _ us hl => match us, hl with | [_], _ => rfl
  have FLife : C8.Fun K "_law_life" "_law_life" sLife fLife _ := ⟨_, _, _, _, _, _, _, _, _, _, rfl, lLife, ccLife⟩
  have DLife : Def K mg "_law_life" sLife fLife _ := ⟨FLife, PySem.W.mg_of X G aLife, kkLife⟩
  have bLife := FLife.binds rfl (ps := ["_law_h", "_law_wide"]) fun _ _ _ _ _ _ us hl => match us, hl with | [_, _], _ => rfl
  have FLinks : C8.Fun K "_law_links" "_law_links" sLinks fLinks _ := ⟨_, _, _, _, _, _, _, _, _, _, rfl, lLinks, ccLinks⟩
  have DLinks : Def K mg "_law_links" sLinks fLinks _ := ⟨FLinks, PySem.W.mg_of X G aLinks, kkLinks⟩
  have bLinks := FLinks.binds rfl (ps := ["_law_h", "_law_count", "_law_most", "_law_wide"]) fun _ _ _ _ _ _ us hl => match us, hl with | [_, _, _, _], _ => rfl
  have FLawText : C8.Fun K "_law_text" "_law_text" sLawText fLawText _ := ⟨_, _, _, _, _, _, _, _, _, _, rfl, lLawText, ccLawText⟩
  have DLawText : Def K mg "_law_text" sLawText fLawText _ := ⟨FLawText, PySem.W.mg_of X G aLawText, kkLawText⟩
  have bLawText := FLawText.binds rfl (ps := ["_law_count", "_law_links_here"]) fun _ _ _ _ _ _ us hl => match us, hl with | [_, _], _ => rfl
  have FNumbers : C8.Fun K "_law_numbers" "_law_numbers" sNumbers fNumbers _ := ⟨_, _, _, _, _, _, _, _, _, _, rfl, lNumbers, ccNumbers⟩
  have DNumbers : Def K mg "_law_numbers" sNumbers fNumbers _ := ⟨FNumbers, PySem.W.mg_of X G aNumbers, kkNumbers⟩
  have bNumbers := FNumbers.binds rfl (ps := ["_law_words"]) fun _ _ _ _ _ _ us hl => match us, hl with | [_], _ => rfl
  have FLawRead : C8.Fun K "_law_read" "_law_read" sLawRead fLawRead _ := ⟨_, _, _, _, _, _, _, _, _, _, rfl, lLawRead, ccLawRead⟩
  have DLawRead : Def K mg "_law_read" sLawRead fLawRead _ := ⟨FLawRead, PySem.W.mg_of X G aLawRead, kkLawRead⟩
  have bLawRead := FLawRead.binds rfl (ps := ["_law_text_here"]) fun _ _ _ _ _ _ us hl => match us, hl with | [_], _ => rfl
  have FBent : C8.Fun K "_law_bent" "_law_bent" sBent fBent _ := ⟨_, _, _, _, _, _, _, _, _, _, rfl, lBent, ccBent⟩
  have DBent : Def K mg "_law_bent" sBent fBent _ := ⟨FBent, PySem.W.mg_of X G aBent, kkBent⟩
  have bBent := FBent.binds rfl (ps := ["_law_h", "_law_text_here"]) fun _ _ _ _ _ _ us hl => match us, hl with | [_, _], _ => rfl
  have FIsNum : C8.Fun K "is_number" "is_number" sIsNum fIsNum _ := ⟨_, _, _, _, _, _, _, _, _, _, rfl, lIsNum, ccIsNum⟩
  have DIsNum : Def K mg "is_number" sIsNum fIsNum _ := ⟨FIsNum, PySem.W.mg_of X G aIsNum, kkIsNum⟩
  have bIsNum := FIsNum.binds rfl (ps := ["word"]) fun _ _ _ _ _ _ us hl => match us, hl with | [_], _ => rfl
  have FNumOf : C8.Fun K "number_of" "number_of" sNumOf fNumOf _ := ⟨_, _, _, _, _, _, _, _, _, _, rfl, lNumOf, ccNumOf⟩
  have DNumOf : Def K mg "number_of" sNumOf fNumOf _ := ⟨FNumOf, PySem.W.mg_of X G aNumOf, kkNumOf⟩
  have bNumOf := FNumOf.binds rfl (ps := ["word"]) fun _ _ _ _ _ _ us hl => match us, hl with | [_], _ => rfl
  have FRead : C8.Fun K "read_numbers" "read_numbers" sRead fRead _ := ⟨_, _, _, _, _, _, _, _, _, _, rfl, lRead, ccRead⟩
  have DRead : Def K mg "read_numbers" sRead fRead _ := ⟨FRead, PySem.W.mg_of X G aRead, kkRead⟩
  have bRead := FRead.binds rfl (ps := ["line", "form"]) fun _ _ _ _ _ _ us hl => match us, hl with | [_, _], _ => rfl
  have FITi := L2.fun_mk (st := sITi) lITi ccITi kkITi
  have FIXi := L2.fun_mk (st := sIXi) lIXi ccIXi kkIXi
  have FTi := L2.fun_mk (st := sTi) lTi ccTi kkTi
  have FS := L2.fun_mk (st := sIsB) lS ccS kkS
  have FPa := L2.fun_mk (st := sPa) lPa ccPa kkPa
  have Fg1 := L2.fun_mk (st := sPc) lg1 ccg1 kkg1
  have Fg2 := L2.fun_mk (st := sBr) lg2 ccg2 kkg2
  have Fg4 := L2.fun_mk (st := sTx) lg4 ccg4 kkg4
  have bIXi := FIXi.binds (ps := ["self", "row"]) fun _ _ _ _ _ _ us hl => match us, hl with | [_, _], _ => rfl
  have bPa := FPa.binds (ps := ["cls", "text"]) fun _ _ _ _ _ _ us hl => match us, hl with | [_, _], _ => rfl
  have bITi := FITi.binds (ps := ["self", "part", "index"]) fun _ _ _ _ _ _ us hl => match us, hl with | [_, _, _], _ => rfl
  have bTi := FTi.binds (ps := ["self", "count", "bridges"]) fun _ _ _ _ _ _ us hl => match us, hl with | [_, _, _], _ => rfl
  have bS := FS.binds (ps := ["count", "bridge"]) fun _ _ _ _ _ _ us hl => match us, hl with | [_, _], _ => rfl
  have bg1 := Fg1.binds (ps := ["self"]) fun _ _ _ _ _ _ us hl => match us, hl with | [_], _ => rfl
  have bg2 := Fg2.binds (ps := ["self"]) fun _ _ _ _ _ _ us hl => match us, hl with | [_], _ => rfl
  have bg4 := Fg4.binds (ps := ["self"]) fun _ _ _ _ _ _ us hl => match us, hl with | [_], _ => rfl
  refine ⟨PySem.W.fnOf "law" "law" (fnArgs sLawB) (fnBody sLawB) (fnScope sLawB) .none kVL dcL pmL anL (.ref cl) ctL, [(cl, Pt)], spLaw K Pt lamQ, fun p hp => ?_, fun p hp => ?_, fun p hp => ?_, fun s u => .of_eq rfl, fun H a ns hl _ hH hS => ⟨a, ns, rfl, hS, hl, tabs_new (hH _ (List.mem_singleton.mpr rfl)), fun _ => rfl⟩, fun base KX Gb TB => ?_⟩
  · rw [List.mem_singleton.mp hp]; exact tab
  · rw [List.mem_singleton.mp hp]; exact ntP
  · rw [List.mem_singleton.mp hp]; exact PySem.W.codeHd_of_K X cdH
  have cNext : Cal l.prog w K mg base 1 "_law_next" spNext [] := ok_next DNext bNext T
  have Cs0 : _root_.T1.Cs l.prog w K mg base := ⟨cNext⟩
  have Cs2 : _root_.T2.Cs l.prog w K mg base := ⟨ok_isNum DIsNum bIsNum U, ok_numOf DNumOf bNumOf U⟩
  have CRd := ok_read DRead bRead U Cs2
  have C20 : Cl l.prog w K mg base := ⟨cNext, ok_lifeF DLife bLife T Cs0⟩
  have CNu : Cr l.prog w K mg base := ⟨ok_numbers DNumbers bNumbers T⟩
  have C9 : LawC l.prog w K mg base := ⟨ok_mix DMix bMix T, cNext, ok_linksF DLinks bLinks T C20, ok_lawText DLawText bLawText T, ok_bent DBent bBent T C20, ok_lawRead DLawRead bLawRead T CNu, ok_alike DAlike bAlike T 3, ok_alikeS DAlike bAlike T⟩
  have OS := ok_isB (P := l.prog) (w := w) (base := base) FS T0 T
  have OIT := ok_ITi (P := l.prog) (w := w) (base := base) FITi T0
  have OIX := ok_IXi (P := l.prog) (w := w) (base := base) FIXi T0 TX
  have OTi := ok_Ti FTi T0 TT T OS bS OIT bITi
  have MK : L2.Mk K C fTi := ⟨cmk, iTi, fTiF, ckp⟩
  have OPa := ok_Pa FPa TX T U CRd OIX bIXi OTi bTi MK
  have RPa : FnR l.prog w K mg base (L2.CX l.prog w) 5 gP (spF K (fsParse C CT CX)) := (OPa.raw bPa .nil).imp fun vs H Q E h => by rw [List.append_nil]; exact h
  exact ok_law lL ccL T0 TT T T1 C9 ⟨PySem.W.mg_of X G aError, kkError, lError, ccError, bError⟩ (TB _ (List.mem_singleton.mpr rfl)) MK OTi bTi ⟨crd, cga⟩ ⟨pcf, ⟨_, pcr⟩, pci⟩ RPa
    ⟨pa1, pg1, pt1, ⟨_, pr1⟩⟩ (ok_Pc Fg1 TT) bg1 ⟨pa2, pg2, pt2, ⟨_, pr2⟩⟩ (ok_Br Fg2 TT) bg2 ⟨pa4, pg4, pt4, ⟨_, pr4⟩⟩ (ok_Tx Fg4 TT T) bg4
end T1
open PySem PySem.W PyProof.Rows
set_option maxRecDepth 100000 in
set_option maxHeartbeats 0 in
theorem PySem.Challenge.cw_wornbridges_k02_whole_texts_of_towns_holds : PySem.Challenge.rw_wornbridges_k02_whole_texts_of_towns.Holds := by
  w_on; o_law; k_head; (case hw => w_witness2)
  k_fill
  refine LamX.walk_ofTs (l := PySem.Challenge.rw_wornbridges_k02_whole_texts_of_towns) (n := 63) (k := 9) (CX := fun _ => C8.CX0) (x := "_law_script") rfl (by decide) rfl ⟨rfl, by decide, by decide⟩ (fun w h Y => PySem.W.km_in_of Y) ?F (fun _ _ _ _ _ z => z)
  case F =>
    intro w mg fa h Y KX G hmg
    have hT8 := PySem.W.km_tabs_of Y
    refine' T1.all_mk (mB := .type "type") KX G hmg ?aCB ?aCT ?aCX ?aC ?ae0 ?ke0 ?kf0 ?ae1 ?ke1 ?kf1 ?ae2 ?ke2 ?kf2 ?ae3 ?ke3 ?kf3 ?ae4 ?ke4 ?kf4 ?ae5 ?ke5 ?kf5 ?ae6 ?ke6 ?kf6 ?ae7 ?ke7 ?kf7 ?ae8 ?ke8 ?kf8 ?ae9 ?ke9 ?kf9 ?egT ?ekT ?esT ?edT ?eaT ?emT ?exmT ?olT ?osT ?otT ?okpT ?veT ?egX ?ekX ?esX ?edX ?eaX ?emX ?exmX ?olX ?osX ?otX ?okpX ?veX ?iX ?tX ?nR ?k_tx ?k_xt ?k_xx ?mdx ?pcf ?pcr ?pci ?own ?gV ?ehn ?eht ?nP ?nI ?rdB ?sgB ?inB ?iT ?tT ?mxl ?crd ?cga ?vML ?cpg ?chd ?cpo ?csa ?nC ?nB ?mpa ?mpg ?mba ?mbg ?sIc ?sIf ?sIt ?sIs ?sIk ?sIr ?cmk ?iTi ?fTiF ?ckp ?pa1 ?pg1 ?pt1 ?pr1 ?pa2 ?pg2 ?pt2 ?pr2 ?pa4 ?pg4 ?pt4 ?pr4 ?aMix ?lMix ?ccMix ?kkMix ?aNext ?lNext ?ccNext ?kkNext ?aAlike ?lAlike ?ccAlike ?kkAlike ?aError ?lError ?ccError ?kkError ?aLife ?lLife ?ccLife ?kkLife ?aLinks ?lLinks ?ccLinks ?kkLinks ?aLawText ?lLawText ?ccLawText ?kkLawText ?aNumbers ?lNumbers ?ccNumbers ?kkNumbers ?aLawRead ?lLawRead ?ccLawRead ?kkLawRead ?aBent ?lBent ?ccBent ?kkBent ?aIsNum ?lIsNum ?ccIsNum ?kkIsNum ?aNumOf ?lNumOf ?ccNumOf ?kkNumOf ?aRead ?lRead ?ccRead ?kkRead ?aL ?lL ?ccL ?kkL ?lITi ?ccITi ?kkITi ?lIXi ?ccIXi ?kkIXi ?lTi ?ccTi ?kkTi ?lS ?ccS ?kkS ?lPa ?ccPa ?kkPa ?lg1 ?ccg1 ?kkg1 ?lg2 ?ccg2 ?kkg2 ?lg4 ?ccg4 ?kkg4 ?z_len ?z_int ?z_max ?z_range ?z_list ?z_tuple ?z_isinstance ?z_enumerate ?z_dict ?z_str ?z_bool ?z_zip ?ntP ?cdH ?oxrT ?oxrX ?tab
    (case aCB => k_is)
    (case aCT => k_is)
    (case aCX => k_is)
    (case aC => k_is)
    (case ae0 => k_is)
    (case ke0 => kernel_rfl)
    (case kf0 => kernel_rfl)
    (case ae1 => k_is)
    (case ke1 => kernel_rfl)
    (case kf1 => kernel_rfl)
    (case ae2 => k_is)
    (case ke2 => kernel_rfl)
    (case kf2 => kernel_rfl)
    (case ae3 => k_is)
    (case ke3 => kernel_rfl)
    (case kf3 => kernel_rfl)
    (case ae4 => k_is)
    (case ke4 => kernel_rfl)
    (case kf4 => kernel_rfl)
    (case ae5 => k_is)
    (case ke5 => kernel_rfl)
    (case kf5 => kernel_rfl)
    (case ae6 => k_is)
    (case ke6 => kernel_rfl)
    (case kf6 => kernel_rfl)
    (case ae7 => k_is)
    (case ke7 => kernel_rfl)
    (case kf7 => kernel_rfl)
    (case ae8 => k_is)
    (case ke8 => kernel_rfl)
    (case kf8 => kernel_rfl)
    (case ae9 => k_is)
    (case ke9 => kernel_rfl)
    (case kf9 => kernel_rfl)
    (case egT => k_is)
    (case ekT => k_is)
    (case esT => k_is)
    (case edT => k_is)
    (case eaT => k_is)
    (case emT => k_is)
    (case exmT => kernel_rfl)
    (case olT => k_is)
    (case osT => k_is)
    (case otT => k_is)
    (case okpT => k_is)
    (case veT => kernel_rfl)
    (case egX => k_is)
    (case ekX => k_is)
    (case esX => k_is)
    (case edX => k_is)
    (case eaX => k_is)
    (case emX => k_is)
    (case exmX => kernel_rfl)
    (case olX => k_is)
    (case osX => k_is)
    (case otX => k_is)
    (case okpX => k_is)
    (case veX => kernel_rfl)
    (case iX => k_is)
    (case tX => k_is)
    (case nR => k_is)
    (case k_tx => kernel_rfl)
    (case k_xt => kernel_rfl)
    (case k_xx => kernel_rfl)
    (case mdx => k_is)
    (case pcf => k_is)
    (case pcr => k_is)
    (case pci => k_is)
    (case own => kernel_rfl)
    (case gV => k_is)
    (case ehn => k_is)
    (case eht => k_is)
    (case nP => k_is)
    (case nI => k_is)
    (case rdB => k_is)
    (case sgB => k_is)
    (case inB => k_is)
    (case iT => k_is)
    (case tT => k_is)
    (case mxl => k_is)
    (case crd => k_is)
    (case cga => k_is)
    (case vML => k_is)
    (case cpg => k_is)
    (case chd => k_is)
    (case cpo => k_is)
    (case csa => k_is)
    (case nC => k_is)
    (case nB => k_is)
    (case mpa => k_is)
    (case mpg => k_is)
    (case mba => k_is)
    (case mbg => k_is)
    (case sIc => k_is)
    (case sIf => k_is)
    (case sIt => k_is)
    (case sIs => k_is)
    (case sIk => k_is)
    (case sIr => k_is)
    (case cmk => k_is)
    (case iTi => k_is)
    (case fTiF => k_is)
    (case ckp => k_is)
    (case pa1 => k_is)
    (case pg1 => k_is)
    (case pt1 => k_is)
    (case pr1 => k_is)
    (case pa2 => k_is)
    (case pg2 => k_is)
    (case pt2 => k_is)
    (case pr2 => k_is)
    (case pa4 => k_is)
    (case pg4 => k_is)
    (case pt4 => k_is)
    (case pr4 => k_is)
    (case aMix => k_is)
    (case lMix => k_is)
    (case ccMix => k_is)
    (case kkMix => k_is)
    (case aNext => k_is)
    (case lNext => k_is)
    (case ccNext => k_is)
    (case kkNext => k_is)
    (case aAlike => k_is)
    (case lAlike => k_is)
    (case ccAlike => k_is)
    (case kkAlike => k_is)
    (case aError => k_is)
    (case lError => k_is)
    (case ccError => k_is)
    (case kkError => k_is)
    (case aLife => k_is)
    (case lLife => k_is)
    (case ccLife => k_is)
    (case kkLife => k_is)
    (case aLinks => k_is)
    (case lLinks => k_is)
    (case ccLinks => k_is)
    (case kkLinks => k_is)
    (case aLawText => k_is)
    (case lLawText => k_is)
    (case ccLawText => k_is)
    (case kkLawText => k_is)
    (case aNumbers => k_is)
    (case lNumbers => k_is)
    (case ccNumbers => k_is)
    (case kkNumbers => k_is)
    (case aLawRead => k_is)
    (case lLawRead => k_is)
    (case ccLawRead => k_is)
    (case kkLawRead => k_is)
    (case aBent => k_is)
    (case lBent => k_is)
    (case ccBent => k_is)
    (case kkBent => k_is)
    (case aIsNum => k_is)
    (case lIsNum => k_is)
    (case ccIsNum => k_is)
    (case kkIsNum => k_is)
    (case aNumOf => k_is)
    (case lNumOf => k_is)
    (case ccNumOf => k_is)
    (case kkNumOf => k_is)
    (case aRead => k_is)
    (case lRead => k_is)
    (case ccRead => k_is)
    (case kkRead => k_is)
    (case aL => k_is)
    (case lL => k_is)
    (case ccL => k_is)
    (case kkL => k_is)
    (case lITi => k_is)
    (case ccITi => k_is)
    (case kkITi => k_is)
    (case lIXi => k_is)
    (case ccIXi => k_is)
    (case kkIXi => k_is)
    (case lTi => k_is)
    (case ccTi => k_is)
    (case kkTi => k_is)
    (case lS => k_is)
    (case ccS => k_is)
    (case kkS => k_is)
    (case lPa => k_is)
    (case ccPa => k_is)
    (case kkPa => k_is)
    (case lg1 => k_is)
    (case ccg1 => k_is)
    (case kkg1 => k_is)
    (case lg2 => k_is)
    (case ccg2 => k_is)
    (case kkg2 => k_is)
    (case lg4 => k_is)
    (case ccg4 => k_is)
    (case kkg4 => k_is)
    (case z_len => k_is)
    (case z_int => k_is)
    (case z_max => k_is)
    (case z_range => k_is)
    (case z_list => k_is)
    (case z_tuple => k_is)
    (case z_isinstance => k_is)
    (case z_enumerate => k_is)
    (case z_dict => k_is)
    (case z_str => k_is)
    (case z_bool => k_is)
    (case z_zip => k_is)
    (case tab => exact hT8 _ (by k_mem))
    (case ntP => kernel_rfl)
    (case cdH => kernel_rfl)
    (case oxrT => decide +kernel)
    (case oxrX => decide +kernel)

