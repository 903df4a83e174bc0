import PyProof.Rows.All
import Wide.All
import OpenK.AllK
import Wide.FinOn
import HandS.Base
import HandS.Call
import HandS.List
import HandS.Comp
import HandS.Ends
import HandS.Dict
import HandS.Iter
import HandS.Text
import HandS.More
import HandS.Words
import HandS.WordsList
import HandS.Wide
import HandS.WideBits
import HandS.Style
import PySem.Challenge.RW_arealots_k03_whole_moves_undone_and_done
set_option Elab.async false
set_option linter.all false
set_option maxRecDepth 100000
set_option maxHeartbeats 4000000
/-! Readings by rules that hand on what is known of the heap: lists that may change, tuples that stay. -/
namespace Z
open PySem L2

abbrev LS := List (Addr × List V)
/-- everything but the objects at M stands as it stood -/
def Fr (M : List Addr) (H H' : Hp) : Prop := ∀ a o, H a = some o → a ∉ M → H' a = some o
theorem Fr.refl (M : List Addr) (H : Hp) : Fr M H H := fun _ _ h _ => h
theorem Fr.trans {M : List Addr} {H H1 H2 : Hp} (a : Fr M H H1) (b : Fr M H1 H2) : Fr M H H2 := fun x o h n => b x o (a x o h n) n
theorem Fr.mono {M N : List Addr} {H H' : Hp} (a : Fr M H H') (s : ∀ x ∈ M, x ∈ N) : Fr N H H' := fun x o h n => a x o h fun z => n (s x z)

/-- Γ: lists, each at a place of its own; Θ: tuples; H0: the heap at the def's entry; M: what the def may change of it -/
structure Sep (K : PySem.W.Frag) (H0 : Hp) (M : List Addr) (Γ Θ : LS) (H : Hp) : Prop where
  ls : ∀ p ∈ Γ, H p.1 = some (.lst p.2)
  nd : (Γ.map (·.1)).Nodup
  ts : ∀ p ∈ Θ, SqT K H p.1 p.2
  fr : Fr M H0 H
  ms : ∀ a ∈ M, ∃ xs, H a = some (.lst xs)

/-- (p, xs) taken out of Γ leaves Γ' -/
inductive Pick (p : Addr) (xs : List V) : LS → LS → Prop
  | here {Γ : LS} : Pick p xs ((p, xs) :: Γ) Γ
  | there {q : Addr × List V} {Γ Γ' : LS} : Pick p xs Γ Γ' → Pick p xs (q :: Γ) (q :: Γ')
theorem Pick.mem {p : Addr} {xs : List V} : ∀ {Γ Γ' : LS}, Pick p xs Γ Γ' → (p, xs) ∈ Γ
  | _, _, .here => List.mem_cons_self
  | _, _, .there h => List.mem_cons_of_mem _ h.mem
theorem Pick.sub {p : Addr} {xs : List V} : ∀ {Γ Γ' : LS}, Pick p xs Γ Γ' → ∀ q ∈ Γ', q ∈ Γ
  | _, _, .here => fun _ h => List.mem_cons_of_mem _ h
  | _, _, .there h => fun q hq => (List.mem_cons.mp hq).elim (fun e => e ▸ List.mem_cons_self) fun z => List.mem_cons_of_mem _ (h.sub q z)
theorem Pick.nd {p : Addr} {xs : List V} : ∀ {Γ Γ' : LS}, Pick p xs Γ Γ' → (Γ.map (·.1)).Nodup → (p :: Γ'.map (·.1)).Nodup
  | _, _, .here, h => h
  | _, _, .there (q := q) (Γ' := Γ') k, h => by
    rw [List.map_cons, List.nodup_cons] at h
    have ih := k.nd h.2
    rw [List.nodup_cons] at ih
    rw [List.map_cons, List.nodup_cons, List.nodup_cons]
    refine ⟨fun z => ?_, fun z => h.1 ?_, ih.2⟩
    · rcases List.mem_cons.mp z with e | z
      · exact h.1 (List.mem_map.mpr ⟨(p, xs), k.mem, e⟩)
      · exact ih.1 z
    · obtain ⟨r, hr, e⟩ := List.mem_map.mp z
      exact List.mem_map.mpr ⟨r, k.sub r hr, e⟩

section
variable {K : PySem.W.Frag} {H0 H H' : Hp} {M : List Addr} {Γ Γ' Θ : LS} {p w : Addr} {xs ys l : List V}

theorem sqT_fr {N : List Addr} (h : SqT K H p xs) (f : Fr N H H') (hN : ∀ a ∈ N, ∃ ys, H a = some (.lst ys)) : SqT K H' p xs := by
  have ne : ∀ {u : HO}, H p = some u → (∀ ys, u ≠ .lst ys) → p ∉ N := fun {u} e d z => by
    obtain ⟨ys, q⟩ := hN p z
    rw [e] at q
    exact d ys (Option.some.inj q)
  rcases h with (h | ⟨o, h⟩) | h
  · exact .inl (.inl (f _ _ h (ne h (by intro ys z; cases z))))
  · exact .inl (.inr ⟨o, f _ _ h (ne h (by intro ys z; cases z))⟩)
  · exact .inr h
/-- a list handed in that is not ours to change -/
theorem sqL_fr (h : SqL K H0 p xs) (f : Fr M H0 H) (hp : p ∉ M) : SqL K H p xs := by
  rcases h with (h | ⟨o, h⟩) | h
  · exact .inl (.inl (f _ _ h hp))
  · exact .inl (.inr ⟨o, f _ _ h hp⟩)
  · exact .inr h
theorem Sep.at (S : Sep K H0 M Γ Θ H) (k : Pick p xs Γ Γ') : H p = some (.lst xs) := S.ls _ k.mem
theorem Sep.sq (S : Sep K H0 M Γ Θ H) (k : Pick p xs Γ Γ') : SqL K H p xs := .inl (.inl (S.at k))
theorem Sep.tp (S : Sep K H0 M Γ Θ H) (k : (p, xs) ∈ Θ) : SqT K H p xs := S.ts _ k
theorem Sep.old (S : Sep K H0 M Γ Θ H) (h : H p = none) : H0 p = none := by
  cases e : H0 p with
  | none => rfl
  | some o =>
    by_cases hm : p ∈ M
    · obtain ⟨ys, q⟩ := S.ms p hm
      rw [h] at q
      cases q
    · have q := S.fr p o e hm
      rw [h] at q
      cases q
/-- a def's entry -/
theorem Sep.start {Γ : LS} (h : ∀ q ∈ Γ, H q.1 = some (.lst q.2)) (nd : (Γ.map (·.1)).Nodup) (ht : ∀ q ∈ Θ, SqT K H q.1 q.2) (hM : ∀ a ∈ M, ∃ ys, H a = some (.lst ys)) : Sep K H M Γ Θ H := ⟨h, nd, ht, Fr.refl _ _, hM⟩
/-- a new object: all is kept -/
theorem Sep.kept (S : Sep K H0 M Γ Θ H) (f : Fr [] H H') : Sep K H0 M Γ Θ H' :=
  ⟨fun q hq => f _ _ (S.ls q hq) (by simp), S.nd, fun q hq => sqT_fr (S.ts q hq) f (fun _ z => by simp at z), fun a o h n => f _ _ (S.fr a o h n) (by simp), fun a ha => by
    obtain ⟨ys, q⟩ := S.ms a ha
    exact ⟨ys, f _ _ q (by simp)⟩⟩
theorem Fr.new {o : HO} (h : H p = none) : Fr [] H (upd H p o) := fun a u e _ => by
  rw [upd_ne (ne_of_none e h)]
  exact e
theorem Sep.addT (S : Sep K H0 M Γ Θ H) (h : SqT K H p xs) : Sep K H0 M Γ ((p, xs) :: Θ) H :=
  ⟨S.ls, S.nd, fun q hq => (List.mem_cons.mp hq).elim (fun e => e ▸ h) (S.ts q), S.fr, S.ms⟩
theorem Sep.addL (S : Sep K H0 M Γ Θ H) (h : H p = some (.lst xs)) (hn : p ∉ Γ.map (·.1)) : Sep K H0 M ((p, xs) :: Γ) Θ H :=
  ⟨fun q hq => (List.mem_cons.mp hq).elim (fun e => e ▸ h) (S.ls q), List.nodup_cons.mpr ⟨hn, S.nd⟩, S.ts, S.fr, S.ms⟩
theorem Sep.notin (S : Sep K H0 M Γ Θ H) (h : H p = none) : p ∉ Γ.map (·.1) := fun z => by
  obtain ⟨q, hq, e⟩ := List.mem_map.mp z
  have h1 := S.ls q hq
  rw [e, h] at h1
  cases h1
theorem Sep.newT (S : Sep K H0 M Γ Θ H) (h : H p = none) : Sep K H0 M Γ ((p, xs) :: Θ) (upd H p (.tup xs)) := (S.kept (Fr.new h)).addT (.inl (.inl upd_same))
theorem Sep.newL (S : Sep K H0 M Γ Θ H) (h : H p = none) : Sep K H0 M ((p, xs) :: Γ) Θ (upd H p (.lst xs)) := (S.kept (Fr.new h)).addL upd_same (S.notin h)
/-- the list at w has changed, all else is kept -/
theorem Sep.mut (S : Sep K H0 M Γ Θ H) (k : Pick w l Γ Γ') (hw : w ∈ M ∨ H0 w = none) (f : Fr [w] H H') (h : H' w = some (.lst ys)) : Sep K H0 M ((w, ys) :: Γ') Θ H' := by
  have nd := k.nd S.nd
  have hl := S.at k
  refine ⟨fun q hq => ?_, nd, fun q hq => sqT_fr (S.ts q hq) f (fun a ha => ⟨l, by rw [List.mem_singleton.mp ha]; exact hl⟩), fun a o e n => ?_, fun a ha => ?_⟩
  · rcases List.mem_cons.mp hq with e | hq
    · rw [e]
      exact h
    · refine f _ _ (S.ls q (k.sub q hq)) fun z => ?_
      have z := List.mem_singleton.mp z
      rw [List.nodup_cons] at nd
      exact nd.1 (List.mem_map.mpr ⟨q, hq, z⟩)
  · refine f _ _ (S.fr a o e n) fun z => ?_
    have z := List.mem_singleton.mp z
    subst z
    rcases hw with hw | hw
    · exact n hw
    · rw [hw] at e
      cases e
  · by_cases e : a = w
    · exact ⟨ys, by rw [e]; exact h⟩
    · obtain ⟨zs, q⟩ := S.ms a ha
      exact ⟨zs, f _ _ q fun z => e (List.mem_singleton.mp z)⟩
theorem Fr.upd {o : HO} : Fr [p] H (upd H p o) := fun a u e n => by
  rw [upd_ne fun z => n (List.mem_singleton.mpr z)]
  exact e
theorem Sep.set (S : Sep K H0 M Γ Θ H) (k : Pick w l Γ Γ') (hw : w ∈ M ∨ H0 w = none) : Sep K H0 M ((w, ys) :: Γ') Θ (upd H w (.lst ys)) := S.mut k hw Fr.upd upd_same
theorem Sep.dropT {q : Addr × List V} (S : Sep K H0 M Γ (q :: Θ) H) : Sep K H0 M Γ Θ H := ⟨S.ls, S.nd, fun r hr => S.ts r (List.mem_cons_of_mem _ hr), S.fr, S.ms⟩
theorem Sep.subT {Θ' : LS} (S : Sep K H0 M Γ Θ H) (h : ∀ q ∈ Θ', q ∈ Θ) : Sep K H0 M Γ Θ' H := ⟨S.ls, S.nd, fun r hr => S.ts r (h r hr), S.fr, S.ms⟩
/-- seen from another start: what holds now is the start -/
theorem Sep.here (S : Sep K H0 M Γ Θ H) {N : List Addr} (hN : ∀ a ∈ N, ∃ xs, H a = some (.lst xs)) : Sep K H N Γ Θ H := ⟨S.ls, S.nd, S.ts, Fr.refl _ _, hN⟩
/-- one list, and what of the tuples is wanted -/
theorem Sep.only {Θ' : LS} (S : Sep K H0 M Γ Θ H) (k : Pick p xs Γ Γ') (h : ∀ q ∈ Θ', q ∈ Θ) : Sep K H0 M [(p, xs)] Θ' H :=
  ⟨fun q hq => by rw [List.mem_singleton.mp hq]; exact S.at k, List.nodup_cons.mpr ⟨List.not_mem_nil, List.nodup_nil⟩, fun r hr => S.ts r (h r hr), S.fr, S.ms⟩
theorem Sep.apart {q : Addr} {zs : List V} (S : Sep K H0 M ((q, zs) :: Γ) Θ H) (k : Pick p xs Γ Γ') : p ≠ q := fun e => by
  have n := S.nd
  rw [List.map_cons, List.nodup_cons] at n
  exact n.1 (List.mem_map.mpr ⟨(p, xs), k.mem, e⟩)
theorem Sep.only1 {q : Addr × List V} (S : Sep K H0 M Γ Θ H) (k : Pick p xs Γ Γ') (h : q ∈ Θ) : Sep K H0 M [(p, xs)] [q] H := S.only k fun r hr => by rw [List.mem_singleton.mp hr]; exact h
theorem Sep.only2 {q r : Addr × List V} (S : Sep K H0 M Γ Θ H) (k : Pick p xs Γ Γ') (h : q ∈ Θ) (h' : r ∈ Θ) : Sep K H0 M [(p, xs)] [q, r] H := S.only k fun u hu => (List.mem_cons.mp hu).elim (fun e => by rw [e]; exact h) fun z => by rw [List.mem_singleton.mp z]; exact h'
theorem Sep.subL {Γ2 : LS} (S : Sep K H0 M Γ Θ H) (h : Γ2.Sublist Γ) : Sep K H0 M Γ2 Θ H :=
  ⟨fun q hq => S.ls q (h.subset hq), (h.map _).nodup S.nd, S.ts, S.fr, S.ms⟩
theorem Sep.dp {ds : List PyData} (S : Sep K H0 M Γ Θ H) (k : (p, xs) ∈ Θ) (h : DpAll K H xs ds) : Dp K H (.ref p) (.tuple ds) := .tup (S.tp k) h
theorem Sep.dpL {ds : List PyData} (S : Sep K H0 M Γ Θ H) (k : Pick p xs Γ Γ') (h : DpAll K H xs ds) : Dp K H (.ref p) (.list ds) := .lst (S.sq k) h
end

/-! ### readings -/
def br (b : Bool) (A B : Prop) : Prop := if b = true then A else B
theorem brT {A B : Prop} (h : A) : br true A B := by
  unfold br
  rw [if_pos rfl]
  exact h
theorem brF {A B : Prop} (h : B) : br false A B := by
  unfold br
  rw [if_neg Bool.false_ne_true]
  exact h
theorem br2 {b : Bool} {A B : Prop} (h1 : b = true → A) (h2 : b = false → B) : br b A B := by
  cases b with
  | true => exact brT (h1 rfl)
  | false => exact brF (h2 rfl)
theorem brD {c : Prop} [Decidable c] {A B : Prop} (h1 : c → A) (h2 : ¬ c → B) : br (decide c) A B := br2 (fun e => h1 (of_decide_eq_true e)) fun e => h2 (of_decide_eq_false e)
theorem brN {c : Prop} [Decidable c] {A B : Prop} (h1 : ¬ c → A) (h2 : c → B) : br (!decide c) A B := by
  by_cases h : c
  · rw [decide_eq_true h]
    exact brF (h2 h)
  · rw [decide_eq_false h]
    exact brT (h1 h)
theorem brE {b c : Bool} {A B : Prop} (e : b = c) (h : br c A B) : br b A B := e ▸ h
theorem brDT {c : Prop} [Decidable c] {A B : Prop} (h : c) (k : A) : br (decide c) A B := by
  rw [decide_eq_true h]
  exact brT k
theorem brDF {c : Prop} [Decidable c] {A B : Prop} (h : ¬ c) (k : B) : br (decide c) A B := by
  rw [decide_eq_false h]
  exact brF k
theorem brNT {c : Prop} [Decidable c] {A B : Prop} (h : ¬ c) (k : A) : br (!decide c) A B := by
  rw [decide_eq_false h]
  exact brT k
theorem brNF {c : Prop} [Decidable c] {A B : Prop} (h : c) (k : B) : br (!decide c) A B := by
  rw [decide_eq_true h]
  exact brF k

theorem brB {b : Bool} {A B : Prop} (h : b = true) (k : A) : br b A B := by
  rw [h]
  exact brT k
theorem brBF {b : Bool} {A B : Prop} (h : b = false) (k : B) : br b A B := by
  rw [h]
  exact brF k
theorem brNB {b : Bool} {A B : Prop} (h : b = true) (k : B) : br (!b) A B := by
  rw [h]
  exact brF k
theorem brNBT {b : Bool} {A B : Prop} (h : b = false) (k : A) : br (!b) A B := by
  rw [h]
  exact brT k
/-- the value is a bool -/
def kB (Q : Bool → Hp → Prop) : VK := fun x H => ∃ k, x = .bl k ∧ Q k H
theorem r_kB {Q : Bool → Hp → Prop} {b : Bool} {H : Hp} (k : Q b H) : kB Q (.bl b) H := ⟨b, rfl, k⟩
def nwT (xs : List V) (H : Hp) (Q : VK) : Prop := xs.length ≤ sizeLine ∧ ∀ p, H p = none → Q (.ref p) (upd H p (.tup xs))
def nwL (xs : List V) (H : Hp) (Q : VK) : Prop := xs.length ≤ sizeLine ∧ ∀ p, H p = none → Q (.ref p) (upd H p (.lst xs))

section
variable {K : PySem.W.Frag} {σ : St} {H : Hp} {Q : VK} {ta tb tc te : TE} {t u : TT} {tr : TA} {v x y : V} {i : Nat} {D : Ends} {ts tw tz : TS} {A B : Prop}
theorem r_var (h : σ[i]? = some (some v)) (k : Q v H) : tVar i σ H Q := ⟨v, h, k⟩
theorem r_c (k : Q v H) : tC v σ H Q := k
theorem r_op {r : R2} (k : ta σ H fun x H1 => tb σ H1 fun y H2 => r x y H2 Q) : tOp r ta tb σ H Q := k
theorem r_un {r : V → Hp → VK → Prop} (k : ta σ H fun x H1 => r x H1 Q) : tUn r ta σ H Q := k
theorem r_I0 {g : Int → Int → V} {i j : Int} (k : Q (g i j) H) : rI0 g (.int i) (.int j) H Q := ⟨i, j, rfl, rfl, k⟩
theorem r_I {C : Int → Int → Prop} {g : Int → Int → V} {i j : Int} (c : C i j) (k : Q (g i j) H) : rI C g (.int i) (.int j) H Q := ⟨i, j, rfl, rfl, c, k⟩
theorem r_U {g : Int → V} {i : Int} (k : Q (g i) H) : rU g (.int i) H Q := ⟨i, rfl, k⟩
theorem r_eq (h : scal x y = true) (k : Q (.bl (decide (x = y))) H) : rEq x y H Q := ⟨h, k⟩
theorem r_ne (h : scal x y = true) (k : Q (.bl (!decide (x = y))) H) : rNe x y H Q := ⟨h, k⟩
theorem r_eqI {i j : Int} (k : Q (.bl (decide (i = j))) H) : rEq (.int i) (.int j) H Q := ⟨rfl, by
  have e : decide (V.int i = V.int j) = decide (i = j) := by rw [dec_int]; exact (Bool.beq_eq_decide_eq _ _)
  rw [e]
  exact k⟩
theorem r_neI {i j : Int} (k : Q (.bl (!decide (i = j))) H) : rNe (.int i) (.int j) H Q := ⟨rfl, by
  have e : decide (V.int i = V.int j) = decide (i = j) := by rw [dec_int]; exact (Bool.beq_eq_decide_eq _ _)
  rw [e]
  exact k⟩
theorem r_neS {a b : Str} (k : Q (.bl (!decide (a = b))) H) : rNe (.str a) (.str b) H Q := ⟨rfl, by
  have e : decide (V.str a = V.str b) = decide (a = b) := by rw [dec_str]; exact (Bool.beq_eq_decide_eq _ _)
  rw [e]
  exact k⟩
theorem r_eqS {a b : Str} (k : Q (.bl (decide (a = b))) H) : rEq (.str a) (.str b) H Q := ⟨rfl, by
  have e : decide (V.str a = V.str b) = decide (a = b) := by rw [dec_str]; exact (Bool.beq_eq_decide_eq _ _)
  rw [e]
  exact k⟩
theorem r_isN (k : ta σ H fun x H1 => Q (.bl (decide (x = .non))) H1) : tIsN ta σ H Q := k
theorem r_notN (k : ta σ H fun x H1 => Q (.bl (!decide (x = .non))) H1) : tNotN ta σ H Q := k
theorem br_ref {a : Addr} {A B : Prop} (k : A) : br (!decide (V.ref a = V.non)) A B := brNT (fun h => nomatch h) k
theorem br_refB {a : Addr} {A B : Prop} (k : B) : br (decide (V.ref a = V.non)) A B := brDF (fun h => nomatch h) k
theorem r_test (k : te σ H (kB fun b H1 => Qb b H1)) : tTest te σ H Qb := k
theorem r_tB (k : te σ H (kB fun b H1 => Qb b H1)) : tB te σ H Qb := k
theorem r_and {Qb : Bool → Hp → Prop} (k : t σ H fun c H1 => br c (u σ H1 Qb) (Qb false H1)) : tAnd t u σ H Qb := k
theorem r_or {Qb : Bool → Hp → Prop} (k : t σ H fun c H1 => br c (Qb true H1) (u σ H1 Qb)) : tOr t u σ H Qb := k
theorem r_not {Qb : Bool → Hp → Prop} (k : t σ H fun c H1 => Qb (!c) H1) : tNot t σ H Qb := k
theorem r_andV (k : ta σ H (kB fun c H1 => br c (tb σ H1 Q) (Q (.bl false) H1))) : tAndV ta tb σ H Q := k
theorem r_orV (k : ta σ H (kB fun c H1 => br c (Q (.bl true) H1) (tb σ H1 Q))) : tOrV ta tb σ H Q := k
theorem r_notV (k : ta σ H (kB fun c H1 => Q (.bl (!c)) H1)) : tNotV ta σ H Q := k
theorem r_if (k : t σ H fun c H1 => br c (ta σ H1 Q) (tb σ H1 Q)) : tIf t ta tb σ H Q := k
theorem r_nil {Qs : List V → Hp → Prop} (k : Qs [] H) : tNil σ H Qs := k
theorem r_cons {Qs : List V → Hp → Prop} (k : ta σ H fun x H1 => tr σ H1 fun xs H2 => Qs (x :: xs) H2) : tCons ta tr σ H Qs := k
theorem r_cb {r : List V → Hp → VK → Prop} (k : tr σ H fun vs H1 => r vs H1 Q) : tCB r tr σ H Q := k
theorem r_call {sp : Sp} {E : XK} (k : tr σ H fun vs H1 => sp vs H1 Q E) : tCall sp [] E tr σ H Q := by
  have e : (fun (vs : List V) (H1 : Hp) => sp (vs ++ []) H1 Q E) = fun vs H1 => sp vs H1 Q E := by
    funext vs H1
    rw [List.append_nil]
  show tr σ H fun vs H1 => sp (vs ++ []) H1 Q E
  rw [e]
  exact k
theorem r_tup (k : tr σ H fun xs H1 => nwT xs H1 Q) : tTup tr σ H Q := k
theorem r_lst (k : tr σ H fun xs H1 => nwL xs H1 Q) : tLst tr σ H Q := k
theorem r_chain {r r' : R2} (k : ta σ H fun x H1 => tb σ H1 fun y H2 => r x y H2 (kB fun c H3 => br c (tc σ H3 fun z H4 => r' y z H4 Q) (Q (.bl false) H3))) : tChain r r' ta tb tc σ H Q := k
/-! statements -/
theorem r_seq (k : ts { D with nx := tw D } σ H) : tSeq ts tw D σ H := k
theorem r_seqSet (k : te σ H fun x H1 => tw D (σ.set i (some x)) H1) : tSeq (tAsg te (gName i)) tw D σ H := k
theorem r_seqDrop (k : te σ H fun _ H1 => tw D σ H1) : tSeq (tDrop te) tw D σ H := k
theorem r_asg {g : TG} (k : te σ H fun x H1 => g x σ H1 D.nx) : tAsg te g D σ H := k
theorem r_set (k : te σ H fun x H1 => D.nx (σ.set i (some x)) H1) : tAsg te (gName i) D σ H := k
theorem r_drop (k : te σ H fun _ H1 => D.nx σ H1) : tDrop te D σ H := k
theorem r_ret (k : te σ H D.rt) : tRet te D σ H := k
theorem r_retN (k : D.rt .non H) : tRetN D σ H := k
theorem r_ifS (k : t σ H fun c H1 => br c (ts D σ H1) (tw D σ H1)) : tIfS t ts tw D σ H := k
theorem r_next (k : D.nx σ H) : tNext D σ H := k
theorem r_brk (k : D.bk σ H) : tBreak D σ H := k
theorem r_cnt (k : D.ct σ H) : tCont D σ H := k
theorem r_nx {X b c : St → Hp → Prop} {R : VK} (k : X σ H) : Ends.nx (Ends.mk X R b c) σ H := k
theorem r_rt {X b c : St → Hp → Prop} {R : VK} (k : R v H) : Ends.rt (Ends.mk X R b c) v H := k
theorem r_bk {X b c : St → Hp → Prop} {R : VK} (k : b σ H) : Ends.bk (Ends.mk X R b c) σ H := k
theorem r_ct {X b c : St → Hp → Prop} {R : VK} (k : c σ H) : Ends.ct (Ends.mk X R b c) σ H := k
theorem r_gName {Qs : St → Hp → Prop} (k : Qs (σ.set i (some v)) H) : gName i v σ H Qs := k
theorem r_gSub {r : TSet} {Qs : St → Hp → Prop} (k : ta σ H fun o H1 => tb σ H1 fun j H2 => r o j v H2 fun H3 => Qs σ H3) : gSub ta tb r v σ H Qs := k
theorem r_gCons {g : TG} {gs : TGs} {vs : List V} {Qs : St → Hp → Prop} (k : g v σ H fun σ' H' => gs vs σ' H' Qs) : gCons g gs (v :: vs) σ H Qs := ⟨v, vs, rfl, k⟩
theorem r_gNil {Qs : St → Hp → Prop} (k : Qs σ H) : gNil [] σ H Qs := ⟨rfl, k⟩
theorem r_par {i j : Nat} (k : tr σ H fun vs H1 => ∃ v w, vs = [v, w] ∧ D.nx ((σ.set i (some v)).set j (some w)) H1) : tPar i j tr D σ H := k
theorem r_par2 {i j : Nat} (k : ta σ H fun v H1 => tb σ H1 fun w H2 => D.nx ((σ.set i (some v)).set j (some w)) H2) : tPar i j (tCons ta (tCons tb tNil)) D σ H := by
  have e : (fun (v : V) (H1 : Hp) => tb σ H1 fun w H2 => D.nx ((σ.set i (some v)).set j (some w)) H2) = fun v H1 => tb σ H1 fun w H2 => ∃ v' w', ([v, w] : List V) = [v', w'] ∧ D.nx ((σ.set i (some v')).set j (some w')) H2 := by
    funext v H1
    congr 1
    funext w H2
    refine propext ⟨fun h => ⟨v, w, rfl, h⟩, fun ⟨v', w', e, h⟩ => ?_⟩
    cases e
    exact h
  rw [e] at k
  exact k
def tPar3 (i j l : Nat) (ta tb tc : TE) : TS := fun D σ H => ta σ H fun u H1 => tb σ H1 fun v H2 => tc σ H2 fun w H3 => D.nx (((σ.set i (some u)).set j (some v)).set l (some w)) H3
theorem r_par3 {i j l : Nat} (k : ta σ H fun u H1 => tb σ H1 fun v H2 => tc σ H2 fun w H3 => D.nx (((σ.set i (some u)).set j (some v)).set l (some w)) H3) : tPar3 i j l ta tb tc D σ H := k
variable {H0 : Hp} {M : List Addr} {Γ Γ' Θ : LS} {p : Addr} {xs : List V}
theorem r_nwT (S : Sep K H0 M Γ Θ H) (hl : xs.length ≤ 100000) (k : ∀ p H1, H p = none → H0 p = none → Sep K H0 M Γ ((p, xs) :: Θ) H1 → Q (.ref p) H1) : nwT xs H Q :=
  ⟨Nat.le_trans hl (by decide), fun p hp => k p _ hp (S.old hp) (S.newT hp)⟩
theorem r_nwL (S : Sep K H0 M Γ Θ H) (hl : xs.length ≤ 100000) (k : ∀ p H1, H p = none → H0 p = none → Sep K H0 M ((p, xs) :: Γ) Θ H1 → Q (.ref p) H1) : nwL xs H Q :=
  ⟨Nat.le_trans hl (by decide), fun p hp => k p _ hp (S.old hp) (S.newL hp)⟩
theorem r_ixT {i : Int} (S : Sep K H0 M Γ Θ H) (hm : (p, xs) ∈ Θ) (hi : atI xs i = some v) (k : Q v H) : rIxT K (.ref p) (.int i) H Q := ⟨p, xs, i, v, rfl, rfl, S.tp hm, hi, k⟩
theorem r_ixL {i : Int} (S : Sep K H0 M Γ Θ H) (hm : Pick p xs Γ Γ') (hi : atI xs i = some v) (k : Q v H) : rIxL K (.ref p) (.int i) H Q := ⟨p, xs, i, v, rfl, rfl, S.sq hm, hi, k⟩
theorem r_setL {i : Int} {j : Nat} {Qs : Hp → Prop} (S : Sep K H0 M Γ Θ H) (hm : Pick p xs Γ Γ') (hw : p ∈ M ∨ H0 p = none) (hj : ixN xs.length i = some j) (k : ∀ H1, Sep K H0 M ((p, xs.set j v) :: Γ') Θ H1 → Qs H1) : rSetL (.ref p) (.int i) v H Qs :=
  ⟨p, xs, i, j, rfl, rfl, S.at hm, hj, k _ (S.set hm hw)⟩
theorem r_gTup {n : Nat} {gs : TGs} {Qs : St → Hp → Prop} (S : Sep K H0 M Γ Θ H) (hm : (p, xs) ∈ Θ) (hn : xs.length = n) (k : gs xs σ H Qs) : gTup K n gs (.ref p) σ H Qs := ⟨p, xs, rfl, S.tp hm, hn, k⟩
theorem r_eqD {d e : PyData} (hx : Dp K H x d) (hy : Dp K H y e) (h1 : SeqAt.shaped d = true) (h2 : SeqAt.shaped e = true) (k : Q (.bl (PyData.eqv d e)) H) : rEqD K x y H Q := ⟨d, e, hx, hy, h1, h2, k⟩
theorem r_neD {d e : PyData} (hx : Dp K H x d) (hy : Dp K H y e) (h1 : SeqAt.shaped d = true) (h2 : SeqAt.shaped e = true) (k : Q (.bl (!PyData.eqv d e)) H) : rNeD K x y H Q := ⟨d, e, hx, hy, h1, h2, k⟩
theorem r_all (S : Sep K H0 M Γ Θ H) {bs : List Bool} (hm : Pick p (bs.map V.bl) Γ Γ') (k : Q (.bl (bs.all id)) H) : rAll K [.ref p] H Q := ⟨p, bs, rfl, S.sq hm, k⟩
theorem r_sum (S : Sep K H0 M Γ Θ H) {ns : List Int} (hm : Pick p (ns.map V.int) Γ Γ') (k : Q (.int ns.sum) H) : rSum K [.ref p] H Q := ⟨p, ns, rfl, S.sq hm, k⟩
end

/-! ### == of types -/
def rEqTy : R2 := fun x y H Q => ∃ a b, x = .ty a ∧ y = .ty b ∧ (∀ s : Shared, s.TypeIs (.type a) "type") ∧ (∀ s : Shared, s.TypeIs (.type b) "type") ∧ Q (.bl (decide (a = b))) H
theorem op_eqTy {X : Cx} : OpR X (compareOp .Eq) rEqTy := by
  intro pins s σ H x y v u Q I rx ry h
  obtain ⟨a, b, rfl, rfl, ha, hb, q⟩ := h
  cases (show v = Value.type a from rx)
  cases (show u = Value.type b from ry)
  by_cases e : a = b
  · subst e
    exact PySem.TypeEq.eq_type_same ha ⟨.bl true, H, I, rfl, by rw [decide_eq_true (p := a = a) rfl] at q; exact q⟩
  · exact PySem.TypeEq.eq_type_other ha hb ((ty_beq a b).trans (decide_eq_false e)) ⟨.bl false, H, I, rfl, by rw [decide_eq_false e] at q; exact q⟩
def rNeTy : R2 := fun x y H Q => ∃ a b, x = .ty a ∧ y = .ty b ∧ (∀ s : Shared, s.TypeIs (.type a) "type") ∧ (∀ s : Shared, s.TypeIs (.type b) "type") ∧ Q (.bl (!decide (a = b))) H
theorem r_neTy {a b : String} {H : Hp} {Q : VK} (ha : ∀ s : Shared, s.TypeIs (.type a) "type") (hb : ∀ s : Shared, s.TypeIs (.type b) "type") (k : Q (.bl (!decide (a = b))) H) : rNeTy (.ty a) (.ty b) H Q := ⟨a, b, rfl, rfl, ha, hb, k⟩
theorem tyI : ∀ s : Shared, s.TypeIs (.type "int") "type" := PySem.TypeEq.meta_int
theorem tyS : ∀ s : Shared, s.TypeIs (.type "str") "type" := PySem.TypeEq.meta_str
theorem tyT : ∀ s : Shared, s.TypeIs (.type "tuple") "type" := PySem.TypeEq.meta_tuple
theorem r_eqTy {a b : String} {H : Hp} {Q : VK} (ha : ∀ s : Shared, s.TypeIs (.type a) "type") (hb : ∀ s : Shared, s.TypeIs (.type b) "type") (k : Q (.bl (decide (a = b))) H) : rEqTy (.ty a) (.ty b) H Q := ⟨a, b, rfl, rfl, ha, hb, k⟩

/-! ### f(k = v, ..), all by name -/
section
variable {X : Cx} {CX : CXT} {k : Nat} {f : Addr} {fd : FuncData} {ps ks : List Str} {sp : Sp} {E : XK} {x : Str} {p pos : Pos} {kws : List Keyword} {tk : TA} {g : List Value → List Value → List Value} {gV : List V → List V → List V}
theorem pe_callK0 (F : FnOk X.prog X.w X.K X.mg X.base CX k f fd ps sp) (hr : Room k X.A) (hg : Gl X x) (hm : X.mg x = some (.ref f)) (hk : PySem.W.keepIn X.K (.ref f) = true) (hb : KBinds X.K fd ps ks g gV) (hx : Passes CX X E)
    (hkw : PK X kws tk) (hall : (backToKw pos (keywordEach kws X.env)).all (·.1.isSome) = true := by rfl) (hks : (backToKw pos (keywordEach kws X.env)).filterMap (·.1) = ks := by rfl)
    (hdb : (x == ("__debug__" : Str)) = false := by decide)
    (hpl : ((backTo pos (starEach [] X.env)).any (·.1) || (backToKw pos (keywordEach kws X.env)).any (·.1.isNone)) = false := by rfl) :
    PE X (.Call (.Name x p) [] kws pos) (tCallK sp gV E tNil tk) := by
  refine ⟨fun pins s σ H Q I h => ?_⟩
  refine wpAny_Call_Name_kw (ld_glob I hg hm ?_ hdb)
  refine PySem.W.callWith_KW0 (h₀ := X.base) I.ok.mod.kin hk hall ?_ hpl
  refine thn (hkw.run pos pins s σ H _ I h) fun ws s2 ⟨zs, H2, I2, rz, q2⟩ => ⟨I2.kIn, ?_⟩
  rw [hks]
  exact run_fnk (us := []) (vs := []) F hr hb hx I2 .nil rz q2
theorem r_callK {σ : St} {H : Hp} {Q : VK} {tr : TA} (h : tr σ H fun vs H1 => tk σ H1 fun zs H2 => sp (gV vs zs) H2 Q E) : tCallK sp gV E tr tk σ H Q := h
/-- the keywords' values in the parameters' order: one, two, three of them -/
def k1 {α : Type} (us ws : List α) : List α := match us, ws with | [], [a] => [a] | _, _ => []
def k12 {α : Type} (us ws : List α) : List α := match us, ws with | [], [a, b] => [a, b] | _, _ => []
def k21 {α : Type} (us ws : List α) : List α := match us, ws with | [], [a, b] => [b, a] | _, _ => []
theorem k1_rel {vs : List V} {us : List Value} {zs : List V} {ws : List Value} (r : Vals vs us) (q : Vals zs ws) : Vals (k1 vs zs) (k1 us ws) := by
  cases r with
  | nil =>
    cases q with
    | nil => exact .nil
    | cons a t => cases t with
      | nil => exact .cons a .nil
      | cons b t => exact .nil
  | cons a t => exact .nil
theorem k12_rel {vs : List V} {us : List Value} {zs : List V} {ws : List Value} (r : Vals vs us) (q : Vals zs ws) : Vals (k12 vs zs) (k12 us ws) := by
  cases r with
  | nil =>
    cases q with
    | nil => exact .nil
    | cons a t => cases t with
      | nil => exact .nil
      | cons b t => cases t with
        | nil => exact .cons a (.cons b .nil)
        | cons c t => exact .nil
  | cons a t => exact .nil
theorem k21_rel {vs : List V} {us : List Value} {zs : List V} {ws : List Value} (r : Vals vs us) (q : Vals zs ws) : Vals (k21 vs zs) (k21 us ws) := by
  cases r with
  | nil =>
    cases q with
    | nil => exact .nil
    | cons a t => cases t with
      | nil => exact .nil
      | cons b t => cases t with
        | nil => exact .cons b (.cons a .nil)
        | cons c t => exact .nil
  | cons a t => exact .nil
end

/-! ### sizes -/
def bd (n : Nat) (x : Int) : Prop := x.natAbs < 2 ^ n
theorem bd_le {n m : Nat} {x : Int} (h : bd n x) (l : n ≤ m) : bd m x := Nat.lt_of_lt_of_le h (Nat.pow_le_pow_right (by decide) l)
theorem bd_add {n : Nat} {x y : Int} (hx : bd n x) (hy : bd n y) : bd (n + 1) (x + y) := by
  unfold bd at *
  have e : 2 ^ (n + 1) = 2 ^ n + 2 ^ n := by rw [Nat.pow_succ]; omega
  rw [e]
  have := Int.natAbs_add_le x y
  omega
theorem bd_neg {n : Nat} {x : Int} (hx : bd n x) : bd n (-x) := by
  unfold bd at *
  rw [Int.natAbs_neg]
  exact hx
theorem bd_sub {n : Nat} {x y : Int} (hx : bd n x) (hy : bd n y) : bd (n + 1) (x - y) := by
  rw [Int.sub_eq_add_neg]
  exact bd_add hx (bd_neg hy)
theorem bd_mul {n : Nat} {x y : Int} (hx : bd (n / 2) x) (hy : bd (n / 2) y) : bd n (x * y) := by
  unfold bd at *
  rw [Int.natAbs_mul]
  have h0 : 0 < 2 ^ (n / 2) := Nat.two_pow_pos _
  have h1 : x.natAbs * y.natAbs < 2 ^ (n / 2) * 2 ^ (n / 2) := Nat.mul_lt_mul_of_lt_of_le hx (Nat.le_of_lt hy) h0
  rw [← Nat.pow_add] at h1
  exact Nat.lt_of_lt_of_le h1 (Nat.pow_le_pow_right (by decide) (by omega))
theorem bd_mulN {a b : Nat} {x y : Int} (hx : bd a x) (hy : bd b y) : bd (a + b) (x * y) := by
  unfold bd at *
  rw [Int.natAbs_mul, Nat.pow_add]
  exact Nat.mul_lt_mul_of_lt_of_le hx (Nat.le_of_lt hy) (Nat.two_pow_pos _)
theorem bd_two {n : Nat} {x : Int} (hx : bd n x) : bd (n + 1) (2 * x) := by
  have e : 2 * x = x + x := by omega
  rw [e]
  exact bd_add hx hx
theorem bd_div {n : Nat} {x y : Int} (hx : bd n x) : bd n (x / y) := Nat.lt_of_le_of_lt (Int.natAbs_ediv_le_natAbs x y) hx
theorem bd_of {n : Nat} {x : Int} (h1 : -(2 ^ n) < x) (h2 : x < 2 ^ n) : bd n x := by
  unfold bd
  have e : ((2 ^ n : Nat) : Int) = (2 : Int) ^ n := by simp
  omega
theorem mulW {n m : Nat} {x y : Int} (hx : bd n x) (hy : bd m y) (h : n + m + 2 ≤ 1000000) : CMulW x y :=
  wide_mul (a := n + 1) (b := m + 1) (bd_le hx (Nat.le_succ n)) (bd_le hy (Nat.le_succ m)) (Nat.succ_pos _) (Nat.succ_pos _) (by omega)

theorem bd_100 {x : Int} (h1 : -1267650600228229401496703205376 < x) (h2 : x < 1267650600228229401496703205376) : bd 100 x := by
  unfold bd
  have e : (2 : Nat) ^ 100 = 1267650600228229401496703205376 := by decide +kernel
  rw [e]
  omega
theorem cdivW {n : Nat} {i j : Int} (h : 0 < j) (hb : bd n j) (h0 : 0 < n) (h9 : n ≤ 9000) : CDivW i j := wide_div h hb h0 h9
theorem bd_pow6 {f : Int} (h0 : 0 ≤ f) (n : Nat) (hn : n ≤ 4) (h : f < 1000000 ^ (n + 1)) : bd 100 f := by
  have c : n = 0 ∨ n = 1 ∨ n = 2 ∨ n = 3 ∨ n = 4 := by omega
  rcases c with rfl | rfl | rfl | rfl | rfl <;> simp only [Nat.zero_add, Nat.reduceAdd, Int.reducePow] at h <;> exact bd_100 (by omega) (by omega)
theorem cmulL {i j : Int} (h1 : -18446744073709551616 < i) (h2 : i < 18446744073709551616) : CMul i j := .inl ⟨h1, h2⟩
theorem cmulR {i j : Int} (h1 : -18446744073709551616 < j) (h2 : j < 18446744073709551616) : CMul i j := .inr ⟨h1, h2⟩
theorem cdiv {i j : Int} (h1 : 0 < j) (h2 : j < 1073741824) : CDiv i j := ⟨h1, h2⟩

/-! ### built-ins by names -/
section
variable {X : Cx}
def rInt : List V → Hp → VK → Prop := fun xs H Q => (∃ i, xs = [.int i] ∧ Q (.int i) H) ∨ ∃ k, xs = [.bl k] ∧ Q (.int (if k then 1 else 0)) H
theorem z_int : CallR X (.type "int") rInt := call_int1
def rAbs : List V → Hp → VK → Prop := fun xs H Q => ∃ i, xs = [.int i] ∧ Q (.int (if i < 0 then -i else i)) H
theorem z_abs : CallR X (.builtin "abs") rAbs := call_abs
def rMax2 : List V → Hp → VK → Prop := fun xs H Q => ∃ i j, xs = [.int i, .int j] ∧ Q (.int (if j > i then j else i)) H
theorem z_max2 (hc : X.calm = true) : CallR X (.builtin "max") rMax2 := call_max2 hc
def rMin2 : List V → Hp → VK → Prop := fun xs H Q => ∃ i j, xs = [.int i, .int j] ∧ Q (.int (if j < i then j else i)) H
theorem z_min2 (hc : X.calm = true) : CallR X (.builtin "min") rMin2 := call_min2 hc
def rLen (K : PySem.W.Frag) : List V → Hp → VK → Prop := fun xs H Q => ∃ p ys, xs = [.ref p] ∧ (SqL K H p ys ∨ SqT K H p ys) ∧ Q (.int ys.length) H
theorem z_len : CallR X (.builtin "len") (rLen X.K) := call_len_seq
def rLenS : List V → Hp → VK → Prop := fun xs H Q => ∃ z, xs = [.str z] ∧ z.length ≤ sizeLine ∧ Q (.int z.length) H
theorem z_lenS : CallR X (.builtin "len") rLenS := call_len_str
def rDivmod : List V → Hp → VK → Prop := fun xs H Q => ∃ i j, xs = [.int i, .int j] ∧ CDiv i j ∧ ∀ p, H p = none → Q (.ref p) (upd H p (.tup [.int (i / j), .int (i % j)]))
theorem z_divmod : CallR X (.builtin "divmod") rDivmod := call_divmod
def rTuple (K : PySem.W.Frag) : List V → Hp → VK → Prop := fun xs H Q => ∃ p ys, xs = [.ref p] ∧ ((SqL K H p ys ∧ ∀ l, H l = none → Q (.ref l) (upd H l (.tup ys))) ∨ (SqT K H p ys ∧ Q (.ref p) H))
theorem z_tuple : CallR X (.type "tuple") (rTuple X.K) := call_tuple_of
def rList (K : PySem.W.Frag) : List V → Hp → VK → Prop := fun xs H Q => ∃ p ys, xs = [.ref p] ∧ (SqL K H p ys ∨ SqT K H p ys) ∧ ∀ l, H l = none → Q (.ref l) (upd H l (.lst ys))
theorem z_list : CallR X (.type "list") (rList X.K) := call_list_of
theorem z_type : CallR X (.type "type") (rTyp X.K) := call_type1
end
section
variable {K : PySem.W.Frag} {H H0 : Hp} {M : List Addr} {Γ Γ' Γ2 Θ : LS} {Q : VK} {p q : Addr} {xs ys : List V} {i j : Int}
theorem r_int (k : Q (.int i) H) : rInt [.int i] H Q := .inl ⟨i, rfl, k⟩
theorem r_abs (k : Q (.int (if i < 0 then -i else i)) H) : rAbs [.int i] H Q := ⟨i, rfl, k⟩
theorem r_max2 (k : Q (.int (if j > i then j else i)) H) : rMax2 [.int i, .int j] H Q := ⟨i, j, rfl, k⟩
theorem r_min2 (k : Q (.int (if j < i then j else i)) H) : rMin2 [.int i, .int j] H Q := ⟨i, j, rfl, k⟩
theorem r_lenL (S : Sep K H0 M Γ Θ H) (hm : Pick p xs Γ Γ') (k : Q (.int xs.length) H) : rLen K [.ref p] H Q := ⟨p, xs, rfl, .inl (S.sq hm), k⟩
theorem r_lenT (S : Sep K H0 M Γ Θ H) (hm : (p, xs) ∈ Θ) (k : Q (.int xs.length) H) : rLen K [.ref p] H Q := ⟨p, xs, rfl, .inr (S.tp hm), k⟩
/-- an item at a place that is met -/
theorem r_mem {ns : List Int} (S : Sep K H0 M Γ Θ H) (hm : Pick p (ns.map V.int) Γ Γ') (h0 : 0 ≤ i) (h1 : i < ns.length) (k : ∀ m, m ∈ ns → Q (.int m) H) : rIxL K (.ref p) (.int i) H Q := by
  have hj : i.toNat < ns.length := by omega
  have e : i = (i.toNat : Int) := by omega
  refine ⟨p, ns.map V.int, i, .int ns[i.toNat], rfl, rfl, S.sq hm, at_of e ?_, k _ (List.getElem_mem hj)⟩
  rw [List.getElem?_map, List.getElem?_eq_getElem hj]
  rfl
theorem r_lenQ (h : SqL K H p xs) (k : Q (.int xs.length) H) : rLen K [.ref p] H Q := ⟨p, xs, rfl, .inl h, k⟩
theorem r_ixQ {v : V} (h : SqL K H p xs) (hi : atI xs i = some v) (k : Q v H) : rIxL K (.ref p) (.int i) H Q := ⟨p, xs, i, v, rfl, rfl, h, hi, k⟩
theorem r_slQ {lo hi : Option Int} (S : Sep K H0 M Γ Θ H) (h : SqL K H p xs) (k : ∀ r H1, H r = none → H0 r = none → Sep K H0 M ((r, cutV xs lo hi) :: Γ) Θ H1 → Q (.ref r) H1) : rSlL K (.ref p) lo hi H Q :=
  ⟨p, xs, rfl, h, fun r hr => k r _ hr (S.old hr) (S.newL hr)⟩
theorem cut_int {ns : List Int} {lo hi : Option Int} {x : V} (h : x ∈ cutV (ns.map V.int) lo hi) : ∃ i : Int, x = .int i := by
  have h1 := List.mem_of_mem_drop (List.mem_of_mem_take h)
  obtain ⟨i, _, e⟩ := List.mem_map.mp h1
  exact ⟨i, e.symm⟩
theorem r_divmod (S : Sep K H0 M Γ Θ H) (h1 : 0 < j) (h2 : j < 1073741824) (k : ∀ p H1, H p = none → H0 p = none → Sep K H0 M Γ ((p, [.int (i / j), .int (i % j)]) :: Θ) H1 → Q (.ref p) H1) : rDivmod [.int i, .int j] H Q :=
  ⟨i, j, rfl, ⟨h1, h2⟩, fun p hp => k p _ hp (S.old hp) (S.newT hp)⟩
theorem r_tupleL (S : Sep K H0 M Γ Θ H) (hm : Pick q xs Γ Γ') (k : ∀ p H1, H p = none → H0 p = none → Sep K H0 M Γ ((p, xs) :: Θ) H1 → Q (.ref p) H1) : rTuple K [.ref q] H Q :=
  ⟨q, xs, rfl, .inl ⟨S.sq hm, fun p hp => k p _ hp (S.old hp) (S.newT hp)⟩⟩
theorem r_typT (S : Sep K H0 M Γ Θ H) (hm : (p, xs) ∈ Θ) (k : Q (.ty "tuple") H) : rTyp K [.ref p] H Q := ⟨_, _, rfl, .tup (S.tp hm), k⟩
theorem r_typI (k : Q (.ty "int") H) : rTyp K [.int i] H Q := ⟨_, _, rfl, .int i, k⟩
theorem r_cat (S : Sep K H0 M Γ Θ H) (hm : Pick p xs Γ Γ') (hn : Pick q ys Γ Γ2) (hl : xs.length + ys.length ≤ 100000) (k : ∀ r H1, H r = none → H0 r = none → Sep K H0 M ((r, xs ++ ys) :: Γ) Θ H1 → Q (.ref r) H1) : rCat (.ref p) (.ref q) H Q :=
  ⟨p, q, xs, ys, rfl, rfl, S.at hm, S.at hn, Nat.le_trans hl (by decide), fun r hr => k r _ hr (S.old hr) (S.newL hr)⟩
theorem r_rep (S : Sep K H0 M Γ Θ H) (hm : Pick p xs Γ Γ') (h1 : -(2 ^ 63) ≤ i) (h2 : i < 2 ^ 63) (hl : xs.length * i.toNat ≤ 100000) (k : ∀ r H1, H r = none → H0 r = none → Sep K H0 M ((r, (List.replicate i.toNat xs).flatten) :: Γ) Θ H1 → Q (.ref r) H1) : rRep (.ref p) (.int i) H Q :=
  ⟨p, i, xs, rfl, rfl, S.at hm, h1, h2, Nat.le_trans hl (by decide), fun r hr => k r _ hr (S.old hr) (S.newL hr)⟩
/-- an item of a written menu -/
theorem r_menu {ns : List Int} {lo hi : Int} (S : Sep K H0 M Γ Θ H) (hm : Pick p (ns.map V.int) Γ Γ') (h0 : 0 ≤ i) (h1 : i < ns.length) (hb : ∀ m ∈ ns, lo ≤ m ∧ m ≤ hi) (k : ∀ m, lo ≤ m → m ≤ hi → Q (.int m) H) : rIxL K (.ref p) (.int i) H Q := by
  have hj : i.toNat < ns.length := by omega
  have e : i = (i.toNat : Int) := by omega
  obtain ⟨a, b⟩ := hb _ (List.getElem_mem hj)
  refine ⟨p, ns.map V.int, i, .int ns[i.toNat], rfl, rfl, S.sq hm, at_of e ?_, k _ a b⟩
  rw [List.getElem?_map, List.getElem?_eq_getElem hj]
  rfl
theorem r_slL {lo hi : Option Int} (S : Sep K H0 M Γ Θ H) (hm : Pick p xs Γ Γ') (k : ∀ r H1, H r = none → H0 r = none → Sep K H0 M ((r, cutV xs lo hi) :: Γ) Θ H1 → Q (.ref r) H1) : rSlL K (.ref p) lo hi H Q :=
  ⟨p, xs, rfl, S.sq hm, fun r hr => k r _ hr (S.old hr) (S.newL hr)⟩
theorem r_slT2 {a b c : V} (S : Sep K H0 M Γ Θ H) (hm : (p, [a, b, c]) ∈ Θ) (k : ∀ r H1, H r = none → H0 r = none → Sep K H0 M Γ ((r, [a, b]) :: Θ) H1 → Q (.ref r) H1) : rSlT K (.ref p) none (some 2) H Q :=
  ⟨p, [a, b, c], rfl, S.tp hm, (fun h => absurd (show (2 : Nat) = 3 from h.2) (by decide)), fun r hr => k r _ hr (S.old hr) (S.newT hr)⟩
theorem r_sl {r : V → Option Int → Option Int → Hp → VK → Prop} {te : TE} {tl th : TO} {σ : L2.St} (k : te σ H fun x H1 => tl σ H1 fun l H2 => th σ H2 fun u H3 => r x l u H3 Q) : tSl r te tl th σ H Q := k
theorem r_noPart {σ : L2.St} {Qo : Option Int → Hp → Prop} (k : Qo none H) : tNoPart σ H Qo := k
def kI (Qo : Option Int → Hp → Prop) : VK := fun x H => ∃ i, x = .int i ∧ Qo (some i) H
theorem r_part {σ : L2.St} {te : TE} {Qo : Option Int → Hp → Prop} (k : te σ H (kI Qo)) : tPart te σ H Qo := k
theorem r_kI {Qo : Option Int → Hp → Prop} (k : Qo (some i) H) : kI Qo (.int i) H := ⟨i, rfl, k⟩
theorem r_p6 (k : Q (.int 1000000) H) : rI CPow (fun i j => .int (i ^ j.toNat)) (.int 10) (.int 6) H Q := r_I ⟨by decide, by decide, by decide⟩ k
theorem r_p18 (k : Q (.int 1000000000000000000) H) : rI CPow (fun i j => .int (i ^ j.toNat)) (.int 10) (.int 18) H Q := r_I ⟨by decide, by decide, by decide⟩ k
theorem r_p30 (k : Q (.int 1000000000000000000000000000000) H) : rI CPow (fun i j => .int (i ^ j.toNat)) (.int 10) (.int 30) H Q := r_I ⟨by decide, by decide, by decide⟩ k
theorem r_mulW {n m : Nat} (hx : bd n i) (hy : bd m j) (h : n + m + 2 ≤ 1000000) (k : Q (.int (i * j)) H) : rI CMulW (fun i j => .int (i * j)) (.int i) (.int j) H Q := r_I (mulW hx hy h) k
end

/-! ### loops -/
section
variable {K : PySem.W.Frag} {σ : L2.St} {H : Hp} {D : Ends} {g : TG} {tb : TS} {ta : TA} {te : TE} {wi : TI}
def forK (J : It) (g : TG) (tb : TS) (D : Ends) (σ : L2.St) (H : Hp) : Prop := ∃ W : Nat → Nat → L2.St → Hp → Prop, (∃ m, W 0 m σ H) ∧ ∀ i m σ H, W i m σ H →
  (J.stop i H ∧ D.nx σ H) ∨ (J.go i H ∧ ∃ N : L2.St → Hp → Prop, (∀ σ' H', N σ' H' → ∃ m', m' < m ∧ W (i + 1) m' σ' H') ∧ ∀ x H', J.yld i H x H' → g x σ H' fun σ2 H2 => tb { D with nx := N, ct := N, bk := D.nx } σ2 H2)
theorem r_for (k : wi σ H fun J H1 => forK J g tb D σ H1) : tFor wi g tb D σ H := k
theorem r_forR {lo : Int} {n : Nat} (Pv : Nat → L2.St → Hp → Prop) (h0 : Pv 0 σ H) (hs : ∀ i σ H, i < n → Pv i σ H → g (.int (lo + i)) σ H fun σ2 H2 => tb { D with nx := Pv (i + 1), ct := Pv (i + 1), bk := D.nx } σ2 H2) (hd : ∀ σ H, Pv n σ H → D.nx σ H) : forK (Itr lo n) g tb D σ H := for_range Pv h0 hs hd
theorem r_forL {a : Addr} {xs : List V} (Pv : Nat → L2.St → Hp → Prop) (h0 : Pv 0 σ H) (hl : ∀ i σ H, i ≤ xs.length → Pv i σ H → SqL K H a xs)
    (hs : ∀ i x σ H, xs[i]? = some x → Pv i σ H → g x σ H fun σ2 H2 => tb { D with nx := Pv (i + 1), ct := Pv (i + 1), bk := D.nx } σ2 H2) (hd : ∀ σ H, Pv xs.length σ H → D.nx σ H) : forK (Itl K a) g tb D σ H := for_list Pv h0 hl hs hd
theorem r_forT {a : Addr} {xs : List V} (Pv : Nat → L2.St → Hp → Prop) (h0 : Pv 0 σ H) (hl : ∀ i σ H, i ≤ xs.length → Pv i σ H → SqT K H a xs)
    (hs : ∀ i x σ H, xs[i]? = some x → Pv i σ H → g x σ H fun σ2 H2 => tb { D with nx := Pv (i + 1), ct := Pv (i + 1), bk := D.nx } σ2 H2) (hd : ∀ σ H, Pv xs.length σ H → D.nx σ H) : forK (Itt K a) g tb D σ H := for_tup Pv h0 hl hs hd
def rng1 (vs : List V) (H : Hp) (R : It → Hp → Prop) : Prop := ∃ j : Int, vs = [.int j] ∧ -(2 ^ 62) ≤ j ∧ j < 2 ^ 62 ∧ R (Itr 0 j.toNat) H
def rng2 (vs : List V) (H : Hp) (R : It → Hp → Prop) : Prop := ∃ i j : Int, vs = [.int i, .int j] ∧ (-(2 ^ 62) ≤ i ∧ i < 2 ^ 62 ∧ -(2 ^ 62) ≤ j ∧ j < 2 ^ 62) ∧ R (Itr i (j - i).toNat) H
theorem r_iRng1 {R : It → Hp → Prop} (k : ta σ H fun vs H1 => rng1 vs H1 R) : iRng1 ta σ H R := k
theorem r_iRng2 {R : It → Hp → Prop} (k : ta σ H fun vs H1 => rng2 vs H1 R) : iRng2 ta σ H R := k
theorem r_rng1 {R : It → Hp → Prop} {j : Int} (h1 : -(2 ^ 62) ≤ j) (h2 : j < 2 ^ 62) (k : R (Itr 0 j.toNat) H) : rng1 [.int j] H R := ⟨j, rfl, h1, h2, k⟩
theorem r_rng2 {R : It → Hp → Prop} {i j : Int} (h1 : -(2 ^ 62) ≤ i) (h2 : i < 2 ^ 62) (h3 : -(2 ^ 62) ≤ j) (h4 : j < 2 ^ 62) (k : R (Itr i (j - i).toNat) H) : rng2 [.int i, .int j] H R := ⟨i, j, rfl, ⟨h1, h2, h3, h4⟩, k⟩
def walL (K : PySem.W.Frag) (R : It → Hp → Prop) : VK := fun x H => ∃ a, x = .ref a ∧ (∃ xs, SqL K H a xs) ∧ R (Itl K a) H
def walT (K : PySem.W.Frag) (R : It → Hp → Prop) : VK := fun x H => ∃ a, x = .ref a ∧ (∃ xs, SqT K H a xs) ∧ R (Itt K a) H
theorem r_iList {R : It → Hp → Prop} (k : te σ H (walL K R)) : iList K te σ H R := k
theorem r_iTup {R : It → Hp → Prop} (k : te σ H (walT K R)) : iTup K te σ H R := k
theorem r_walL {R : It → Hp → Prop} {a : Addr} {xs : List V} (h : SqL K H a xs) (k : R (Itl K a) H) : walL K R (.ref a) H := ⟨a, rfl, ⟨xs, h⟩, k⟩
theorem r_walT {R : It → Hp → Prop} {a : Addr} {xs : List V} (h : SqT K H a xs) (k : R (Itt K a) H) : walT K R (.ref a) H := ⟨a, rfl, ⟨xs, h⟩, k⟩
/-- a comprehension -/
def lcK (J : It) (g : TG) (tt : TT) (te : TE) (vs : List Nat) (σ : L2.St) (H1 : Hp) (Q : VK) : Prop := ∀ D, H1 D = none → ∃ W : Nat → Nat → Hp → Prop, (∃ m, W 0 m (upd H1 D (.lst []))) ∧ ∀ i m H, W i m H →
  (J.stop i H ∧ Q (.ref D) H) ∨ (J.go i H ∧ ∃ Nx : Hp → Prop, (∀ H', Nx H' → ∃ m', m' < m ∧ W (i + 1) m' H') ∧ ∀ x H', J.yld i H x H' → g x (wipe σ vs) H' fun σ2 H2 => wipe σ2 vs = wipe σ vs ∧ tt σ2 H2 fun b H3 =>
    if b = true then te σ2 H3 fun y H4 => ∃ acc, H4 D = some (.lst acc) ∧ acc.length < sizeLine ∧ Nx (upd H4 D (.lst (acc ++ [y]))) else Nx H3)
theorem r_lc {tt : TT} {vs : List Nat} {Q : VK} (k : wi σ H fun J H1 => lcK J g tt te vs σ H1 Q) : tLc wi g tt te vs σ H Q := k
/-- a turn's end: the item y is put behind -/
def lcE (D : Addr) (i : Nat) (Pv : Addr → Nat → List V → Hp → Prop) : VK := fun y H4 => ∃ acc, H4 D = some (.lst acc) ∧ acc.length < sizeLine ∧
  ∃ acc', acc'.length = i + 1 ∧ (upd H4 D (.lst (acc ++ [y]))) D = some (.lst acc') ∧ Pv D (i + 1) acc' (upd H4 D (.lst (acc ++ [y])))
theorem r_lcE {D : Addr} {i : Nat} {Pv : Addr → Nat → List V → Hp → Prop} {y : V} {acc : List V} (ha : acc.length = i) (hi : i < 100000) (hA : H D = some (.lst acc)) (k : Pv D (i + 1) (acc ++ [y]) (upd H D (.lst (acc ++ [y])))) : lcE D i Pv y H :=
  ⟨acc, hA, Nat.lt_of_lt_of_le (Nat.lt_of_le_of_lt (Nat.le_of_eq ha) hi) (by decide), acc ++ [y], by rw [List.length_append, ha]; rfl, upd_same, k⟩
/-- one plain name, no test, over a range: Pv i acc H, the list so far and the heap -/
theorem r_lcR {lo : Int} {n j : Nat} {Q : VK} (Pv : Addr → Nat → List V → Hp → Prop) (h0 : ∀ D, H D = none → Pv D 0 [] (upd H D (.lst [])))
    (hs : ∀ D i acc H', H D = none → i < n → acc.length = i → H' D = some (.lst acc) → Pv D i acc H' → te ((wipe σ [j]).set j (some (.int (lo + i)))) H' (lcE D i Pv))
    (hd : ∀ D acc H', H D = none → acc.length = n → H' D = some (.lst acc) → Pv D n acc H' → Q (.ref D) H') : lcK (Itr lo n) (gName j) tYes te [j] σ H Q := by
  intro D hD
  refine lc_range (Qd := fun H' => Q (.ref D) H') (fun i H' => ∃ acc, acc.length = i ∧ H' D = some (.lst acc) ∧ Pv D i acc H') ⟨[], rfl, upd_same, h0 D hD⟩ (fun i H' hi ⟨acc, ha, hA, hP⟩ => ?_) fun H' ⟨acc, ha, hA, hP⟩ => hd D acc H' hD ha hA hP
  refine ⟨?_, hs D i acc H' hD hi ha hA hP⟩
  show ((σ.set j none).set j _).set j none = σ.set j none
  rw [List.set_set, List.set_set]
theorem r_lcL {K : PySem.W.Frag} {a : Addr} {xs : List V} {j : Nat} {Q : VK} (Pv : Addr → Nat → List V → Hp → Prop) (h0 : ∀ D, H D = none → Pv D 0 [] (upd H D (.lst [])))
    (hl : ∀ D i acc H', H D = none → i ≤ xs.length → acc.length = i → H' D = some (.lst acc) → Pv D i acc H' → SqL K H' a xs)
    (hs : ∀ D i x acc H', H D = none → xs[i]? = some x → acc.length = i → H' D = some (.lst acc) → Pv D i acc H' → te ((wipe σ [j]).set j (some x)) H' (lcE D i Pv))
    (hd : ∀ D acc H', H D = none → acc.length = xs.length → H' D = some (.lst acc) → Pv D xs.length acc H' → Q (.ref D) H') : lcK (Itl K a) (gName j) tYes te [j] σ H Q := by
  intro D hD
  refine lc_list (xs := xs) (Qd := fun H' => Q (.ref D) H') (fun i H' => ∃ acc, acc.length = i ∧ H' D = some (.lst acc) ∧ Pv D i acc H') ⟨[], rfl, upd_same, h0 D hD⟩ (fun i H' hi ⟨acc, ha, hA, hP⟩ => hl D i acc H' hD hi ha hA hP) (fun i x H' hi ⟨acc, ha, hA, hP⟩ => ?_) fun H' ⟨acc, ha, hA, hP⟩ => hd D acc H' hD ha hA hP
  refine ⟨?_, hs D i x acc H' hD hi ha hA hP⟩
  show ((σ.set j none).set j _).set j none = σ.set j none
  rw [List.set_set, List.set_set]
theorem r_lcT {K : PySem.W.Frag} {a : Addr} {xs : List V} {j : Nat} {Q : VK} (Pv : Addr → Nat → List V → Hp → Prop) (h0 : ∀ D, H D = none → Pv D 0 [] (upd H D (.lst [])))
    (hl : ∀ D i acc H', H D = none → i ≤ xs.length → acc.length = i → H' D = some (.lst acc) → Pv D i acc H' → SqT K H' a xs)
    (hs : ∀ D i x acc H', H D = none → xs[i]? = some x → acc.length = i → H' D = some (.lst acc) → Pv D i acc H' → te ((wipe σ [j]).set j (some x)) H' (lcE D i Pv))
    (hd : ∀ D acc H', H D = none → acc.length = xs.length → H' D = some (.lst acc) → Pv D xs.length acc H' → Q (.ref D) H') : lcK (Itt K a) (gName j) tYes te [j] σ H Q := by
  intro D hD
  refine lc_tup (xs := xs) (Qd := fun H' => Q (.ref D) H') (fun i H' => ∃ acc, acc.length = i ∧ H' D = some (.lst acc) ∧ Pv D i acc H') ⟨[], rfl, upd_same, h0 D hD⟩ (fun i H' hi ⟨acc, ha, hA, hP⟩ => hl D i acc H' hD hi ha hA hP) (fun i x H' hi ⟨acc, ha, hA, hP⟩ => ?_) fun H' ⟨acc, ha, hA, hP⟩ => hd D acc H' hD ha hA hP
  refine ⟨?_, hs D i x acc H' hD hi ha hA hP⟩
  show ((σ.set j none).set j _).set j none = σ.set j none
  rw [List.set_set, List.set_set]
end

/-! ### a def of the text -/
/-! ### the draws -/
def WellL (l : List V) : Prop := ∃ a b c : Int, l = [.int a, .int b, .int c] ∧ -18446744073709551616 < b ∧ b < 18446744073709551616
def spDip : Sp := fun vs H Q _ => ∃ (w : Addr) (l : List V) (n : Int), vs = [.ref w, .int n] ∧ H w = some (.lst l) ∧ WellL l ∧ 0 < n ∧ n < 1073741824 ∧
  ∀ (r : Int) (H' : Hp) (l' : List V), 0 ≤ r → r < n → WellL l' → H' w = some (.lst l') → Fr [w] H H' → Q (.int r) H'
def spNumber : Sp := fun vs H Q _ => ∃ (w : Addr) (l : List V), vs = [.ref w] ∧ H w = some (.lst l) ∧ WellL l ∧
  ∀ (r : Int) (H' : Hp) (l' : List V), bd 100 r → WellL l' → H' w = some (.lst l') → Fr [w] H H' → Q (.int r) H'
def spDrawn (K : PySem.W.Frag) : Sp := fun vs H Q _ => ∃ (w : Addr) (l : List V), vs = [.ref w] ∧ H w = some (.lst l) ∧ WellL l ∧
  ∀ (t : Addr) (x y s : Int) (H' : Hp) (l' : List V), bd 100 x → bd 100 y → bd 100 s → WellL l' → H' w = some (.lst l') → Fr [w] H H' → SqT K H' t [.int x, .int y, .int s] → Q (.ref t) H'
def spWell (K : PySem.W.Frag) : Sp := fun vs H Q _ => ∃ (a : Addr) (ns : List Int) (t : Int), vs = [.ref a, .int t] ∧ SqL K H a (ns.map V.int) ∧ ns.length ≤ 63 ∧ 0 ≤ t ∧ t ≤ 100 ∧
  ∀ (w : Addr) (H' : Hp) (l : List V), H w = none → WellL l → H' w = some (.lst l) → Fr [] H H' → Q (.ref w) H'
def spRight : Sp := fun vs H Q _ => ∃ (w : Addr) (l : List V), vs = [.ref w] ∧ H w = some (.lst l) ∧ WellL l ∧ ∀ (H' : Hp), Fr [w] H H' → Q (.bl true) H'
section
variable {K : PySem.W.Frag} {H H0 : Hp} {M : List Addr} {Γ Γ' Θ : LS} {Q : VK} {w : Addr} {l : List V} {n : Int} {E : XK}
theorem use_dip (S : Sep K H0 M Γ Θ H) (hm : Pick w l Γ Γ') (hw : w ∈ M ∨ H0 w = none) (hl : WellL l) (h0 : 0 < n) (h1 : n < 1073741824)
    (k : ∀ r l' H', 0 ≤ r → r < n → WellL l' → Sep K H0 M ((w, l') :: Γ') Θ H' → Q (.int r) H') : spDip [.ref w, .int n] H Q E :=
  ⟨w, l, n, rfl, S.at hm, hl, h0, h1, fun r H' l' a b c d e => k r l' H' a b c (S.mut hm hw e d)⟩
theorem use_number (S : Sep K H0 M Γ Θ H) (hm : Pick w l Γ Γ') (hw : w ∈ M ∨ H0 w = none) (hl : WellL l)
    (k : ∀ r l' H', bd 100 r → WellL l' → Sep K H0 M ((w, l') :: Γ') Θ H' → Q (.int r) H') : spNumber [.ref w] H Q E :=
  ⟨w, l, rfl, S.at hm, hl, fun r H' l' a c d e => k r l' H' a c (S.mut hm hw e d)⟩
theorem use_drawn (S : Sep K H0 M Γ Θ H) (hm : Pick w l Γ Γ') (hw : w ∈ M ∨ H0 w = none) (hl : WellL l)
    (k : ∀ t x y s l' H', bd 100 x → bd 100 y → bd 100 s → WellL l' → Sep K H0 M ((w, l') :: Γ') ((t, [.int x, .int y, .int s]) :: Θ) H' → Q (.ref t) H') : spDrawn K [.ref w] H Q E :=
  ⟨w, l, rfl, S.at hm, hl, fun t x y s H' l' a b c d e f g => k t x y s l' H' a b c d ((S.mut hm hw f e).addT g)⟩
theorem use_well {a : Addr} {ns : List Int} {t : Int} (S : Sep K H0 M Γ Θ H) (hS : SqL K H a (ns.map V.int)) (hn : ns.length ≤ 63) (h0 : 0 ≤ t) (h1 : t ≤ 100)
    (k : ∀ w l H', H0 w = none → WellL l → Sep K H0 M ((w, l) :: Γ) Θ H' → Q (.ref w) H') : spWell K [.ref a, .int t] H Q E :=
  ⟨a, ns, t, rfl, hS, hn, h0, h1, fun w H' l a b c d => k w l H' (S.old a) b ((S.kept d).addL c (S.notin a))⟩
/-- the well is left: what became of it is not known -/
theorem Sep.lose {H' : Hp} (S : Sep K H0 [] Γ Θ H) (k : Pick w l Γ Γ') (hw : H0 w = none) (f : Fr [w] H H') : Sep K H0 [] Γ' Θ H' := by
  have nd := k.nd S.nd
  have hl := S.at k
  rw [List.nodup_cons] at nd
  refine ⟨fun q hq => f _ _ (S.ls q (k.sub q hq)) fun z => nd.1 (List.mem_map.mpr ⟨q, hq, List.mem_singleton.mp z⟩), nd.2, fun q hq => sqT_fr (S.ts q hq) f (fun a ha => ⟨l, by rw [List.mem_singleton.mp ha]; exact hl⟩), fun a o e n => ?_, fun _ z => by cases z⟩
  refine f _ _ (S.fr a o e n) fun z => ?_
  rw [List.mem_singleton.mp z, hw] at e
  cases e
theorem use_right (S : Sep K H0 [] Γ Θ H) (k : Pick w l Γ Γ') (hw : H0 w = none) (hl : WellL l) (q : ∀ H', Sep K H0 [] Γ' Θ H' → Q (.bl true) H') : spRight [.ref w] H Q E :=
  ⟨w, l, rfl, S.at k, hl, fun H' f => q H' (S.lose k hw f)⟩
def spLaw (K : PySem.W.Frag) : Sp := fun vs H Q _ => ∃ (a : Addr) (ns : List Int), vs = [.ref a] ∧ SqL K H a (ns.map V.int) ∧ ns.length ≤ 63 ∧ ∀ H', Q (.bl true) H'
theorem end_drawn {H' : Hp} {t : Addr} {x y s : Int} (S : Sep K H [w] Γ ((t, [.int x, .int y, .int s]) :: Θ) H') (hm : Pick w l Γ Γ') (hl : WellL l) (bx : bd 100 x) (b_y : bd 100 y) (bs : bd 100 s)
    (k : ∀ (t : Addr) (x y s : Int) (H' : Hp) (l' : List V), bd 100 x → bd 100 y → bd 100 s → WellL l' → H' w = some (.lst l') → Fr [w] H H' → SqT K H' t [.int x, .int y, .int s] → Q (.ref t) H') : Q (.ref t) H' :=
  k t x y s H' l bx b_y bs hl (S.at hm) S.fr (S.tp List.mem_cons_self)
/-- a def's entry with the well -/
theorem well_in {w : Addr} {l : List V} (h : H w = some (.lst l)) : Sep K H [w] [(w, l)] [] H :=
  Sep.start (fun q hq => by rw [List.mem_singleton.mp hq]; exact h) (List.nodup_cons.mpr ⟨List.not_mem_nil, List.nodup_nil⟩) (fun _ z => by cases z) (fun a ha => ⟨l, by rw [List.mem_singleton.mp ha]; exact h⟩)
end
/-! ### the other family of draws -/
def WellD (l : List V) : Prop := ∃ a b c : Int, l = [.int a, .int b, .int c] ∧ -18446744073709551616 < a ∧ a < 18446744073709551616
def spDraw : Sp := fun vs H Q _ => ∃ (w : Addr) (l : List V) (n : Int), vs = [.ref w, .int n] ∧ H w = some (.lst l) ∧ WellD l ∧ 0 < n ∧ bd 200 n ∧
  ∀ (r : Int) (H' : Hp) (l' : List V), 0 ≤ r → r < n → WellD l' → H' w = some (.lst l') → Fr [w] H H' → Q (.int r) H'
def spPick (K : PySem.W.Frag) : Sp := fun vs H Q _ => ∃ (w c : Addr) (l : List V) (ns : List Int), vs = [.ref w, .ref c] ∧ H w = some (.lst l) ∧ WellD l ∧ H c = some (.lst (ns.map V.int)) ∧ w ≠ c ∧ 0 < ns.length ∧ ns.length ≤ 1000 ∧
  ∀ (r : Int) (H' : Hp) (l' : List V), r ∈ ns → WellD l' → H' w = some (.lst l') → Fr [w] H H' → Q (.int r) H'
def spGreat : Sp := fun vs H Q _ => ∃ (w : Addr) (l : List V), vs = [.ref w] ∧ H w = some (.lst l) ∧ WellD l ∧
  ∀ (r : Int) (H' : Hp) (l' : List V), 0 ≤ r → r < 1000000000000000000000000000 → WellD l' → H' w = some (.lst l') → Fr [w] H H' → Q (.int r) H'
def spMoveD (K : PySem.W.Frag) : Sp := fun vs H Q _ => ∃ (w : Addr) (l : List V) (n : Int), vs = [.ref w, .int n] ∧ H w = some (.lst l) ∧ WellD l ∧ 0 < n ∧ bd 100 n ∧
  ∀ (t : Addr) (x y s : Int) (H' : Hp) (l' : List V), bd 102 x → bd 102 y → bd 102 s → WellD l' → H' w = some (.lst l') → Fr [w] H H' → SqT K H' t [.int x, .int y, .int s] → Q (.ref t) H'
def spWellD (K : PySem.W.Frag) : Sp := fun vs H Q _ => ∃ (a : Addr) (ns : List Int) (t : Int), vs = [.ref a, .int t] ∧ SqL K H a (ns.map V.int) ∧ ns.length ≤ 63 ∧ 0 ≤ t ∧ t ≤ 100 ∧
  ∀ (w : Addr) (H' : Hp) (l : List V), H w = none → WellD l → H' w = some (.lst l) → Fr [] H H' → Q (.ref w) H'
def spRightD : Sp := fun vs H Q _ => ∃ (w : Addr) (l : List V), vs = [.ref w] ∧ H w = some (.lst l) ∧ WellD l ∧ ∀ (H' : Hp), Fr [w] H H' → Q (.bl true) H'
section
variable {K : PySem.W.Frag} {H H0 : Hp} {M : List Addr} {Γ Γ' Γ2 Θ : LS} {Q : VK} {w c : Addr} {l : List V} {n : Int} {E : XK}
theorem use_draw (S : Sep K H0 M Γ Θ H) (hm : Pick w l Γ Γ') (hw : w ∈ M ∨ H0 w = none) (hl : WellD l) (h0 : 0 < n) (h1 : bd 200 n)
    (k : ∀ r l' H', 0 ≤ r → r < n → WellD l' → Sep K H0 M ((w, l') :: Γ') Θ H' → Q (.int r) H') : spDraw [.ref w, .int n] H Q E :=
  ⟨w, l, n, rfl, S.at hm, hl, h0, h1, fun r H' l' a b c d e => k r l' H' a b c (S.mut hm hw e d)⟩
theorem use_pick {ns : List Int} (S : Sep K H0 M Γ Θ H) (hm : Pick w l Γ Γ') (hw : w ∈ M ∨ H0 w = none) (hl : WellD l) (hc : Pick c (ns.map V.int) Γ Γ2) (ne : w ≠ c) (h0 : 0 < ns.length) (h1 : ns.length ≤ 1000)
    (k : ∀ r l' H', r ∈ ns → WellD l' → Sep K H0 M ((w, l') :: Γ') Θ H' → Q (.int r) H') : spPick K [.ref w, .ref c] H Q E :=
  ⟨w, c, l, ns, rfl, S.at hm, hl, S.at hc, ne, h0, h1, fun r H' l' a c d e => k r l' H' a c (S.mut hm hw e d)⟩
theorem use_great (S : Sep K H0 M Γ Θ H) (hm : Pick w l Γ Γ') (hw : w ∈ M ∨ H0 w = none) (hl : WellD l)
    (k : ∀ r l' H', 0 ≤ r → r < 1000000000000000000000000000 → WellD l' → Sep K H0 M ((w, l') :: Γ') Θ H' → Q (.int r) H') : spGreat [.ref w] H Q E :=
  ⟨w, l, rfl, S.at hm, hl, fun r H' l' a b c d e => k r l' H' a b c (S.mut hm hw e d)⟩
theorem use_moveD (S : Sep K H0 M Γ Θ H) (hm : Pick w l Γ Γ') (hw : w ∈ M ∨ H0 w = none) (hl : WellD l) (h0 : 0 < n) (h1 : bd 100 n)
    (k : ∀ t x y s l' H', bd 102 x → bd 102 y → bd 102 s → WellD l' → Sep K H0 M ((w, l') :: Γ') ((t, [.int x, .int y, .int s]) :: Θ) H' → Q (.ref t) H') : spMoveD K [.ref w, .int n] H Q E :=
  ⟨w, l, n, rfl, S.at hm, hl, h0, h1, fun t x y s H' l' a b c d e f g => k t x y s l' H' a b c d ((S.mut hm hw f e).addT g)⟩
theorem use_wellD {a : Addr} {ns : List Int} {t : Int} (S : Sep K H0 M Γ Θ H) (hS : SqL K H a (ns.map V.int)) (hn : ns.length ≤ 63) (h0 : 0 ≤ t) (h1 : t ≤ 100)
    (k : ∀ w l H', H0 w = none → WellD l → Sep K H0 M ((w, l) :: Γ) Θ H' → Q (.ref w) H') : spWellD K [.ref a, .int t] H Q E :=
  ⟨a, ns, t, rfl, hS, hn, h0, h1, fun w H' l a b c d => k w l H' (S.old a) b ((S.kept d).addL c (S.notin a))⟩
theorem use_rightD (S : Sep K H0 [] Γ Θ H) (k : Pick w l Γ Γ') (hw : H0 w = none) (hl : WellD l) (q : ∀ H', Sep K H0 [] Γ' Θ H' → Q (.bl true) H') : spRightD [.ref w] H Q E :=
  ⟨w, l, rfl, S.at k, hl, fun H' f => q H' (S.lose k hw f)⟩
theorem end_moveD {H' : Hp} {t : Addr} {x y s : Int} (S : Sep K H0 [w] Γ ((t, [.int x, .int y, .int s]) :: Θ) H') (hm : Pick w l Γ Γ') (hl : WellD l) (bx : bd 102 x) (b_y : bd 102 y) (bs : bd 102 s)
    (k : ∀ (t : Addr) (x y s : Int) (H' : Hp) (l' : List V), bd 102 x → bd 102 y → bd 102 s → WellD l' → H' w = some (.lst l') → Fr [w] H0 H' → SqT K H' t [.int x, .int y, .int s] → Q (.ref t) H') : Q (.ref t) H' :=
  k t x y s H' l bx b_y bs hl (S.at hm) S.fr (S.tp List.mem_cons_self)
end
theorem bd_200 {x : Int} (h1 : -1267650600228229401496703205376 < x) (h2 : x < 1267650600228229401496703205376) : bd 200 x := bd_le (bd_100 h1 h2) (by decide)
/-- divmod by a divisor of any size that is met -/
def rDivmodW : List V → Hp → VK → Prop := fun xs H Q => ∃ i j, xs = [.int i, .int j] ∧ 0 < j ∧ bd 200 j ∧ ∀ p, H p = none → Q (.ref p) (upd H p (.tup [.int (i / j), .int (i % j)]))
theorem z_divmodW {X : Cx} : CallR X (.builtin "divmod") rDivmodW := fun pins s σ H xs us Q I r ⟨i, j, e, h0, hb, k⟩ => call_divmodW pins s σ H xs us Q I r ⟨i, j, e, ⟨h0, by
  have h : j.natAbs.log2 < 200 := by
    have hj : j.natAbs ≠ 0 := by omega
    exact (Nat.log2_lt hj).mpr hb
  unfold Builtin.divisionGoesByPylong
  simp only [Bool.and_eq_false_iff, decide_eq_false_iff_not]
  left
  split
  · omega
  · omega⟩, k⟩
theorem r_divmodW {K : PySem.W.Frag} {H H0 : Hp} {M : List Addr} {Γ Θ : LS} {Q : VK} {i j : Int} (S : Sep K H0 M Γ Θ H) (h1 : 0 < j) (h2 : bd 200 j) (k : ∀ p H1, H p = none → H0 p = none → Sep K H0 M Γ ((p, [.int (i / j), .int (i % j)]) :: Θ) H1 → Q (.ref p) H1) : rDivmodW [.int i, .int j] H Q :=
  ⟨i, j, rfl, h1, h2, fun p hp => k p _ hp (S.old hp) (S.newT hp)⟩

/-! ### halves -/
theorem two_T (n : Int) : 2 * (n * (n - 1) / 2) = n * (n - 1) := by
  have h : n * (n - 1) % 2 = 0 := by
    rcases (show n % 2 = 0 ∨ n % 2 = 1 by omega) with h | h
    · rw [Int.mul_emod, h]; simp
    · rw [Int.mul_emod, show (n - 1) % 2 = 0 by omega]; simp
  omega
theorem T_add (a b : Int) : (a + b) * (a + b - 1) / 2 = a * (a - 1) / 2 + b * (b - 1) / 2 + a * b := by
  have h1 := two_T a
  have h2 := two_T b
  have h3 := two_T (a + b)
  generalize a * (a - 1) / 2 = A at *
  generalize b * (b - 1) / 2 = B at *
  generalize (a + b) * (a + b - 1) / 2 = C at *
  grind
theorem T_mul (a b : Int) : a * b * (a * b - 1) / 2 = b * (a * (a - 1) / 2) + b * (b - 1) / 2 * a * a := by
  have h1 := two_T a
  have h2 := two_T b
  have h3 := two_T (a * b)
  generalize a * (a - 1) / 2 = A at *
  generalize b * (b - 1) / 2 = B at *
  generalize a * b * (a * b - 1) / 2 = C at *
  grind
theorem T_neg (a : Int) : (0 - a) * (0 - a - 1) / 2 = a * (a - 1) / 2 + a := by
  have h1 := two_T a
  have h3 := two_T (0 - a)
  generalize a * (a - 1) / 2 = A at *
  generalize (0 - a) * (0 - a - 1) / 2 = C at *
  grind

theorem oo1 (x a b : Int) : b * (a * x) = a * b * x := by grind
theorem oo3 (x y s a b : Int) : b * (a * s + a * (a - 1) / 2 * x * y) + b * (b - 1) / 2 * (a * x) * (a * y) = a * b * s + a * b * (a * b - 1) / 2 * x * y := by
  rw [T_mul]
  grind
theorem oa1 (x a b : Int) : a * x + b * x = (a + b) * x := by grind
theorem oa3 (x y s a b : Int) : a * s + a * (a - 1) / 2 * x * y + (b * s + b * (b - 1) / 2 * x * y) + a * x * (b * y) = (a + b) * s + (a + b) * (a + b - 1) / 2 * x * y := by
  rw [T_add]
  grind
theorem ou1 (x a : Int) : -(a * x) = (0 - a) * x := by grind
theorem ou3 (x y s a : Int) : a * x * (a * y) - (a * s + a * (a - 1) / 2 * x * y) = (0 - a) * s + (0 - a) * (0 - a - 1) / 2 * x * y := by
  rw [T_neg]
  have h := two_T a
  generalize a * (a - 1) / 2 = A at *
  grind
theorem os1 (x a : Int) : a * x + x = (a + 1) * x := by grind
theorem os3 (x y s a : Int) : a * s + a * (a - 1) / 2 * x * y + s + a * x * y = (a + 1) * s + (a + 1) * (a + 1 - 1) / 2 * x * y := by
  rw [T_add]
  grind
theorem mvE {x y s x' y' s' : Int} (h1 : x = x') (h2 : y = y') (h3 : s = s') : PyData.eqv (.tuple [.int x, .int y, .int s]) (.tuple [.int x', .int y', .int s']) = true := by
  subst h1 h2 h3
  simp [PyData.eqv, PyData.eqvAll]

/-! ### moves, of values that are moves -/
abbrev mv (x y s : Int) : List V := [.int x, .int y, .int s]
def spIsInt : Sp := fun vs H Q _ => ∃ i : Int, vs = [.int i] ∧ Q (.bl true) H
def spNeedInt : Sp := fun vs H Q _ => ∃ i : Int, vs = [.int i] ∧ Q .non H
def spIsMove (K : PySem.W.Frag) : Sp := fun vs H Q _ => ∃ (t : Addr) (x y s : Int), vs = [.ref t] ∧ SqT K H t (mv x y s) ∧ ∀ H', Fr [] H H' → Q (.bl true) H'
def spNeedMove (K : PySem.W.Frag) : Sp := fun vs H Q _ => ∃ (t : Addr) (x y s : Int), vs = [.ref t] ∧ SqT K H t (mv x y s) ∧ ∀ H', Fr [] H H' → Q .non H'
/-- two moves in, a move out -/
def spMM (K : PySem.W.Frag) (ok : Int → Int → Int → Int → Int → Int → Prop) (f g h : Int → Int → Int → Int → Int → Int → Int) : Sp := fun vs H Q _ => ∃ (a b : Addr) (x y s x' y' s' : Int), vs = [.ref a, .ref b] ∧ SqT K H a (mv x y s) ∧ SqT K H b (mv x' y' s') ∧ ok x y s x' y' s' ∧
  ∀ r H', Fr [] H H' → SqT K H' r (mv (f x y s x' y' s') (g x y s x' y' s') (h x y s x' y' s')) → Q (.ref r) H'
/-- two moves in, a plain value out -/
def spMV (K : PySem.W.Frag) (ok : Int → Int → Int → Int → Int → Int → Prop) (f : Int → Int → Int → Int → Int → Int → V) : Sp := fun vs H Q _ => ∃ (a b : Addr) (x y s x' y' s' : Int), vs = [.ref a, .ref b] ∧ SqT K H a (mv x y s) ∧ SqT K H b (mv x' y' s') ∧ ok x y s x' y' s' ∧
  ∀ H', Fr [] H H' → Q (f x y s x' y' s') H'
/-- a move and an integer in, a move out -/
def spMI (K : PySem.W.Frag) (ok : Int → Int → Int → Int → Prop) (f g h : Int → Int → Int → Int → Int) : Sp := fun vs H Q _ => ∃ (a : Addr) (x y s n : Int), vs = [.ref a, .int n] ∧ SqT K H a (mv x y s) ∧ ok x y s n ∧
  ∀ r H', Fr [] H H' → SqT K H' r (mv (f x y s n) (g x y s n) (h x y s n)) → Q (.ref r) H'
def spM1 (K : PySem.W.Frag) (ok : Int → Int → Int → Prop) (f g h : Int → Int → Int → Int) : Sp := fun vs H Q _ => ∃ (a : Addr) (x y s : Int), vs = [.ref a] ∧ SqT K H a (mv x y s) ∧ ok x y s ∧
  ∀ r H', Fr [] H H' → SqT K H' r (mv (f x y s) (g x y s) (h x y s)) → Q (.ref r) H'
abbrev spJoined (K : PySem.W.Frag) : Sp := spMM K (fun x _ _ _ y' _ => bd 4000 x ∧ bd 4000 y') (fun x _ _ x' _ _ => x + x') (fun _ y _ _ y' _ => y + y') (fun x _ s _ y' s' => s + s' + x * y')
abbrev spUndone (K : PySem.W.Frag) : Sp := spM1 K (fun x y _ => bd 4000 x ∧ bd 4000 y) (fun x _ _ => -x) (fun _ y _ => -y) (fun x y s => x * y - s)
abbrev spOften (K : PySem.W.Frag) : Sp := spMI K (fun x y s n => bd 4000 x ∧ bd 4000 y ∧ bd 4000 s ∧ bd 4000 n) (fun x _ _ n => n * x) (fun _ y _ n => n * y) (fun x y s n => n * s + n * (n - 1) / 2 * x * y)
abbrev spGap (K : PySem.W.Frag) : Sp := spMV K (fun x y _ x' y' _ => bd 4000 x ∧ bd 4000 y ∧ bd 4000 x' ∧ bd 4000 y') (fun x y _ x' y' _ => .int (x * y' - y * x'))
abbrev spCommute (K : PySem.W.Frag) : Sp := spMV K (fun x y _ x' y' _ => bd 4000 x ∧ bd 4000 y ∧ bd 4000 x' ∧ bd 4000 y') (fun x y _ x' y' _ => .bl (decide (x * y' - y * x' = 0)))
section
variable {K : PySem.W.Frag} {H H0 : Hp} {M : List Addr} {Γ Γ' Θ : LS} {Q : VK} {a b t : Addr} {x y s x' y' s' n : Int} {E : XK}
theorem use_isInt {i : Int} (k : Q (.bl true) H) : spIsInt [.int i] H Q E := ⟨i, rfl, k⟩
theorem use_needInt {i : Int} (k : Q .non H) : spNeedInt [.int i] H Q E := ⟨i, rfl, k⟩
theorem use_isMove (S : Sep K H0 M Γ Θ H) (ht : (t, mv x y s) ∈ Θ) (k : ∀ H', Sep K H0 M Γ Θ H' → Q (.bl true) H') : spIsMove K [.ref t] H Q E := ⟨t, x, y, s, rfl, S.tp ht, fun H' f => k H' (S.kept f)⟩
theorem use_needMove (S : Sep K H0 M Γ Θ H) (ht : (t, mv x y s) ∈ Θ) (k : ∀ H', Sep K H0 M Γ Θ H' → Q .non H') : spNeedMove K [.ref t] H Q E := ⟨t, x, y, s, rfl, S.tp ht, fun H' f => k H' (S.kept f)⟩
theorem use_MM {ok : Int → Int → Int → Int → Int → Int → Prop} {f g h : Int → Int → Int → Int → Int → Int → Int} (S : Sep K H0 M Γ Θ H) (ha : (a, mv x y s) ∈ Θ) (hb : (b, mv x' y' s') ∈ Θ) (o : ok x y s x' y' s')
    (k : ∀ r H', Sep K H0 M Γ ((r, mv (f x y s x' y' s') (g x y s x' y' s') (h x y s x' y' s')) :: Θ) H' → Q (.ref r) H') : spMM K ok f g h [.ref a, .ref b] H Q E :=
  ⟨a, b, x, y, s, x', y', s', rfl, S.tp ha, S.tp hb, o, fun r H' e q => k r H' ((S.kept e).addT q)⟩
theorem use_MV {ok : Int → Int → Int → Int → Int → Int → Prop} {f : Int → Int → Int → Int → Int → Int → V} (S : Sep K H0 M Γ Θ H) (ha : (a, mv x y s) ∈ Θ) (hb : (b, mv x' y' s') ∈ Θ) (o : ok x y s x' y' s')
    (k : ∀ H', Sep K H0 M Γ Θ H' → Q (f x y s x' y' s') H') : spMV K ok f [.ref a, .ref b] H Q E :=
  ⟨a, b, x, y, s, x', y', s', rfl, S.tp ha, S.tp hb, o, fun H' e => k H' (S.kept e)⟩
theorem use_MI {ok : Int → Int → Int → Int → Prop} {f g h : Int → Int → Int → Int → Int} (S : Sep K H0 M Γ Θ H) (ha : (a, mv x y s) ∈ Θ) (o : ok x y s n)
    (k : ∀ r H', Sep K H0 M Γ ((r, mv (f x y s n) (g x y s n) (h x y s n)) :: Θ) H' → Q (.ref r) H') : spMI K ok f g h [.ref a, .int n] H Q E :=
  ⟨a, x, y, s, n, rfl, S.tp ha, o, fun r H' e q => k r H' ((S.kept e).addT q)⟩
theorem use_M1 {ok : Int → Int → Int → Prop} {f g h : Int → Int → Int → Int} (S : Sep K H0 M Γ Θ H) (ha : (a, mv x y s) ∈ Θ) (o : ok x y s)
    (k : ∀ r H', Sep K H0 M Γ ((r, mv (f x y s) (g x y s) (h x y s)) :: Θ) H' → Q (.ref r) H') : spM1 K ok f g h [.ref a] H Q E :=
  ⟨a, x, y, s, rfl, S.tp ha, o, fun r H' e q => k r H' ((S.kept e).addT q)⟩
theorem one_in (h : SqT K H a (mv x y s)) : Sep K H [] [] [(a, mv x y s)] H :=
  Sep.start (fun _ z => by cases z) List.nodup_nil (fun q hq => by rw [List.mem_singleton.mp hq]; exact h) (fun _ z => by cases z)
theorem two_in (h : SqT K H a (mv x y s)) (h' : SqT K H b (mv x' y' s')) : Sep K H [] [] [(a, mv x y s), (b, mv x' y' s')] H := (one_in h').addT h
theorem r_walTS {xs : List V} {R : It → Hp → Prop} (S : Sep K H0 M Γ Θ H) (hm : (a, xs) ∈ Θ) (k : R (Itt K a) H) : walT K R (.ref a) H := r_walT (S.tp hm) k
theorem r_walLS {xs : List V} {R : It → Hp → Prop} (S : Sep K H0 M Γ Θ H) (hm : Pick a xs Γ Γ') (k : R (Itl K a) H) : walL K R (.ref a) H := r_walL (S.sq hm) k
end
/-! ### roots -/
/-- what is left of the area for the root's own -/
def rootL (x y s n : Int) : Int := s - n * (n - 1) / 2 * (x / n) * (y / n)
def RootOk (x y s n : Int) : Prop := n * (x / n) = x ∧ n * (y / n) = y ∧ n * (rootL x y s n / n) = rootL x y s n
def spRoot (K : PySem.W.Frag) : Sp := fun vs H Q _ => ∃ (a : Addr) (x y s n : Int), vs = [.ref a, .int n] ∧ SqT K H a (mv x y s) ∧ (bd 700 x ∧ bd 700 y ∧ bd 700 s ∧ bd 200 n ∧ 1 ≤ n) ∧
  (RootOk x y s n → ∀ r H', Fr [] H H' → SqT K H' r (mv (x / n) (y / n) (rootL x y s n / n)) → Q (.ref r) H') ∧ (¬ RootOk x y s n → ∀ H', Fr [] H H' → Q .non H')
theorem use_root {K : PySem.W.Frag} {H H0 : Hp} {M : List Addr} {Γ Θ : LS} {Q : VK} {a : Addr} {x y s n : Int} {E : XK} (S : Sep K H0 M Γ Θ H) (ha : (a, mv x y s) ∈ Θ) (b : bd 700 x ∧ bd 700 y ∧ bd 700 s ∧ bd 200 n ∧ 1 ≤ n)
    (k1 : RootOk x y s n → ∀ r H', Sep K H0 M Γ ((r, mv (x / n) (y / n) (rootL x y s n / n)) :: Θ) H' → Q (.ref r) H') (k2 : ¬ RootOk x y s n → ∀ H', Sep K H0 M Γ Θ H' → Q .non H') : spRoot K [.ref a, .int n] H Q E :=
  ⟨a, x, y, s, n, rfl, S.tp ha, b, fun o r H' f q => k1 o r H' ((S.kept f).addT q), fun o H' f => k2 o H' (S.kept f)⟩
theorem root_eq (x y s n : Int) (h : PyData.eqv (.tuple [.int (n * (x / n)), .int (n * (y / n)), .int (n * ((s - (n * 0 + n * (n - 1) / 2 * (x / n) * (y / n))) / n) + n * (n - 1) / 2 * (x / n) * (y / n))]) (.tuple [.int x, .int y, .int s]) = true) : RootOk x y s n := by
  simp only [PyData.eqv, PyData.eqvAll, Bool.and_eq_true, beq_iff_eq, Bool.and_true, Int.mul_zero, Int.zero_add] at h
  obtain ⟨h1, h2, h3⟩ := h
  refine ⟨h1, h2, ?_⟩
  unfold rootL
  omega
theorem root_ne (x y s n : Int) (h : PyData.eqv (.tuple [.int (n * (x / n)), .int (n * (y / n)), .int (n * ((s - (n * 0 + n * (n - 1) / 2 * (x / n) * (y / n))) / n) + n * (n - 1) / 2 * (x / n) * (y / n))]) (.tuple [.int x, .int y, .int s]) = false) : ¬ RootOk x y s n := by
  rintro ⟨h1, h2, h3⟩
  unfold rootL at h3
  have e : PyData.eqv (.tuple [.int (n * (x / n)), .int (n * (y / n)), .int (n * ((s - (n * 0 + n * (n - 1) / 2 * (x / n) * (y / n))) / n) + n * (n - 1) / 2 * (x / n) * (y / n))]) (.tuple [.int x, .int y, .int s]) = true := by
    rw [Int.mul_zero, Int.zero_add]
    exact mvE h1 h2 (by omega)
  rw [e] at h
  cases h
theorem root_area (x y s n : Int) : (s - (n * 0 + n * (n - 1) / 2 * (x / n) * (y / n))) / n = rootL x y s n / n := by
  unfold rootL
  rw [Int.mul_zero, Int.zero_add]
/-- a power's root is the move itself -/
theorem root_of_power (x y s n : Int) (hn : 1 ≤ n) : n * x / n = x ∧ n * y / n = y ∧ rootL (n * x) (n * y) (n * s + n * (n - 1) / 2 * x * y) n / n = s ∧ RootOk (n * x) (n * y) (n * s + n * (n - 1) / 2 * x * y) n := by
  have h0 : n ≠ 0 := by omega
  have h1 : n * x / n = x := Int.mul_ediv_cancel_left x h0
  have h2 : n * y / n = y := Int.mul_ediv_cancel_left y h0
  have h3 : rootL (n * x) (n * y) (n * s + n * (n - 1) / 2 * x * y) n = n * s := by
    unfold rootL
    rw [h1, h2]
    omega
  refine ⟨h1, h2, by rw [h3]; exact Int.mul_ediv_cancel_left s h0, by rw [h1], by rw [h2], ?_⟩
  rw [h3, Int.mul_ediv_cancel_left s h0]
theorem power_bd {x y s m : Int} (bm : bd 100 m) (bx : bd 102 x) (b_y : bd 102 y) (bs : bd 102 s) : bd 500 (m * s + m * (m - 1) / 2 * x * y) := by
  have h1 : bd 101 (m - 1) := bd_sub bm (bd_le (n := 1) (by unfold bd; decide) (by decide))
  have h2 : bd 201 (m * (m - 1) / 2) := bd_div (bd_mulN bm h1)
  exact bd_le (bd_add (bd_le (m := 405) (bd_mulN bm bs) (by decide)) (bd_mulN (bd_mulN h2 bx) b_y)) (by decide)
/-- the rests tell whether there is a root -/
theorem rest_iff (x n : Int) : x % n = 0 ↔ n * (x / n) = x := by
  have h := Int.mul_ediv_add_emod x n
  omega
structure Def (K : PySem.W.Frag) (mg : Str → Option Value) (x : Str) (st : Stmt) (ps : List Str) (f : Addr) (fd : FuncData) : Prop where
  m : mg x = some (.ref f)
  F : Fun K x x st f fd
  b : Binds K fd ps []
/-! ### the greatest common divisor with its factors -/
def CDivX : Int → Int → Prop := fun _ j => j ≠ 0 ∧ j.natAbs.log2 < 9000
theorem op_fdivX {X : Cx} : OpR X (binaryOp .FloorDiv) (rI CDivX fun i j => .int (i.fdiv j)) :=
  opI fun _ _ _ _ _ _ _ hc q => PyProof.Rows.floordiv_int hc.1 q (Or.inl (PyProof.noPylong_of_log2 hc.2))
theorem cdivX {n : Nat} {i j : Int} (h : j ≠ 0) (hb : bd n j) (h0 : 0 < n) (h9 : n ≤ 9000) : CDivX i j := by
  refine ⟨h, ?_⟩
  have h1 : j.natAbs < 2 ^ n := hb
  have h2 : j.natAbs ≠ 0 := by omega
  have h3 : j.natAbs.log2 < n := (Nat.log2_lt h2).mpr h1
  omega
theorem fmod_abs {d r : Int} (h : r ≠ 0) : (d - d.fdiv r * r).natAbs < r.natAbs := by
  have e : d - d.fdiv r * r = d.fmod r := by
    have := Int.fdiv_mul_add_fmod d r
    omega
  rw [e]
  rcases Int.lt_or_gt_of_ne h with g | g
  · have h1 := Int.fmod_lt_of_pos (-d) (b := -r) (by omega)
    have h2 := Int.fmod_nonneg_of_pos (-d) (b := -r) (by omega)
    rw [Int.neg_fmod_neg] at h1 h2
    omega
  · have h1 := Int.fmod_lt_of_pos d g
    have h2 := Int.fmod_nonneg_of_pos d g
    omega
theorem same_fdiv {d r : Int} (h : (0 ≤ d ∧ 0 ≤ r) ∨ (d < 0 ∧ r < 0)) : d.fdiv r = ((d.natAbs / r.natAbs : Nat) : Int) := by
  rcases h with ⟨h1, h2⟩ | ⟨h1, h2⟩
  · obtain ⟨m, rfl⟩ := Int.eq_ofNat_of_zero_le h1
    obtain ⟨n, rfl⟩ := Int.eq_ofNat_of_zero_le h2
    rw [Int.fdiv_eq_ediv_of_nonneg _ (by omega)]
    simp
  · have e : d.fdiv r = (-d).fdiv (-r) := (Int.neg_fdiv_neg d r).symm
    obtain ⟨m, hm⟩ := Int.eq_ofNat_of_zero_le (show 0 ≤ -d by omega)
    obtain ⟨n, hn⟩ := Int.eq_ofNat_of_zero_le (show 0 ≤ -r by omega)
    rw [e, hm, hn, Int.fdiv_eq_ediv_of_nonneg _ (by omega)]
    have a1 : d.natAbs = m := by omega
    have a2 : r.natAbs = n := by omega
    rw [a1, a2]
    simp
/-- the same sign, where r is not 0 -/
def SameS (d r : Int) : Prop := (0 < d ∧ 0 ≤ r) ∨ (d < 0 ∧ r ≤ 0)
theorem fmod_same {d r : Int} (h : r ≠ 0) : SameS r (d - d.fdiv r * r) := by
  have e : d - d.fdiv r * r = d.fmod r := by
    have := Int.fdiv_mul_add_fmod d r
    omega
  rw [e]
  rcases Int.lt_or_gt_of_ne h with g | g
  · have h2 := Int.fmod_nonneg_of_pos (-d) (b := -r) (by omega)
    rw [Int.neg_fmod_neg] at h2
    exact .inr ⟨g, by omega⟩
  · exact .inl ⟨g, Int.fmod_nonneg_of_pos d g⟩
theorem same_split {d r : Int} (h : SameS d r) (hr : r ≠ 0) : (d - d.fdiv r * r).natAbs + (d.fdiv r).natAbs * r.natAbs = d.natAbs ∧ (d.fdiv r).natAbs * r.natAbs ≤ d.natAbs := by
  have hs : (0 ≤ d ∧ 0 ≤ r) ∨ (d < 0 ∧ r < 0) := by
    rcases h with h | h
    · exact .inl ⟨by omega, h.2⟩
    · exact .inr ⟨h.1, by omega⟩
  have e := same_fdiv hs
  have e2 : ((d.natAbs / r.natAbs : Nat) : Int).natAbs = d.natAbs / r.natAbs := rfl
  have hm := Nat.div_add_mod d.natAbs r.natAbs
  have hc := Nat.mul_comm r.natAbs (d.natAbs / r.natAbs)
  rw [e, e2]
  generalize d.natAbs / r.natAbs = T at *
  have hTle : T * r.natAbs ≤ d.natAbs := by omega
  refine ⟨?_, hTle⟩
  have hz : ((T * r.natAbs : Nat) : Int) = (T : Int) * (r.natAbs : Int) := Int.natCast_mul ..
  rcases hs with ⟨h1, h2⟩ | ⟨h1, h2⟩
  · have hr' : ((r.natAbs : Nat) : Int) = r := by omega
    rw [hr'] at hz
    omega
  · have hr' : ((r.natAbs : Nat) : Int) = -r := by omega
    rw [hr', Int.mul_neg] at hz
    omega
/-- how great factors get -/
def FacB (B : Nat) (d r p rp : Int) : Prop := p.natAbs * r.natAbs + rp.natAbs * d.natAbs ≤ B ∧ p.natAbs ≤ B + 1 ∧ rp.natAbs ≤ B + 1
theorem fac_step {B : Nat} {d r p rp : Int} (h : FacB B d r p rp) (hs : SameS d r) (hr : r ≠ 0) : FacB B r (d - d.fdiv r * r) rp (p - d.fdiv r * rp) := by
  obtain ⟨h1, h2, h3⟩ := h
  obtain ⟨e, _⟩ := same_split hs hr
  unfold FacB
  generalize d.fdiv r = t at *
  have g1 : (p - t * rp).natAbs ≤ p.natAbs + t.natAbs * rp.natAbs := by
    have := Int.natAbs_sub_le p (t * rp)
    rw [Int.natAbs_mul] at this
    exact this
  generalize (d - t * r).natAbs = R' at *
  generalize (p - t * rp).natAbs = P' at *
  have hR : 1 ≤ r.natAbs := by omega
  generalize r.natAbs = R at *
  generalize d.natAbs = D at *
  generalize rp.natAbs = RP at *
  generalize p.natAbs = P at *
  generalize t.natAbs = T at *
  have g2 : P' * R ≤ (P + T * RP) * R := Nat.mul_le_mul_right R g1
  have g3 : RP * R' + (P + T * RP) * R = P * R + RP * D := by
    rw [← e]
    grind
  have g4 : RP * R' + P' * R ≤ B := by omega
  have g5 : P' * 1 ≤ P' * R := Nat.mul_le_mul_left P' hR
  exact ⟨g4, h3, by omega⟩
/-- the state of the loop -/
def EuI (a b d r p q rp rq : Int) : Prop := d = p * a + q * b ∧ r = rp * a + rq * b ∧ Int.gcd d r = Int.gcd a b ∧ d.natAbs ≤ a.natAbs + b.natAbs ∧ r.natAbs ≤ a.natAbs + b.natAbs ∧
  ((d = a ∧ r = b ∧ p = 1 ∧ q = 0 ∧ rp = 0 ∧ rq = 1) ∨ (SameS d r ∧ FacB (a.natAbs + 2 * b.natAbs) d r p rp ∧ FacB (a.natAbs + 2 * b.natAbs) d r q rq))
theorem EuI.start (a b : Int) : EuI a b a b 1 0 0 1 := ⟨by omega, by omega, rfl, by omega, by omega, .inl ⟨rfl, rfl, rfl, rfl, rfl, rfl⟩⟩
theorem EuI.step {a b d r p q rp rq : Int} (h : EuI a b d r p q rp rq) (hr : r ≠ 0) : EuI a b r (d - d.fdiv r * r) rp rq (p - d.fdiv r * rp) (q - d.fdiv r * rq) := by
  obtain ⟨h1, h2, h3, h4, h5, h6⟩ := h
  have g := fmod_abs (d := d) hr
  refine ⟨h2, ?_, ?_, h5, by omega, .inr ⟨fmod_same hr, ?_⟩⟩
  · generalize d.fdiv r = t
    rw [h1, h2]
    grind
  · rw [Int.gcd_sub_mul_right_right, Int.gcd_comm]
    exact h3
  · rcases h6 with ⟨rfl, rfl, rfl, rfl, rfl, rfl⟩ | ⟨hs, f1, f2⟩
    · have e1 : (1 - d.fdiv r * 0) = 1 := by omega
      have e2 : (0 - d.fdiv r * 1) = - d.fdiv r := by omega
      have e3 : (d.fdiv r * r).natAbs ≤ d.natAbs + r.natAbs := by omega
      rw [Int.natAbs_mul] at e3
      have e4 : (d.fdiv r).natAbs * 1 ≤ (d.fdiv r).natAbs * r.natAbs := Nat.mul_le_mul_left _ (by omega)
      rw [e1, e2]
      unfold FacB
      refine ⟨⟨by simp; omega, by simp, by simp⟩, ⟨?_, by simp, by rw [Int.natAbs_neg]; omega⟩⟩
      rw [Int.natAbs_neg]
      simp
      omega
    · exact ⟨fac_step f1 hs hr, fac_step f2 hs hr⟩
theorem EuI.bds {n : Nat} {a b d r p q rp rq : Int} (h : EuI a b d r p q rp rq) (ha : bd n a) (hb : bd n b) : bd (n + 2) d ∧ bd (n + 2) r ∧ bd (n + 2) p ∧ bd (n + 2) q ∧ bd (n + 2) rp ∧ bd (n + 2) rq := by
  obtain ⟨h1, h2, h3, h4, h5, h6⟩ := h
  have ha' : a.natAbs < 2 ^ n := ha
  have hb' : b.natAbs < 2 ^ n := hb
  have e : 2 ^ (n + 2) = 4 * 2 ^ n := by rw [Nat.pow_add]; omega
  unfold bd
  rw [e]
  rcases h6 with ⟨rfl, rfl, rfl, rfl, rfl, rfl⟩ | ⟨hs, f1, f2⟩
  · refine ⟨by omega, by omega, ?_, ?_, ?_, ?_⟩ <;> simp <;> omega
  · obtain ⟨_, f3, f4⟩ := f1
    obtain ⟨_, f5, f6⟩ := f2
    refine ⟨by omega, by omega, by omega, by omega, by omega, by omega⟩
theorem EuI.done {a b d p q rp rq : Int} (h : EuI a b d 0 p q rp rq) : d = p * a + q * b ∧ d.natAbs = Int.gcd a b := by
  obtain ⟨h1, _, h3, _⟩ := h
  refine ⟨h1, ?_⟩
  rw [← h3, Int.gcd_zero_right]
theorem fdiv_abs (d r : Int) : (d.fdiv r).natAbs ≤ d.natAbs := PySem.natAbs_fdiv_le d r
/-- the loop's answer -/
def euG (d r p q rp rq : Int) : Int × Int × Int :=
  if h : r = 0 then (d, p, q) else euG r (d - d.fdiv r * r) rp rq (p - d.fdiv r * rp) (q - d.fdiv r * rq)
termination_by r.natAbs
decreasing_by exact fmod_abs h
theorem euG_ok {n : Nat} {a b : Int} (ha : bd n a) (hb : bd n b) (k : Nat) : ∀ {d r p q rp rq : Int}, r.natAbs ≤ k → EuI a b d r p q rp rq →
    (euG d r p q rp rq).1 = (euG d r p q rp rq).2.1 * a + (euG d r p q rp rq).2.2 * b ∧ (euG d r p q rp rq).1.natAbs = Int.gcd a b ∧ bd (n + 2) (euG d r p q rp rq).1 ∧ bd (n + 2) (euG d r p q rp rq).2.1 ∧ bd (n + 2) (euG d r p q rp rq).2.2 := by
  induction k with
  | zero =>
    intro d r p q rp rq hk h
    have hr : r = 0 := by omega
    subst hr
    rw [euG, dif_pos rfl]
    have hb' := h.bds ha hb
    have hd := h.done
    exact ⟨hd.1, hd.2, hb'.1, hb'.2.2.1, hb'.2.2.2.1⟩
  | succ k ih =>
    intro d r p q rp rq hk h
    by_cases hr : r = 0
    · subst hr
      rw [euG, dif_pos rfl]
      have hb' := h.bds ha hb
      have hd := h.done
      exact ⟨hd.1, hd.2, hb'.1, hb'.2.2.1, hb'.2.2.2.1⟩
    · rw [euG, dif_neg hr]
      have := fmod_abs (d := d) hr
      exact ih (by omega) (h.step hr)
def dvf (a b : Int) : Int × Int × Int := if (euG a b 1 0 0 1).1 < 0 then (-(euG a b 1 0 0 1).1, -(euG a b 1 0 0 1).2.1, -(euG a b 1 0 0 1).2.2) else euG a b 1 0 0 1
theorem dvf_ok {n : Nat} {a b : Int} (ha : bd n a) (hb : bd n b) : (dvf a b).1 = (dvf a b).2.1 * a + (dvf a b).2.2 * b ∧ (dvf a b).1 = (Int.gcd a b : Nat) ∧ bd (n + 2) (dvf a b).1 ∧ bd (n + 2) (dvf a b).2.1 ∧ bd (n + 2) (dvf a b).2.2 := by
  obtain ⟨h1, h2, h3, h4, h5⟩ := euG_ok ha hb b.natAbs (Nat.le_refl _) (EuI.start a b)
  unfold dvf
  by_cases h : (euG a b 1 0 0 1).1 < 0
  · rw [if_pos h]
    refine ⟨?_, ?_, bd_neg h3, bd_neg h4, bd_neg h5⟩
    · show -(euG a b 1 0 0 1).1 = -(euG a b 1 0 0 1).2.1 * a + -(euG a b 1 0 0 1).2.2 * b
      rw [Int.neg_mul, Int.neg_mul]
      omega
    · show -(euG a b 1 0 0 1).1 = _
      omega
  · rw [if_neg h]
    exact ⟨h1, by omega, h3, h4, h5⟩
/-! ### while; three names at once -/
theorem r_while {c : TT} {tb : TS} {D : Ends} {σ : L2.St} {H : Hp} (W : Nat → L2.St → Hp → Prop) (h0 : ∃ m, W m σ H)
    (hs : ∀ m σ H, W m σ H → c σ H fun b H1 => br b (∃ N : L2.St → Hp → Prop, (∀ σ' H', N σ' H' → ∃ m', m' < m ∧ W m' σ' H') ∧ tb { D with nx := N, ct := N, bk := D.nx } σ H1) (D.nx σ H1)) : tWhile c tb D σ H := ⟨W, h0, hs⟩
def kP3 (i j l : Nat) (D : Ends) (σ : L2.St) : List V → Hp → Prop := fun vs H => ∃ u v w, vs = [u, v, w] ∧ D.nx (((σ.set i (some u)).set j (some v)).set l (some w)) H
theorem r_p3 {i j l : Nat} {ta : TA} {D : Ends} {σ : L2.St} {H : Hp} (k : ta σ H (kP3 i j l D σ)) : L2.tPar3 i j l ta D σ H := k
theorem r_kP3 {i j l : Nat} {D : Ends} {σ : L2.St} {H : Hp} {u v w : V} (k : D.nx (((σ.set i (some u)).set j (some v)).set l (some w)) H) : kP3 i j l D σ [u, v, w] H := ⟨u, v, w, rfl, k⟩
def spDivF (K : PySem.W.Frag) : Sp := fun vs H Q _ => ∃ a b : Int, vs = [.int a, .int b] ∧ bd 700 a ∧ bd 700 b ∧
  ∀ r H', Fr [] H H' → SqT K H' r [.int (dvf a b).1, .int (dvf a b).2.1, .int (dvf a b).2.2] → Q (.ref r) H'
theorem use_divF {K : PySem.W.Frag} {H H0 : Hp} {M : List Addr} {Γ Θ : LS} {Q : VK} {a b : Int} {E : XK} (S : Sep K H0 M Γ Θ H) (ha : bd 700 a) (hb : bd 700 b)
    (k : ∀ r H', Sep K H0 M Γ ((r, [.int (dvf a b).1, .int (dvf a b).2.1, .int (dvf a b).2.2]) :: Θ) H' → Q (.ref r) H') : spDivF K [.int a, .int b] H Q E :=
  ⟨a, b, rfl, ha, hb, fun r H' f t => k r H' ((S.kept f).addT t)⟩
/-! ### likeness -/
def alikeV (x y s x' y' s' : Int) : Option (Int × Int × Int) :=
  if x = x' ∧ y = y' then
    if s' - s = 0 then some (0, 0, 0)
    else if (dvf y (-x)).1 = 0 then none
    else if (s' - s) % (dvf y (-x)).1 = 0 then some ((dvf y (-x)).2.1 * ((s' - s) / (dvf y (-x)).1), (dvf y (-x)).2.2 * ((s' - s) / (dvf y (-x)).1), 0)
    else none
  else none
def spAlike (K : PySem.W.Frag) : Sp := fun vs H Q _ => ∃ (a b : Addr) (x y s x' y' s' : Int), vs = [.ref a, .ref b] ∧ SqT K H a (mv x y s) ∧ SqT K H b (mv x' y' s') ∧ (bd 600 x ∧ bd 600 y ∧ bd 600 s ∧ bd 600 s') ∧
  (alikeV x y s x' y' s' = none → ∀ H', Fr [] H H' → Q .non H') ∧ (∀ u v z, alikeV x y s x' y' s' = some (u, v, z) → ∀ r H', Fr [] H H' → SqT K H' r (mv u v z) → Q (.ref r) H')
theorem use_alike {K : PySem.W.Frag} {H H0 : Hp} {M : List Addr} {Γ Θ : LS} {Q : VK} {a b : Addr} {x y s x' y' s' : Int} {E : XK} (S : Sep K H0 M Γ Θ H) (ha : (a, mv x y s) ∈ Θ) (hb : (b, mv x' y' s') ∈ Θ) (o : bd 600 x ∧ bd 600 y ∧ bd 600 s ∧ bd 600 s')
    (k1 : alikeV x y s x' y' s' = none → ∀ H', Sep K H0 M Γ Θ H' → Q .non H') (k2 : ∀ u v z, alikeV x y s x' y' s' = some (u, v, z) → ∀ r H', Sep K H0 M Γ ((r, mv u v z) :: Θ) H' → Q (.ref r) H') : spAlike K [.ref a, .ref b] H Q E :=
  ⟨a, b, x, y, s, x', y', s', rfl, S.tp ha, S.tp hb, o, fun e H' f => k1 e H' (S.kept f), fun u v z e r H' f t => k2 u v z e r H' ((S.kept f).addT t)⟩
theorem eqv2 {x y x' y' : Int} : PyData.eqv (.tuple [.int x, .int y]) (.tuple [.int x', .int y']) = decide (x = x' ∧ y = y') := by
  by_cases h1 : x = x' <;> by_cases h2 : y = y' <;> simp [PyData.eqv, PyData.eqvAll, h1, h2]
/-- what alike tells does it: the gap of what is told and the move is what the area lacks -/
theorem alikeV_some {x y s x' y' s' u v z : Int} (bx : bd 600 x) (b_y : bd 600 y) (h : alikeV x y s x' y' s' = some (u, v, z)) : x = x' ∧ y = y' ∧ u * y - v * x = s' - s ∧ z = 0 := by
  unfold alikeV at h
  split at h
  · rename_i h1
    split at h
    · cases h
      exact ⟨h1.1, h1.2, by omega, rfl⟩
    · split at h
      · cases h
      · split at h
        · rename_i h2 h3 h4
          cases h
          refine ⟨h1.1, h1.2, ?_, rfl⟩
          obtain ⟨e, _⟩ := dvf_ok b_y (bd_neg bx)
          have e3 := Int.mul_ediv_add_emod (s' - s) (dvf y (-x)).1
          rw [h4] at e3
          generalize (s' - s) / (dvf y (-x)).1 = t at *
          rw [e] at e3
          generalize (dvf y (-x)).2.1 = P at *
          generalize (dvf y (-x)).2.2 = W at *
          grind
        · cases h
  · cases h
/-! ### the greatest common divisor by rests, in a counted loop -/
def ShI (a b : Int) (i : Nat) (u v : Nat) : Prop := Nat.gcd u v = Int.gcd a b ∧ (u < 2 ^ 600 ∧ v < 2 ^ 600) ∧ ((i = 0 ∧ u * v < 2 ^ 1200) ∨ (1 ≤ i ∧ v < u ∧ u * v * 2 ^ (i - 1) < 2 ^ 1200))
theorem ShI.start {a b : Int} (ha : bd 600 a) (hb : bd 600 b) : ShI a b 0 a.natAbs b.natAbs := by
  have e : (2 : Nat) ^ 1200 = 2 ^ 600 * 2 ^ 600 := by rw [← Nat.pow_add]
  have ha' : a.natAbs < 2 ^ 600 := ha
  have hb' : b.natAbs < 2 ^ 600 := hb
  refine ⟨rfl, ⟨ha', hb'⟩, .inl ⟨rfl, ?_⟩⟩
  rw [e]
  generalize 2 ^ 600 = T at *
  exact Nat.mul_lt_mul_of_lt_of_le ha' (Nat.le_of_lt hb') (by omega)
theorem ShI.step {a b : Int} {i u v : Nat} (h : ShI a b i u v) (hv : v ≠ 0) : ShI a b (i + 1) v (u % v) := by
  obtain ⟨h1, ⟨h2, h3⟩, h4⟩ := h
  have hlt : u % v < v := Nat.mod_lt _ (by omega)
  have hle : u % v ≤ u := Nat.mod_le _ _
  refine ⟨?_, ⟨h3, by omega⟩, .inr ⟨by omega, hlt, ?_⟩⟩
  · rw [← h1, Nat.gcd_comm u v, Nat.gcd_rec v u, Nat.gcd_comm]
  · show v * (u % v) * 2 ^ i < 2 ^ 1200
    rcases h4 with ⟨h5, h6⟩ | ⟨h5, h6, h7⟩
    · subst h5
      have e1 : v * (u % v) ≤ v * u := Nat.mul_le_mul_left v hle
      have e2 := Nat.mul_comm u v
      generalize 2 ^ 1200 = T at *
      omega
    · have e : 2 ^ i = 2 ^ (i - 1) * 2 := by rw [← Nat.pow_succ]; congr 1; omega
      have e1 : 2 * (u % v) ≤ u := by
        have := Nat.mod_add_div u v
        have h8 : 1 ≤ u / v := Nat.div_pos (by omega) (by omega)
        have h9 : v * 1 ≤ v * (u / v) := Nat.mul_le_mul_left v h8
        omega
      have e2 : v * (2 * (u % v)) ≤ v * u := Nat.mul_le_mul_left v e1
      have e3 : v * (u % v) * 2 ^ i = v * (2 * (u % v)) * 2 ^ (i - 1) := by rw [e]; grind
      rw [e3]
      rw [Nat.mul_comm u v] at h7
      exact Nat.lt_of_le_of_lt (Nat.mul_le_mul_right _ e2) h7
theorem ShI.done {a b : Int} {u v : Nat} (h : ShI a b 3000 u v) : v = 0 := by
  obtain ⟨_, _, h4⟩ := h
  rcases h4 with ⟨h5, _⟩ | ⟨_, h6, h7⟩
  · cases h5
  · apply Decidable.byContradiction
    intro hv
    have e0 : 1 ≤ u * v := Nat.mul_pos (by omega) (by omega)
    have e1 : 1 * 2 ^ (3000 - 1) ≤ u * v * 2 ^ (3000 - 1) := Nat.mul_le_mul_right _ e0
    have e2 : (2 : Nat) ^ 1200 ≤ 2 ^ (3000 - 1) := Nat.pow_le_pow_right (by decide) (by decide)
    generalize 2 ^ (3000 - 1) = T at *
    generalize 2 ^ 1200 = U at *
    omega
theorem ShI.gcd {a b : Int} {i u : Nat} (h : ShI a b i u 0) : (u : Int) = (Int.gcd a b : Nat) := by
  rw [← h.1, Nat.gcd_zero_right]
theorem ShI.bds {a b : Int} {i u v : Nat} (h : ShI a b i u v) : bd 600 (u : Int) ∧ bd 600 (v : Int) := h.2.1
def spShared (_K : PySem.W.Frag) : Sp := fun vs H Q _ => ∃ a b : Int, vs = [.int a, .int b] ∧ bd 600 a ∧ bd 600 b ∧ ∀ H', Fr [] H H' → Q (.int (Int.gcd a b : Nat)) H'
theorem use_shared {K : PySem.W.Frag} {H H0 : Hp} {M : List Addr} {Γ Θ : LS} {Q : VK} {a b : Int} {E : XK} (S : Sep K H0 M Γ Θ H) (ha : bd 600 a) (hb : bd 600 b)
    (k : ∀ H', Sep K H0 M Γ Θ H' → Q (.int (Int.gcd a b : Nat)) H') : spShared K [.int a, .int b] H Q E := ⟨a, b, rfl, ha, hb, fun H' f => k H' (S.kept f)⟩
theorem bd_gcd {n : Nat} {a b : Int} (ha : bd n a) (hb : bd n b) : bd (n + 1) ((Int.gcd a b : Nat) : Int) := by
  have ha' : a.natAbs < 2 ^ n := ha
  have hb' : b.natAbs < 2 ^ n := hb
  have h : Int.gcd a b ≤ a.natAbs + b.natAbs := by
    show Nat.gcd a.natAbs b.natAbs ≤ _
    by_cases h0 : a.natAbs = 0
    · rw [h0, Nat.gcd_zero_left]
      omega
    · have := Nat.gcd_le_left b.natAbs (by omega : 0 < a.natAbs)
      omega
  have e : (2 : Nat) ^ (n + 1) = 2 * 2 ^ n := by rw [Nat.pow_succ]; omega
  show ((Int.gcd a b : Nat) : Int).natAbs < 2 ^ (n + 1)
  rw [e]
  generalize 2 ^ n = T at *
  omega
abbrev spBack (K : PySem.W.Frag) : Sp := spM1 K (fun x y _ => bd 4000 x ∧ bd 4000 y) (fun x _ _ => 0 - x) (fun _ y _ => 0 - y) (fun x y s => x * y - s)
abbrev spAround (K : PySem.W.Frag) : Sp := spMM K (fun x y _ x' y' _ => bd 3000 x ∧ bd 3000 y ∧ bd 3000 x' ∧ bd 3000 y') (fun x _ _ x' _ _ => x + x' + (0 - x)) (fun _ y _ _ y' _ => y + y' + (0 - y)) (fun x y s x' y' s' => s + s' + x * y' + (x * y - s) + (x + x') * (0 - y))
def spPair (K : PySem.W.Frag) : Sp := fun vs H Q _ => ∃ (w : Addr) (l : List V), vs = [.ref w] ∧ H w = some (.lst l) ∧ WellD l ∧
  ∀ (r t1 t2 : Addr) (x y s x' y' s' : Int) (H' : Hp) (l' : List V), (bd 300 x ∧ bd 300 y ∧ bd 300 s ∧ bd 300 x' ∧ bd 300 y' ∧ bd 300 s') → WellD l' → H' w = some (.lst l') → Fr [w] H H' → SqT K H' t1 (mv x y s) → SqT K H' t2 (mv x' y' s') → SqT K H' r [.ref t1, .ref t2] → Q (.ref r) H'
theorem use_pair {K : PySem.W.Frag} {H H0 : Hp} {M : List Addr} {Γ Γ' Θ : LS} {Q : VK} {w : Addr} {l : List V} {E : XK} (S : Sep K H0 M Γ Θ H) (hm : Pick w l Γ Γ') (hw : w ∈ M ∨ H0 w = none) (hl : WellD l)
    (k : ∀ r t1 t2 x y s x' y' s' l' H', (bd 300 x ∧ bd 300 y ∧ bd 300 s ∧ bd 300 x' ∧ bd 300 y' ∧ bd 300 s') → WellD l' → Sep K H0 M ((w, l') :: Γ') ((r, [.ref t1, .ref t2]) :: (t1, mv x y s) :: (t2, mv x' y' s') :: Θ) H' → Q (.ref r) H') : spPair K [.ref w] H Q E :=
  ⟨w, l, rfl, S.at hm, hl, fun r t1 t2 x y s x' y' s' H' l' b c d e f g h => k r t1 t2 x y s x' y' s' l' H' b c ((((S.mut hm hw e d).addT g).addT f).addT h)⟩
theorem around_is (x y s x' y' s' : Int) : x + x' + (0 - x) = x' ∧ y + y' + (0 - y) = y' ∧ s + s' + x * y' + (x * y - s) + (x + x') * (0 - y) = s' + (x * y' - x' * y) := by
  refine ⟨by omega, by omega, ?_⟩
  grind
theorem around_bd {x y s x' y' s' : Int} (h1 : bd 102 x) (h2 : bd 102 y) (h4 : bd 102 x') (h5 : bd 102 y') (h6 : bd 102 s') :
    bd 300 (x + x' + (0 - x)) ∧ bd 300 (y + y' + (0 - y)) ∧ bd 300 (s + s' + x * y' + (x * y - s) + (x + x') * (0 - y)) := by
  obtain ⟨e1, e2, e3⟩ := around_is x y s x' y' s'
  rw [e1, e2, e3]
  exact ⟨bd_le h4 (by decide), bd_le h5 (by decide), bd_le (bd_add (n := 205) (bd_le h6 (by decide)) (bd_sub (bd_mulN h1 h5) (bd_mulN h4 h2))) (by decide)⟩
theorem r_neBB {a b : Bool} {Q : VK} {H : Hp} (k : Q (.bl (!decide (a = b))) H) : rNe (.bl a) (.bl b) H Q := ⟨rfl, by
  have e : decide (V.bl a = V.bl b) = decide (a = b) := by cases a <;> cases b <;> rfl
  rw [e]
  exact k⟩
/-- when two moves are alike -/
def DueP (x y s x' y' s' : Int) : Prop := (x = x' ∧ y = y') ∧ (((Int.gcd x y : Nat) : Int) = 0 → s' - s = 0) ∧ (((Int.gcd x y : Nat) : Int) ≠ 0 → (s' - s) % ((Int.gcd x y : Nat) : Int) = 0)
theorem DueP.symm {x y s x' y' s' : Int} (h : DueP x y s x' y' s') : DueP x' y' s' x y s := by
  obtain ⟨⟨rfl, rfl⟩, h1, h2⟩ := h
  refine ⟨⟨rfl, rfl⟩, fun h => ?_, fun h => ?_⟩
  · have := h1 h
    omega
  · have h3 := Int.dvd_of_emod_eq_zero (h2 h)
    have h4 : s - s' = -(s' - s) := by omega
    rw [h4]
    exact Int.emod_eq_zero_of_dvd ((Int.dvd_neg).mpr h3)
theorem due_symm {x y s x' y' s' : Int} : DueP x y s x' y' s' ↔ DueP x' y' s' x y s := ⟨DueP.symm, DueP.symm⟩
theorem alikeV_none {x y s x' y' s' : Int} (bx : bd 600 x) (b_y : bd 600 y) : alikeV x y s x' y' s' = none ↔ ¬ DueP x y s x' y' s' := by
  obtain ⟨_, e2, _⟩ := dvf_ok b_y (bd_neg bx)
  rw [Int.gcd_neg, Int.gcd_comm] at e2
  unfold alikeV DueP
  rw [e2]
  generalize ((Int.gcd x y : Nat) : Int) = g at *
  by_cases h1 : x = x' ∧ y = y'
  · rw [if_pos h1]
    by_cases h2 : s' - s = 0
    · rw [if_pos h2, h2]
      simp [h1]
    · rw [if_neg h2]
      by_cases h3 : g = 0
      · rw [if_pos h3]
        simp [h1, h2, h3]
      · rw [if_neg h3]
        by_cases h4 : (s' - s) % g = 0
        · rw [if_pos h4]
          simp [h1, h3, h4]
        · rw [if_neg h4]
          simp [h1, h3, h4]
  · rw [if_neg h1]
    simp only [true_iff]
    exact fun z => h1 z.1
theorem alikeV_self (x y s : Int) : alikeV x y s x y s = some (0, 0, 0) := by
  unfold alikeV
  rw [if_pos ⟨rfl, rfl⟩, if_pos (by omega)]
theorem alikeV_bd {x y s x' y' s' u v z : Int} (bx : bd 600 x) (b_y : bd 600 y) (bs : bd 600 s) (bs' : bd 600 s') (h : alikeV x y s x' y' s' = some (u, v, z)) : bd 1300 u ∧ bd 1300 v := by
  have b0 : bd 1300 (0 : Int) := by
    show (0 : Int).natAbs < 2 ^ 1300
    exact Nat.lt_of_lt_of_le (show 0 < 1 by decide) (Nat.one_le_two_pow)
  obtain ⟨_, _, _, b2, b3⟩ := dvf_ok b_y (bd_neg bx)
  unfold alikeV at h
  split at h
  · split at h
    · cases h
      exact ⟨b0, b0⟩
    · split at h
      · cases h
      · split at h
        · cases h
          exact ⟨bd_le (bd_mulN b2 (bd_div (bd_sub bs' bs))) (by decide), bd_le (bd_mulN b3 (bd_div (bd_sub bs' bs))) (by decide)⟩
        · cases h
  · cases h
end Z

local macro_rules | `(tactic| wtm_at "pk") => `(tactic| first | exact Z.Pick.here | (apply Z.Pick.there; wtm_at "pk"))
local macro_rules | `(tactic| wtm_at "mem") => `(tactic| first | exact List.mem_cons_self | (apply List.mem_cons_of_mem; wtm_at "mem") | assumption)
local macro_rules | `(tactic| wtm_at "own") => `(tactic| first | exact Or.inr (by assumption) | exact Or.inl (by wtm_at "mem"))
local macro_rules | `(tactic| wtm_at "ok") => `(tactic| first | exact ⟨by wtm_at "bdt", by wtm_at "bdt"⟩ | exact ⟨by wtm_at "bdt", by wtm_at "bdt", by wtm_at "bdt", by wtm_at "bdt"⟩)
local macro_rules | `(tactic| wtm_at "dp") => `(tactic| first | exact L2.Dp.int _ | exact L2.Dp.bl _ | exact L2.Dp.str _ | exact L2.Dp.non | exact L2.Dp.tup (Z.Sep.tp (by assumption) (by wtm_at "mem")) (by wtm_at "dps") | exact L2.Dp.lst (Z.Sep.sq (by assumption) (by wtm_at "pk")) (by wtm_at "dps"))
local macro_rules | `(tactic| wtm_at "dps") => `(tactic| first | exact L2.DpAll.nil | exact L2.DpAll.cons (by wtm_at "dp") (by wtm_at "dps"))
local macro_rules | `(tactic| wtm_at "arith") => `(tactic| (repeat' apply And.intro) <;> first | rfl | omega | grind)
local macro_rules | `(tactic| wtm_at "eqs") => `(tactic| (simp only [PySem.PyData.eqv, PySem.PyData.eqvAll, Bool.and_eq_true, beq_iff_eq, and_true, true_and, Bool.and_true] <;> wtm_at "arith"))
local macro_rules | `(tactic| wtm_at "ex") => `(tactic| with_unfolding_all exact rfl)
local macro_rules | `(tactic| wtm_at "bdt") => `(tactic| first | exact Z.bd_le (by assumption) (by decide) | (with_reducible apply Z.bd_add <;> wtm_at "bdt") | (with_reducible apply Z.bd_sub <;> wtm_at "bdt") | (with_reducible apply Z.bd_neg; wtm_at "bdt") | (with_reducible apply Z.bd_two; wtm_at "bdt") | (with_reducible apply Z.bd_mul <;> wtm_at "bdt") | (with_reducible apply Z.bd_div; wtm_at "bdt") | exact Z.bd_le (n := 64) (Z.bd_of (by omega) (by omega)) (by decide))
local macro_rules | `(tactic| wtm_at "side") => `(tactic| first | (with_reducible refine Z.cdivX (n := 4000) ?a ?b ?c ?d; (case a => first | assumption | omega); (case b => wtm_at "bdt"); (case c => decide); (case d => decide)) | (with_reducible refine Z.cmulL ?a ?b <;> omega) | (with_reducible refine Z.cmulR ?a ?b <;> omega) | (with_reducible refine Z.cdiv ?a ?b <;> omega) | (with_reducible refine Z.cdivW (n := 4000) ?a ?b ?c ?d; (case a => omega); (case b => wtm_at "bdt"); (case c => decide); (case d => decide)) | (with_reducible refine Z.mulW (n := 20000) (m := 20000) ?a ?b ?c; (case a => wtm_at "bdt"); (case b => wtm_at "bdt"); (case c => decide)) | (show (0 : Int) < _; omega))
local macro_rules | `(tactic| wtm_at "rd") => `(tactic| (first
  | (((with_reducible show L2.tVar _ _ _ _); refine Z.r_var (by wtm_at "ex") ?_))
  | (with_reducible refine Z.r_c ?_)
  | (with_reducible refine Z.r_op ?_)
  | (with_reducible refine Z.r_un ?_)
  | (with_reducible refine Z.r_cons ?_)
  | (with_reducible refine Z.r_nil ?_)
  | (with_reducible refine Z.r_cb ?_)
  | (with_reducible refine Z.r_call ?_)
  | (with_reducible refine Z.r_callK ?_)
  | (with_reducible refine Z.r_I0 ?_)
  | (with_reducible refine Z.r_U ?_)
  | (with_reducible refine Z.r_isN ?_)
  | (with_reducible refine Z.r_notN ?_)
  | (with_reducible refine Z.br_ref ?_)
  | (with_reducible refine Z.br_refB ?_)
  | (with_reducible refine Z.r_eqI ?_)
  | (with_reducible refine Z.r_neI ?_)
  | (with_reducible refine Z.r_eqS ?_)
  | (with_reducible refine Z.r_neS ?_)
  | (with_reducible refine Z.r_test ?_)
  | (with_reducible refine Z.r_tB ?_)
  | (with_reducible refine Z.r_kB ?_)
  | (with_reducible refine Z.r_kI ?_)
  | (with_reducible refine Z.r_int ?_)
  | (with_reducible refine Z.r_abs ?_)
  | (with_reducible refine Z.r_max2 ?_)
  | (with_reducible refine Z.r_min2 ?_)
  | (with_reducible refine Z.r_p3 ?_)
  | (with_reducible refine Z.r_kP3 ?_)
  | (with_reducible refine Z.r_brk ?_)
  | (with_reducible refine Z.r_bk ?_)
  | (with_reducible refine Z.r_cnt ?_)
  | (with_reducible refine Z.r_ct ?_)
  | (with_reducible refine Z.r_seqSet ?_)
  | (with_reducible refine Z.r_seqDrop ?_)
  | (with_reducible refine Z.r_seq ?_)
  | (with_reducible refine Z.r_set ?_)
  | (with_reducible refine Z.r_asg ?_)
  | (with_reducible refine Z.r_drop ?_)
  | (with_reducible refine Z.r_ret ?_)
  | (with_reducible refine Z.r_retN ?_)
  | (with_reducible refine Z.r_ifS ?_)
  | (with_reducible refine Z.r_next ?_)
  | (with_reducible refine Z.r_nx ?_)
  | (with_reducible refine Z.r_rt ?_)
  | (with_reducible refine Z.r_gName ?_)
  | (with_reducible refine Z.r_gSub ?_)
  | (with_reducible refine Z.r_gCons ?_)
  | (with_reducible refine Z.r_gNil ?_)
  | (with_reducible refine Z.r_par2 ?_)
  | (with_reducible refine Z.r_par3 ?_)
  | (with_reducible refine Z.r_and ?_)
  | (with_reducible refine Z.r_or ?_)
  | (with_reducible refine Z.r_not ?_)
  | (with_reducible refine Z.r_andV ?_)
  | (with_reducible refine Z.r_orV ?_)
  | (with_reducible refine Z.r_notV ?_)
  | (with_reducible refine Z.r_if ?_)
  | (with_reducible refine Z.r_tup ?_)
  | (with_reducible refine Z.r_lst ?_)
  | (with_reducible refine Z.r_chain ?_)
  | (with_reducible refine Z.r_sl ?_)
  | (with_reducible refine Z.r_noPart ?_)
  | (with_reducible refine Z.r_part ?_)
  | (with_reducible refine Z.r_for ?_)
  | (with_reducible refine Z.r_lc ?_)
  | (with_reducible refine Z.r_iRng1 ?_)
  | (with_reducible refine Z.r_iRng2 ?_)
  | (with_reducible refine Z.r_iList ?_)
  | (with_reducible refine Z.r_iTup ?_)
  | (with_reducible refine Z.brT ?_)
  | (with_reducible refine Z.brF ?_)
  | (with_reducible refine Z.r_p6 ?_)
  | (with_reducible refine Z.r_p18 ?_)
  | (with_reducible refine Z.r_p30 ?_)
  | (with_reducible refine Z.r_typI ?_)
  | (((with_reducible show Z.nwT _ _ _); refine Z.r_nwT (by assumption) (by exact Nat.le_of_ble_eq_true rfl) ?_; intro p H1 hp h0 S))
  | (((with_reducible show Z.nwL _ _ _); refine Z.r_nwL (by assumption) (by exact Nat.le_of_ble_eq_true rfl) ?_; intro p H1 hp h0 S))
  | (((with_reducible show Z.rDivmod _ _ _); refine Z.r_divmod (by assumption) (by omega) (by omega) ?_; intro p H1 hp h0 S))
  | (((with_reducible show Z.rDivmodW _ _ _); refine Z.r_divmodW (by assumption) (by omega) (by first | assumption | wtm_at "bdt") ?_; intro p H1 hp h0 S))
  | (((with_reducible show Z.rTuple _ _ _ _); refine Z.r_tupleL (by assumption) (by wtm_at "pk") ?_; intro p H1 hp h0 S))
  | (((with_reducible show L2.rSlL _ _ _ _ _ _); refine Z.r_slL (by assumption) (by wtm_at "pk") ?_; intro p H1 hp h0 S))
  | (((with_reducible show Z.rLen _ _ _ _); first | refine Z.r_lenL (by assumption) (by wtm_at "pk") ?_ | refine Z.r_lenT (by assumption) (by wtm_at "mem") ?_))
  | (((with_reducible show L2.rIxT _ _ _ _ _); refine Z.r_ixT (by assumption) (by wtm_at "mem") (by wtm_at "ex") ?_))
  | (((with_reducible show L2.rIxL _ _ _ _ _); refine Z.r_ixL (by assumption) (by wtm_at "pk") (by wtm_at "ex") ?_))
  | (((with_reducible show L2.rSetL _ _ _ _ _); refine Z.r_setL (by assumption) (by wtm_at "pk") (by wtm_at "own") (by wtm_at "ex") ?_; intro H1 S; (try simp only [Int.reduceToNat, List.set_cons_succ, List.set_cons_zero] at S)))
  | (((with_reducible show Z.rng1 _ _ _); refine Z.r_rng1 (by omega) (by omega) ?_))
  | (((with_reducible show Z.rng2 _ _ _); refine Z.r_rng2 (by omega) (by omega) (by omega) (by omega) ?_))
  | (((with_reducible show L2.gTup _ _ _ _ _ _ _); refine Z.r_gTup (by assumption) (by wtm_at "mem") (by wtm_at "ex") ?_))
  | (((with_reducible show L2.rSlT _ _ _ _ _ _); refine Z.r_slT2 (by assumption) (by wtm_at "mem") ?_; intro p H1 hp h0 S))
  | (((with_reducible show L2.rRep _ (L2.V.int (OfNat.ofNat _)) _ _); refine Z.r_rep (by assumption) (by wtm_at "pk") (by decide) (by decide) (by exact Nat.le_of_ble_eq_true rfl) ?_; intro p H1 hp h0 S; (try simp only [Int.reduceToNat, List.replicate_succ, List.replicate_zero, List.flatten_cons, List.flatten_nil, List.append_nil, List.singleton_append, List.cons_append, List.nil_append] at S)))
  | (((with_reducible show L2.rCat _ _ _ _); refine Z.r_cat (by assumption) (by wtm_at "pk") (by wtm_at "pk") (by exact Nat.le_of_ble_eq_true rfl) ?_; intro p H1 hp h0 S))
  | (((with_reducible show L2.rTyp _ _ _ _); refine Z.r_typT (by assumption) (by wtm_at "mem") ?_))
  | (((with_reducible show Z.br _ _ _); first | (with_reducible refine Z.brDT ?h ?_; (case h => with_unfolding_all exact rfl)) | (with_reducible refine Z.brNF ?h ?_; (case h => with_unfolding_all exact rfl)) | (with_reducible refine Z.brDT ?h ?_; (case h => omega)) | (with_reducible refine Z.brDF ?h ?_; (case h => omega)) | (with_reducible refine Z.brNT ?h ?_; (case h => omega)) | (with_reducible refine Z.brNF ?h ?_; (case h => omega))))
  | (((with_reducible show L2.rI _ _ _ _ _ _); with_reducible refine Z.r_I ?c ?_; (case c => wtm_at "side")))
  | (with_reducible refine Z.use_isInt ?_)
  | (with_reducible refine Z.use_needInt ?_)
  | (((with_reducible show Z.spIsMove _ _ _ _ _); refine Z.use_isMove (by assumption) (by wtm_at "mem") ?_; intro H' S'))
  | (((with_reducible show Z.spNeedMove _ _ _ _ _); refine Z.use_needMove (by assumption) (by wtm_at "mem") ?_; intro H' S'))
  | (((with_reducible show Z.spMM _ _ _ _ _ _ _ _ _); refine Z.use_MM (by assumption) (by wtm_at "mem") (by wtm_at "mem") ?_ ?_; (focus (wtm_at "ok")); intro r H' S'))
  | (((with_reducible show Z.spMV _ _ _ _ _ _ _); refine Z.use_MV (by assumption) (by wtm_at "mem") (by wtm_at "mem") ?_ ?_; (focus (wtm_at "ok")); intro H' S'))
  | (((with_reducible show Z.spMI _ _ _ _ _ _ _ _ _); refine Z.use_MI (by assumption) (by wtm_at "mem") ?_ ?_; (focus (wtm_at "ok")); intro r H' S'))
  | (((with_reducible show Z.spM1 _ _ _ _ _ _ _ _ _); refine Z.use_M1 (by assumption) (by wtm_at "mem") ?_ ?_; (focus (wtm_at "ok")); intro r H' S'))
  | (((with_reducible show L2.rNeD _ _ _ _ _); refine Z.r_neD (by wtm_at "dp") (by wtm_at "dp") (by exact rfl) (by exact rfl) ?_))
  | (((with_reducible show L2.rEqD _ _ _ _ _); refine Z.r_eqD (by wtm_at "dp") (by wtm_at "dp") (by exact rfl) (by exact rfl) ?_))
  | (((with_reducible show Z.rRepr _ _ _ _); refine Z.r_repr (by wtm_at "dp") (by exact rfl) (by exact rfl) (by exact Nat.le_of_ble_eq_true rfl) (by first | exact Z.shown_b3 _ _ _ | exact Z.shown_b _) ?_))
  | (((with_reducible show Z.rEqTy _ _ _ _); refine Z.r_eqTy (by first | exact Z.tyT | exact Z.tyI | exact Z.tyS) (by first | exact Z.tyT | exact Z.tyI | exact Z.tyS) ?_))
  | (((with_reducible show Z.rNeTy _ _ _ _); refine Z.r_neTy (by first | exact Z.tyT | exact Z.tyI | exact Z.tyS) (by first | exact Z.tyT | exact Z.tyI | exact Z.tyS) ?_))
  | (((with_reducible show Z.walT _ _ _ _); refine Z.r_walTS (by assumption) (by wtm_at "mem") ?_))
  | (((with_reducible show Z.walL _ _ _ _); refine Z.r_walLS (by assumption) (by wtm_at "pk") ?_))))
local macro_rules | `(tactic| wtm_at "rdd") => `(tactic| (first
  | (((with_reducible show Z.spDip _ _ _ _); refine Z.use_dip (by assumption) (by wtm_at "pk") (by wtm_at "own") (by assumption) (by omega) (by omega) ?_; intro r l' H' r0 r1 hl' S'))
  | (((with_reducible show Z.spNumber _ _ _ _); refine Z.use_number (by assumption) (by wtm_at "pk") (by wtm_at "own") (by assumption) ?_; intro r l' H' r0 hl' S'))
  | (((with_reducible show Z.spDrawn _ _ _ _ _); refine Z.use_drawn (by assumption) (by wtm_at "pk") (by wtm_at "own") (by assumption) ?_; intro t x y s l' H' bx b_y bs hl' S'))))
local macro_rules | `(tactic| wtm_at "go") => `(tactic| repeat (first | wtm_at "rd" | wtm_at "rdd"))
local macro_rules | `(tactic| wtm_at "gd") => `(tactic| repeat wtm_at "rd")
local macro_rules | `(tactic| wtm_at "start") => `(tactic| (dsimp only [L2.cxOf, L2.Cx.nox, L2.Cx.wish, L2.start]; simp only [List.map_cons, List.map_nil, List.length_cons, List.length_nil, List.replicate_succ, List.replicate_zero, List.cons_append, List.nil_append, Nat.reduceAdd, Nat.reduceSub, List.replicate, List.append_nil]))

namespace My
open PySem L2 Z
def top (i : Nat) : Stmt := PySem.Challenge.pw_arealots_k03_whole_moves_undone_and_done.main.body.getD i (.Pass ⟨0, 0, 0, 0⟩)
abbrev s_is_integer : Stmt := top 5
abbrev s_is_move : Stmt := top 7
abbrev s_need_move : Stmt := top 8
abbrev s_need_integer : Stmt := top 9
abbrev s_joined : Stmt := top 10
abbrev s_repeated : Stmt := top 11
abbrev s_then : Stmt := top 12
abbrev s_undone : Stmt := top 13
abbrev s_often : Stmt := top 14
abbrev s_well : Stmt := top 16
abbrev s_dip : Stmt := top 17
abbrev s_number : Stmt := top 18
abbrev s_drawn : Stmt := top 19
abbrev s_join : Stmt := top 20
abbrev s_back : Stmt := top 21
abbrev s_whole : Stmt := top 22
abbrev s_right : Stmt := top 23
abbrev s_law : Stmt := top 24
theorem sc_is_integer : FnScope ["value"] ["value"] (defScope s_is_integer) := ⟨rfl, rfl, rfl, by decide +kernel, rfl, by decide +kernel, by decide +kernel⟩
theorem sc_is_move : FnScope ["value", "number"] ["value"] (defScope s_is_move) := ⟨rfl, rfl, rfl, by decide +kernel, rfl, by decide +kernel, by decide +kernel⟩
theorem sc_need_move : FnScope ["value"] ["value"] (defScope s_need_move) := ⟨rfl, rfl, rfl, by decide +kernel, rfl, by decide +kernel, by decide +kernel⟩
theorem sc_need_integer : FnScope ["value"] ["value"] (defScope s_need_integer) := ⟨rfl, rfl, rfl, by decide +kernel, rfl, by decide +kernel, by decide +kernel⟩
theorem sc_joined : FnScope ["move", "second"] ["move", "second"] (defScope s_joined) := ⟨rfl, rfl, rfl, by decide +kernel, rfl, by decide +kernel, by decide +kernel⟩
theorem sc_repeated : FnScope ["move", "times", "east", "north", "area"] ["move", "times"] (defScope s_repeated) := ⟨rfl, rfl, rfl, by decide +kernel, rfl, by decide +kernel, by decide +kernel⟩
theorem sc_then : FnScope ["move", "second"] ["move", "second"] (defScope s_then) := ⟨rfl, rfl, rfl, by decide +kernel, rfl, by decide +kernel, by decide +kernel⟩
theorem sc_undone : FnScope ["move", "east", "north", "area"] ["move"] (defScope s_undone) := ⟨rfl, rfl, rfl, by decide +kernel, rfl, by decide +kernel, by decide +kernel⟩
theorem sc_often : FnScope ["move", "times"] ["move", "times"] (defScope s_often) := ⟨rfl, rfl, rfl, by decide +kernel, rfl, by decide +kernel, by decide +kernel⟩
theorem sc_well : FnScope ["cells", "turn", "cell", "stirred", "each"] ["cells", "turn"] (defScope s_well) := ⟨rfl, rfl, rfl, by decide +kernel, rfl, by decide +kernel, by decide +kernel⟩
theorem sc_dip : FnScope ["well", "sides", "digit", "by"] ["well", "sides"] (defScope s_dip) := ⟨rfl, rfl, rfl, by decide +kernel, rfl, by decide +kernel, by decide +kernel⟩
theorem sc_number : FnScope ["well", "way", "found", "turn"] ["well"] (defScope s_number) := ⟨rfl, rfl, rfl, by decide +kernel, rfl, by decide +kernel, by decide +kernel⟩
theorem sc_drawn : FnScope ["well", "way", "found"] ["well"] (defScope s_drawn) := ⟨rfl, rfl, rfl, by decide +kernel, rfl, by decide +kernel, by decide +kernel⟩
theorem sc_join : FnScope ["one", "two"] ["one", "two"] (defScope s_join) := ⟨rfl, rfl, rfl, by decide +kernel, rfl, by decide +kernel, by decide +kernel⟩
theorem sc_back : FnScope ["one"] ["one"] (defScope s_back) := ⟨rfl, rfl, rfl, by decide +kernel, rfl, by decide +kernel, by decide +kernel⟩
theorem sc_whole : FnScope ["some", "found", "each"] ["some"] (defScope s_whole) := ⟨rfl, rfl, rfl, by decide +kernel, rfl, by decide +kernel, by decide +kernel⟩
theorem sc_right : FnScope ["well", "one", "two", "back", "count_here", "due", "first", "last"] ["well"] (defScope s_right) := ⟨rfl, rfl, rfl, by decide +kernel, rfl, by decide +kernel, by decide +kernel⟩
theorem sc_law : FnScope ["cells", "turn"] ["cells"] (defScope s_law) := ⟨rfl, rfl, rfl, by decide +kernel, rfl, by decide +kernel, by decide +kernel⟩
structure Txt (K : PySem.W.Frag) (mg : Str → Option Value) : Prop where
  f_is_integer : ∃ a fd, Z.Def K mg "is_integer" s_is_integer ["value"] a fd
  f_is_move : ∃ a fd, Z.Def K mg "is_move" s_is_move ["value"] a fd
  f_need_move : ∃ a fd, Z.Def K mg "need_move" s_need_move ["value"] a fd
  f_need_integer : ∃ a fd, Z.Def K mg "need_integer" s_need_integer ["value"] a fd
  f_joined : ∃ a fd, Z.Def K mg "joined" s_joined ["move", "second"] a fd
  f_repeated : ∃ a fd, Z.Def K mg "repeated" s_repeated ["move", "times"] a fd
  f_then : ∃ a fd, Z.Def K mg "then" s_then ["move", "second"] a fd
  f_undone : ∃ a fd, Z.Def K mg "undone" s_undone ["move"] a fd
  f_often : ∃ a fd, Z.Def K mg "often" s_often ["move", "times"] a fd
  f_well : ∃ a fd, Z.Def K mg "_law_well" s_well ["cells", "turn"] a fd
  f_dip : ∃ a fd, Z.Def K mg "_law_dip" s_dip ["well", "sides"] a fd
  f_number : ∃ a fd, Z.Def K mg "_law_number" s_number ["well"] a fd
  f_drawn : ∃ a fd, Z.Def K mg "_law_drawn" s_drawn ["well"] a fd
  f_join : ∃ a fd, Z.Def K mg "_law_join" s_join ["one", "two"] a fd
  f_back : ∃ a fd, Z.Def K mg "_law_back" s_back ["one"] a fd
  f_whole : ∃ a fd, Z.Def K mg "_law_whole" s_whole ["some"] a fd
  f_right : ∃ a fd, Z.Def K mg "_law_right" s_right ["well"] a fd
  f_law : ∃ a fd, Z.Def K mg "law" s_law ["cells"] a fd
  b_abs : mg "abs" = none
  b_all : mg "all" = none
  b_divmod : mg "divmod" = none
  b_int : mg "int" = none
  b_len : mg "len" = none
  b_max : mg "max" = none
  b_min : mg "min" = none
  b_range : mg "range" = none
  b_tuple : mg "tuple" = none
  b_type : mg "type" = none
section
variable {P : Program} {w : World} {K : PySem.W.Frag} {mg : Str → Option Value} {base : Heap}
theorem K21_often {f : Addr} {fd : FuncData} (D : Z.Def K mg "often" s_often ["move", "times"] f fd) : KBinds K fd ["move", "times"] ["times", "move"] Z.k21 Z.k21 := by
  obtain ⟨oc, od, kV, doc, pm, an, cdv, ct, osl, rfl, lk, hcd⟩ := D.F.ex
  exact ⟨fun s us ws _ hl => .of_eq (match us, ws, hl with | [], [_, _], _ => rfl), Z.k21_rel⟩
theorem K1_undone {f : Addr} {fd : FuncData} (D : Z.Def K mg "undone" s_undone ["move"] f fd) : KBinds K fd ["move"] ["move"] Z.k1 Z.k1 := by
  obtain ⟨oc, od, kV, doc, pm, an, cdv, ct, osl, rfl, lk, hcd⟩ := D.F.ex
  exact ⟨fun s us ws _ hl => .of_eq (match us, ws, hl with | [], [_], _ => rfl), Z.k1_rel⟩
theorem ok_is_integer (T : Txt K mg) {f : Addr} {fd : FuncData} (D : Z.Def K mg "is_integer" s_is_integer ["value"] f fd) : FnOk P w K mg base CX0 1 f fd ["value"] spIsInt := by
  refine D.F.ok sc_is_integer (fun vs H Q E h => ?_) (fun cdv A outer s H vs Q E hr h => ?_)
  · obtain ⟨i, rfl, _⟩ := h
    rfl
  · obtain ⟨i, rfl, k⟩ := h
    refine ⟨_, (pss_one (ps_ret (pe_cmpR Z.op_eqTy (pe_callTy Z.z_type (by rfl) T.b_type (by decide +kernel) (pa_cons (pv 0) pa_nil)) (pe_bltn (v := .ty "int") (by rfl) T.b_int (by decide +kernel) rfl) (nomark _)))), ?_⟩
    wtm_at "start"
    wtm_at "go"
    exact k
theorem ok_is_move (T : Txt K mg) {f : Addr} {fd : FuncData} (D : Z.Def K mg "is_move" s_is_move ["value"] f fd) : FnOk P w K mg base CX0 2 f fd ["value"] (spIsMove K) := by
  obtain ⟨a_is_integer, fd_is_integer, D_is_integer⟩ := T.f_is_integer
  have G_is_integer := ok_is_integer (P := P) (w := w) (base := base) T D_is_integer
  refine D.F.ok sc_is_move (fun vs H Q E h => ?_) (fun cdv A outer s H vs Q E hr h => ?_)
  · obtain ⟨a, x, y, z, rfl, _⟩ := h
    rfl
  · obtain ⟨a, x, y, z, rfl, ht, k⟩ := h
    have S := one_in ht
    refine ⟨_, (pss_one (ps_ret (pe_and (pe_cmpR Z.op_eqTy (pe_callTy Z.z_type (by rfl) T.b_type (by decide +kernel) (pa_cons (pv 0) pa_nil)) (pe_bltn (v := .ty "tuple") (by rfl) T.b_tuple (by decide +kernel) rfl) (nomark _)) (pe_and (pe_cmpR op_eq (pe_callB Z.z_len (by rfl) T.b_len (by decide +kernel) (pa_cons (pv 0) pa_nil)) pe_int (nomark _)) (pe_one (pe_callB (cr_all rfl) (by rfl) T.b_all (by decide +kernel) (pa_cons (pe_lc (own := [("number", 1)]) (g := gName 1)  rfl sc_is_move.nd (pi_tup (pv 0)) (blkOk_by (own := [("number", 1)]) (N := ["value", "number"]) (sc := defScope s_is_move) (by decide +kernel)) (fun _ _ _ _ _ => (pg_name (i := 1) sc_is_move.nd rfl (by first | exact Or.inl rfl | exact Or.inr rfl))) (fun _ _ _ _ _ => pts_nil) (fun _ _ _ _ _ => (pe_call G_is_integer (hr.mono (by decide)) (by rfl) D_is_integer.m D_is_integer.F.kp D_is_integer.b .nil pass0 (pa_cons (pv 1) pa_nil)))) pa_nil))))))), ?_⟩
    wtm_at "start"
    wtm_at "go"
    refine r_lcT (xs := mv x y z) (fun D i acc H' => acc = (List.replicate i true).map V.bl ∧ Z.Sep K H [] [(D, acc)] [(a, mv x y z)] H') ?_ ?_ ?_ ?_
    · exact fun D hD => ⟨rfl, S.newL hD⟩
    · exact fun D i acc H' _ _ _ _ h => h.2.tp (by wtm_at "mem")
    · rintro D i v acc H' hD hv hl hA ⟨e, S1⟩
      have hi : ∃ n, v = .int n := by
        have h1 := List.mem_of_getElem? hv
        simp only [List.mem_cons, List.not_mem_nil, or_false] at h1
        rcases h1 with h1 | h1 | h1 <;> exact ⟨_, h1⟩
      obtain ⟨n, rfl⟩ := hi
      have hj : i < 3 := (List.getElem?_eq_some_iff.mp hv).1
      wtm_at "go"
      refine r_lcE hl (by omega) hA ⟨?_, S1.set .here (Or.inr (S.old hD))⟩
      rw [e, List.replicate_succ', List.map_append]
      rfl
    · rintro D acc H' hD hl hA ⟨e, S1⟩
      wtm_at "go"
      refine r_all S1 (bs := [true, true, true]) (by rw [e]; exact .here) ?_
      wtm_at "go"
      exact k _ S1.fr
theorem ok_need_move (T : Txt K mg) {f : Addr} {fd : FuncData} (D : Z.Def K mg "need_move" s_need_move ["value"] f fd) : FnOk P w K mg base CX0 3 f fd ["value"] (spNeedMove K) := by
  obtain ⟨a_is_move, fd_is_move, D_is_move⟩ := T.f_is_move
  have G_is_move := ok_is_move (P := P) (w := w) (base := base) T D_is_move
  refine D.F.ok sc_need_move (fun vs H Q E h => ?_) (fun cdv A outer s H vs Q E hr h => ?_)
  · obtain ⟨a, x, y, z, rfl, _⟩ := h
    rfl
  · obtain ⟨a, x, y, z, rfl, ht, k⟩ := h
    have S := one_in ht
    refine ⟨_, (pss_one (ps_if (pt_not (pt_val (pe_call G_is_move (hr.mono (by decide)) (by rfl) D_is_move.m D_is_move.F.kp D_is_move.b .nil pass0 (pa_cons (pv 0) pa_nil)))) (pss_one ps_never)
      pss_nil)), ?_⟩
    wtm_at "start"
    wtm_at "go"
    rename_i S1
    exact k _ S1.fr
theorem ok_need_integer (T : Txt K mg) {f : Addr} {fd : FuncData} (D : Z.Def K mg "need_integer" s_need_integer ["value"] f fd) : FnOk P w K mg base CX0 2 f fd ["value"] spNeedInt := by
  obtain ⟨a_is_integer, fd_is_integer, D_is_integer⟩ := T.f_is_integer
  have G_is_integer := ok_is_integer (P := P) (w := w) (base := base) T D_is_integer
  refine D.F.ok sc_need_integer (fun vs H Q E h => ?_) (fun cdv A outer s H vs Q E hr h => ?_)
  · obtain ⟨i, rfl, _⟩ := h
    rfl
  · obtain ⟨i, rfl, k⟩ := h
    refine ⟨_, (pss_one (ps_if (pt_not (pt_val (pe_call G_is_integer (hr.mono (by decide)) (by rfl) D_is_integer.m D_is_integer.F.kp D_is_integer.b .nil pass0 (pa_cons (pv 0) pa_nil)))) (pss_one ps_never)
      pss_nil)), ?_⟩
    wtm_at "start"
    wtm_at "go"
    exact k
theorem ok_joined (T : Txt K mg) {f : Addr} {fd : FuncData} (D : Z.Def K mg "joined" s_joined ["move", "second"] f fd) : FnOk P w K mg base CX0 1 f fd ["move", "second"] (spJoined K) := by
  refine D.F.ok sc_joined (fun vs H Q E h => ?_) (fun cdv A outer s H vs Q E hr h => ?_)
  · obtain ⟨a, b, x, y, z, x', y', z', rfl, _⟩ := h
    rfl
  · obtain ⟨a, b, x, y, z, x', y', z', rfl, ha, hb, ⟨b1, b2⟩, k⟩ := h
    have S := two_in ha hb
    refine ⟨_, (pss_one (ps_ret (pe_tup (pa_cons (pe_op op_add (pe_ix ix_tup (pv 0) pe_int (fun _ _ => rfl)) (pe_ix ix_tup (pv 1) pe_int (fun _ _ => rfl))) (pa_cons (pe_op op_add (pe_ix ix_tup (pv 0) pe_int (fun _ _ => rfl)) (pe_ix ix_tup (pv 1) pe_int (fun _ _ => rfl))) (pa_cons (pe_op op_add (pe_op op_add (pe_ix ix_tup (pv 0) pe_int (fun _ _ => rfl)) (pe_ix ix_tup (pv 1) pe_int (fun _ _ => rfl))) (pe_op op_mulW (pe_ix ix_tup (pv 0) pe_int (fun _ _ => rfl)) (pe_ix ix_tup (pv 1) pe_int (fun _ _ => rfl)))) pa_nil)))))), ?_⟩
    wtm_at "start"
    wtm_at "go"
    rename_i S1
    exact k _ _ S1.fr (S1.tp (by wtm_at "mem"))
theorem ok_then (T : Txt K mg) {f : Addr} {fd : FuncData} (D : Z.Def K mg "then" s_then ["move", "second"] f fd) : FnOk P w K mg base CX0 4 f fd ["move", "second"] (spJoined K) := by
  obtain ⟨a_need_move, fd_need_move, D_need_move⟩ := T.f_need_move
  have G_need_move := ok_need_move (P := P) (w := w) (base := base) T D_need_move
  obtain ⟨a_joined, fd_joined, D_joined⟩ := T.f_joined
  have G_joined := ok_joined (P := P) (w := w) (base := base) T D_joined
  refine D.F.ok sc_then (fun vs H Q E h => ?_) (fun cdv A outer s H vs Q E hr h => ?_)
  · obtain ⟨a, b, x, y, z, x', y', z', rfl, _⟩ := h
    rfl
  · obtain ⟨a, b, x, y, z, x', y', z', rfl, ha, hb, ⟨b1, b2⟩, k⟩ := h
    have S := two_in ha hb
    refine ⟨_, (pss_cons (ps_expr (pe_call G_need_move (hr.mono (by decide)) (by rfl) D_need_move.m D_need_move.F.kp D_need_move.b .nil pass0 (pa_cons (pv 0) pa_nil)))
      (pss_cons (ps_expr (pe_call G_need_move (hr.mono (by decide)) (by rfl) D_need_move.m D_need_move.F.kp D_need_move.b .nil pass0 (pa_cons (pv 1) pa_nil)))
      (pss_one (ps_ret (pe_call G_joined (hr.mono (by decide)) (by rfl) D_joined.m D_joined.F.kp D_joined.b .nil pass0 (pa_cons (pv 0) (pa_cons (pv 1) pa_nil))))))), ?_⟩
    wtm_at "start"
    wtm_at "go"
    rename_i S1
    exact k _ _ S1.fr (S1.tp (by wtm_at "mem"))
theorem ok_undone (T : Txt K mg) {f : Addr} {fd : FuncData} (D : Z.Def K mg "undone" s_undone ["move"] f fd) : FnOk P w K mg base CX0 4 f fd ["move"] (spUndone K) := by
  obtain ⟨a_need_move, fd_need_move, D_need_move⟩ := T.f_need_move
  have G_need_move := ok_need_move (P := P) (w := w) (base := base) T D_need_move
  refine D.F.ok sc_undone (fun vs H Q E h => ?_) (fun cdv A outer s H vs Q E hr h => ?_)
  · obtain ⟨a, x, y, z, rfl, _⟩ := h
    rfl
  · obtain ⟨a, x, y, z, rfl, ha, ⟨b1, b2⟩, k⟩ := h
    have S := one_in ha
    refine ⟨_, (pss_cons (ps_expr (pe_call G_need_move (hr.mono (by decide)) (by rfl) D_need_move.m D_need_move.F.kp D_need_move.b .nil pass0 (pa_cons (pv 0) pa_nil)))
      (pss_cons (ps_asg (pv 0) (pg_tup rfl (pgs_cons (pg_name (i := 1) sc_undone.nd rfl (Or.inl rfl)) (pgs_cons (pg_name (i := 2) sc_undone.nd rfl (Or.inl rfl)) (pgs_cons (pg_name (i := 3) sc_undone.nd rfl (Or.inl rfl)) pgs_nil)))))
      (pss_one (ps_ret (pe_tup (pa_cons (pe_un un_neg (pv 1)) (pa_cons (pe_un un_neg (pv 2)) (pa_cons (pe_op op_sub (pe_op op_mulW (pv 1) (pv 2)) (pv 3)) pa_nil)))))))), ?_⟩
    wtm_at "start"
    wtm_at "go"
    rename_i S1
    exact k _ _ S1.fr (S1.tp (by wtm_at "mem"))
theorem ok_repeated (T : Txt K mg) {f : Addr} {fd : FuncData} (D : Z.Def K mg "repeated" s_repeated ["move", "times"] f fd) : FnOk P w K mg base CX0 1 f fd ["move", "times"] (spOften K) := by
  refine D.F.ok sc_repeated (fun vs H Q E h => ?_) (fun cdv A outer s H vs Q E hr h => ?_)
  · obtain ⟨a, x, y, z, n, rfl, _⟩ := h
    rfl
  · obtain ⟨a, x, y, z, n, rfl, ha, ⟨b1, b2, b3, b4⟩, k⟩ := h
    have S := one_in ha
    refine ⟨_, (pss_cons (ps_asg (pv 0) (pg_tup rfl (pgs_cons (pg_name (i := 2) sc_repeated.nd rfl (Or.inl rfl)) (pgs_cons (pg_name (i := 3) sc_repeated.nd rfl (Or.inl rfl)) (pgs_cons (pg_name (i := 4) sc_repeated.nd rfl (Or.inl rfl)) pgs_nil)))))
      (pss_one (ps_ret (pe_tup (pa_cons (pe_op op_mulW (pv 1) (pv 2)) (pa_cons (pe_op op_mulW (pv 1) (pv 3)) (pa_cons (pe_op op_add (pe_op op_mulW (pv 1) (pv 4)) (pe_op op_mulW (pe_op op_mulW (pe_op op_fdiv (pe_op op_mulW (pv 1) (pe_op op_sub (pv 1) pe_int)) pe_int) (pv 2)) (pv 3))) pa_nil))))))), ?_⟩
    wtm_at "start"
    wtm_at "go"
    rename_i S1
    exact k _ _ S1.fr (S1.tp (by wtm_at "mem"))
theorem ok_often (T : Txt K mg) {f : Addr} {fd : FuncData} (D : Z.Def K mg "often" s_often ["move", "times"] f fd) : FnOk P w K mg base CX0 4 f fd ["move", "times"] (spOften K) := by
  obtain ⟨a_need_move, fd_need_move, D_need_move⟩ := T.f_need_move
  have G_need_move := ok_need_move (P := P) (w := w) (base := base) T D_need_move
  obtain ⟨a_need_integer, fd_need_integer, D_need_integer⟩ := T.f_need_integer
  have G_need_integer := ok_need_integer (P := P) (w := w) (base := base) T D_need_integer
  obtain ⟨a_repeated, fd_repeated, D_repeated⟩ := T.f_repeated
  have G_repeated := ok_repeated (P := P) (w := w) (base := base) T D_repeated
  refine D.F.ok sc_often (fun vs H Q E h => ?_) (fun cdv A outer s H vs Q E hr h => ?_)
  · obtain ⟨a, x, y, z, n, rfl, _⟩ := h
    rfl
  · obtain ⟨a, x, y, z, n, rfl, ha, ⟨b1, b2, b3, b4⟩, k⟩ := h
    have S := one_in ha
    refine ⟨_, (pss_cons (ps_expr (pe_call G_need_move (hr.mono (by decide)) (by rfl) D_need_move.m D_need_move.F.kp D_need_move.b .nil pass0 (pa_cons (pv 0) pa_nil)))
      (pss_cons (ps_expr (pe_call G_need_integer (hr.mono (by decide)) (by rfl) D_need_integer.m D_need_integer.F.kp D_need_integer.b .nil pass0 (pa_cons (pv 1) pa_nil)))
      (pss_one (ps_ret (pe_call G_repeated (hr.mono (by decide)) (by rfl) D_repeated.m D_repeated.F.kp D_repeated.b .nil pass0 (pa_cons (pv 0) (pa_cons (pv 1) pa_nil))))))), ?_⟩
    wtm_at "start"
    wtm_at "go"
    rename_i S1
    exact k _ _ S1.fr (S1.tp (by wtm_at "mem"))


theorem ok_dip (T : Txt K mg) {f : Addr} {fd : FuncData} (D : Z.Def K mg "_law_dip" s_dip ["well", "sides"] f fd) : FnOk P w K mg base CX0 1 f fd ["well", "sides"] spDip := by
  refine D.F.ok sc_dip (fun vs H Q E h => ?_) (fun cdv A outer s H vs Q E hr h => ?_)
  · obtain ⟨p, l, n, rfl, _⟩ := h
    rfl
  · obtain ⟨p, l, n, rfl, hw, ⟨a, b, c, rfl, hb⟩, h0, h1, k⟩ := h
    have S := well_in (K := K) hw
    refine ⟨_, (pss_cons (ps_asg (pe_op op_add (pe_ix ix_list (pv 0) pe_int (fun _ _ => rfl)) pe_int) (pg_sub (pv 0) pe_int set_list))
      (pss_cons (ps_if (pt_cmpR op_gt (pe_ix ix_list (pv 0) pe_int (fun _ _ => rfl)) pe_int (nomark _)) (pss_cons (ps_asg (pe_callB Z.z_divmod (by rfl) T.b_divmod (by decide +kernel) (pa_cons (pe_ix ix_list (pv 0) pe_int (fun _ _ => rfl)) (pa_cons (pv 1) pa_nil))) (pg_tup rfl (pgs_cons (pg_sub (pv 0) pe_int set_list) (pgs_cons (pg_name (i := 2) sc_dip.nd rfl (Or.inl rfl)) pgs_nil))))
      (pss_one (ps_ret (pv 2))))
      pss_nil)
      (pss_cons (ps_set (i := 3) sc_dip.nd rfl (Or.inl rfl) (pe_op op_add pe_int (pe_op op_mul pe_int (pe_ix ix_list (pv 0) pe_int (fun _ _ => rfl)))))
      (pss_cons (ps_asg (pe_op op_mod (pe_callTy Z.z_int (by rfl) T.b_int (by decide +kernel) (pa_cons (pe_op op_add (pe_op op_add (pe_op op_mul (pe_ix ix_list (pv 0) pe_int (fun _ _ => rfl)) (pv 3)) (pe_op op_mul pe_int (pe_ix ix_list (pv 0) pe_int (fun _ _ => rfl)))) pe_int) pa_nil)) pe_int) (pg_sub (pv 0) pe_int set_list))
      (pss_one (ps_ret (pe_op op_mod (pe_callTy Z.z_int (by rfl) T.b_int (by decide +kernel) (pa_cons (pe_op op_fdiv (pe_ix ix_list (pv 0) pe_int (fun _ _ => rfl)) pe_int) pa_nil)) (pv 1)))))))), ?_⟩
    wtm_at "start"
    wtm_at "go"
    refine brD (fun ha => ?_) (fun ha => ?_)
    · wtm_at "go"
      rename_i S
      exact k _ _ _ (Int.emod_nonneg _ (by omega)) (Int.emod_lt_of_pos _ h0) ⟨_, _, _, rfl, hb⟩ (S.at .here) S.fr
    · wtm_at "go"
      rename_i S
      exact k _ _ _ (Int.emod_nonneg _ (by omega)) (Int.emod_lt_of_pos _ h0) ⟨_, _, _, rfl, by omega, by omega⟩ (S.at .here) S.fr

theorem ok_number (T : Txt K mg) {f : Addr} {fd : FuncData} (D : Z.Def K mg "_law_number" s_number ["well"] f fd) : FnOk P w K mg base CX0 2 f fd ["well"] spNumber := by
  obtain ⟨a_dip, fd_dip, D_dip⟩ := T.f_dip
  have G_dip := ok_dip (P := P) (w := w) (base := base) T D_dip
  refine D.F.ok sc_number (fun vs H Q E h => ?_) (fun cdv A outer s H vs Q E hr h => ?_)
  · obtain ⟨p, l, rfl, _⟩ := h
    rfl
  · obtain ⟨p, l, rfl, hw, hl, k⟩ := h
    have S := well_in (K := K) hw
    refine ⟨_, (pss_cons (ps_set (i := 1) sc_number.nd rfl (Or.inl rfl) (pe_call G_dip (hr.mono (by decide)) (by rfl) D_dip.m D_dip.F.kp D_dip.b .nil pass0 (pa_cons (pv 0) (pa_cons pe_int pa_nil))))
      (pss_cons (ps_set (i := 2) sc_number.nd rfl (Or.inl rfl) (pe_call G_dip (hr.mono (by decide)) (by rfl) D_dip.m D_dip.F.kp D_dip.b .nil pass0 (pa_cons (pv 0) (pa_cons (pe_ix ix_list (pe_lst (pa_cons pe_int (pa_cons pe_int (pa_cons pe_int (pa_cons (pe_op op_pow pe_int pe_int) (pa_cons (pe_op op_pow pe_int pe_int) (pa_cons (pe_op op_pow pe_int pe_int) pa_nil))))))) (pv 1) (fun _ _ => rfl)) pa_nil))))
      (pss_cons (ps_for PassesOwn.never rfl (pi_range1 rfl T.b_range (pa_cons (pe_ix ix_list (pe_lst (pa_cons pe_int (pa_cons pe_int (pa_cons pe_int (pa_cons pe_int (pa_cons pe_int (pa_cons pe_int pa_nil))))))) (pv 1) (fun _ _ => rfl)) pa_nil)) (pg_name (i := 3) sc_number.nd rfl (Or.inl rfl))
      (pss_one (ps_set (i := 2) sc_number.nd rfl (Or.inl rfl) (pe_op op_add (pe_op op_mul (pv 2) (pe_op op_pow pe_int pe_int)) (pe_call G_dip (hr.mono (by decide)) (by rfl) D_dip.m D_dip.F.kp D_dip.b .nil pass0 (pa_cons (pv 0) (pa_cons (pe_op op_pow pe_int pe_int) pa_nil)))))))
      (pss_one (ps_ret (pe_ifExp (pt_cmpR op_eq (pe_call G_dip (hr.mono (by decide)) (by rfl) D_dip.m D_dip.F.kp D_dip.b .nil pass0 (pa_cons (pv 0) (pa_cons pe_int pa_nil))) pe_int (nomark _)) (pv 2) (pe_op op_sub pe_int (pv 2)))))))), ?_⟩
    wtm_at "start"
    wtm_at "go"
    refine r_menu (ns := [4, 12, 1000, 1000000, 1000000, 1000000]) (lo := 1) (hi := 1000000) (by assumption) .here (by omega) (by simp; omega) (by decide) (fun m m0 m1 => ?_)
    wtm_at "go"
    refine r_menu (ns := [0, 0, 0, 0, 2, 4]) (lo := 0) (hi := 4) (by assumption) .here (by omega) (by simp; omega) (by decide) (fun m2 m20 m21 => ?_)
    wtm_at "go"
    rename_i wv _ _ _ _ _ _ _ _ _ _ _ f0 _ _ f00 f01 hl0 _ _ _ _ _ S0
    refine r_forR (fun i σ' H' => ∃ (l' : List V) (f : Int) (o : Option V), WellL l' ∧ 0 ≤ f ∧ f < 1000000 ^ (i + 1) ∧ σ' = [some (.ref p), some (.int wv), some (.int f), o] ∧ Z.Sep K H [p] [(p, l')] [] H') ?_ ?_ ?_
    · exact ⟨_, _, _, hl0, f00, by simp only [Nat.zero_add, Int.pow_one]; omega, rfl, S0.only (by wtm_at "pk") (fun _ z => z)⟩
    · rintro i σ' H' hi ⟨l', f, o, hl', ff, fb, rfl, S'⟩
      wtm_at "go"
      rename_i r _ _ r0 r1 hl2 S2
      refine ⟨_, _, _, hl2, ?_, ?_, rfl, S2⟩
      · omega
      · have e : (1000000 : Int) ^ (i + 1 + 1) = 1000000 ^ (i + 1) * 1000000 := Int.pow_succ ..
        omega
    · rintro σ' H' ⟨l', f, o, hl', ff, fb, rfl, S'⟩
      have hb : bd 100 f := bd_pow6 ff m2.toNat (by omega) fb
      wtm_at "go"
      rename_i r _ _ r0 r1 hl2 S2
      refine brD (fun ha => ?_) (fun ha => ?_)
      · wtm_at "go"
        exact k _ _ _ hb hl2 (S2.at .here) S2.fr
      · wtm_at "go"
        exact k _ _ _ (by rw [Int.zero_sub]; exact bd_neg hb) hl2 (S2.at .here) S2.fr

theorem ok_drawn (T : Txt K mg) {f : Addr} {fd : FuncData} (D : Z.Def K mg "_law_drawn" s_drawn ["well"] f fd) : FnOk P w K mg base CX0 3 f fd ["well"] (spDrawn K) := by
  obtain ⟨a_dip, fd_dip, D_dip⟩ := T.f_dip
  have G_dip := ok_dip (P := P) (w := w) (base := base) T D_dip
  obtain ⟨a_number, fd_number, D_number⟩ := T.f_number
  have G_number := ok_number (P := P) (w := w) (base := base) T D_number
  refine D.F.ok sc_drawn (fun vs H Q E h => ?_) (fun cdv A outer s H vs Q E hr h => ?_)
  · obtain ⟨p, l, rfl, _⟩ := h
    rfl
  · obtain ⟨p, l, rfl, hw, hl, k⟩ := h
    have S := well_in (K := K) hw
    refine ⟨_, (pss_cons (ps_set (i := 1) sc_drawn.nd rfl (Or.inl rfl) (pe_call G_dip (hr.mono (by decide)) (by rfl) D_dip.m D_dip.F.kp D_dip.b .nil pass0 (pa_cons (pv 0) (pa_cons pe_int pa_nil))))
      (pss_cons (ps_if (pt_cmpR op_eq (pv 1) pe_int (nomark _)) (pss_one (ps_ret (pe_tup (pa_cons (pe_op op_sub (pe_call G_dip (hr.mono (by decide)) (by rfl) D_dip.m D_dip.F.kp D_dip.b .nil pass0 (pa_cons (pv 0) (pa_cons pe_int pa_nil))) pe_int) (pa_cons (pe_op op_sub (pe_call G_dip (hr.mono (by decide)) (by rfl) D_dip.m D_dip.F.kp D_dip.b .nil pass0 (pa_cons (pv 0) (pa_cons pe_int pa_nil))) pe_int) (pa_cons (pe_op op_sub (pe_call G_dip (hr.mono (by decide)) (by rfl) D_dip.m D_dip.F.kp D_dip.b .nil pass0 (pa_cons (pv 0) (pa_cons pe_int pa_nil))) pe_int) pa_nil))))))
      pss_nil)
      (pss_cons (ps_set (i := 2) sc_drawn.nd rfl (Or.inl rfl) (pe_lst (pa_cons (pe_call G_number (hr.mono (by decide)) (by rfl) D_number.m D_number.F.kp D_number.b .nil pass0 (pa_cons (pv 0) pa_nil)) (pa_cons (pe_call G_number (hr.mono (by decide)) (by rfl) D_number.m D_number.F.kp D_number.b .nil pass0 (pa_cons (pv 0) pa_nil)) (pa_cons (pe_call G_number (hr.mono (by decide)) (by rfl) D_number.m D_number.F.kp D_number.b .nil pass0 (pa_cons (pv 0) pa_nil)) pa_nil)))))
      (pss_cons (ps_if (pt_cmpR op_eq (pv 1) pe_int (nomark _)) (pss_one (ps_asg pe_int (pg_sub (pv 2) (pe_call G_dip (hr.mono (by decide)) (by rfl) D_dip.m D_dip.F.kp D_dip.b .nil pass0 (pa_cons (pv 0) (pa_cons pe_int pa_nil))) set_list)))
      pss_nil)
      (pss_one (ps_ret (pe_tup (pa_cons (pe_ix ix_list (pv 2) pe_int (fun _ _ => rfl)) (pa_cons (pe_ix ix_list (pv 2) pe_int (fun _ _ => rfl)) (pa_cons (pe_ix ix_list (pv 2) pe_int (fun _ _ => rfl)) pa_nil)))))))))), ?_⟩
    wtm_at "start"
    wtm_at "go"
    refine brD (fun ha => ?_) (fun ha => ?_)
    · wtm_at "go"
      rename_i S9
      exact end_drawn S9 (by wtm_at "pk") (by assumption) (by wtm_at "bdt") (by wtm_at "bdt") (by wtm_at "bdt") k
    · wtm_at "go"
      refine brD (fun ha => ?_) (fun ha => ?_)
      · wtm_at "go"
        rename_i r _ _ r0 r1 hl2 S2
        have c : r = 0 ∨ r = 1 ∨ r = 2 := by omega
        rcases c with rfl | rfl | rfl <;> (wtm_at "go"; rename_i S9; exact end_drawn S9 (by wtm_at "pk") hl2 (by wtm_at "bdt") (by wtm_at "bdt") (by wtm_at "bdt") k)
      · wtm_at "go"
        rename_i S9
        exact end_drawn S9 (by wtm_at "pk") (by assumption) (by wtm_at "bdt") (by wtm_at "bdt") (by wtm_at "bdt") k
theorem ok_well (T : Txt K mg) {f : Addr} {fd : FuncData} (D : Z.Def K mg "_law_well" s_well ["cells", "turn"] f fd) : FnOk P w K mg base CX0 1 f fd ["cells", "turn"] (spWell K) := by
  refine D.F.ok sc_well (fun vs H Q E h => ?_) (fun cdv A outer s H vs Q E hr h => ?_)
  · obtain ⟨a, ns, t, rfl, _⟩ := h
    rfl
  · obtain ⟨a, ns, t, rfl, hS, hn, ht0, ht1, k⟩ := h
    have S : Z.Sep K H [] [] [] H := Sep.start (fun _ z => by cases z) List.nodup_nil (fun _ z => by cases z) (fun _ z => by cases z)
    refine ⟨_, (pss_cons (ps_set (i := 2) sc_well.nd rfl (Or.inl rfl) (pe_ifExp (pt_cmpR op_lt (pv 1) (pe_callB Z.z_len (by rfl) T.b_len (by decide +kernel) (pa_cons (pv 0) pa_nil)) (nomark _)) (pe_ix ix_list (pv 0) (pv 1) (fun _ _ => rfl)) (pe_op op_add (pe_op op_mul pe_int (pv 1)) pe_int)))
      (pss_cons (ps_set (i := 3) sc_well.nd rfl (Or.inl rfl) (pe_op op_add pe_int (pe_op op_mul pe_int (pv 1))))
      (pss_cons (ps_for PassesOwn.never rfl (pi_list (pe_op op_cat (pe_slice sl_list (pv 0) po_none (po_some pe_int)) (pe_lst (pa_cons (pv 2) pa_nil)))) (pg_name (i := 4) sc_well.nd rfl (Or.inl rfl))
      (pss_one (ps_set (i := 3) sc_well.nd rfl (Or.inl rfl) (pe_op op_mod (pe_callTy Z.z_int (by rfl) T.b_int (by decide +kernel) (pa_cons (pe_op op_add (pe_op op_add (pe_op op_mul (pv 3) pe_int) (pe_op op_mul (pv 4) pe_int)) pe_int) pa_nil)) pe_int))))
      (pss_one (ps_ret (pe_lst (pa_cons (pe_ifExp (PW.pt (pw_or (pt_cmpR op_lt (pv 2) pe_int (nomark _)) (pw_or1 (pt_cmpR op_ge (pv 2) (pe_op op_pow pe_int pe_int) (nomark _))))) (pe_callB Z.z_abs (by rfl) T.b_abs (by decide +kernel) (pa_cons (pv 2) pa_nil)) pe_int) (pa_cons (pv 3) (pa_cons pe_int pa_nil))))))))), ?_⟩
    wtm_at "start"
    wtm_at "go"
    refine r_lenQ hS ?_
    wtm_at "go"
    rw [List.length_map]
    refine brD (fun ha => ?_) (fun ha => ?_)
    case refine_1 =>
      wtm_at "go"
      have hj : t.toNat < ns.length := by omega
      refine r_ixQ (v := .int ns[t.toNat]) hS (at_of (j := t.toNat) (by omega) (by rw [List.getElem?_map, List.getElem?_eq_getElem hj]; rfl)) ?_
      generalize ns[t.toNat] = cell
      wtm_at "go"
      refine r_slQ S hS ?_
      intro q1 H1 _ q10 S1
      wtm_at "go"
      rename_i q2 H2 _ q20 S2
      have lc : (cutV (ns.map V.int) none (some 5)).length ≤ 63 := Nat.le_trans (cutV_length _ _ _) (by rw [List.length_map]; exact hn)
      refine r_cat S2 (by wtm_at "pk") (by wtm_at "pk") (by show _ + 1 ≤ 100000; omega) ?_
      intro q3 H3 _ q30 S3
      have S4 := S3.only (Θ' := []) .here (fun _ z => z)
      refine r_walL (S3.sq .here) ?_
      refine r_forL (xs := cutV (ns.map V.int) none (some 5) ++ [.int cell]) (fun i σ' H' => ∃ (st : Int) (o : Option V), -18446744073709551616 < st ∧ st < 18446744073709551616 ∧ σ' = [some (.ref a), some (.int t), some (.int cell), some (.int st), o] ∧ Z.Sep K H [] [(q3, cutV (ns.map V.int) none (some 5) ++ [.int cell])] [] H') ?_ ?_ ?_ ?_
      · exact ⟨_, _, by omega, by omega, rfl, S4⟩
      · rintro i σ' H' _ ⟨st, o, _, _, _, S5⟩
        exact S5.sq .here
      · rintro i x σ' H' hx ⟨st, o, h1, h2, rfl, S5⟩
        have hx2 : ∃ z : Int, x = .int z := by
          rcases List.mem_append.mp (List.mem_of_getElem? hx) with h | h
          · exact cut_int h
          · exact ⟨cell, List.mem_singleton.mp h⟩
        obtain ⟨z, rfl⟩ := hx2
        wtm_at "go"
        exact ⟨_, _, by omega, by omega, rfl, S5⟩
      · rintro σ' H' ⟨st, o, h1, h2, rfl, S5⟩
        wtm_at "go"
        refine brD (fun hc => ?_) (fun hc => ?_)
        · wtm_at "go"
          rename_i p9 H9 _ h90 S9
          exact k _ _ _ h90 ⟨_, _, _, rfl, h1, h2⟩ (S9.at .here) S9.fr
        · wtm_at "go"
          refine brD (fun hc2 => ?_) (fun hc2 => ?_)
          all_goals
            wtm_at "go"
            rename_i p9 H9 _ h90 S9
            exact k _ _ _ h90 ⟨_, _, _, rfl, h1, h2⟩ (S9.at .here) S9.fr
    case refine_2 =>
      wtm_at "go"
      generalize 13 * t + 6 = cell
      wtm_at "go"
      refine r_slQ S hS ?_
      intro q1 H1 _ q10 S1
      wtm_at "go"
      rename_i q2 H2 _ q20 S2
      have lc : (cutV (ns.map V.int) none (some 5)).length ≤ 63 := Nat.le_trans (cutV_length _ _ _) (by rw [List.length_map]; exact hn)
      refine r_cat S2 (by wtm_at "pk") (by wtm_at "pk") (by show _ + 1 ≤ 100000; omega) ?_
      intro q3 H3 _ q30 S3
      have S4 := S3.only (Θ' := []) .here (fun _ z => z)
      refine r_walL (S3.sq .here) ?_
      refine r_forL (xs := cutV (ns.map V.int) none (some 5) ++ [.int cell]) (fun i σ' H' => ∃ (st : Int) (o : Option V), -18446744073709551616 < st ∧ st < 18446744073709551616 ∧ σ' = [some (.ref a), some (.int t), some (.int cell), some (.int st), o] ∧ Z.Sep K H [] [(q3, cutV (ns.map V.int) none (some 5) ++ [.int cell])] [] H') ?_ ?_ ?_ ?_
      · exact ⟨_, _, by omega, by omega, rfl, S4⟩
      · rintro i σ' H' _ ⟨st, o, _, _, _, S5⟩
        exact S5.sq .here
      · rintro i x σ' H' hx ⟨st, o, h1, h2, rfl, S5⟩
        have hx2 : ∃ z : Int, x = .int z := by
          rcases List.mem_append.mp (List.mem_of_getElem? hx) with h | h
          · exact cut_int h
          · exact ⟨cell, List.mem_singleton.mp h⟩
        obtain ⟨z, rfl⟩ := hx2
        wtm_at "go"
        exact ⟨_, _, by omega, by omega, rfl, S5⟩
      · rintro σ' H' ⟨st, o, h1, h2, rfl, S5⟩
        wtm_at "go"
        refine brD (fun hc => ?_) (fun hc => ?_)
        · wtm_at "go"
          rename_i p9 H9 _ h90 S9
          exact k _ _ _ h90 ⟨_, _, _, rfl, h1, h2⟩ (S9.at .here) S9.fr
        · wtm_at "go"
          refine brD (fun hc2 => ?_) (fun hc2 => ?_)
          all_goals
            wtm_at "go"
            rename_i p9 H9 _ h90 S9
            exact k _ _ _ h90 ⟨_, _, _, rfl, h1, h2⟩ (S9.at .here) S9.fr


theorem ok_join (T : Txt K mg) {f : Addr} {fd : FuncData} (D : Z.Def K mg "_law_join" s_join ["one", "two"] f fd) : FnOk P w K mg base CX0 1 f fd ["one", "two"] (spJoined K) := by
  refine D.F.ok sc_join (fun vs H Q E h => ?_) (fun cdv A outer s H vs Q E hr h => ?_)
  · obtain ⟨a, b, x, y, z, x', y', z', rfl, _⟩ := h
    rfl
  · obtain ⟨a, b, x, y, z, x', y', z', rfl, ha, hb, ⟨b1, b2⟩, k⟩ := h
    have S := two_in ha hb
    refine ⟨_, (pss_one (ps_ret (pe_tup (pa_cons (pe_op op_add (pe_ix ix_tup (pv 0) pe_int (fun _ _ => rfl)) (pe_ix ix_tup (pv 1) pe_int (fun _ _ => rfl))) (pa_cons (pe_op op_add (pe_ix ix_tup (pv 0) pe_int (fun _ _ => rfl)) (pe_ix ix_tup (pv 1) pe_int (fun _ _ => rfl))) (pa_cons (pe_op op_add (pe_op op_add (pe_ix ix_tup (pv 0) pe_int (fun _ _ => rfl)) (pe_ix ix_tup (pv 1) pe_int (fun _ _ => rfl))) (pe_op op_mulW (pe_ix ix_tup (pv 0) pe_int (fun _ _ => rfl)) (pe_ix ix_tup (pv 1) pe_int (fun _ _ => rfl)))) pa_nil)))))), ?_⟩
    wtm_at "start"
    wtm_at "go"
    rename_i S1
    exact k _ _ S1.fr (S1.tp (by wtm_at "mem"))
abbrev spBack (K : PySem.W.Frag) : Sp := spM1 K (fun x y _ => bd 4000 x ∧ bd 4000 y) (fun x _ _ => 0 - x) (fun _ y _ => 0 - y) (fun x y s => x * y - s)
theorem ok_back (T : Txt K mg) {f : Addr} {fd : FuncData} (D : Z.Def K mg "_law_back" s_back ["one"] f fd) : FnOk P w K mg base CX0 1 f fd ["one"] (spBack K) := by
  refine D.F.ok sc_back (fun vs H Q E h => ?_) (fun cdv A outer s H vs Q E hr h => ?_)
  · obtain ⟨a, x, y, z, rfl, _⟩ := h
    rfl
  · obtain ⟨a, x, y, z, rfl, ha, ⟨b1, b2⟩, k⟩ := h
    have S := one_in ha
    refine ⟨_, (pss_one (ps_ret (pe_tup (pa_cons (pe_op op_sub pe_int (pe_ix ix_tup (pv 0) pe_int (fun _ _ => rfl))) (pa_cons (pe_op op_sub pe_int (pe_ix ix_tup (pv 0) pe_int (fun _ _ => rfl))) (pa_cons (pe_op op_sub (pe_op op_mulW (pe_ix ix_tup (pv 0) pe_int (fun _ _ => rfl)) (pe_ix ix_tup (pv 0) pe_int (fun _ _ => rfl))) (pe_ix ix_tup (pv 0) pe_int (fun _ _ => rfl))) pa_nil)))))), ?_⟩
    wtm_at "start"
    wtm_at "go"
    rename_i S1
    exact k _ _ S1.fr (S1.tp (by wtm_at "mem"))
def spWhole (K : PySem.W.Frag) : Sp := fun vs H Q _ => ∃ (L t : Addr) (n : Nat) (x y s : Int), vs = [.ref L] ∧ SqL K H L (List.replicate n (.ref t)) ∧ SqT K H t (mv x y s) ∧ n ≤ 6 ∧ bd 1000 x ∧ bd 1000 y ∧ bd 1000 s ∧
  ∀ r H', Fr [] H H' → SqT K H' r (mv (n * x) (n * y) (n * s + (n : Int) * (n - 1) / 2 * x * y)) → Q (.ref r) H'
theorem ok_whole (T : Txt K mg) {f : Addr} {fd : FuncData} (D : Z.Def K mg "_law_whole" s_whole ["some"] f fd) : FnOk P w K mg base CX0 2 f fd ["some"] (spWhole K) := by
  obtain ⟨a_join, fd_join, D_join⟩ := T.f_join
  have G_join := ok_join (P := P) (w := w) (base := base) T D_join
  refine D.F.ok sc_whole (fun vs H Q E h => ?_) (fun cdv A outer s H vs Q E hr h => ?_)
  · obtain ⟨L, t, n, x, y, z, rfl, _⟩ := h
    rfl
  · obtain ⟨L, t, n, x, y, z, rfl, hL, ht, hn, b1, b2, b3, k⟩ := h
    have S := one_in ht
    refine ⟨_, (pss_cons (ps_set (i := 1) sc_whole.nd rfl (Or.inl rfl) (pe_tup (pa_cons pe_int (pa_cons pe_int (pa_cons pe_int pa_nil)))))
      (pss_cons (ps_for PassesOwn.never rfl (pi_list (pv 0)) (pg_name (i := 2) sc_whole.nd rfl (Or.inl rfl))
      (pss_one (ps_set (i := 1) sc_whole.nd rfl (Or.inl rfl) (pe_call G_join (hr.mono (by decide)) (by rfl) D_join.m D_join.F.kp D_join.b .nil pass0 (pa_cons (pv 1) (pa_cons (pv 2) pa_nil))))))
      (pss_one (ps_ret (pv 1))))), ?_⟩
    wtm_at "start"
    wtm_at "go"
    rename_i f0 H1 _ _ S1
    refine r_walL (sqL_fr hL S1.fr (by simp)) ?_
    refine r_forL (xs := List.replicate n (.ref t)) (fun i σ' H' => ∃ (f : Addr) (o : Option V), σ' = [some (.ref L), some (.ref f), o] ∧ Z.Sep K H [] [] [(f, mv (i * x) (i * y) (i * z + (i : Int) * (i - 1) / 2 * x * y)), (t, mv x y z)] H') ?_ ?_ ?_ ?_
    · refine ⟨_, _, rfl, ?_⟩
      have e : mv 0 0 0 = mv (((0 : Nat) : Int) * x) (((0 : Nat) : Int) * y) (((0 : Nat) : Int) * z + ((0 : Nat) : Int) * (((0 : Nat) : Int) - 1) / 2 * x * y) := by simp [mv]
      rw [← e]
      exact S1
    · rintro i σ' H' _ ⟨f, o, _, S2⟩
      exact sqL_fr hL S2.fr (by simp)
    · rintro i v σ' H' hv ⟨f, o, rfl, S2⟩
      have hi : i < n := by
        have := (List.getElem?_eq_some_iff.mp hv).1
        simpa using this
      have ev : v = .ref t := by
        rw [List.getElem?_replicate, if_pos hi] at hv
        exact (Option.some.inj hv).symm
      subst ev
      wtm_at "go"
      rename_i r _ S3
      refine ⟨r, _, rfl, ?_⟩
      have e : mv ((i : Int) * x + x) ((i : Int) * y + y) ((i : Int) * z + (i : Int) * (i - 1) / 2 * x * y + z + (i : Int) * x * y) = mv (((i + 1 : Nat) : Int) * x) (((i + 1 : Nat) : Int) * y) (((i + 1 : Nat) : Int) * z + ((i + 1 : Nat) : Int) * (((i + 1 : Nat) : Int) - 1) / 2 * x * y) := by
        have c : ((i + 1 : Nat) : Int) = (i : Int) + 1 := by omega
        rw [c, T_add]
        simp only [mv, List.cons.injEq, V.int.injEq, and_true]
        refine ⟨?_, ?_, ?_⟩ <;> grind
      rw [← e]
      exact S3.subT (by simp +contextual)
    · rintro σ' H' ⟨f, o, rfl, S2⟩
      wtm_at "go"
      rw [List.length_replicate] at S2
      exact k _ _ S2.fr (S2.tp (by wtm_at "mem"))
section
variable {K : PySem.W.Frag} {H H0 : Hp} {M : List Addr} {Γ Γ' Θ : LS} {Q : VK} {L t : Addr} {x y s : Int} {E : XK}
theorem use_whole {n : Nat} (S : Z.Sep K H0 M Γ Θ H) (hL : Pick L (List.replicate n [.ref t]).flatten Γ Γ') (ht : (t, mv x y s) ∈ Θ) (hn : n ≤ 6) (b1 : bd 1000 x) (b2 : bd 1000 y) (b3 : bd 1000 s)
    (k : ∀ r H', Z.Sep K H0 M Γ ((r, mv (n * x) (n * y) (n * s + (n : Int) * (n - 1) / 2 * x * y)) :: Θ) H' → Q (.ref r) H') : spWhole K [.ref L] H Q E :=
  ⟨L, t, n, x, y, s, rfl, by have h := S.sq hL; rw [List.flatten_replicate_singleton] at h; exact h, S.tp ht, hn, b1, b2, b3, fun r H' f q => k r H' ((S.kept f).addT q)⟩
end

theorem ok_right (T : Txt K mg) {f : Addr} {fd : FuncData} (D : Z.Def K mg "_law_right" s_right ["well"] f fd) : FnOk P w K mg base CX0 5 f fd ["well"] spRight := by
  obtain ⟨a_then, fd_then, D_then⟩ := T.f_then
  have G_then := ok_then (P := P) (w := w) (base := base) T D_then
  obtain ⟨a_undone, fd_undone, D_undone⟩ := T.f_undone
  have G_undone := ok_undone (P := P) (w := w) (base := base) T D_undone
  obtain ⟨a_often, fd_often, D_often⟩ := T.f_often
  have G_often := ok_often (P := P) (w := w) (base := base) T D_often
  obtain ⟨a_number, fd_number, D_number⟩ := T.f_number
  have G_number := ok_number (P := P) (w := w) (base := base) T D_number
  obtain ⟨a_drawn, fd_drawn, D_drawn⟩ := T.f_drawn
  have G_drawn := ok_drawn (P := P) (w := w) (base := base) T D_drawn
  obtain ⟨a_back, fd_back, D_back⟩ := T.f_back
  have G_back := ok_back (P := P) (w := w) (base := base) T D_back
  obtain ⟨a_whole, fd_whole, D_whole⟩ := T.f_whole
  have G_whole := ok_whole (P := P) (w := w) (base := base) T D_whole
  refine D.F.ok sc_right (fun vs H Q E h => ?_) (fun cdv A outer s H vs Q E hr h => ?_)
  · obtain ⟨p, l, rfl, _⟩ := h
    rfl
  · obtain ⟨p, l, rfl, hw, hl, k⟩ := h
    have S := well_in (K := K) hw
    have hu64 := hr.units
    refine ⟨_, (pss_cons (ps_par (i := 1) (j := 2) rfl sc_right.nd rfl rfl (by decide) rfl rfl (pa_cons (pe_call G_drawn (hr.mono (by decide)) (by rfl) D_drawn.m D_drawn.F.kp D_drawn.b .nil pass0 (pa_cons (pv 0) pa_nil)) (pa_cons (pe_call G_drawn (hr.mono (by decide)) (by rfl) D_drawn.m D_drawn.F.kp D_drawn.b .nil pass0 (pa_cons (pv 0) pa_nil)) pa_nil)) (by rfl))
      (pss_cons (ps_set (i := 3) sc_right.nd rfl (Or.inl rfl) (pe_call G_undone (hr.mono (by decide)) (by rfl) D_undone.m D_undone.F.kp D_undone.b .nil pass0 (pa_cons (pv 1) pa_nil)))
      (pss_cons (ps_if (pt_cmpR (op_neD hu64) (pe_lst (pa_cons (pe_call G_then (hr.mono (by decide)) (by rfl) D_then.m D_then.F.kp D_then.b .nil pass0 (pa_cons (pv 1) (pa_cons (pv 3) pa_nil))) (pa_cons (pe_call G_then (hr.mono (by decide)) (by rfl) D_then.m D_then.F.kp D_then.b .nil pass0 (pa_cons (pv 3) (pa_cons (pv 1) pa_nil))) (pa_cons (pe_call G_undone (hr.mono (by decide)) (by rfl) D_undone.m D_undone.F.kp D_undone.b .nil pass0 (pa_cons (pv 3) pa_nil)) (pa_cons (Z.pe_callK0 G_undone (hr.mono (by decide)) (by rfl) D_undone.m D_undone.F.kp (K1_undone D_undone) pass0 (pk_cons (pv 1) pk_nil)) pa_nil))))) (pe_lst (pa_cons (pe_tup (pa_cons pe_int (pa_cons pe_int (pa_cons pe_int pa_nil)))) (pa_cons (pe_tup (pa_cons pe_int (pa_cons pe_int (pa_cons pe_int pa_nil)))) (pa_cons (pv 1) (pa_cons (pv 3) pa_nil))))) (nomark _)) (pss_one (ps_ret pe_bl))
      pss_nil)
      (pss_cons (ps_if (PW.pt (pw_or (pt_cmpR (op_neD hu64) (pe_call G_undone (hr.mono (by decide)) (by rfl) D_undone.m D_undone.F.kp D_undone.b .nil pass0 (pa_cons (pe_call G_then (hr.mono (by decide)) (by rfl) D_then.m D_then.F.kp D_then.b .nil pass0 (pa_cons (pv 1) (pa_cons (pv 2) pa_nil))) pa_nil)) (pe_call G_then (hr.mono (by decide)) (by rfl) D_then.m D_then.F.kp D_then.b .nil pass0 (pa_cons (pe_call G_undone (hr.mono (by decide)) (by rfl) D_undone.m D_undone.F.kp D_undone.b .nil pass0 (pa_cons (pv 2) pa_nil)) (pa_cons (pv 3) pa_nil))) (nomark _)) (pw_or1 (pt_cmpR (op_neD hu64) (pv 3) (pe_call G_back (hr.mono (by decide)) (by rfl) D_back.m D_back.F.kp D_back.b .nil pass0 (pa_cons (pv 1) pa_nil)) (nomark _))))) (pss_one (ps_ret pe_bl))
      pss_nil)
      (pss_cons (ps_for PassesOwn.never rfl (pi_range2 rfl T.b_range (pa_cons (pe_un un_neg pe_int) (pa_cons pe_int pa_nil))) (pg_name (i := 4) sc_right.nd rfl (Or.inl rfl))
      (pss_cons (ps_set (i := 5) sc_right.nd rfl (Or.inl rfl) (pe_call G_whole (hr.mono (by decide)) (by rfl) D_whole.m D_whole.F.kp D_whole.b .nil pass0 (pa_cons (pe_op op_rep (pe_lst (pa_cons (pe_ifExp (pt_cmpR op_gt (pv 4) pe_int (nomark _)) (pv 1) (pe_call G_back (hr.mono (by decide)) (by rfl) D_back.m D_back.F.kp D_back.b .nil pass0 (pa_cons (pv 1) pa_nil))) pa_nil)) (pe_callB Z.z_abs (by rfl) T.b_abs (by decide +kernel) (pa_cons (pv 4) pa_nil))) pa_nil)))
      (pss_one (ps_if (PW.pt (pw_or (pt_cmpR (op_neD hu64) (pe_call G_often (hr.mono (by decide)) (by rfl) D_often.m D_often.F.kp D_often.b .nil pass0 (pa_cons (pv 1) (pa_cons (pv 4) pa_nil))) (pv 5) (nomark _)) (pw_or1 (pt_cmpR (op_neD hu64) (Z.pe_callK0 G_often (hr.mono (by decide)) (by rfl) D_often.m D_often.F.kp (K21_often D_often) pass0 (pk_cons (pv 4) (pk_cons (pv 1) pk_nil))) (pv 5) (nomark _))))) (pss_one (ps_ret pe_bl))
      pss_nil))))
      (pss_cons (ps_par (i := 6) (j := 7) rfl sc_right.nd rfl rfl (by decide) rfl rfl (pa_cons (pe_call G_number (hr.mono (by decide)) (by rfl) D_number.m D_number.F.kp D_number.b .nil pass0 (pa_cons (pv 0) pa_nil)) (pa_cons (pe_call G_number (hr.mono (by decide)) (by rfl) D_number.m D_number.F.kp D_number.b .nil pass0 (pa_cons (pv 0) pa_nil)) pa_nil)) (by rfl))
      (pss_cons (ps_if (pt_cmpR (op_neD hu64) (pe_call G_then (hr.mono (by decide)) (by rfl) D_then.m D_then.F.kp D_then.b .nil pass0 (pa_cons (pe_call G_often (hr.mono (by decide)) (by rfl) D_often.m D_often.F.kp D_often.b .nil pass0 (pa_cons (pv 1) (pa_cons (pv 6) pa_nil))) (pa_cons (pe_call G_often (hr.mono (by decide)) (by rfl) D_often.m D_often.F.kp D_often.b .nil pass0 (pa_cons (pv 1) (pa_cons (pv 7) pa_nil))) pa_nil))) (pe_call G_often (hr.mono (by decide)) (by rfl) D_often.m D_often.F.kp D_often.b .nil pass0 (pa_cons (pv 1) (pa_cons (pe_op op_add (pv 6) (pv 7)) pa_nil))) (nomark _)) (pss_one (ps_ret pe_bl))
      pss_nil)
      (pss_cons (ps_if (PW.pt (pw_or (pt_cmpR (op_neD hu64) (pe_call G_often (hr.mono (by decide)) (by rfl) D_often.m D_often.F.kp D_often.b .nil pass0 (pa_cons (pe_call G_often (hr.mono (by decide)) (by rfl) D_often.m D_often.F.kp D_often.b .nil pass0 (pa_cons (pv 1) (pa_cons (pv 6) pa_nil))) (pa_cons (pv 7) pa_nil))) (pe_call G_often (hr.mono (by decide)) (by rfl) D_often.m D_often.F.kp D_often.b .nil pass0 (pa_cons (pv 1) (pa_cons (pe_op op_mulW (pv 6) (pv 7)) pa_nil))) (nomark _)) (pw_or1 (pt_cmpR (op_neD hu64) (pe_call G_undone (hr.mono (by decide)) (by rfl) D_undone.m D_undone.F.kp D_undone.b .nil pass0 (pa_cons (pe_call G_often (hr.mono (by decide)) (by rfl) D_often.m D_often.F.kp D_often.b .nil pass0 (pa_cons (pv 1) (pa_cons (pv 6) pa_nil))) pa_nil)) (pe_call G_often (hr.mono (by decide)) (by rfl) D_often.m D_often.F.kp D_often.b .nil pass0 (pa_cons (pv 1) (pa_cons (pe_op op_sub pe_int (pv 6)) pa_nil))) (nomark _))))) (pss_one (ps_ret pe_bl))
      pss_nil)
      (pss_one (ps_ret (pe_cmpR (op_eqD hu64) (pe_call G_then (hr.mono (by decide)) (by rfl) D_then.m D_then.F.kp D_then.b .nil pass0 (pa_cons (pe_call G_often (hr.mono (by decide)) (by rfl) D_often.m D_often.F.kp D_often.b .nil pass0 (pa_cons (pv 1) (pa_cons (pv 6) pa_nil))) (pa_cons (pv 1) pa_nil))) (pe_call G_often (hr.mono (by decide)) (by rfl) D_often.m D_often.F.kp D_often.b .nil pass0 (pa_cons (pv 1) (pa_cons (pe_op op_add (pv 6) pe_int) pa_nil))) (nomark _)))))))))))), ?_⟩
    wtm_at "start"
    wtm_at "gd"
    refine use_drawn S .here (.inl (.head _)) hl ?_
    intro t1 x1 y1 s1 l1 H1 bx1 b_y1 bs1 hl1 S1
    wtm_at "gd"
    refine use_drawn S1 .here (.inl (.head _)) hl1 ?_
    intro t2 x2 y2 s2 l2 H2 bx2 b_y2 bs2 hl2 S2
    wtm_at "gd"
    refine brNB (by wtm_at "eqs") ?_
    wtm_at "gd"
    refine brNB (by wtm_at "eqs") ?_
    wtm_at "gd"
    refine brNB (by wtm_at "eqs") ?_
    wtm_at "gd"
    rename_i S3
    have S4 : Z.Sep K H [p] [(p, l2)] [(t1, mv x1 y1 s1)] _ := S3.only1 (by wtm_at "pk") (by wtm_at "mem")
    clear S3
    refine r_forR (fun i σ' H' => ∃ (a2 a3 o1 o2 : Option V), σ' = [some (.ref p), some (.ref t1), a2, a3, o1, o2, none, none] ∧ Z.Sep K H [p] [(p, l2)] [(t1, mv x1 y1 s1)] H') ?_ ?_ ?_
    · exact ⟨_, _, _, _, rfl, S4⟩
    · rintro i σ' H' hi ⟨a2, a3, o1, o2, rfl, S5⟩
      have hc0 : -6 ≤ -6 + (i : Int) := by omega
      have hc1 : -6 + (i : Int) ≤ 6 := by omega
      generalize -6 + (i : Int) = c at hc0 hc1 ⊢
      wtm_at "gd"
      refine brD (fun hc => ?_) (fun hc => ?_)
      · wtm_at "gd"
        rename_i S6
        rw [if_neg (by omega)]
        refine r_rep S6 (by wtm_at "pk") (by omega) (by omega) (by show 1 * _ ≤ 100000; omega) ?_
        intro L H7 _ _ S7
        wtm_at "gd"
        refine use_whole S7 .here (.head _) (by omega) (by wtm_at "bdt") (by wtm_at "bdt") (by wtm_at "bdt") ?_
        intro r H8 S8
        rw [Int.toNat_of_nonneg (by omega)] at S8
        wtm_at "gd"
        refine brNB (by wtm_at "eqs") ?_
        wtm_at "gd"
        refine brNB (by wtm_at "eqs") ?_
        wtm_at "gd"
        rename_i S9
        exact ⟨_, _, _, _, rfl, S9.only1 (by wtm_at "pk") (by wtm_at "mem")⟩
      · wtm_at "gd"
        rename_i S6
        have ec : (if c < 0 then -c else c) = 0 - c := by split <;> omega
        rw [ec]
        refine r_rep S6 (by wtm_at "pk") (by omega) (by omega) (by show 1 * _ ≤ 100000; omega) ?_
        intro L H7 _ _ S7
        wtm_at "gd"
        refine use_whole S7 .here (.head _) (by omega) (by wtm_at "bdt") (by wtm_at "bdt") (by wtm_at "bdt") ?_
        intro r H8 S8
        rw [Int.toNat_of_nonneg (by omega), T_neg] at S8
        wtm_at "gd"
        refine brNB (by wtm_at "eqs") ?_
        wtm_at "gd"
        refine brNB (by wtm_at "eqs") ?_
        wtm_at "gd"
        rename_i S9
        exact ⟨_, _, _, _, rfl, S9.only1 (by wtm_at "pk") (by wtm_at "mem")⟩
    · rintro σ' H' ⟨a2, a3, o1, o2, rfl, S5⟩
      wtm_at "gd"
      refine use_number S5 .here (.inl (.head _)) hl2 ?_
      intro n1 l3 H6 bn1 hl3 S6
      wtm_at "gd"
      refine use_number S6 .here (.inl (.head _)) hl3 ?_
      intro n2 l4 H7 bn2 hl4 S7
      wtm_at "gd"
      refine brNB (mvE (oa1 ..) (oa1 ..) (oa3 ..)) ?_
      wtm_at "gd"
      refine brNB (mvE (oo1 ..) (oo1 ..) (oo3 ..)) ?_
      wtm_at "gd"
      refine brNB (mvE (ou1 ..) (ou1 ..) (ou3 ..)) ?_
      wtm_at "gd"
      rename_i S9
      rw [mvE (os1 ..) (os1 ..) (os3 ..)]
      exact k _ S9.fr

theorem ok_law (T : Txt K mg) {f : Addr} {fd : FuncData} (D : Z.Def K mg "law" s_law ["cells"] f fd) : FnOk P w K mg base CX0 6 f fd ["cells"] (spLaw K) := by
  obtain ⟨a_well, fd_well, D_well⟩ := T.f_well
  have G_well := ok_well (P := P) (w := w) (base := base) T D_well
  obtain ⟨a_right, fd_right, D_right⟩ := T.f_right
  have G_right := ok_right (P := P) (w := w) (base := base) T D_right
  refine D.F.ok sc_law (fun vs H Q E h => ?_) (fun cdv A outer s H vs Q E hr h => ?_)
  · obtain ⟨a, ns, rfl, _⟩ := h
    rfl
  · obtain ⟨a, ns, rfl, hS, hn, k⟩ := h
    have S : Z.Sep K H [] [] [] H := Sep.start (fun _ z => by cases z) List.nodup_nil (fun _ z => by cases z) (fun _ z => by cases z)
    refine ⟨_, (pss_one (ps_ret (pe_callB (cr_all rfl) (by rfl) T.b_all (by decide +kernel) (pa_cons (pe_lc (own := [("turn", 1)]) (g := gName 1)  rfl sc_law.nd (pi_range1 rfl T.b_range (pa_cons (pe_callB (Z.z_max2 rfl) (by rfl) T.b_max (by decide +kernel) (pa_cons pe_int (pa_cons (pe_callB (Z.z_min2 rfl) (by rfl) T.b_min (by decide +kernel) (pa_cons (pe_callB Z.z_len (by rfl) T.b_len (by decide +kernel) (pa_cons (pv 0) pa_nil)) (pa_cons pe_int pa_nil))) pa_nil))) pa_nil)) (blkOk_by (own := [("turn", 1)]) (N := ["cells", "turn"]) (sc := defScope s_law) (by decide +kernel)) (fun _ _ _ _ _ => (pg_name (i := 1) sc_law.nd rfl (by first | exact Or.inl rfl | exact Or.inr rfl))) (fun _ _ _ _ _ => pts_nil) (fun _ _ _ _ _ => (pe_call G_right (hr.mono (by decide)) (by rfl) D_right.m D_right.F.kp D_right.b .nil pass0 (pa_cons (pe_call G_well (hr.mono (by decide)) (by rfl) D_well.m D_well.F.kp D_well.b .nil pass0 (pa_cons (pv 0) (pa_cons (pv 1) pa_nil))) pa_nil)))) pa_nil)))), ?_⟩
    wtm_at "start"
    wtm_at "gd"
    refine r_lenQ hS ?_
    wtm_at "gd"
    have hm : ∃ m : Nat, m ≤ 5 ∧ (if (if (5 : Int) < ((ns.map V.int).length : Int) then (5 : Int) else ((ns.map V.int).length : Int)) > 2 then (if (5 : Int) < ((ns.map V.int).length : Int) then (5 : Int) else ((ns.map V.int).length : Int)) else 2) = (m : Int) := by
      by_cases c : (5 : Int) < ((ns.map V.int).length : Int)
      · rw [if_pos c]
        exact ⟨5, by omega, rfl⟩
      · rw [if_neg c]
        by_cases c2 : ((ns.map V.int).length : Int) > 2
        · rw [if_pos c2]
          exact ⟨(ns.map V.int).length, by omega, rfl⟩
        · rw [if_neg c2]
          exact ⟨2, by omega, rfl⟩
    obtain ⟨m, hm5, em⟩ := hm
    rw [em]
    wtm_at "gd"
    rw [Int.toNat_natCast]
    refine r_lcR (fun D i acc H' => acc = (List.replicate i true).map V.bl ∧ Z.Sep K H [] [(D, acc)] [] H') ?_ ?_ ?_
    · exact fun D hD => ⟨rfl, S.newL hD⟩
    · rintro D i acc H' hD hi hl hA ⟨e, S1⟩
      wtm_at "gd"
      refine use_well S1 (sqL_fr hS S1.fr (by simp)) hn (by omega) (by omega) ?_
      intro w9 l9 H9 h9 hl9 S9
      wtm_at "gd"
      refine use_right S9 .here h9 hl9 ?_
      intro H10 S10
      refine r_lcE hl (by omega) (S10.at .here) ⟨?_, S10.set .here (Or.inr (S.old hD))⟩
      rw [e, List.replicate_succ', List.map_append]
      rfl
    · rintro D acc H' hD hl hA ⟨e, S1⟩
      wtm_at "gd"
      refine r_all S1 (bs := List.replicate m true) (by rw [e]; exact .here) ?_
      have ea : (List.replicate m true).all id = true := by simp
      rw [ea]
      exact k _

end
theorem all_mk {l : PySem.W.OpenLaw} {w : World} {K : PySem.W.Frag} {h : Heap} {mg : Str → Option Value} {fa : Addr} (X : K.In h) (G : h.Ns mainGlobals mg) (hfa : mg "law" = some (.ref fa))
    {f0 : Addr} {od0 an0 : Option Addr} {sl0 : Array (Option Value)} {oc0 kV0 dc0 pm0 cd0 ct0 : Value}
    (a0 : PySem.W.nsIn K mainGlobals "is_integer" = some (some (.ref f0))) (l0 : K.lookup f0 = some ⟨oc0, od0, .func (PySem.W.fnOf "is_integer" "is_integer" (defArgs s_is_integer) (defBody s_is_integer) (defScope s_is_integer) .none kV0 dc0 pm0 an0 cd0 ct0), sl0⟩) (c0 : PySem.W.codeIn K cd0 "is_integer" = true) (k0 : PySem.W.keepIn K (.ref f0) = true)
    {f1 : Addr} {od1 an1 : Option Addr} {sl1 : Array (Option Value)} {oc1 kV1 dc1 pm1 cd1 ct1 : Value}
    (a1 : PySem.W.nsIn K mainGlobals "is_move" = some (some (.ref f1))) (l1 : K.lookup f1 = some ⟨oc1, od1, .func (PySem.W.fnOf "is_move" "is_move" (defArgs s_is_move) (defBody s_is_move) (defScope s_is_move) .none kV1 dc1 pm1 an1 cd1 ct1), sl1⟩) (c1 : PySem.W.codeIn K cd1 "is_move" = true) (k1 : PySem.W.keepIn K (.ref f1) = true)
    {f2 : Addr} {od2 an2 : Option Addr} {sl2 : Array (Option Value)} {oc2 kV2 dc2 pm2 cd2 ct2 : Value}
    (a2 : PySem.W.nsIn K mainGlobals "need_move" = some (some (.ref f2))) (l2 : K.lookup f2 = some ⟨oc2, od2, .func (PySem.W.fnOf "need_move" "need_move" (defArgs s_need_move) (defBody s_need_move) (defScope s_need_move) .none kV2 dc2 pm2 an2 cd2 ct2), sl2⟩) (c2 : PySem.W.codeIn K cd2 "need_move" = true) (k2 : PySem.W.keepIn K (.ref f2) = true)
    {f3 : Addr} {od3 an3 : Option Addr} {sl3 : Array (Option Value)} {oc3 kV3 dc3 pm3 cd3 ct3 : Value}
    (a3 : PySem.W.nsIn K mainGlobals "need_integer" = some (some (.ref f3))) (l3 : K.lookup f3 = some ⟨oc3, od3, .func (PySem.W.fnOf "need_integer" "need_integer" (defArgs s_need_integer) (defBody s_need_integer) (defScope s_need_integer) .none kV3 dc3 pm3 an3 cd3 ct3), sl3⟩) (c3 : PySem.W.codeIn K cd3 "need_integer" = true) (k3 : PySem.W.keepIn K (.ref f3) = true)
    {f4 : Addr} {od4 an4 : Option Addr} {sl4 : Array (Option Value)} {oc4 kV4 dc4 pm4 cd4 ct4 : Value}
    (a4 : PySem.W.nsIn K mainGlobals "joined" = some (some (.ref f4))) (l4 : K.lookup f4 = some ⟨oc4, od4, .func (PySem.W.fnOf "joined" "joined" (defArgs s_joined) (defBody s_joined) (defScope s_joined) .none kV4 dc4 pm4 an4 cd4 ct4), sl4⟩) (c4 : PySem.W.codeIn K cd4 "joined" = true) (k4 : PySem.W.keepIn K (.ref f4) = true)
    {f5 : Addr} {od5 an5 : Option Addr} {sl5 : Array (Option Value)} {oc5 kV5 dc5 pm5 cd5 ct5 : Value}
    (a5 : PySem.W.nsIn K mainGlobals "repeated" = some (some (.ref f5))) (l5 : K.lookup f5 = some ⟨oc5, od5, .func (PySem.W.fnOf "repeated" "repeated" (defArgs s_repeated) (defBody s_repeated) (defScope s_repeated) .none kV5 dc5 pm5 an5 cd5 ct5), sl5⟩) (c5 : PySem.W.codeIn K cd5 "repeated" = true) (k5 : PySem.W.keepIn K (.ref f5) = true)
    {f6 : Addr} {od6 an6 : Option Addr} {sl6 : Array (Option Value)} {oc6 kV6 dc6 pm6 cd6 ct6 : Value}
    (a6 : PySem.W.nsIn K mainGlobals "then" = some (some (.ref f6))) (l6 : K.lookup f6 = some ⟨oc6, od6, .func (PySem.W.fnOf "then" "then" (defArgs s_then) (defBody s_then) (defScope s_then) .none kV6 dc6 pm6 an6 cd6 ct6), sl6⟩) (c6 : PySem.W.codeIn K cd6 "then" = true) (k6 : PySem.W.keepIn K (.ref f6) = true)
    {f7 : Addr} {od7 an7 : Option Addr} {sl7 : Array (Option Value)} {oc7 kV7 dc7 pm7 cd7 ct7 : Value}
    (a7 : PySem.W.nsIn K mainGlobals "undone" = some (some (.ref f7))) (l7 : K.lookup f7 = some ⟨oc7, od7, .func (PySem.W.fnOf "undone" "undone" (defArgs s_undone) (defBody s_undone) (defScope s_undone) .none kV7 dc7 pm7 an7 cd7 ct7), sl7⟩) (c7 : PySem.W.codeIn K cd7 "undone" = true) (k7 : PySem.W.keepIn K (.ref f7) = true)
    {f8 : Addr} {od8 an8 : Option Addr} {sl8 : Array (Option Value)} {oc8 kV8 dc8 pm8 cd8 ct8 : Value}
    (a8 : PySem.W.nsIn K mainGlobals "often" = some (some (.ref f8))) (l8 : K.lookup f8 = some ⟨oc8, od8, .func (PySem.W.fnOf "often" "often" (defArgs s_often) (defBody s_often) (defScope s_often) .none kV8 dc8 pm8 an8 cd8 ct8), sl8⟩) (c8 : PySem.W.codeIn K cd8 "often" = true) (k8 : PySem.W.keepIn K (.ref f8) = true)
    {f9 : Addr} {od9 an9 : Option Addr} {sl9 : Array (Option Value)} {oc9 kV9 dc9 pm9 cd9 ct9 : Value}
    (a9 : PySem.W.nsIn K mainGlobals "_law_well" = some (some (.ref f9))) (l9 : K.lookup f9 = some ⟨oc9, od9, .func (PySem.W.fnOf "_law_well" "_law_well" (defArgs s_well) (defBody s_well) (defScope s_well) .none kV9 dc9 pm9 an9 cd9 ct9), sl9⟩) (c9 : PySem.W.codeIn K cd9 "_law_well" = true) (k9 : PySem.W.keepIn K (.ref f9) = true)
    {f10 : Addr} {od10 an10 : Option Addr} {sl10 : Array (Option Value)} {oc10 kV10 dc10 pm10 cd10 ct10 : Value}
    (a10 : PySem.W.nsIn K mainGlobals "_law_dip" = some (some (.ref f10))) (l10 : K.lookup f10 = some ⟨oc10, od10, .func (PySem.W.fnOf "_law_dip" "_law_dip" (defArgs s_dip) (defBody s_dip) (defScope s_dip) .none kV10 dc10 pm10 an10 cd10 ct10), sl10⟩) (c10 : PySem.W.codeIn K cd10 "_law_dip" = true) (k10 : PySem.W.keepIn K (.ref f10) = true)
    {f11 : Addr} {od11 an11 : Option Addr} {sl11 : Array (Option Value)} {oc11 kV11 dc11 pm11 cd11 ct11 : Value}
    (a11 : PySem.W.nsIn K mainGlobals "_law_number" = some (some (.ref f11))) (l11 : K.lookup f11 = some ⟨oc11, od11, .func (PySem.W.fnOf "_law_number" "_law_number" (defArgs s_number) (defBody s_number) (defScope s_number) .none kV11 dc11 pm11 an11 cd11 ct11), sl11⟩) (c11 : PySem.W.codeIn K cd11 "_law_number" = true) (k11 : PySem.W.keepIn K (.ref f11) = true)
    {f12 : Addr} {od12 an12 : Option Addr} {sl12 : Array (Option Value)} {oc12 kV12 dc12 pm12 cd12 ct12 : Value}
    (a12 : PySem.W.nsIn K mainGlobals "_law_drawn" = some (some (.ref f12))) (l12 : K.lookup f12 = some ⟨oc12, od12, .func (PySem.W.fnOf "_law_drawn" "_law_drawn" (defArgs s_drawn) (defBody s_drawn) (defScope s_drawn) .none kV12 dc12 pm12 an12 cd12 ct12), sl12⟩) (c12 : PySem.W.codeIn K cd12 "_law_drawn" = true) (k12 : PySem.W.keepIn K (.ref f12) = true)
    {f13 : Addr} {od13 an13 : Option Addr} {sl13 : Array (Option Value)} {oc13 kV13 dc13 pm13 cd13 ct13 : Value}
    (a13 : PySem.W.nsIn K mainGlobals "_law_join" = some (some (.ref f13))) (l13 : K.lookup f13 = some ⟨oc13, od13, .func (PySem.W.fnOf "_law_join" "_law_join" (defArgs s_join) (defBody s_join) (defScope s_join) .none kV13 dc13 pm13 an13 cd13 ct13), sl13⟩) (c13 : PySem.W.codeIn K cd13 "_law_join" = true) (k13 : PySem.W.keepIn K (.ref f13) = true)
    {f14 : Addr} {od14 an14 : Option Addr} {sl14 : Array (Option Value)} {oc14 kV14 dc14 pm14 cd14 ct14 : Value}
    (a14 : PySem.W.nsIn K mainGlobals "_law_back" = some (some (.ref f14))) (l14 : K.lookup f14 = some ⟨oc14, od14, .func (PySem.W.fnOf "_law_back" "_law_back" (defArgs s_back) (defBody s_back) (defScope s_back) .none kV14 dc14 pm14 an14 cd14 ct14), sl14⟩) (c14 : PySem.W.codeIn K cd14 "_law_back" = true) (k14 : PySem.W.keepIn K (.ref f14) = true)
    {f15 : Addr} {od15 an15 : Option Addr} {sl15 : Array (Option Value)} {oc15 kV15 dc15 pm15 cd15 ct15 : Value}
    (a15 : PySem.W.nsIn K mainGlobals "_law_whole" = some (some (.ref f15))) (l15 : K.lookup f15 = some ⟨oc15, od15, .func (PySem.W.fnOf "_law_whole" "_law_whole" (defArgs s_whole) (defBody s_whole) (defScope s_whole) .none kV15 dc15 pm15 an15 cd15 ct15), sl15⟩) (c15 : PySem.W.codeIn K cd15 "_law_whole" = true) (k15 : PySem.W.keepIn K (.ref f15) = true)
    {f16 : Addr} {od16 an16 : Option Addr} {sl16 : Array (Option Value)} {oc16 kV16 dc16 pm16 cd16 ct16 : Value}
    (a16 : PySem.W.nsIn K mainGlobals "_law_right" = some (some (.ref f16))) (l16 : K.lookup f16 = some ⟨oc16, od16, .func (PySem.W.fnOf "_law_right" "_law_right" (defArgs s_right) (defBody s_right) (defScope s_right) .none kV16 dc16 pm16 an16 cd16 ct16), sl16⟩) (c16 : PySem.W.codeIn K cd16 "_law_right" = true) (k16 : PySem.W.keepIn K (.ref f16) = true)
    {f17 : Addr} {od17 an17 : Option Addr} {sl17 : Array (Option Value)} {oc17 kV17 dc17 pm17 cd17 ct17 : Value}
    (a17 : PySem.W.nsIn K mainGlobals "law" = some (some (.ref f17))) (l17 : K.lookup f17 = some ⟨oc17, od17, .func (PySem.W.fnOf "law" "law" (defArgs s_law) (defBody s_law) (defScope s_law) .none kV17 dc17 pm17 an17 cd17 ct17), sl17⟩) (c17 : PySem.W.codeIn K cd17 "law" = true) (k17 : PySem.W.keepIn K (.ref f17) = true)
    (z_abs : PySem.W.nsIn K mainGlobals "abs" = some none)
    (z_all : PySem.W.nsIn K mainGlobals "all" = some none)
    (z_divmod : PySem.W.nsIn K mainGlobals "divmod" = some none)
    (z_int : PySem.W.nsIn K mainGlobals "int" = some none)
    (z_len : PySem.W.nsIn K mainGlobals "len" = some none)
    (z_max : PySem.W.nsIn K mainGlobals "max" = some none)
    (z_min : PySem.W.nsIn K mainGlobals "min" = some none)
    (z_range : PySem.W.nsIn K mainGlobals "range" = some none)
    (z_tuple : PySem.W.nsIn K mainGlobals "tuple" = some none)
    (z_type : PySem.W.nsIn K mainGlobals "type" = some none)
    : ∃ fd : FuncData, (∀ (s : Shared) (v : Value), BindsTo s fd ⟨[v], []⟩ [("cells", v)]) ∧ ∀ base : Heap, K.In base → base.Ns mainGlobals mg → FnOk l.prog w K mg base CX0 6 fa fd ["cells"] (spLaw K) := by
  have e := hfa.symm.trans (PySem.W.mg_of X G a17)
  cases e
  have F0 := fun_mk (st := s_is_integer) l0 c0 k0
  have D0 : Z.Def K mg "is_integer" s_is_integer ["value"] _ _ := ⟨PySem.W.mg_of X G a0, F0, F0.binds (ps := ["value"]) fun _ _ _ _ _ _ us hl => match us, hl with | [_], _ => rfl⟩
  have F1 := fun_mk (st := s_is_move) l1 c1 k1
  have D1 : Z.Def K mg "is_move" s_is_move ["value"] _ _ := ⟨PySem.W.mg_of X G a1, F1, F1.binds (ps := ["value"]) fun _ _ _ _ _ _ us hl => match us, hl with | [_], _ => rfl⟩
  have F2 := fun_mk (st := s_need_move) l2 c2 k2
  have D2 : Z.Def K mg "need_move" s_need_move ["value"] _ _ := ⟨PySem.W.mg_of X G a2, F2, F2.binds (ps := ["value"]) fun _ _ _ _ _ _ us hl => match us, hl with | [_], _ => rfl⟩
  have F3 := fun_mk (st := s_need_integer) l3 c3 k3
  have D3 : Z.Def K mg "need_integer" s_need_integer ["value"] _ _ := ⟨PySem.W.mg_of X G a3, F3, F3.binds (ps := ["value"]) fun _ _ _ _ _ _ us hl => match us, hl with | [_], _ => rfl⟩
  have F4 := fun_mk (st := s_joined) l4 c4 k4
  have D4 : Z.Def K mg "joined" s_joined ["move", "second"] _ _ := ⟨PySem.W.mg_of X G a4, F4, F4.binds (ps := ["move", "second"]) fun _ _ _ _ _ _ us hl => match us, hl with | [_, _], _ => rfl⟩
  have F5 := fun_mk (st := s_repeated) l5 c5 k5
  have D5 : Z.Def K mg "repeated" s_repeated ["move", "times"] _ _ := ⟨PySem.W.mg_of X G a5, F5, F5.binds (ps := ["move", "times"]) fun _ _ _ _ _ _ us hl => match us, hl with | [_, _], _ => rfl⟩
  have F6 := fun_mk (st := s_then) l6 c6 k6
  have D6 : Z.Def K mg "then" s_then ["move", "second"] _ _ := ⟨PySem.W.mg_of X G a6, F6, F6.binds (ps := ["move", "second"]) fun _ _ _ _ _ _ us hl => match us, hl with | [_, _], _ => rfl⟩
  have F7 := fun_mk (st := s_undone) l7 c7 k7
  have D7 : Z.Def K mg "undone" s_undone ["move"] _ _ := ⟨PySem.W.mg_of X G a7, F7, F7.binds (ps := ["move"]) fun _ _ _ _ _ _ us hl => match us, hl with | [_], _ => rfl⟩
  have F8 := fun_mk (st := s_often) l8 c8 k8
  have D8 : Z.Def K mg "often" s_often ["move", "times"] _ _ := ⟨PySem.W.mg_of X G a8, F8, F8.binds (ps := ["move", "times"]) fun _ _ _ _ _ _ us hl => match us, hl with | [_, _], _ => rfl⟩
  have F9 := fun_mk (st := s_well) l9 c9 k9
  have D9 : Z.Def K mg "_law_well" s_well ["cells", "turn"] _ _ := ⟨PySem.W.mg_of X G a9, F9, F9.binds (ps := ["cells", "turn"]) fun _ _ _ _ _ _ us hl => match us, hl with | [_, _], _ => rfl⟩
  have F10 := fun_mk (st := s_dip) l10 c10 k10
  have D10 : Z.Def K mg "_law_dip" s_dip ["well", "sides"] _ _ := ⟨PySem.W.mg_of X G a10, F10, F10.binds (ps := ["well", "sides"]) fun _ _ _ _ _ _ us hl => match us, hl with | [_, _], _ => rfl⟩
  have F11 := fun_mk (st := s_number) l11 c11 k11
  have D11 : Z.Def K mg "_law_number" s_number ["well"] _ _ := ⟨PySem.W.mg_of X G a11, F11, F11.binds (ps := ["well"]) fun _ _ _ _ _ _ us hl => match us, hl with | [_], _ => rfl⟩
  have F12 := fun_mk (st := s_drawn) l12 c12 k12
  have D12 : Z.Def K mg "_law_drawn" s_drawn ["well"] _ _ := ⟨PySem.W.mg_of X G a12, F12, F12.binds (ps := ["well"]) fun _ _ _ _ _ _ us hl => match us, hl with | [_], _ => rfl⟩
  have F13 := fun_mk (st := s_join) l13 c13 k13
  have D13 : Z.Def K mg "_law_join" s_join ["one", "two"] _ _ := ⟨PySem.W.mg_of X G a13, F13, F13.binds (ps := ["one", "two"]) fun _ _ _ _ _ _ us hl => match us, hl with | [_, _], _ => rfl⟩
  have F14 := fun_mk (st := s_back) l14 c14 k14
  have D14 : Z.Def K mg "_law_back" s_back ["one"] _ _ := ⟨PySem.W.mg_of X G a14, F14, F14.binds (ps := ["one"]) fun _ _ _ _ _ _ us hl => match us, hl with | [_], _ => rfl⟩
  have F15 := fun_mk (st := s_whole) l15 c15 k15
  have D15 : Z.Def K mg "_law_whole" s_whole ["some"] _ _ := ⟨PySem.W.mg_of X G a15, F15, F15.binds (ps := ["some"]) fun _ _ _ _ _ _ us hl => match us, hl with | [_], _ => rfl⟩
  have F16 := fun_mk (st := s_right) l16 c16 k16
  have D16 : Z.Def K mg "_law_right" s_right ["well"] _ _ := ⟨PySem.W.mg_of X G a16, F16, F16.binds (ps := ["well"]) fun _ _ _ _ _ _ us hl => match us, hl with | [_], _ => rfl⟩
  have F17 := fun_mk (st := s_law) l17 c17 k17
  have D17 : Z.Def K mg "law" s_law ["cells"] _ _ := ⟨PySem.W.mg_of X G a17, F17, F17.binds (ps := ["cells"]) fun _ _ _ _ _ _ us hl => match us, hl with | [_], _ => rfl⟩
  have T : Txt K mg := ⟨⟨_, _, D0⟩, ⟨_, _, D1⟩, ⟨_, _, D2⟩, ⟨_, _, D3⟩, ⟨_, _, D4⟩, ⟨_, _, D5⟩, ⟨_, _, D6⟩, ⟨_, _, D7⟩, ⟨_, _, D8⟩, ⟨_, _, D9⟩, ⟨_, _, D10⟩, ⟨_, _, D11⟩, ⟨_, _, D12⟩, ⟨_, _, D13⟩, ⟨_, _, D14⟩, ⟨_, _, D15⟩, ⟨_, _, D16⟩, ⟨_, _, D17⟩, PySem.W.mg_none_of X G z_abs, PySem.W.mg_none_of X G z_all, PySem.W.mg_none_of X G z_divmod, PySem.W.mg_none_of X G z_int, PySem.W.mg_none_of X G z_len, PySem.W.mg_none_of X G z_max, PySem.W.mg_none_of X G z_min, PySem.W.mg_none_of X G z_range, PySem.W.mg_none_of X G z_tuple, PySem.W.mg_none_of X G z_type⟩
  exact ⟨PySem.W.fnOf "law" "law" (defArgs s_law) (defBody s_law) (defScope s_law) .none kV17 dc17 pm17 an17 cd17 ct17, fun s v => .of_eq rfl, fun base _ _ => ok_law T D17⟩
theorem walk {l : PySem.W.OpenLaw} {q : Program} {loose : List Str} {XP : (Str → Option Value) → Heap → Prop} {YP : World → Heap → Prop} {d : DefRec} {K : Params → PySem.W.Frag} (hn : l.most = some 63) (hdf : d.params.defaults = [])
    (hY : ∀ (w : World) (h : Heap), YP w h → (K w.params).In h)
    (F : ∀ (w : World) (mg : Str → Option Value) (fa : Addr) (h : Heap), (K w.params).In h → h.Ns mainGlobals mg → mg d.name = some (.ref fa) →
      ∃ fd : FuncData, (∀ (s : Shared) (u : Value), BindsTo s fd ⟨[u], []⟩ [("cells", u)]) ∧ ∀ base : Heap, (K w.params).In base → base.Ns mainGlobals mg → FnOk l.prog w (K w.params) mg base CX0 6 fa fd ["cells"] (spLaw (K w.params))) :
    PySem.W.WalkO q loose XP YP l.row.toRowW d [] (fun f vs => PySem.call f vs) :=
  L2.walk_of (n := 63) (k := 6) (x := "cells") (CX := fun _ => CX0) (sp := fun w => spLaw (K w.params)) hn (by decide) hdf ⟨rfl, by decide, by decide⟩ hY F (fun _ _ a ns hl _ hS => ⟨a, ns, rfl, hS, hl, fun _ => rfl⟩) fun _ _ _ _ _ z => z
end My
open PySem PySem.W PyProof.Rows
set_option maxRecDepth 100000 in
set_option maxHeartbeats 0 in
theorem PySem.Challenge.cw_arealots_k03_whole_moves_undone_and_done_holds : PySem.Challenge.rw_arealots_k03_whole_moves_undone_and_done.Holds := by
  w_on; o_law; k_head; (case hw => w_witness2)
  k_fill
  refine My.walk (l := PySem.Challenge.rw_arealots_k03_whole_moves_undone_and_done) rfl rfl (fun w h Y => PySem.W.kIn_of Y) ?F
  case F =>
    intro w mg fa h KX G hmg
    refine' My.all_mk KX G hmg ?a0 ?l0 ?c0 ?k0 ?a1 ?l1 ?c1 ?k1 ?a2 ?l2 ?c2 ?k2 ?a3 ?l3 ?c3 ?k3 ?a4 ?l4 ?c4 ?k4 ?a5 ?l5 ?c5 ?k5 ?a6 ?l6 ?c6 ?k6 ?a7 ?l7 ?c7 ?k7 ?a8 ?l8 ?c8 ?k8 ?a9 ?l9 ?c9 ?k9 ?a10 ?l10 ?c10 ?k10 ?a11 ?l11 ?c11 ?k11 ?a12 ?l12 ?c12 ?k12 ?a13 ?l13 ?c13 ?k13 ?a14 ?l14 ?c14 ?k14 ?a15 ?l15 ?c15 ?k15 ?a16 ?l16 ?c16 ?k16 ?a17 ?l17 ?c17 ?k17 ?z_abs ?z_all ?z_divmod ?z_int ?z_len ?z_max ?z_min ?z_range ?z_tuple ?z_type
    (case a0 => k_is)
    (case l0 => k_is)
    (case c0 => k_is)
    (case k0 => k_is)
    (case a1 => k_is)
    (case l1 => k_is)
    (case c1 => k_is)
    (case k1 => k_is)
    (case a2 => k_is)
    (case l2 => k_is)
    (case c2 => k_is)
    (case k2 => k_is)
    (case a3 => k_is)
    (case l3 => k_is)
    (case c3 => k_is)
    (case k3 => k_is)
    (case a4 => k_is)
    (case l4 => k_is)
    (case c4 => k_is)
    (case k4 => k_is)
    (case a5 => k_is)
    (case l5 => k_is)
    (case c5 => k_is)
    (case k5 => k_is)
    (case a6 => k_is)
    (case l6 => k_is)
    (case c6 => k_is)
    (case k6 => k_is)
    (case a7 => k_is)
    (case l7 => k_is)
    (case c7 => k_is)
    (case k7 => k_is)
    (case a8 => k_is)
    (case l8 => k_is)
    (case c8 => k_is)
    (case k8 => k_is)
    (case a9 => k_is)
    (case l9 => k_is)
    (case c9 => k_is)
    (case k9 => k_is)
    (case a10 => k_is)
    (case l10 => k_is)
    (case c10 => k_is)
    (case k10 => k_is)
    (case a11 => k_is)
    (case l11 => k_is)
    (case c11 => k_is)
    (case k11 => k_is)
    (case a12 => k_is)
    (case l12 => k_is)
    (case c12 => k_is)
    (case k12 => k_is)
    (case a13 => k_is)
    (case l13 => k_is)
    (case c13 => k_is)
    (case k13 => k_is)
    (case a14 => k_is)
    (case l14 => k_is)
    (case c14 => k_is)
    (case k14 => k_is)
    (case a15 => k_is)
    (case l15 => k_is)
    (case c15 => k_is)
    (case k15 => k_is)
    (case a16 => k_is)
    (case l16 => k_is)
    (case c16 => k_is)
    (case k16 => k_is)
    (case a17 => k_is)
    (case l17 => k_is)
    (case c17 => k_is)
    (case k17 => k_is)
    (case z_abs => k_is)
    (case z_all => k_is)
    (case z_divmod => k_is)
    (case z_int => k_is)
    (case z_len => k_is)
    (case z_max => k_is)
    (case z_min => k_is)
    (case z_range => k_is)
    (case z_tuple => k_is)
    (case z_type => k_is)
