import PyProof.Rows.All
import Wide.All
import OpenK.AllK
import Wide.FinOn
import HandS.Base
import HandS.Call
import HandS.List
import HandS.Comp
import HandS.Ends
import HandS.Dict
import HandS.Iter
import HandS.Text
import HandS.More
import HandS.Words
import HandS.WordsList
import HandS.Wide
import HandS.WideBits
import HandS.Style
import KE.DataEq
import HandS.Exc
import HandS.Defaults
import HandS.TupAny
import HandS.Zip
import HandS.StrMore
import HandS.WordsExc
import PyProof.InstEq
import HandS.ExcOwn
import HandS.CallSlots
import KE.GoesEnum
import KE.GoesMore
import PyProof.StrOps2
import PyProof.SliceStr2
import PyProof.Rows.StrRev
import PyProof.Rows.TupSub
import PyProof.Rows.StrTemp
import HandS.RaiseMore
import HandS.Property
import HandS.Conv
import HandS.Gcd
import PySem.Challenge.RW_arealots_k04_whole_gaps_and_what_commute
set_option Elab.async false
set_option linter.all false
set_option maxRecDepth 100000
set_option maxHeartbeats 4000000
/-! Readings by rules that hand on what is known of the heap: lists that may change, tuples that stay. -/
namespace Z
open PySem L2

abbrev LS := List (Addr × List V)
/-- everything but the objects at M stands as it stood -/
def Fr (M : List Addr) (H H' : Hp) : Prop := ∀ a o, H a = some o → a ∉ M → H' a = some o
theorem Fr.refl (M : List Addr) (H : Hp) : Fr M H H := fun _ _ h _ => h
theorem Fr.trans {M : List Addr} {H H1 H2 : Hp} (a : Fr M H H1) (b : Fr M H1 H2) : Fr M H H2 := fun x o h n => b x o (a x o h n) n
theorem Fr.mono {M N : List Addr} {H H' : Hp} (a : Fr M H H') (s : ∀ x ∈ M, x ∈ N) : Fr N H H' := fun x o h n => a x o h fun z => n (s x z)

/-- Γ: lists, each at a place of its own; Θ: tuples; H0: the heap at the def's entry; M: what the def may change of it -/
structure Sep (K : PySem.W.Frag) (H0 : Hp) (M : List Addr) (Γ Θ : LS) (H : Hp) : Prop where
  ls : ∀ p ∈ Γ, H p.1 = some (.lst p.2)
  nd : (Γ.map (·.1)).Nodup
  ts : ∀ p ∈ Θ, SqT K H p.1 p.2
  fr : Fr M H0 H
  ms : ∀ a ∈ M, ∃ xs, H a = some (.lst xs)

/-- (p, xs) taken out of Γ leaves Γ' -/
inductive Pick (p : Addr) (xs : List V) : LS → LS → Prop
  | here {Γ : LS} : Pick p xs ((p, xs) :: Γ) Γ
  | there {q : Addr × List V} {Γ Γ' : LS} : Pick p xs Γ Γ' → Pick p xs (q :: Γ) (q :: Γ')
theorem Pick.mem {p : Addr} {xs : List V} : ∀ {Γ Γ' : LS}, Pick p xs Γ Γ' → (p, xs) ∈ Γ
  | _, _, .here => List.mem_cons_self
  | _, _, .there h => List.mem_cons_of_mem _ h.mem
theorem Pick.sub {p : Addr} {xs : List V} : ∀ {Γ Γ' : LS}, Pick p xs Γ Γ' → ∀ q ∈ Γ', q ∈ Γ
  | _, _, .here => fun _ h => List.mem_cons_of_mem _ h
  | _, _, .there h => fun q hq => (List.mem_cons.mp hq).elim (fun e => e ▸ List.mem_cons_self) fun z => List.mem_cons_of_mem _ (h.sub q z)
theorem Pick.nd {p : Addr} {xs : List V} : ∀ {Γ Γ' : LS}, Pick p xs Γ Γ' → (Γ.map (·.1)).Nodup → (p :: Γ'.map (·.1)).Nodup
  | _, _, .here, h => h
  | _, _, .there (q := q) (Γ' := Γ') k, h => by
    rw [List.map_cons, List.nodup_cons] at h
    have ih := k.nd h.2
    rw [List.nodup_cons] at ih
    rw [List.map_cons, List.nodup_cons, List.nodup_cons]
    refine ⟨fun z => ?_, fun z => h.1 ?_, ih.2⟩
    · rcases List.mem_cons.mp z with e | z
      · exact h.1 (List.mem_map.mpr ⟨(p, xs), k.mem, e⟩)
      · exact ih.1 z
    · obtain ⟨r, hr, e⟩ := List.mem_map.mp z
      exact List.mem_map.mpr ⟨r, k.sub r hr, e⟩

section
variable {K : PySem.W.Frag} {H0 H H' : Hp} {M : List Addr} {Γ Γ' Θ : LS} {p w : Addr} {xs ys l : List V}

theorem sqT_fr {N : List Addr} (h : SqT K H p xs) (f : Fr N H H') (hN : ∀ a ∈ N, ∃ ys, H a = some (.lst ys)) : SqT K H' p xs := by
  have ne : ∀ {u : HO}, H p = some u → (∀ ys, u ≠ .lst ys) → p ∉ N := fun {u} e d z => by
    obtain ⟨ys, q⟩ := hN p z
    rw [e] at q
    exact d ys (Option.some.inj q)
  rcases h with (h | ⟨o, h⟩) | h
  · exact .inl (.inl (f _ _ h (ne h (by intro ys z; cases z))))
  · exact .inl (.inr ⟨o, f _ _ h (ne h (by intro ys z; cases z))⟩)
  · exact .inr h
/-- a list handed in that is not ours to change -/
theorem sqL_fr (h : SqL K H0 p xs) (f : Fr M H0 H) (hp : p ∉ M) : SqL K H p xs := by
  rcases h with (h | ⟨o, h⟩) | h
  · exact .inl (.inl (f _ _ h hp))
  · exact .inl (.inr ⟨o, f _ _ h hp⟩)
  · exact .inr h
theorem Sep.at (S : Sep K H0 M Γ Θ H) (k : Pick p xs Γ Γ') : H p = some (.lst xs) := S.ls _ k.mem
theorem Sep.sq (S : Sep K H0 M Γ Θ H) (k : Pick p xs Γ Γ') : SqL K H p xs := .inl (.inl (S.at k))
theorem Sep.tp (S : Sep K H0 M Γ Θ H) (k : (p, xs) ∈ Θ) : SqT K H p xs := S.ts _ k
theorem Sep.old (S : Sep K H0 M Γ Θ H) (h : H p = none) : H0 p = none := by
  cases e : H0 p with
  | none => rfl
  | some o =>
    by_cases hm : p ∈ M
    · obtain ⟨ys, q⟩ := S.ms p hm
      rw [h] at q
      cases q
    · have q := S.fr p o e hm
      rw [h] at q
      cases q
/-- a def's entry -/
theorem Sep.start {Γ : LS} (h : ∀ q ∈ Γ, H q.1 = some (.lst q.2)) (nd : (Γ.map (·.1)).Nodup) (ht : ∀ q ∈ Θ, SqT K H q.1 q.2) (hM : ∀ a ∈ M, ∃ ys, H a = some (.lst ys)) : Sep K H M Γ Θ H := ⟨h, nd, ht, Fr.refl _ _, hM⟩
/-- a new object: all is kept -/
theorem Sep.kept (S : Sep K H0 M Γ Θ H) (f : Fr [] H H') : Sep K H0 M Γ Θ H' :=
  ⟨fun q hq => f _ _ (S.ls q hq) (by simp), S.nd, fun q hq => sqT_fr (S.ts q hq) f (fun _ z => by simp at z), fun a o h n => f _ _ (S.fr a o h n) (by simp), fun a ha => by
    obtain ⟨ys, q⟩ := S.ms a ha
    exact ⟨ys, f _ _ q (by simp)⟩⟩
theorem Fr.new {o : HO} (h : H p = none) : Fr [] H (upd H p o) := fun a u e _ => by
  rw [upd_ne (ne_of_none e h)]
  exact e
theorem Sep.addT (S : Sep K H0 M Γ Θ H) (h : SqT K H p xs) : Sep K H0 M Γ ((p, xs) :: Θ) H :=
  ⟨S.ls, S.nd, fun q hq => (List.mem_cons.mp hq).elim (fun e => e ▸ h) (S.ts q), S.fr, S.ms⟩
theorem Sep.addL (S : Sep K H0 M Γ Θ H) (h : H p = some (.lst xs)) (hn : p ∉ Γ.map (·.1)) : Sep K H0 M ((p, xs) :: Γ) Θ H :=
  ⟨fun q hq => (List.mem_cons.mp hq).elim (fun e => e ▸ h) (S.ls q), List.nodup_cons.mpr ⟨hn, S.nd⟩, S.ts, S.fr, S.ms⟩
theorem Sep.notin (S : Sep K H0 M Γ Θ H) (h : H p = none) : p ∉ Γ.map (·.1) := fun z => by
  obtain ⟨q, hq, e⟩ := List.mem_map.mp z
  have h1 := S.ls q hq
  rw [e, h] at h1
  cases h1
theorem Sep.newT (S : Sep K H0 M Γ Θ H) (h : H p = none) : Sep K H0 M Γ ((p, xs) :: Θ) (upd H p (.tup xs)) := (S.kept (Fr.new h)).addT (.inl (.inl upd_same))
theorem Sep.newL (S : Sep K H0 M Γ Θ H) (h : H p = none) : Sep K H0 M ((p, xs) :: Γ) Θ (upd H p (.lst xs)) := (S.kept (Fr.new h)).addL upd_same (S.notin h)
/-- the list at w has changed, all else is kept -/
theorem Sep.mut (S : Sep K H0 M Γ Θ H) (k : Pick w l Γ Γ') (hw : w ∈ M ∨ H0 w = none) (f : Fr [w] H H') (h : H' w = some (.lst ys)) : Sep K H0 M ((w, ys) :: Γ') Θ H' := by
  have nd := k.nd S.nd
  have hl := S.at k
  refine ⟨fun q hq => ?_, nd, fun q hq => sqT_fr (S.ts q hq) f (fun a ha => ⟨l, by rw [List.mem_singleton.mp ha]; exact hl⟩), fun a o e n => ?_, fun a ha => ?_⟩
  · rcases List.mem_cons.mp hq with e | hq
    · rw [e]
      exact h
    · refine f _ _ (S.ls q (k.sub q hq)) fun z => ?_
      have z := List.mem_singleton.mp z
      rw [List.nodup_cons] at nd
      exact nd.1 (List.mem_map.mpr ⟨q, hq, z⟩)
  · refine f _ _ (S.fr a o e n) fun z => ?_
    have z := List.mem_singleton.mp z
    subst z
    rcases hw with hw | hw
    · exact n hw
    · rw [hw] at e
      cases e
  · by_cases e : a = w
    · exact ⟨ys, by rw [e]; exact h⟩
    · obtain ⟨zs, q⟩ := S.ms a ha
      exact ⟨zs, f _ _ q fun z => e (List.mem_singleton.mp z)⟩
theorem Fr.upd {o : HO} : Fr [p] H (upd H p o) := fun a u e n => by
  rw [upd_ne fun z => n (List.mem_singleton.mpr z)]
  exact e
theorem Sep.set (S : Sep K H0 M Γ Θ H) (k : Pick w l Γ Γ') (hw : w ∈ M ∨ H0 w = none) : Sep K H0 M ((w, ys) :: Γ') Θ (upd H w (.lst ys)) := S.mut k hw Fr.upd upd_same
theorem Sep.dropT {q : Addr × List V} (S : Sep K H0 M Γ (q :: Θ) H) : Sep K H0 M Γ Θ H := ⟨S.ls, S.nd, fun r hr => S.ts r (List.mem_cons_of_mem _ hr), S.fr, S.ms⟩
theorem Sep.subT {Θ' : LS} (S : Sep K H0 M Γ Θ H) (h : ∀ q ∈ Θ', q ∈ Θ) : Sep K H0 M Γ Θ' H := ⟨S.ls, S.nd, fun r hr => S.ts r (h r hr), S.fr, S.ms⟩
/-- seen from another start: what holds now is the start -/
theorem Sep.here (S : Sep K H0 M Γ Θ H) {N : List Addr} (hN : ∀ a ∈ N, ∃ xs, H a = some (.lst xs)) : Sep K H N Γ Θ H := ⟨S.ls, S.nd, S.ts, Fr.refl _ _, hN⟩
/-- one list, and what of the tuples is wanted -/
theorem Sep.only {Θ' : LS} (S : Sep K H0 M Γ Θ H) (k : Pick p xs Γ Γ') (h : ∀ q ∈ Θ', q ∈ Θ) : Sep K H0 M [(p, xs)] Θ' H :=
  ⟨fun q hq => by rw [List.mem_singleton.mp hq]; exact S.at k, List.nodup_cons.mpr ⟨List.not_mem_nil, List.nodup_nil⟩, fun r hr => S.ts r (h r hr), S.fr, S.ms⟩
theorem Sep.apart {q : Addr} {zs : List V} (S : Sep K H0 M ((q, zs) :: Γ) Θ H) (k : Pick p xs Γ Γ') : p ≠ q := fun e => by
  have n := S.nd
  rw [List.map_cons, List.nodup_cons] at n
  exact n.1 (List.mem_map.mpr ⟨(p, xs), k.mem, e⟩)
theorem Sep.only1 {q : Addr × List V} (S : Sep K H0 M Γ Θ H) (k : Pick p xs Γ Γ') (h : q ∈ Θ) : Sep K H0 M [(p, xs)] [q] H := S.only k fun r hr => by rw [List.mem_singleton.mp hr]; exact h
theorem Sep.only2 {q r : Addr × List V} (S : Sep K H0 M Γ Θ H) (k : Pick p xs Γ Γ') (h : q ∈ Θ) (h' : r ∈ Θ) : Sep K H0 M [(p, xs)] [q, r] H := S.only k fun u hu => (List.mem_cons.mp hu).elim (fun e => by rw [e]; exact h) fun z => by rw [List.mem_singleton.mp z]; exact h'
theorem Sep.subL {Γ2 : LS} (S : Sep K H0 M Γ Θ H) (h : Γ2.Sublist Γ) : Sep K H0 M Γ2 Θ H :=
  ⟨fun q hq => S.ls q (h.subset hq), (h.map _).nodup S.nd, S.ts, S.fr, S.ms⟩
theorem Sep.dp {ds : List PyData} (S : Sep K H0 M Γ Θ H) (k : (p, xs) ∈ Θ) (h : DpAll K H xs ds) : Dp K H (.ref p) (.tuple ds) := .tup (S.tp k) h
theorem Sep.dpL {ds : List PyData} (S : Sep K H0 M Γ Θ H) (k : Pick p xs Γ Γ') (h : DpAll K H xs ds) : Dp K H (.ref p) (.list ds) := .lst (S.sq k) h
end

/-! ### readings -/
def br (b : Bool) (A B : Prop) : Prop := if b = true then A else B
theorem brT {A B : Prop} (h : A) : br true A B := by
  unfold br
  rw [if_pos rfl]
  exact h
theorem brF {A B : Prop} (h : B) : br false A B := by
  unfold br
  rw [if_neg Bool.false_ne_true]
  exact h
theorem br2 {b : Bool} {A B : Prop} (h1 : b = true → A) (h2 : b = false → B) : br b A B := by
  cases b with
  | true => exact brT (h1 rfl)
  | false => exact brF (h2 rfl)
theorem brD {c : Prop} [Decidable c] {A B : Prop} (h1 : c → A) (h2 : ¬ c → B) : br (decide c) A B := br2 (fun e => h1 (of_decide_eq_true e)) fun e => h2 (of_decide_eq_false e)
theorem brN {c : Prop} [Decidable c] {A B : Prop} (h1 : ¬ c → A) (h2 : c → B) : br (!decide c) A B := by
  by_cases h : c
  · rw [decide_eq_true h]
    exact brF (h2 h)
  · rw [decide_eq_false h]
    exact brT (h1 h)
theorem brE {b c : Bool} {A B : Prop} (e : b = c) (h : br c A B) : br b A B := e ▸ h
theorem brDT {c : Prop} [Decidable c] {A B : Prop} (h : c) (k : A) : br (decide c) A B := by
  rw [decide_eq_true h]
  exact brT k
theorem brDF {c : Prop} [Decidable c] {A B : Prop} (h : ¬ c) (k : B) : br (decide c) A B := by
  rw [decide_eq_false h]
  exact brF k
theorem brNT {c : Prop} [Decidable c] {A B : Prop} (h : ¬ c) (k : A) : br (!decide c) A B := by
  rw [decide_eq_false h]
  exact brT k
theorem brNF {c : Prop} [Decidable c] {A B : Prop} (h : c) (k : B) : br (!decide c) A B := by
  rw [decide_eq_true h]
  exact brF k

theorem brB {b : Bool} {A B : Prop} (h : b = true) (k : A) : br b A B := by
  rw [h]
  exact brT k
theorem brBF {b : Bool} {A B : Prop} (h : b = false) (k : B) : br b A B := by
  rw [h]
  exact brF k
theorem brNB {b : Bool} {A B : Prop} (h : b = true) (k : B) : br (!b) A B := by
  rw [h]
  exact brF k
theorem brNBT {b : Bool} {A B : Prop} (h : b = false) (k : A) : br (!b) A B := by
  rw [h]
  exact brT k
/-- the value is a bool -/
def kB (Q : Bool → Hp → Prop) : VK := fun x H => ∃ k, x = .bl k ∧ Q k H
theorem r_kB {Q : Bool → Hp → Prop} {b : Bool} {H : Hp} (k : Q b H) : kB Q (.bl b) H := ⟨b, rfl, k⟩
def nwT (xs : List V) (H : Hp) (Q : VK) : Prop := xs.length ≤ sizeLine ∧ ∀ p, H p = none → Q (.ref p) (upd H p (.tup xs))
def nwL (xs : List V) (H : Hp) (Q : VK) : Prop := xs.length ≤ sizeLine ∧ ∀ p, H p = none → Q (.ref p) (upd H p (.lst xs))

section
variable {K : PySem.W.Frag} {σ : St} {H : Hp} {Q : VK} {ta tb tc te : TE} {t u : TT} {tr : TA} {v x y : V} {i : Nat} {D : Ends} {ts tw tz : TS} {A B : Prop}
theorem r_var (h : σ[i]? = some (some v)) (k : Q v H) : tVar i σ H Q := ⟨v, h, k⟩
theorem r_c (k : Q v H) : tC v σ H Q := k
theorem r_op {r : R2} (k : ta σ H fun x H1 => tb σ H1 fun y H2 => r x y H2 Q) : tOp r ta tb σ H Q := k
theorem r_un {r : V → Hp → VK → Prop} (k : ta σ H fun x H1 => r x H1 Q) : tUn r ta σ H Q := k
theorem r_I0 {g : Int → Int → V} {i j : Int} (k : Q (g i j) H) : rI0 g (.int i) (.int j) H Q := ⟨i, j, rfl, rfl, k⟩
theorem r_I {C : Int → Int → Prop} {g : Int → Int → V} {i j : Int} (c : C i j) (k : Q (g i j) H) : rI C g (.int i) (.int j) H Q := ⟨i, j, rfl, rfl, c, k⟩
theorem r_U {g : Int → V} {i : Int} (k : Q (g i) H) : rU g (.int i) H Q := ⟨i, rfl, k⟩
theorem r_eq (h : scal x y = true) (k : Q (.bl (decide (x = y))) H) : rEq x y H Q := ⟨h, k⟩
theorem r_ne (h : scal x y = true) (k : Q (.bl (!decide (x = y))) H) : rNe x y H Q := ⟨h, k⟩
theorem r_eqI {i j : Int} (k : Q (.bl (decide (i = j))) H) : rEq (.int i) (.int j) H Q := ⟨rfl, by
  have e : decide (V.int i = V.int j) = decide (i = j) := by rw [dec_int]; exact (Bool.beq_eq_decide_eq _ _)
  rw [e]
  exact k⟩
theorem r_neI {i j : Int} (k : Q (.bl (!decide (i = j))) H) : rNe (.int i) (.int j) H Q := ⟨rfl, by
  have e : decide (V.int i = V.int j) = decide (i = j) := by rw [dec_int]; exact (Bool.beq_eq_decide_eq _ _)
  rw [e]
  exact k⟩
theorem r_neS {a b : Str} (k : Q (.bl (!decide (a = b))) H) : rNe (.str a) (.str b) H Q := ⟨rfl, by
  have e : decide (V.str a = V.str b) = decide (a = b) := by rw [dec_str]; exact (Bool.beq_eq_decide_eq _ _)
  rw [e]
  exact k⟩
theorem r_eqS {a b : Str} (k : Q (.bl (decide (a = b))) H) : rEq (.str a) (.str b) H Q := ⟨rfl, by
  have e : decide (V.str a = V.str b) = decide (a = b) := by rw [dec_str]; exact (Bool.beq_eq_decide_eq _ _)
  rw [e]
  exact k⟩
theorem r_isN (k : ta σ H fun x H1 => Q (.bl (decide (x = .non))) H1) : tIsN ta σ H Q := k
theorem r_notN (k : ta σ H fun x H1 => Q (.bl (!decide (x = .non))) H1) : tNotN ta σ H Q := k
theorem br_ref {a : Addr} {A B : Prop} (k : A) : br (!decide (V.ref a = V.non)) A B := brNT (fun h => nomatch h) k
theorem br_refB {a : Addr} {A B : Prop} (k : B) : br (decide (V.ref a = V.non)) A B := brDF (fun h => nomatch h) k
theorem r_test (k : te σ H (kB fun b H1 => Qb b H1)) : tTest te σ H Qb := k
theorem r_tB (k : te σ H (kB fun b H1 => Qb b H1)) : tB te σ H Qb := k
theorem r_and {Qb : Bool → Hp → Prop} (k : t σ H fun c H1 => br c (u σ H1 Qb) (Qb false H1)) : tAnd t u σ H Qb := k
theorem r_or {Qb : Bool → Hp → Prop} (k : t σ H fun c H1 => br c (Qb true H1) (u σ H1 Qb)) : tOr t u σ H Qb := k
theorem r_not {Qb : Bool → Hp → Prop} (k : t σ H fun c H1 => Qb (!c) H1) : tNot t σ H Qb := k
theorem r_andV (k : ta σ H (kB fun c H1 => br c (tb σ H1 Q) (Q (.bl false) H1))) : tAndV ta tb σ H Q := k
theorem r_orV (k : ta σ H (kB fun c H1 => br c (Q (.bl true) H1) (tb σ H1 Q))) : tOrV ta tb σ H Q := k
theorem r_notV (k : ta σ H (kB fun c H1 => Q (.bl (!c)) H1)) : tNotV ta σ H Q := k
theorem r_if (k : t σ H fun c H1 => br c (ta σ H1 Q) (tb σ H1 Q)) : tIf t ta tb σ H Q := k
theorem r_nil {Qs : List V → Hp → Prop} (k : Qs [] H) : tNil σ H Qs := k
theorem r_cons {Qs : List V → Hp → Prop} (k : ta σ H fun x H1 => tr σ H1 fun xs H2 => Qs (x :: xs) H2) : tCons ta tr σ H Qs := k
theorem r_cb {r : List V → Hp → VK → Prop} (k : tr σ H fun vs H1 => r vs H1 Q) : tCB r tr σ H Q := k
theorem r_call {sp : Sp} {E : XK} (k : tr σ H fun vs H1 => sp vs H1 Q E) : tCall sp [] E tr σ H Q := by
  have e : (fun (vs : List V) (H1 : Hp) => sp (vs ++ []) H1 Q E) = fun vs H1 => sp vs H1 Q E := by
    funext vs H1
    rw [List.append_nil]
  show tr σ H fun vs H1 => sp (vs ++ []) H1 Q E
  rw [e]
  exact k
theorem r_tup (k : tr σ H fun xs H1 => nwT xs H1 Q) : tTup tr σ H Q := k
theorem r_lst (k : tr σ H fun xs H1 => nwL xs H1 Q) : tLst tr σ H Q := k
theorem r_chain {r r' : R2} (k : ta σ H fun x H1 => tb σ H1 fun y H2 => r x y H2 (kB fun c H3 => br c (tc σ H3 fun z H4 => r' y z H4 Q) (Q (.bl false) H3))) : tChain r r' ta tb tc σ H Q := k
/-! statements -/
theorem r_seq (k : ts { D with nx := tw D } σ H) : tSeq ts tw D σ H := k
theorem r_seqSet (k : te σ H fun x H1 => tw D (σ.set i (some x)) H1) : tSeq (tAsg te (gName i)) tw D σ H := k
theorem r_seqDrop (k : te σ H fun _ H1 => tw D σ H1) : tSeq (tDrop te) tw D σ H := k
theorem r_asg {g : TG} (k : te σ H fun x H1 => g x σ H1 D.nx) : tAsg te g D σ H := k
theorem r_set (k : te σ H fun x H1 => D.nx (σ.set i (some x)) H1) : tAsg te (gName i) D σ H := k
theorem r_drop (k : te σ H fun _ H1 => D.nx σ H1) : tDrop te D σ H := k
theorem r_ret (k : te σ H D.rt) : tRet te D σ H := k
theorem r_retN (k : D.rt .non H) : tRetN D σ H := k
theorem r_ifS (k : t σ H fun c H1 => br c (ts D σ H1) (tw D σ H1)) : tIfS t ts tw D σ H := k
theorem r_next (k : D.nx σ H) : tNext D σ H := k
theorem r_brk (k : D.bk σ H) : tBreak D σ H := k
theorem r_cnt (k : D.ct σ H) : tCont D σ H := k
theorem r_nx {X b c : St → Hp → Prop} {R : VK} (k : X σ H) : Ends.nx (Ends.mk X R b c) σ H := k
theorem r_rt {X b c : St → Hp → Prop} {R : VK} (k : R v H) : Ends.rt (Ends.mk X R b c) v H := k
theorem r_bk {X b c : St → Hp → Prop} {R : VK} (k : b σ H) : Ends.bk (Ends.mk X R b c) σ H := k
theorem r_ct {X b c : St → Hp → Prop} {R : VK} (k : c σ H) : Ends.ct (Ends.mk X R b c) σ H := k
theorem r_gName {Qs : St → Hp → Prop} (k : Qs (σ.set i (some v)) H) : gName i v σ H Qs := k
theorem r_gSub {r : TSet} {Qs : St → Hp → Prop} (k : ta σ H fun o H1 => tb σ H1 fun j H2 => r o j v H2 fun H3 => Qs σ H3) : gSub ta tb r v σ H Qs := k
theorem r_gCons {g : TG} {gs : TGs} {vs : List V} {Qs : St → Hp → Prop} (k : g v σ H fun σ' H' => gs vs σ' H' Qs) : gCons g gs (v :: vs) σ H Qs := ⟨v, vs, rfl, k⟩
theorem r_gNil {Qs : St → Hp → Prop} (k : Qs σ H) : gNil [] σ H Qs := ⟨rfl, k⟩
theorem r_par {i j : Nat} (k : tr σ H fun vs H1 => ∃ v w, vs = [v, w] ∧ D.nx ((σ.set i (some v)).set j (some w)) H1) : tPar i j tr D σ H := k
theorem r_par2 {i j : Nat} (k : ta σ H fun v H1 => tb σ H1 fun w H2 => D.nx ((σ.set i (some v)).set j (some w)) H2) : tPar i j (tCons ta (tCons tb tNil)) D σ H := by
  have e : (fun (v : V) (H1 : Hp) => tb σ H1 fun w H2 => D.nx ((σ.set i (some v)).set j (some w)) H2) = fun v H1 => tb σ H1 fun w H2 => ∃ v' w', ([v, w] : List V) = [v', w'] ∧ D.nx ((σ.set i (some v')).set j (some w')) H2 := by
    funext v H1
    congr 1
    funext w H2
    refine propext ⟨fun h => ⟨v, w, rfl, h⟩, fun ⟨v', w', e, h⟩ => ?_⟩
    cases e
    exact h
  rw [e] at k
  exact k
def tPar3 (i j l : Nat) (ta tb tc : TE) : TS := fun D σ H => ta σ H fun u H1 => tb σ H1 fun v H2 => tc σ H2 fun w H3 => D.nx (((σ.set i (some u)).set j (some v)).set l (some w)) H3
theorem r_par3 {i j l : Nat} (k : ta σ H fun u H1 => tb σ H1 fun v H2 => tc σ H2 fun w H3 => D.nx (((σ.set i (some u)).set j (some v)).set l (some w)) H3) : tPar3 i j l ta tb tc D σ H := k
variable {H0 : Hp} {M : List Addr} {Γ Γ' Θ : LS} {p : Addr} {xs : List V}
theorem r_nwT (S : Sep K H0 M Γ Θ H) (hl : xs.length ≤ 100000) (k : ∀ p H1, H p = none → H0 p = none → Sep K H0 M Γ ((p, xs) :: Θ) H1 → Q (.ref p) H1) : nwT xs H Q :=
  ⟨Nat.le_trans hl (by decide), fun p hp => k p _ hp (S.old hp) (S.newT hp)⟩
theorem r_nwL (S : Sep K H0 M Γ Θ H) (hl : xs.length ≤ 100000) (k : ∀ p H1, H p = none → H0 p = none → Sep K H0 M ((p, xs) :: Γ) Θ H1 → Q (.ref p) H1) : nwL xs H Q :=
  ⟨Nat.le_trans hl (by decide), fun p hp => k p _ hp (S.old hp) (S.newL hp)⟩
theorem r_ixT {i : Int} (S : Sep K H0 M Γ Θ H) (hm : (p, xs) ∈ Θ) (hi : atI xs i = some v) (k : Q v H) : rIxT K (.ref p) (.int i) H Q := ⟨p, xs, i, v, rfl, rfl, S.tp hm, hi, k⟩
theorem r_ixL {i : Int} (S : Sep K H0 M Γ Θ H) (hm : Pick p xs Γ Γ') (hi : atI xs i = some v) (k : Q v H) : rIxL K (.ref p) (.int i) H Q := ⟨p, xs, i, v, rfl, rfl, S.sq hm, hi, k⟩
theorem r_setL {i : Int} {j : Nat} {Qs : Hp → Prop} (S : Sep K H0 M Γ Θ H) (hm : Pick p xs Γ Γ') (hw : p ∈ M ∨ H0 p = none) (hj : ixN xs.length i = some j) (k : ∀ H1, Sep K H0 M ((p, xs.set j v) :: Γ') Θ H1 → Qs H1) : rSetL (.ref p) (.int i) v H Qs :=
  ⟨p, xs, i, j, rfl, rfl, S.at hm, hj, k _ (S.set hm hw)⟩
theorem r_gTup {n : Nat} {gs : TGs} {Qs : St → Hp → Prop} (S : Sep K H0 M Γ Θ H) (hm : (p, xs) ∈ Θ) (hn : xs.length = n) (k : gs xs σ H Qs) : gTup K n gs (.ref p) σ H Qs := ⟨p, xs, rfl, S.tp hm, hn, k⟩
theorem r_eqD {d e : PyData} (hx : Dp K H x d) (hy : Dp K H y e) (h1 : SeqAt.shaped d = true) (h2 : SeqAt.shaped e = true) (k : Q (.bl (PyData.eqv d e)) H) : rEqD K x y H Q := ⟨d, e, hx, hy, h1, h2, k⟩
theorem r_neD {d e : PyData} (hx : Dp K H x d) (hy : Dp K H y e) (h1 : SeqAt.shaped d = true) (h2 : SeqAt.shaped e = true) (k : Q (.bl (!PyData.eqv d e)) H) : rNeD K x y H Q := ⟨d, e, hx, hy, h1, h2, k⟩
theorem r_all (S : Sep K H0 M Γ Θ H) {bs : List Bool} (hm : Pick p (bs.map V.bl) Γ Γ') (k : Q (.bl (bs.all id)) H) : rAll K [.ref p] H Q := ⟨p, bs, rfl, S.sq hm, k⟩
theorem r_sum (S : Sep K H0 M Γ Θ H) {ns : List Int} (hm : Pick p (ns.map V.int) Γ Γ') (k : Q (.int ns.sum) H) : rSum K [.ref p] H Q := ⟨p, ns, rfl, S.sq hm, k⟩
end

/-! ### == of types -/
def rEqTy : R2 := fun x y H Q => ∃ a b, x = .ty a ∧ y = .ty b ∧ (∀ s : Shared, s.TypeIs (.type a) "type") ∧ (∀ s : Shared, s.TypeIs (.type b) "type") ∧ Q (.bl (decide (a = b))) H
theorem op_eqTy {X : Cx} : OpR X (compareOp .Eq) rEqTy := by
  intro pins s σ H x y v u Q I rx ry h
  obtain ⟨a, b, rfl, rfl, ha, hb, q⟩ := h
  cases (show v = Value.type a from rx)
  cases (show u = Value.type b from ry)
  by_cases e : a = b
  · subst e
    exact PySem.TypeEq.eq_type_same ha ⟨.bl true, H, I, rfl, by rw [decide_eq_true (p := a = a) rfl] at q; exact q⟩
  · exact PySem.TypeEq.eq_type_other ha hb ((ty_beq a b).trans (decide_eq_false e)) ⟨.bl false, H, I, rfl, by rw [decide_eq_false e] at q; exact q⟩
def rNeTy : R2 := fun x y H Q => ∃ a b, x = .ty a ∧ y = .ty b ∧ (∀ s : Shared, s.TypeIs (.type a) "type") ∧ (∀ s : Shared, s.TypeIs (.type b) "type") ∧ Q (.bl (!decide (a = b))) H
theorem r_neTy {a b : String} {H : Hp} {Q : VK} (ha : ∀ s : Shared, s.TypeIs (.type a) "type") (hb : ∀ s : Shared, s.TypeIs (.type b) "type") (k : Q (.bl (!decide (a = b))) H) : rNeTy (.ty a) (.ty b) H Q := ⟨a, b, rfl, rfl, ha, hb, k⟩
theorem tyI : ∀ s : Shared, s.TypeIs (.type "int") "type" := PySem.TypeEq.meta_int
theorem tyS : ∀ s : Shared, s.TypeIs (.type "str") "type" := PySem.TypeEq.meta_str
theorem tyT : ∀ s : Shared, s.TypeIs (.type "tuple") "type" := PySem.TypeEq.meta_tuple
theorem r_eqTy {a b : String} {H : Hp} {Q : VK} (ha : ∀ s : Shared, s.TypeIs (.type a) "type") (hb : ∀ s : Shared, s.TypeIs (.type b) "type") (k : Q (.bl (decide (a = b))) H) : rEqTy (.ty a) (.ty b) H Q := ⟨a, b, rfl, rfl, ha, hb, k⟩

/-! ### f(k = v, ..), all by name -/
section
variable {X : Cx} {CX : CXT} {k : Nat} {f : Addr} {fd : FuncData} {ps ks : List Str} {sp : Sp} {E : XK} {x : Str} {p pos : Pos} {kws : List Keyword} {tk : TA} {g : List Value → List Value → List Value} {gV : List V → List V → List V}
theorem pe_callK0 (F : FnOk X.prog X.w X.K X.mg X.base CX k f fd ps sp) (hr : Room k X.A) (hg : Gl X x) (hm : X.mg x = some (.ref f)) (hk : PySem.W.keepIn X.K (.ref f) = true) (hb : KBinds X.K fd ps ks g gV) (hx : Passes CX X E)
    (hkw : PK X kws tk) (hall : (backToKw pos (keywordEach kws X.env)).all (·.1.isSome) = true := by rfl) (hks : (backToKw pos (keywordEach kws X.env)).filterMap (·.1) = ks := by rfl)
    (hdb : (x == ("__debug__" : Str)) = false := by decide)
    (hpl : ((backTo pos (starEach [] X.env)).any (·.1) || (backToKw pos (keywordEach kws X.env)).any (·.1.isNone)) = false := by rfl) :
    PE X (.Call (.Name x p) [] kws pos) (tCallK sp gV E tNil tk) := by
  refine ⟨fun pins s σ H Q I h => ?_⟩
  refine wpAny_Call_Name_kw (ld_glob I hg hm ?_ hdb)
  refine PySem.W.callWith_KW0 (h₀ := X.base) I.ok.mod.kin hk hall ?_ hpl
  refine thn (hkw.run pos pins s σ H _ I h) fun ws s2 ⟨zs, H2, I2, rz, q2⟩ => ⟨I2.kIn, ?_⟩
  rw [hks]
  exact run_fnk (us := []) (vs := []) F hr hb hx I2 .nil rz q2
theorem r_callK {σ : St} {H : Hp} {Q : VK} {tr : TA} (h : tr σ H fun vs H1 => tk σ H1 fun zs H2 => sp (gV vs zs) H2 Q E) : tCallK sp gV E tr tk σ H Q := h
/-- the keywords' values in the parameters' order: one, two, three of them -/
def k1 {α : Type} (us ws : List α) : List α := match us, ws with | [], [a] => [a] | _, _ => []
def k12 {α : Type} (us ws : List α) : List α := match us, ws with | [], [a, b] => [a, b] | _, _ => []
def k21 {α : Type} (us ws : List α) : List α := match us, ws with | [], [a, b] => [b, a] | _, _ => []
theorem k1_rel {vs : List V} {us : List Value} {zs : List V} {ws : List Value} (r : Vals vs us) (q : Vals zs ws) : Vals (k1 vs zs) (k1 us ws) := by
  cases r with
  | nil =>
    cases q with
    | nil => exact .nil
    | cons a t => cases t with
      | nil => exact .cons a .nil
      | cons b t => exact .nil
  | cons a t => exact .nil
theorem k12_rel {vs : List V} {us : List Value} {zs : List V} {ws : List Value} (r : Vals vs us) (q : Vals zs ws) : Vals (k12 vs zs) (k12 us ws) := by
  cases r with
  | nil =>
    cases q with
    | nil => exact .nil
    | cons a t => cases t with
      | nil => exact .nil
      | cons b t => cases t with
        | nil => exact .cons a (.cons b .nil)
        | cons c t => exact .nil
  | cons a t => exact .nil
theorem k21_rel {vs : List V} {us : List Value} {zs : List V} {ws : List Value} (r : Vals vs us) (q : Vals zs ws) : Vals (k21 vs zs) (k21 us ws) := by
  cases r with
  | nil =>
    cases q with
    | nil => exact .nil
    | cons a t => cases t with
      | nil => exact .nil
      | cons b t => cases t with
        | nil => exact .cons b (.cons a .nil)
        | cons c t => exact .nil
  | cons a t => exact .nil
end

/-! ### sizes -/
def bd (n : Nat) (x : Int) : Prop := x.natAbs < 2 ^ n
theorem bd_le {n m : Nat} {x : Int} (h : bd n x) (l : n ≤ m) : bd m x := Nat.lt_of_lt_of_le h (Nat.pow_le_pow_right (by decide) l)
theorem bd_add {n : Nat} {x y : Int} (hx : bd n x) (hy : bd n y) : bd (n + 1) (x + y) := by
  unfold bd at *
  have e : 2 ^ (n + 1) = 2 ^ n + 2 ^ n := by rw [Nat.pow_succ]; omega
  rw [e]
  have := Int.natAbs_add_le x y
  omega
theorem bd_neg {n : Nat} {x : Int} (hx : bd n x) : bd n (-x) := by
  unfold bd at *
  rw [Int.natAbs_neg]
  exact hx
theorem bd_sub {n : Nat} {x y : Int} (hx : bd n x) (hy : bd n y) : bd (n + 1) (x - y) := by
  rw [Int.sub_eq_add_neg]
  exact bd_add hx (bd_neg hy)
theorem bd_mul {n : Nat} {x y : Int} (hx : bd (n / 2) x) (hy : bd (n / 2) y) : bd n (x * y) := by
  unfold bd at *
  rw [Int.natAbs_mul]
  have h0 : 0 < 2 ^ (n / 2) := Nat.two_pow_pos _
  have h1 : x.natAbs * y.natAbs < 2 ^ (n / 2) * 2 ^ (n / 2) := Nat.mul_lt_mul_of_lt_of_le hx (Nat.le_of_lt hy) h0
  rw [← Nat.pow_add] at h1
  exact Nat.lt_of_lt_of_le h1 (Nat.pow_le_pow_right (by decide) (by omega))
theorem bd_mulN {a b : Nat} {x y : Int} (hx : bd a x) (hy : bd b y) : bd (a + b) (x * y) := by
  unfold bd at *
  rw [Int.natAbs_mul, Nat.pow_add]
  exact Nat.mul_lt_mul_of_lt_of_le hx (Nat.le_of_lt hy) (Nat.two_pow_pos _)
theorem bd_two {n : Nat} {x : Int} (hx : bd n x) : bd (n + 1) (2 * x) := by
  have e : 2 * x = x + x := by omega
  rw [e]
  exact bd_add hx hx
theorem bd_div {n : Nat} {x y : Int} (hx : bd n x) : bd n (x / y) := Nat.lt_of_le_of_lt (Int.natAbs_ediv_le_natAbs x y) hx
theorem bd_of {n : Nat} {x : Int} (h1 : -(2 ^ n) < x) (h2 : x < 2 ^ n) : bd n x := by
  unfold bd
  have e : ((2 ^ n : Nat) : Int) = (2 : Int) ^ n := by simp
  omega
theorem mulW {n m : Nat} {x y : Int} (hx : bd n x) (hy : bd m y) (h : n + m + 2 ≤ 1000000) : CMulW x y :=
  wide_mul (a := n + 1) (b := m + 1) (bd_le hx (Nat.le_succ n)) (bd_le hy (Nat.le_succ m)) (Nat.succ_pos _) (Nat.succ_pos _) (by omega)

theorem bd_100 {x : Int} (h1 : -1267650600228229401496703205376 < x) (h2 : x < 1267650600228229401496703205376) : bd 100 x := by
  unfold bd
  have e : (2 : Nat) ^ 100 = 1267650600228229401496703205376 := by decide +kernel
  rw [e]
  omega
theorem cdivW {n : Nat} {i j : Int} (h : 0 < j) (hb : bd n j) (h0 : 0 < n) (h9 : n ≤ 9000) : CDivW i j := wide_div h hb h0 h9
theorem bd_pow6 {f : Int} (h0 : 0 ≤ f) (n : Nat) (hn : n ≤ 4) (h : f < 1000000 ^ (n + 1)) : bd 100 f := by
  have c : n = 0 ∨ n = 1 ∨ n = 2 ∨ n = 3 ∨ n = 4 := by omega
  rcases c with rfl | rfl | rfl | rfl | rfl <;> simp only [Nat.zero_add, Nat.reduceAdd, Int.reducePow] at h <;> exact bd_100 (by omega) (by omega)
theorem cmulL {i j : Int} (h1 : -18446744073709551616 < i) (h2 : i < 18446744073709551616) : CMul i j := .inl ⟨h1, h2⟩
theorem cmulR {i j : Int} (h1 : -18446744073709551616 < j) (h2 : j < 18446744073709551616) : CMul i j := .inr ⟨h1, h2⟩
theorem cdiv {i j : Int} (h1 : 0 < j) (h2 : j < 1073741824) : CDiv i j := ⟨h1, h2⟩

/-! ### built-ins by names -/
section
variable {X : Cx}
def rInt : List V → Hp → VK → Prop := fun xs H Q => (∃ i, xs = [.int i] ∧ Q (.int i) H) ∨ ∃ k, xs = [.bl k] ∧ Q (.int (if k then 1 else 0)) H
theorem z_int : CallR X (.type "int") rInt := call_int1
def rAbs : List V → Hp → VK → Prop := fun xs H Q => ∃ i, xs = [.int i] ∧ Q (.int (if i < 0 then -i else i)) H
theorem z_abs : CallR X (.builtin "abs") rAbs := call_abs
def rMax2 : List V → Hp → VK → Prop := fun xs H Q => ∃ i j, xs = [.int i, .int j] ∧ Q (.int (if j > i then j else i)) H
theorem z_max2 (hc : X.calm = true) : CallR X (.builtin "max") rMax2 := call_max2 hc
def rMin2 : List V → Hp → VK → Prop := fun xs H Q => ∃ i j, xs = [.int i, .int j] ∧ Q (.int (if j < i then j else i)) H
theorem z_min2 (hc : X.calm = true) : CallR X (.builtin "min") rMin2 := call_min2 hc
def rLen (K : PySem.W.Frag) : List V → Hp → VK → Prop := fun xs H Q => ∃ p ys, xs = [.ref p] ∧ (SqL K H p ys ∨ SqT K H p ys) ∧ Q (.int ys.length) H
theorem z_len : CallR X (.builtin "len") (rLen X.K) := call_len_seq
def rLenS : List V → Hp → VK → Prop := fun xs H Q => ∃ z, xs = [.str z] ∧ z.length ≤ sizeLine ∧ Q (.int z.length) H
theorem z_lenS : CallR X (.builtin "len") rLenS := call_len_str
def rDivmod : List V → Hp → VK → Prop := fun xs H Q => ∃ i j, xs = [.int i, .int j] ∧ CDiv i j ∧ ∀ p, H p = none → Q (.ref p) (upd H p (.tup [.int (i / j), .int (i % j)]))
theorem z_divmod : CallR X (.builtin "divmod") rDivmod := call_divmod
def rTuple (K : PySem.W.Frag) : List V → Hp → VK → Prop := fun xs H Q => ∃ p ys, xs = [.ref p] ∧ ((SqL K H p ys ∧ ∀ l, H l = none → Q (.ref l) (upd H l (.tup ys))) ∨ (SqT K H p ys ∧ Q (.ref p) H))
theorem z_tuple : CallR X (.type "tuple") (rTuple X.K) := call_tuple_of
def rList (K : PySem.W.Frag) : List V → Hp → VK → Prop := fun xs H Q => ∃ p ys, xs = [.ref p] ∧ (SqL K H p ys ∨ SqT K H p ys) ∧ ∀ l, H l = none → Q (.ref l) (upd H l (.lst ys))
theorem z_list : CallR X (.type "list") (rList X.K) := call_list_of
theorem z_type : CallR X (.type "type") (rTyp X.K) := call_type1
end
section
variable {K : PySem.W.Frag} {H H0 : Hp} {M : List Addr} {Γ Γ' Γ2 Θ : LS} {Q : VK} {p q : Addr} {xs ys : List V} {i j : Int}
theorem r_int (k : Q (.int i) H) : rInt [.int i] H Q := .inl ⟨i, rfl, k⟩
theorem r_abs (k : Q (.int (if i < 0 then -i else i)) H) : rAbs [.int i] H Q := ⟨i, rfl, k⟩
theorem r_max2 (k : Q (.int (if j > i then j else i)) H) : rMax2 [.int i, .int j] H Q := ⟨i, j, rfl, k⟩
theorem r_min2 (k : Q (.int (if j < i then j else i)) H) : rMin2 [.int i, .int j] H Q := ⟨i, j, rfl, k⟩
theorem r_lenL (S : Sep K H0 M Γ Θ H) (hm : Pick p xs Γ Γ') (k : Q (.int xs.length) H) : rLen K [.ref p] H Q := ⟨p, xs, rfl, .inl (S.sq hm), k⟩
theorem r_lenT (S : Sep K H0 M Γ Θ H) (hm : (p, xs) ∈ Θ) (k : Q (.int xs.length) H) : rLen K [.ref p] H Q := ⟨p, xs, rfl, .inr (S.tp hm), k⟩
/-- an item at a place that is met -/
theorem r_mem {ns : List Int} (S : Sep K H0 M Γ Θ H) (hm : Pick p (ns.map V.int) Γ Γ') (h0 : 0 ≤ i) (h1 : i < ns.length) (k : ∀ m, m ∈ ns → Q (.int m) H) : rIxL K (.ref p) (.int i) H Q := by
  have hj : i.toNat < ns.length := by omega
  have e : i = (i.toNat : Int) := by omega
  refine ⟨p, ns.map V.int, i, .int ns[i.toNat], rfl, rfl, S.sq hm, at_of e ?_, k _ (List.getElem_mem hj)⟩
  rw [List.getElem?_map, List.getElem?_eq_getElem hj]
  rfl
theorem r_lenQ (h : SqL K H p xs) (k : Q (.int xs.length) H) : rLen K [.ref p] H Q := ⟨p, xs, rfl, .inl h, k⟩
theorem r_ixQ {v : V} (h : SqL K H p xs) (hi : atI xs i = some v) (k : Q v H) : rIxL K (.ref p) (.int i) H Q := ⟨p, xs, i, v, rfl, rfl, h, hi, k⟩
theorem r_slQ {lo hi : Option Int} (S : Sep K H0 M Γ Θ H) (h : SqL K H p xs) (k : ∀ r H1, H r = none → H0 r = none → Sep K H0 M ((r, cutV xs lo hi) :: Γ) Θ H1 → Q (.ref r) H1) : rSlL K (.ref p) lo hi H Q :=
  ⟨p, xs, rfl, h, fun r hr => k r _ hr (S.old hr) (S.newL hr)⟩
theorem cut_int {ns : List Int} {lo hi : Option Int} {x : V} (h : x ∈ cutV (ns.map V.int) lo hi) : ∃ i : Int, x = .int i := by
  have h1 := List.mem_of_mem_drop (List.mem_of_mem_take h)
  obtain ⟨i, _, e⟩ := List.mem_map.mp h1
  exact ⟨i, e.symm⟩
theorem r_divmod (S : Sep K H0 M Γ Θ H) (h1 : 0 < j) (h2 : j < 1073741824) (k : ∀ p H1, H p = none → H0 p = none → Sep K H0 M Γ ((p, [.int (i / j), .int (i % j)]) :: Θ) H1 → Q (.ref p) H1) : rDivmod [.int i, .int j] H Q :=
  ⟨i, j, rfl, ⟨h1, h2⟩, fun p hp => k p _ hp (S.old hp) (S.newT hp)⟩
theorem r_tupleL (S : Sep K H0 M Γ Θ H) (hm : Pick q xs Γ Γ') (k : ∀ p H1, H p = none → H0 p = none → Sep K H0 M Γ ((p, xs) :: Θ) H1 → Q (.ref p) H1) : rTuple K [.ref q] H Q :=
  ⟨q, xs, rfl, .inl ⟨S.sq hm, fun p hp => k p _ hp (S.old hp) (S.newT hp)⟩⟩
theorem r_typT (S : Sep K H0 M Γ Θ H) (hm : (p, xs) ∈ Θ) (k : Q (.ty "tuple") H) : rTyp K [.ref p] H Q := ⟨_, _, rfl, .tup (S.tp hm), k⟩
theorem r_typI (k : Q (.ty "int") H) : rTyp K [.int i] H Q := ⟨_, _, rfl, .int i, k⟩
theorem r_cat (S : Sep K H0 M Γ Θ H) (hm : Pick p xs Γ Γ') (hn : Pick q ys Γ Γ2) (hl : xs.length + ys.length ≤ 100000) (k : ∀ r H1, H r = none → H0 r = none → Sep K H0 M ((r, xs ++ ys) :: Γ) Θ H1 → Q (.ref r) H1) : rCat (.ref p) (.ref q) H Q :=
  ⟨p, q, xs, ys, rfl, rfl, S.at hm, S.at hn, Nat.le_trans hl (by decide), fun r hr => k r _ hr (S.old hr) (S.newL hr)⟩
theorem r_rep (S : Sep K H0 M Γ Θ H) (hm : Pick p xs Γ Γ') (h1 : -(2 ^ 63) ≤ i) (h2 : i < 2 ^ 63) (hl : xs.length * i.toNat ≤ 100000) (k : ∀ r H1, H r = none → H0 r = none → Sep K H0 M ((r, (List.replicate i.toNat xs).flatten) :: Γ) Θ H1 → Q (.ref r) H1) : rRep (.ref p) (.int i) H Q :=
  ⟨p, i, xs, rfl, rfl, S.at hm, h1, h2, Nat.le_trans hl (by decide), fun r hr => k r _ hr (S.old hr) (S.newL hr)⟩
/-- an item of a written menu -/
theorem r_menu {ns : List Int} {lo hi : Int} (S : Sep K H0 M Γ Θ H) (hm : Pick p (ns.map V.int) Γ Γ') (h0 : 0 ≤ i) (h1 : i < ns.length) (hb : ∀ m ∈ ns, lo ≤ m ∧ m ≤ hi) (k : ∀ m, lo ≤ m → m ≤ hi → Q (.int m) H) : rIxL K (.ref p) (.int i) H Q := by
  have hj : i.toNat < ns.length := by omega
  have e : i = (i.toNat : Int) := by omega
  obtain ⟨a, b⟩ := hb _ (List.getElem_mem hj)
  refine ⟨p, ns.map V.int, i, .int ns[i.toNat], rfl, rfl, S.sq hm, at_of e ?_, k _ a b⟩
  rw [List.getElem?_map, List.getElem?_eq_getElem hj]
  rfl
theorem r_slL {lo hi : Option Int} (S : Sep K H0 M Γ Θ H) (hm : Pick p xs Γ Γ') (k : ∀ r H1, H r = none → H0 r = none → Sep K H0 M ((r, cutV xs lo hi) :: Γ) Θ H1 → Q (.ref r) H1) : rSlL K (.ref p) lo hi H Q :=
  ⟨p, xs, rfl, S.sq hm, fun r hr => k r _ hr (S.old hr) (S.newL hr)⟩
theorem r_slT2 {a b c : V} (S : Sep K H0 M Γ Θ H) (hm : (p, [a, b, c]) ∈ Θ) (k : ∀ r H1, H r = none → H0 r = none → Sep K H0 M Γ ((r, [a, b]) :: Θ) H1 → Q (.ref r) H1) : rSlT K (.ref p) none (some 2) H Q :=
  ⟨p, [a, b, c], rfl, S.tp hm, (fun h => absurd (show (2 : Nat) = 3 from h.2) (by decide)), fun r hr => k r _ hr (S.old hr) (S.newT hr)⟩
theorem r_sl {r : V → Option Int → Option Int → Hp → VK → Prop} {te : TE} {tl th : TO} {σ : L2.St} (k : te σ H fun x H1 => tl σ H1 fun l H2 => th σ H2 fun u H3 => r x l u H3 Q) : tSl r te tl th σ H Q := k
theorem r_noPart {σ : L2.St} {Qo : Option Int → Hp → Prop} (k : Qo none H) : tNoPart σ H Qo := k
def kI (Qo : Option Int → Hp → Prop) : VK := fun x H => ∃ i, x = .int i ∧ Qo (some i) H
theorem r_part {σ : L2.St} {te : TE} {Qo : Option Int → Hp → Prop} (k : te σ H (kI Qo)) : tPart te σ H Qo := k
theorem r_kI {Qo : Option Int → Hp → Prop} (k : Qo (some i) H) : kI Qo (.int i) H := ⟨i, rfl, k⟩
theorem r_p6 (k : Q (.int 1000000) H) : rI CPow (fun i j => .int (i ^ j.toNat)) (.int 10) (.int 6) H Q := r_I ⟨by decide, by decide, by decide⟩ k
theorem r_p18 (k : Q (.int 1000000000000000000) H) : rI CPow (fun i j => .int (i ^ j.toNat)) (.int 10) (.int 18) H Q := r_I ⟨by decide, by decide, by decide⟩ k
theorem r_p30 (k : Q (.int 1000000000000000000000000000000) H) : rI CPow (fun i j => .int (i ^ j.toNat)) (.int 10) (.int 30) H Q := r_I ⟨by decide, by decide, by decide⟩ k
theorem r_mulW {n m : Nat} (hx : bd n i) (hy : bd m j) (h : n + m + 2 ≤ 1000000) (k : Q (.int (i * j)) H) : rI CMulW (fun i j => .int (i * j)) (.int i) (.int j) H Q := r_I (mulW hx hy h) k
end

/-! ### loops -/
section
variable {K : PySem.W.Frag} {σ : L2.St} {H : Hp} {D : Ends} {g : TG} {tb : TS} {ta : TA} {te : TE} {wi : TI}
def forK (J : It) (g : TG) (tb : TS) (D : Ends) (σ : L2.St) (H : Hp) : Prop := ∃ W : Nat → Nat → L2.St → Hp → Prop, (∃ m, W 0 m σ H) ∧ ∀ i m σ H, W i m σ H →
  (J.stop i H ∧ D.nx σ H) ∨ (J.go i H ∧ ∃ N : L2.St → Hp → Prop, (∀ σ' H', N σ' H' → ∃ m', m' < m ∧ W (i + 1) m' σ' H') ∧ ∀ x H', J.yld i H x H' → g x σ H' fun σ2 H2 => tb { D with nx := N, ct := N, bk := D.nx } σ2 H2)
theorem r_for (k : wi σ H fun J H1 => forK J g tb D σ H1) : tFor wi g tb D σ H := k
theorem r_forR {lo : Int} {n : Nat} (Pv : Nat → L2.St → Hp → Prop) (h0 : Pv 0 σ H) (hs : ∀ i σ H, i < n → Pv i σ H → g (.int (lo + i)) σ H fun σ2 H2 => tb { D with nx := Pv (i + 1), ct := Pv (i + 1), bk := D.nx } σ2 H2) (hd : ∀ σ H, Pv n σ H → D.nx σ H) : forK (Itr lo n) g tb D σ H := for_range Pv h0 hs hd
theorem r_forL {a : Addr} {xs : List V} (Pv : Nat → L2.St → Hp → Prop) (h0 : Pv 0 σ H) (hl : ∀ i σ H, i ≤ xs.length → Pv i σ H → SqL K H a xs)
    (hs : ∀ i x σ H, xs[i]? = some x → Pv i σ H → g x σ H fun σ2 H2 => tb { D with nx := Pv (i + 1), ct := Pv (i + 1), bk := D.nx } σ2 H2) (hd : ∀ σ H, Pv xs.length σ H → D.nx σ H) : forK (Itl K a) g tb D σ H := for_list Pv h0 hl hs hd
theorem r_forT {a : Addr} {xs : List V} (Pv : Nat → L2.St → Hp → Prop) (h0 : Pv 0 σ H) (hl : ∀ i σ H, i ≤ xs.length → Pv i σ H → SqT K H a xs)
    (hs : ∀ i x σ H, xs[i]? = some x → Pv i σ H → g x σ H fun σ2 H2 => tb { D with nx := Pv (i + 1), ct := Pv (i + 1), bk := D.nx } σ2 H2) (hd : ∀ σ H, Pv xs.length σ H → D.nx σ H) : forK (Itt K a) g tb D σ H := for_tup Pv h0 hl hs hd
def rng1 (vs : List V) (H : Hp) (R : It → Hp → Prop) : Prop := ∃ j : Int, vs = [.int j] ∧ -(2 ^ 62) ≤ j ∧ j < 2 ^ 62 ∧ R (Itr 0 j.toNat) H
def rng2 (vs : List V) (H : Hp) (R : It → Hp → Prop) : Prop := ∃ i j : Int, vs = [.int i, .int j] ∧ (-(2 ^ 62) ≤ i ∧ i < 2 ^ 62 ∧ -(2 ^ 62) ≤ j ∧ j < 2 ^ 62) ∧ R (Itr i (j - i).toNat) H
theorem r_iRng1 {R : It → Hp → Prop} (k : ta σ H fun vs H1 => rng1 vs H1 R) : iRng1 ta σ H R := k
theorem r_iRng2 {R : It → Hp → Prop} (k : ta σ H fun vs H1 => rng2 vs H1 R) : iRng2 ta σ H R := k
theorem r_rng1 {R : It → Hp → Prop} {j : Int} (h1 : -(2 ^ 62) ≤ j) (h2 : j < 2 ^ 62) (k : R (Itr 0 j.toNat) H) : rng1 [.int j] H R := ⟨j, rfl, h1, h2, k⟩
theorem r_rng2 {R : It → Hp → Prop} {i j : Int} (h1 : -(2 ^ 62) ≤ i) (h2 : i < 2 ^ 62) (h3 : -(2 ^ 62) ≤ j) (h4 : j < 2 ^ 62) (k : R (Itr i (j - i).toNat) H) : rng2 [.int i, .int j] H R := ⟨i, j, rfl, ⟨h1, h2, h3, h4⟩, k⟩
def walL (K : PySem.W.Frag) (R : It → Hp → Prop) : VK := fun x H => ∃ a, x = .ref a ∧ (∃ xs, SqL K H a xs) ∧ R (Itl K a) H
def walT (K : PySem.W.Frag) (R : It → Hp → Prop) : VK := fun x H => ∃ a, x = .ref a ∧ (∃ xs, SqT K H a xs) ∧ R (Itt K a) H
theorem r_iList {R : It → Hp → Prop} (k : te σ H (walL K R)) : iList K te σ H R := k
theorem r_iTup {R : It → Hp → Prop} (k : te σ H (walT K R)) : iTup K te σ H R := k
theorem r_walL {R : It → Hp → Prop} {a : Addr} {xs : List V} (h : SqL K H a xs) (k : R (Itl K a) H) : walL K R (.ref a) H := ⟨a, rfl, ⟨xs, h⟩, k⟩
theorem r_walT {R : It → Hp → Prop} {a : Addr} {xs : List V} (h : SqT K H a xs) (k : R (Itt K a) H) : walT K R (.ref a) H := ⟨a, rfl, ⟨xs, h⟩, k⟩
/-- a comprehension -/
def lcK (J : It) (g : TG) (tt : TT) (te : TE) (vs : List Nat) (σ : L2.St) (H1 : Hp) (Q : VK) : Prop := ∀ D, H1 D = none → ∃ W : Nat → Nat → Hp → Prop, (∃ m, W 0 m (upd H1 D (.lst []))) ∧ ∀ i m H, W i m H →
  (J.stop i H ∧ Q (.ref D) H) ∨ (J.go i H ∧ ∃ Nx : Hp → Prop, (∀ H', Nx H' → ∃ m', m' < m ∧ W (i + 1) m' H') ∧ ∀ x H', J.yld i H x H' → g x (wipe σ vs) H' fun σ2 H2 => wipe σ2 vs = wipe σ vs ∧ tt σ2 H2 fun b H3 =>
    if b = true then te σ2 H3 fun y H4 => ∃ acc, H4 D = some (.lst acc) ∧ acc.length < sizeLine ∧ Nx (upd H4 D (.lst (acc ++ [y]))) else Nx H3)
theorem r_lc {tt : TT} {vs : List Nat} {Q : VK} (k : wi σ H fun J H1 => lcK J g tt te vs σ H1 Q) : tLc wi g tt te vs σ H Q := k
/-- a turn's end: the item y is put behind -/
def lcE (D : Addr) (i : Nat) (Pv : Addr → Nat → List V → Hp → Prop) : VK := fun y H4 => ∃ acc, H4 D = some (.lst acc) ∧ acc.length < sizeLine ∧
  ∃ acc', acc'.length = i + 1 ∧ (upd H4 D (.lst (acc ++ [y]))) D = some (.lst acc') ∧ Pv D (i + 1) acc' (upd H4 D (.lst (acc ++ [y])))
theorem r_lcE {D : Addr} {i : Nat} {Pv : Addr → Nat → List V → Hp → Prop} {y : V} {acc : List V} (ha : acc.length = i) (hi : i < 100000) (hA : H D = some (.lst acc)) (k : Pv D (i + 1) (acc ++ [y]) (upd H D (.lst (acc ++ [y])))) : lcE D i Pv y H :=
  ⟨acc, hA, Nat.lt_of_lt_of_le (Nat.lt_of_le_of_lt (Nat.le_of_eq ha) hi) (by decide), acc ++ [y], by rw [List.length_append, ha]; rfl, upd_same, k⟩
/-- one plain name, no test, over a range: Pv i acc H, the list so far and the heap -/
theorem r_lcR {lo : Int} {n j : Nat} {Q : VK} (Pv : Addr → Nat → List V → Hp → Prop) (h0 : ∀ D, H D = none → Pv D 0 [] (upd H D (.lst [])))
    (hs : ∀ D i acc H', H D = none → i < n → acc.length = i → H' D = some (.lst acc) → Pv D i acc H' → te ((wipe σ [j]).set j (some (.int (lo + i)))) H' (lcE D i Pv))
    (hd : ∀ D acc H', H D = none → acc.length = n → H' D = some (.lst acc) → Pv D n acc H' → Q (.ref D) H') : lcK (Itr lo n) (gName j) tYes te [j] σ H Q := by
  intro D hD
  refine lc_range (Qd := fun H' => Q (.ref D) H') (fun i H' => ∃ acc, acc.length = i ∧ H' D = some (.lst acc) ∧ Pv D i acc H') ⟨[], rfl, upd_same, h0 D hD⟩ (fun i H' hi ⟨acc, ha, hA, hP⟩ => ?_) fun H' ⟨acc, ha, hA, hP⟩ => hd D acc H' hD ha hA hP
  refine ⟨?_, hs D i acc H' hD hi ha hA hP⟩
  show ((σ.set j none).set j _).set j none = σ.set j none
  rw [List.set_set, List.set_set]
theorem r_lcL {K : PySem.W.Frag} {a : Addr} {xs : List V} {j : Nat} {Q : VK} (Pv : Addr → Nat → List V → Hp → Prop) (h0 : ∀ D, H D = none → Pv D 0 [] (upd H D (.lst [])))
    (hl : ∀ D i acc H', H D = none → i ≤ xs.length → acc.length = i → H' D = some (.lst acc) → Pv D i acc H' → SqL K H' a xs)
    (hs : ∀ D i x acc H', H D = none → xs[i]? = some x → acc.length = i → H' D = some (.lst acc) → Pv D i acc H' → te ((wipe σ [j]).set j (some x)) H' (lcE D i Pv))
    (hd : ∀ D acc H', H D = none → acc.length = xs.length → H' D = some (.lst acc) → Pv D xs.length acc H' → Q (.ref D) H') : lcK (Itl K a) (gName j) tYes te [j] σ H Q := by
  intro D hD
  refine lc_list (xs := xs) (Qd := fun H' => Q (.ref D) H') (fun i H' => ∃ acc, acc.length = i ∧ H' D = some (.lst acc) ∧ Pv D i acc H') ⟨[], rfl, upd_same, h0 D hD⟩ (fun i H' hi ⟨acc, ha, hA, hP⟩ => hl D i acc H' hD hi ha hA hP) (fun i x H' hi ⟨acc, ha, hA, hP⟩ => ?_) fun H' ⟨acc, ha, hA, hP⟩ => hd D acc H' hD ha hA hP
  refine ⟨?_, hs D i x acc H' hD hi ha hA hP⟩
  show ((σ.set j none).set j _).set j none = σ.set j none
  rw [List.set_set, List.set_set]
theorem r_lcT {K : PySem.W.Frag} {a : Addr} {xs : List V} {j : Nat} {Q : VK} (Pv : Addr → Nat → List V → Hp → Prop) (h0 : ∀ D, H D = none → Pv D 0 [] (upd H D (.lst [])))
    (hl : ∀ D i acc H', H D = none → i ≤ xs.length → acc.length = i → H' D = some (.lst acc) → Pv D i acc H' → SqT K H' a xs)
    (hs : ∀ D i x acc H', H D = none → xs[i]? = some x → acc.length = i → H' D = some (.lst acc) → Pv D i acc H' → te ((wipe σ [j]).set j (some x)) H' (lcE D i Pv))
    (hd : ∀ D acc H', H D = none → acc.length = xs.length → H' D = some (.lst acc) → Pv D xs.length acc H' → Q (.ref D) H') : lcK (Itt K a) (gName j) tYes te [j] σ H Q := by
  intro D hD
  refine lc_tup (xs := xs) (Qd := fun H' => Q (.ref D) H') (fun i H' => ∃ acc, acc.length = i ∧ H' D = some (.lst acc) ∧ Pv D i acc H') ⟨[], rfl, upd_same, h0 D hD⟩ (fun i H' hi ⟨acc, ha, hA, hP⟩ => hl D i acc H' hD hi ha hA hP) (fun i x H' hi ⟨acc, ha, hA, hP⟩ => ?_) fun H' ⟨acc, ha, hA, hP⟩ => hd D acc H' hD ha hA hP
  refine ⟨?_, hs D i x acc H' hD hi ha hA hP⟩
  show ((σ.set j none).set j _).set j none = σ.set j none
  rw [List.set_set, List.set_set]
end

/-! ### a def of the text -/
/-! ### the draws -/
def WellL (l : List V) : Prop := ∃ a b c : Int, l = [.int a, .int b, .int c] ∧ -18446744073709551616 < b ∧ b < 18446744073709551616
def spDip : Sp := fun vs H Q _ => ∃ (w : Addr) (l : List V) (n : Int), vs = [.ref w, .int n] ∧ H w = some (.lst l) ∧ WellL l ∧ 0 < n ∧ n < 1073741824 ∧
  ∀ (r : Int) (H' : Hp) (l' : List V), 0 ≤ r → r < n → WellL l' → H' w = some (.lst l') → Fr [w] H H' → Q (.int r) H'
def spNumber : Sp := fun vs H Q _ => ∃ (w : Addr) (l : List V), vs = [.ref w] ∧ H w = some (.lst l) ∧ WellL l ∧
  ∀ (r : Int) (H' : Hp) (l' : List V), bd 100 r → WellL l' → H' w = some (.lst l') → Fr [w] H H' → Q (.int r) H'
def spDrawn (K : PySem.W.Frag) : Sp := fun vs H Q _ => ∃ (w : Addr) (l : List V), vs = [.ref w] ∧ H w = some (.lst l) ∧ WellL l ∧
  ∀ (t : Addr) (x y s : Int) (H' : Hp) (l' : List V), bd 100 x → bd 100 y → bd 100 s → WellL l' → H' w = some (.lst l') → Fr [w] H H' → SqT K H' t [.int x, .int y, .int s] → Q (.ref t) H'
def spWell (K : PySem.W.Frag) : Sp := fun vs H Q _ => ∃ (a : Addr) (ns : List Int) (t : Int), vs = [.ref a, .int t] ∧ SqL K H a (ns.map V.int) ∧ ns.length ≤ 63 ∧ 0 ≤ t ∧ t ≤ 100 ∧
  ∀ (w : Addr) (H' : Hp) (l : List V), H w = none → WellL l → H' w = some (.lst l) → Fr [] H H' → Q (.ref w) H'
def spRight : Sp := fun vs H Q _ => ∃ (w : Addr) (l : List V), vs = [.ref w] ∧ H w = some (.lst l) ∧ WellL l ∧ ∀ (H' : Hp), Fr [w] H H' → Q (.bl true) H'
section
variable {K : PySem.W.Frag} {H H0 : Hp} {M : List Addr} {Γ Γ' Θ : LS} {Q : VK} {w : Addr} {l : List V} {n : Int} {E : XK}
theorem use_dip (S : Sep K H0 M Γ Θ H) (hm : Pick w l Γ Γ') (hw : w ∈ M ∨ H0 w = none) (hl : WellL l) (h0 : 0 < n) (h1 : n < 1073741824)
    (k : ∀ r l' H', 0 ≤ r → r < n → WellL l' → Sep K H0 M ((w, l') :: Γ') Θ H' → Q (.int r) H') : spDip [.ref w, .int n] H Q E :=
  ⟨w, l, n, rfl, S.at hm, hl, h0, h1, fun r H' l' a b c d e => k r l' H' a b c (S.mut hm hw e d)⟩
theorem use_number (S : Sep K H0 M Γ Θ H) (hm : Pick w l Γ Γ') (hw : w ∈ M ∨ H0 w = none) (hl : WellL l)
    (k : ∀ r l' H', bd 100 r → WellL l' → Sep K H0 M ((w, l') :: Γ') Θ H' → Q (.int r) H') : spNumber [.ref w] H Q E :=
  ⟨w, l, rfl, S.at hm, hl, fun r H' l' a c d e => k r l' H' a c (S.mut hm hw e d)⟩
theorem use_drawn (S : Sep K H0 M Γ Θ H) (hm : Pick w l Γ Γ') (hw : w ∈ M ∨ H0 w = none) (hl : WellL l)
    (k : ∀ t x y s l' H', bd 100 x → bd 100 y → bd 100 s → WellL l' → Sep K H0 M ((w, l') :: Γ') ((t, [.int x, .int y, .int s]) :: Θ) H' → Q (.ref t) H') : spDrawn K [.ref w] H Q E :=
  ⟨w, l, rfl, S.at hm, hl, fun t x y s H' l' a b c d e f g => k t x y s l' H' a b c d ((S.mut hm hw f e).addT g)⟩
theorem use_well {a : Addr} {ns : List Int} {t : Int} (S : Sep K H0 M Γ Θ H) (hS : SqL K H a (ns.map V.int)) (hn : ns.length ≤ 63) (h0 : 0 ≤ t) (h1 : t ≤ 100)
    (k : ∀ w l H', H0 w = none → WellL l → Sep K H0 M ((w, l) :: Γ) Θ H' → Q (.ref w) H') : spWell K [.ref a, .int t] H Q E :=
  ⟨a, ns, t, rfl, hS, hn, h0, h1, fun w H' l a b c d => k w l H' (S.old a) b ((S.kept d).addL c (S.notin a))⟩
/-- the well is left: what became of it is not known -/
theorem Sep.lose {H' : Hp} (S : Sep K H0 [] Γ Θ H) (k : Pick w l Γ Γ') (hw : H0 w = none) (f : Fr [w] H H') : Sep K H0 [] Γ' Θ H' := by
  have nd := k.nd S.nd
  have hl := S.at k
  rw [List.nodup_cons] at nd
  refine ⟨fun q hq => f _ _ (S.ls q (k.sub q hq)) fun z => nd.1 (List.mem_map.mpr ⟨q, hq, List.mem_singleton.mp z⟩), nd.2, fun q hq => sqT_fr (S.ts q hq) f (fun a ha => ⟨l, by rw [List.mem_singleton.mp ha]; exact hl⟩), fun a o e n => ?_, fun _ z => by cases z⟩
  refine f _ _ (S.fr a o e n) fun z => ?_
  rw [List.mem_singleton.mp z, hw] at e
  cases e
theorem use_right (S : Sep K H0 [] Γ Θ H) (k : Pick w l Γ Γ') (hw : H0 w = none) (hl : WellL l) (q : ∀ H', Sep K H0 [] Γ' Θ H' → Q (.bl true) H') : spRight [.ref w] H Q E :=
  ⟨w, l, rfl, S.at k, hl, fun H' f => q H' (S.lose k hw f)⟩
def spLaw (K : PySem.W.Frag) : Sp := fun vs H Q _ => ∃ (a : Addr) (ns : List Int), vs = [.ref a] ∧ SqL K H a (ns.map V.int) ∧ ns.length ≤ 63 ∧ ∀ H', Q (.bl true) H'
theorem end_drawn {H' : Hp} {t : Addr} {x y s : Int} (S : Sep K H [w] Γ ((t, [.int x, .int y, .int s]) :: Θ) H') (hm : Pick w l Γ Γ') (hl : WellL l) (bx : bd 100 x) (b_y : bd 100 y) (bs : bd 100 s)
    (k : ∀ (t : Addr) (x y s : Int) (H' : Hp) (l' : List V), bd 100 x → bd 100 y → bd 100 s → WellL l' → H' w = some (.lst l') → Fr [w] H H' → SqT K H' t [.int x, .int y, .int s] → Q (.ref t) H') : Q (.ref t) H' :=
  k t x y s H' l bx b_y bs hl (S.at hm) S.fr (S.tp List.mem_cons_self)
/-- a def's entry with the well -/
theorem well_in {w : Addr} {l : List V} (h : H w = some (.lst l)) : Sep K H [w] [(w, l)] [] H :=
  Sep.start (fun q hq => by rw [List.mem_singleton.mp hq]; exact h) (List.nodup_cons.mpr ⟨List.not_mem_nil, List.nodup_nil⟩) (fun _ z => by cases z) (fun a ha => ⟨l, by rw [List.mem_singleton.mp ha]; exact h⟩)
end
/-! ### the other family of draws -/
def WellD (l : List V) : Prop := ∃ a b c : Int, l = [.int a, .int b, .int c] ∧ -18446744073709551616 < a ∧ a < 18446744073709551616
def spDraw : Sp := fun vs H Q _ => ∃ (w : Addr) (l : List V) (n : Int), vs = [.ref w, .int n] ∧ H w = some (.lst l) ∧ WellD l ∧ 0 < n ∧ bd 200 n ∧
  ∀ (r : Int) (H' : Hp) (l' : List V), 0 ≤ r → r < n → WellD l' → H' w = some (.lst l') → Fr [w] H H' → Q (.int r) H'
def spPick (K : PySem.W.Frag) : Sp := fun vs H Q _ => ∃ (w c : Addr) (l : List V) (ns : List Int), vs = [.ref w, .ref c] ∧ H w = some (.lst l) ∧ WellD l ∧ H c = some (.lst (ns.map V.int)) ∧ w ≠ c ∧ 0 < ns.length ∧ ns.length ≤ 1000 ∧
  ∀ (r : Int) (H' : Hp) (l' : List V), r ∈ ns → WellD l' → H' w = some (.lst l') → Fr [w] H H' → Q (.int r) H'
def spGreat : Sp := fun vs H Q _ => ∃ (w : Addr) (l : List V), vs = [.ref w] ∧ H w = some (.lst l) ∧ WellD l ∧
  ∀ (r : Int) (H' : Hp) (l' : List V), 0 ≤ r → r < 1000000000000000000000000000 → WellD l' → H' w = some (.lst l') → Fr [w] H H' → Q (.int r) H'
def spMoveD (K : PySem.W.Frag) : Sp := fun vs H Q _ => ∃ (w : Addr) (l : List V) (n : Int), vs = [.ref w, .int n] ∧ H w = some (.lst l) ∧ WellD l ∧ 0 < n ∧ bd 100 n ∧
  ∀ (t : Addr) (x y s : Int) (H' : Hp) (l' : List V), bd 102 x → bd 102 y → bd 102 s → WellD l' → H' w = some (.lst l') → Fr [w] H H' → SqT K H' t [.int x, .int y, .int s] → Q (.ref t) H'
def spWellD (K : PySem.W.Frag) : Sp := fun vs H Q _ => ∃ (a : Addr) (ns : List Int) (t : Int), vs = [.ref a, .int t] ∧ SqL K H a (ns.map V.int) ∧ ns.length ≤ 63 ∧ 0 ≤ t ∧ t ≤ 100 ∧
  ∀ (w : Addr) (H' : Hp) (l : List V), H w = none → WellD l → H' w = some (.lst l) → Fr [] H H' → Q (.ref w) H'
def spRightD : Sp := fun vs H Q _ => ∃ (w : Addr) (l : List V), vs = [.ref w] ∧ H w = some (.lst l) ∧ WellD l ∧ ∀ (H' : Hp), Fr [w] H H' → Q (.bl true) H'
section
variable {K : PySem.W.Frag} {H H0 : Hp} {M : List Addr} {Γ Γ' Γ2 Θ : LS} {Q : VK} {w c : Addr} {l : List V} {n : Int} {E : XK}
theorem use_draw (S : Sep K H0 M Γ Θ H) (hm : Pick w l Γ Γ') (hw : w ∈ M ∨ H0 w = none) (hl : WellD l) (h0 : 0 < n) (h1 : bd 200 n)
    (k : ∀ r l' H', 0 ≤ r → r < n → WellD l' → Sep K H0 M ((w, l') :: Γ') Θ H' → Q (.int r) H') : spDraw [.ref w, .int n] H Q E :=
  ⟨w, l, n, rfl, S.at hm, hl, h0, h1, fun r H' l' a b c d e => k r l' H' a b c (S.mut hm hw e d)⟩
theorem use_pick {ns : List Int} (S : Sep K H0 M Γ Θ H) (hm : Pick w l Γ Γ') (hw : w ∈ M ∨ H0 w = none) (hl : WellD l) (hc : Pick c (ns.map V.int) Γ Γ2) (ne : w ≠ c) (h0 : 0 < ns.length) (h1 : ns.length ≤ 1000)
    (k : ∀ r l' H', r ∈ ns → WellD l' → Sep K H0 M ((w, l') :: Γ') Θ H' → Q (.int r) H') : spPick K [.ref w, .ref c] H Q E :=
  ⟨w, c, l, ns, rfl, S.at hm, hl, S.at hc, ne, h0, h1, fun r H' l' a c d e => k r l' H' a c (S.mut hm hw e d)⟩
theorem use_great (S : Sep K H0 M Γ Θ H) (hm : Pick w l Γ Γ') (hw : w ∈ M ∨ H0 w = none) (hl : WellD l)
    (k : ∀ r l' H', 0 ≤ r → r < 1000000000000000000000000000 → WellD l' → Sep K H0 M ((w, l') :: Γ') Θ H' → Q (.int r) H') : spGreat [.ref w] H Q E :=
  ⟨w, l, rfl, S.at hm, hl, fun r H' l' a b c d e => k r l' H' a b c (S.mut hm hw e d)⟩
theorem use_moveD (S : Sep K H0 M Γ Θ H) (hm : Pick w l Γ Γ') (hw : w ∈ M ∨ H0 w = none) (hl : WellD l) (h0 : 0 < n) (h1 : bd 100 n)
    (k : ∀ t x y s l' H', bd 102 x → bd 102 y → bd 102 s → WellD l' → Sep K H0 M ((w, l') :: Γ') ((t, [.int x, .int y, .int s]) :: Θ) H' → Q (.ref t) H') : spMoveD K [.ref w, .int n] H Q E :=
  ⟨w, l, n, rfl, S.at hm, hl, h0, h1, fun t x y s H' l' a b c d e f g => k t x y s l' H' a b c d ((S.mut hm hw f e).addT g)⟩
theorem use_wellD {a : Addr} {ns : List Int} {t : Int} (S : Sep K H0 M Γ Θ H) (hS : SqL K H a (ns.map V.int)) (hn : ns.length ≤ 63) (h0 : 0 ≤ t) (h1 : t ≤ 100)
    (k : ∀ w l H', H0 w = none → WellD l → Sep K H0 M ((w, l) :: Γ) Θ H' → Q (.ref w) H') : spWellD K [.ref a, .int t] H Q E :=
  ⟨a, ns, t, rfl, hS, hn, h0, h1, fun w H' l a b c d => k w l H' (S.old a) b ((S.kept d).addL c (S.notin a))⟩
theorem use_rightD (S : Sep K H0 [] Γ Θ H) (k : Pick w l Γ Γ') (hw : H0 w = none) (hl : WellD l) (q : ∀ H', Sep K H0 [] Γ' Θ H' → Q (.bl true) H') : spRightD [.ref w] H Q E :=
  ⟨w, l, rfl, S.at k, hl, fun H' f => q H' (S.lose k hw f)⟩
theorem end_moveD {H' : Hp} {t : Addr} {x y s : Int} (S : Sep K H0 [w] Γ ((t, [.int x, .int y, .int s]) :: Θ) H') (hm : Pick w l Γ Γ') (hl : WellD l) (bx : bd 102 x) (b_y : bd 102 y) (bs : bd 102 s)
    (k : ∀ (t : Addr) (x y s : Int) (H' : Hp) (l' : List V), bd 102 x → bd 102 y → bd 102 s → WellD l' → H' w = some (.lst l') → Fr [w] H0 H' → SqT K H' t [.int x, .int y, .int s] → Q (.ref t) H') : Q (.ref t) H' :=
  k t x y s H' l bx b_y bs hl (S.at hm) S.fr (S.tp List.mem_cons_self)
end
theorem bd_200 {x : Int} (h1 : -1267650600228229401496703205376 < x) (h2 : x < 1267650600228229401496703205376) : bd 200 x := bd_le (bd_100 h1 h2) (by decide)
/-- divmod by a divisor of any size that is met -/
def rDivmodW : List V → Hp → VK → Prop := fun xs H Q => ∃ i j, xs = [.int i, .int j] ∧ 0 < j ∧ bd 200 j ∧ ∀ p, H p = none → Q (.ref p) (upd H p (.tup [.int (i / j), .int (i % j)]))
theorem z_divmodW {X : Cx} : CallR X (.builtin "divmod") rDivmodW := fun pins s σ H xs us Q I r ⟨i, j, e, h0, hb, k⟩ => call_divmodW pins s σ H xs us Q I r ⟨i, j, e, ⟨h0, by
  have h : j.natAbs.log2 < 200 := by
    have hj : j.natAbs ≠ 0 := by omega
    exact (Nat.log2_lt hj).mpr hb
  unfold Builtin.divisionGoesByPylong
  simp only [Bool.and_eq_false_iff, decide_eq_false_iff_not]
  left
  split
  · omega
  · omega⟩, k⟩
theorem r_divmodW {K : PySem.W.Frag} {H H0 : Hp} {M : List Addr} {Γ Θ : LS} {Q : VK} {i j : Int} (S : Sep K H0 M Γ Θ H) (h1 : 0 < j) (h2 : bd 200 j) (k : ∀ p H1, H p = none → H0 p = none → Sep K H0 M Γ ((p, [.int (i / j), .int (i % j)]) :: Θ) H1 → Q (.ref p) H1) : rDivmodW [.int i, .int j] H Q :=
  ⟨i, j, rfl, h1, h2, fun p hp => k p _ hp (S.old hp) (S.newT hp)⟩

/-! ### halves -/
theorem two_T (n : Int) : 2 * (n * (n - 1) / 2) = n * (n - 1) := by
  have h : n * (n - 1) % 2 = 0 := by
    rcases (show n % 2 = 0 ∨ n % 2 = 1 by omega) with h | h
    · rw [Int.mul_emod, h]; simp
    · rw [Int.mul_emod, show (n - 1) % 2 = 0 by omega]; simp
  omega
theorem T_add (a b : Int) : (a + b) * (a + b - 1) / 2 = a * (a - 1) / 2 + b * (b - 1) / 2 + a * b := by
  have h1 := two_T a
  have h2 := two_T b
  have h3 := two_T (a + b)
  generalize a * (a - 1) / 2 = A at *
  generalize b * (b - 1) / 2 = B at *
  generalize (a + b) * (a + b - 1) / 2 = C at *
  grind
theorem T_mul (a b : Int) : a * b * (a * b - 1) / 2 = b * (a * (a - 1) / 2) + b * (b - 1) / 2 * a * a := by
  have h1 := two_T a
  have h2 := two_T b
  have h3 := two_T (a * b)
  generalize a * (a - 1) / 2 = A at *
  generalize b * (b - 1) / 2 = B at *
  generalize a * b * (a * b - 1) / 2 = C at *
  grind
theorem T_neg (a : Int) : (0 - a) * (0 - a - 1) / 2 = a * (a - 1) / 2 + a := by
  have h1 := two_T a
  have h3 := two_T (0 - a)
  generalize a * (a - 1) / 2 = A at *
  generalize (0 - a) * (0 - a - 1) / 2 = C at *
  grind

theorem oo1 (x a b : Int) : b * (a * x) = a * b * x := by grind
theorem oo3 (x y s a b : Int) : b * (a * s + a * (a - 1) / 2 * x * y) + b * (b - 1) / 2 * (a * x) * (a * y) = a * b * s + a * b * (a * b - 1) / 2 * x * y := by
  rw [T_mul]
  grind
theorem oa1 (x a b : Int) : a * x + b * x = (a + b) * x := by grind
theorem oa3 (x y s a b : Int) : a * s + a * (a - 1) / 2 * x * y + (b * s + b * (b - 1) / 2 * x * y) + a * x * (b * y) = (a + b) * s + (a + b) * (a + b - 1) / 2 * x * y := by
  rw [T_add]
  grind
theorem ou1 (x a : Int) : -(a * x) = (0 - a) * x := by grind
theorem ou3 (x y s a : Int) : a * x * (a * y) - (a * s + a * (a - 1) / 2 * x * y) = (0 - a) * s + (0 - a) * (0 - a - 1) / 2 * x * y := by
  rw [T_neg]
  have h := two_T a
  generalize a * (a - 1) / 2 = A at *
  grind
theorem os1 (x a : Int) : a * x + x = (a + 1) * x := by grind
theorem os3 (x y s a : Int) : a * s + a * (a - 1) / 2 * x * y + s + a * x * y = (a + 1) * s + (a + 1) * (a + 1 - 1) / 2 * x * y := by
  rw [T_add]
  grind
theorem mvE {x y s x' y' s' : Int} (h1 : x = x') (h2 : y = y') (h3 : s = s') : PyData.eqv (.tuple [.int x, .int y, .int s]) (.tuple [.int x', .int y', .int s']) = true := by
  subst h1 h2 h3
  simp [PyData.eqv, PyData.eqvAll]

/-! ### moves, of values that are moves -/
abbrev mv (x y s : Int) : List V := [.int x, .int y, .int s]
def spIsInt : Sp := fun vs H Q _ => ∃ i : Int, vs = [.int i] ∧ Q (.bl true) H
def spNeedInt : Sp := fun vs H Q _ => ∃ i : Int, vs = [.int i] ∧ Q .non H
def spIsMove (K : PySem.W.Frag) : Sp := fun vs H Q _ => ∃ (t : Addr) (x y s : Int), vs = [.ref t] ∧ SqT K H t (mv x y s) ∧ ∀ H', Fr [] H H' → Q (.bl true) H'
def spNeedMove (K : PySem.W.Frag) : Sp := fun vs H Q _ => ∃ (t : Addr) (x y s : Int), vs = [.ref t] ∧ SqT K H t (mv x y s) ∧ ∀ H', Fr [] H H' → Q .non H'
/-- two moves in, a move out -/
def spMM (K : PySem.W.Frag) (ok : Int → Int → Int → Int → Int → Int → Prop) (f g h : Int → Int → Int → Int → Int → Int → Int) : Sp := fun vs H Q _ => ∃ (a b : Addr) (x y s x' y' s' : Int), vs = [.ref a, .ref b] ∧ SqT K H a (mv x y s) ∧ SqT K H b (mv x' y' s') ∧ ok x y s x' y' s' ∧
  ∀ r H', Fr [] H H' → SqT K H' r (mv (f x y s x' y' s') (g x y s x' y' s') (h x y s x' y' s')) → Q (.ref r) H'
/-- two moves in, a plain value out -/
def spMV (K : PySem.W.Frag) (ok : Int → Int → Int → Int → Int → Int → Prop) (f : Int → Int → Int → Int → Int → Int → V) : Sp := fun vs H Q _ => ∃ (a b : Addr) (x y s x' y' s' : Int), vs = [.ref a, .ref b] ∧ SqT K H a (mv x y s) ∧ SqT K H b (mv x' y' s') ∧ ok x y s x' y' s' ∧
  ∀ H', Fr [] H H' → Q (f x y s x' y' s') H'
/-- a move and an integer in, a move out -/
def spMI (K : PySem.W.Frag) (ok : Int → Int → Int → Int → Prop) (f g h : Int → Int → Int → Int → Int) : Sp := fun vs H Q _ => ∃ (a : Addr) (x y s n : Int), vs = [.ref a, .int n] ∧ SqT K H a (mv x y s) ∧ ok x y s n ∧
  ∀ r H', Fr [] H H' → SqT K H' r (mv (f x y s n) (g x y s n) (h x y s n)) → Q (.ref r) H'
def spM1 (K : PySem.W.Frag) (ok : Int → Int → Int → Prop) (f g h : Int → Int → Int → Int) : Sp := fun vs H Q _ => ∃ (a : Addr) (x y s : Int), vs = [.ref a] ∧ SqT K H a (mv x y s) ∧ ok x y s ∧
  ∀ r H', Fr [] H H' → SqT K H' r (mv (f x y s) (g x y s) (h x y s)) → Q (.ref r) H'
abbrev spJoined (K : PySem.W.Frag) : Sp := spMM K (fun x _ _ _ y' _ => bd 4000 x ∧ bd 4000 y') (fun x _ _ x' _ _ => x + x') (fun _ y _ _ y' _ => y + y') (fun x _ s _ y' s' => s + s' + x * y')
abbrev spUndone (K : PySem.W.Frag) : Sp := spM1 K (fun x y _ => bd 4000 x ∧ bd 4000 y) (fun x _ _ => -x) (fun _ y _ => -y) (fun x y s => x * y - s)
abbrev spOften (K : PySem.W.Frag) : Sp := spMI K (fun x y s n => bd 4000 x ∧ bd 4000 y ∧ bd 4000 s ∧ bd 4000 n) (fun x _ _ n => n * x) (fun _ y _ n => n * y) (fun x y s n => n * s + n * (n - 1) / 2 * x * y)
abbrev spGap (K : PySem.W.Frag) : Sp := spMV K (fun x y _ x' y' _ => bd 4000 x ∧ bd 4000 y ∧ bd 4000 x' ∧ bd 4000 y') (fun x y _ x' y' _ => .int (x * y' - y * x'))
abbrev spCommute (K : PySem.W.Frag) : Sp := spMV K (fun x y _ x' y' _ => bd 4000 x ∧ bd 4000 y ∧ bd 4000 x' ∧ bd 4000 y') (fun x y _ x' y' _ => .bl (decide (x * y' - y * x' = 0)))
section
variable {K : PySem.W.Frag} {H H0 : Hp} {M : List Addr} {Γ Γ' Θ : LS} {Q : VK} {a b t : Addr} {x y s x' y' s' n : Int} {E : XK}
theorem use_isInt {i : Int} (k : Q (.bl true) H) : spIsInt [.int i] H Q E := ⟨i, rfl, k⟩
theorem use_needInt {i : Int} (k : Q .non H) : spNeedInt [.int i] H Q E := ⟨i, rfl, k⟩
theorem use_isMove (S : Sep K H0 M Γ Θ H) (ht : (t, mv x y s) ∈ Θ) (k : ∀ H', Sep K H0 M Γ Θ H' → Q (.bl true) H') : spIsMove K [.ref t] H Q E := ⟨t, x, y, s, rfl, S.tp ht, fun H' f => k H' (S.kept f)⟩
theorem use_needMove (S : Sep K H0 M Γ Θ H) (ht : (t, mv x y s) ∈ Θ) (k : ∀ H', Sep K H0 M Γ Θ H' → Q .non H') : spNeedMove K [.ref t] H Q E := ⟨t, x, y, s, rfl, S.tp ht, fun H' f => k H' (S.kept f)⟩
theorem use_MM {ok : Int → Int → Int → Int → Int → Int → Prop} {f g h : Int → Int → Int → Int → Int → Int → Int} (S : Sep K H0 M Γ Θ H) (ha : (a, mv x y s) ∈ Θ) (hb : (b, mv x' y' s') ∈ Θ) (o : ok x y s x' y' s')
    (k : ∀ r H', Sep K H0 M Γ ((r, mv (f x y s x' y' s') (g x y s x' y' s') (h x y s x' y' s')) :: Θ) H' → Q (.ref r) H') : spMM K ok f g h [.ref a, .ref b] H Q E :=
  ⟨a, b, x, y, s, x', y', s', rfl, S.tp ha, S.tp hb, o, fun r H' e q => k r H' ((S.kept e).addT q)⟩
theorem use_MV {ok : Int → Int → Int → Int → Int → Int → Prop} {f : Int → Int → Int → Int → Int → Int → V} (S : Sep K H0 M Γ Θ H) (ha : (a, mv x y s) ∈ Θ) (hb : (b, mv x' y' s') ∈ Θ) (o : ok x y s x' y' s')
    (k : ∀ H', Sep K H0 M Γ Θ H' → Q (f x y s x' y' s') H') : spMV K ok f [.ref a, .ref b] H Q E :=
  ⟨a, b, x, y, s, x', y', s', rfl, S.tp ha, S.tp hb, o, fun H' e => k H' (S.kept e)⟩
theorem use_MI {ok : Int → Int → Int → Int → Prop} {f g h : Int → Int → Int → Int → Int} (S : Sep K H0 M Γ Θ H) (ha : (a, mv x y s) ∈ Θ) (o : ok x y s n)
    (k : ∀ r H', Sep K H0 M Γ ((r, mv (f x y s n) (g x y s n) (h x y s n)) :: Θ) H' → Q (.ref r) H') : spMI K ok f g h [.ref a, .int n] H Q E :=
  ⟨a, x, y, s, n, rfl, S.tp ha, o, fun r H' e q => k r H' ((S.kept e).addT q)⟩
theorem use_M1 {ok : Int → Int → Int → Prop} {f g h : Int → Int → Int → Int} (S : Sep K H0 M Γ Θ H) (ha : (a, mv x y s) ∈ Θ) (o : ok x y s)
    (k : ∀ r H', Sep K H0 M Γ ((r, mv (f x y s) (g x y s) (h x y s)) :: Θ) H' → Q (.ref r) H') : spM1 K ok f g h [.ref a] H Q E :=
  ⟨a, x, y, s, rfl, S.tp ha, o, fun r H' e q => k r H' ((S.kept e).addT q)⟩
theorem one_in (h : SqT K H a (mv x y s)) : Sep K H [] [] [(a, mv x y s)] H :=
  Sep.start (fun _ z => by cases z) List.nodup_nil (fun q hq => by rw [List.mem_singleton.mp hq]; exact h) (fun _ z => by cases z)
theorem two_in (h : SqT K H a (mv x y s)) (h' : SqT K H b (mv x' y' s')) : Sep K H [] [] [(a, mv x y s), (b, mv x' y' s')] H := (one_in h').addT h
theorem r_walTS {xs : List V} {R : It → Hp → Prop} (S : Sep K H0 M Γ Θ H) (hm : (a, xs) ∈ Θ) (k : R (Itt K a) H) : walT K R (.ref a) H := r_walT (S.tp hm) k
theorem r_walLS {xs : List V} {R : It → Hp → Prop} (S : Sep K H0 M Γ Θ H) (hm : Pick a xs Γ Γ') (k : R (Itl K a) H) : walL K R (.ref a) H := r_walL (S.sq hm) k
end
/-! ### roots -/
/-- what is left of the area for the root's own -/
def rootL (x y s n : Int) : Int := s - n * (n - 1) / 2 * (x / n) * (y / n)
def RootOk (x y s n : Int) : Prop := n * (x / n) = x ∧ n * (y / n) = y ∧ n * (rootL x y s n / n) = rootL x y s n
def spRoot (K : PySem.W.Frag) : Sp := fun vs H Q _ => ∃ (a : Addr) (x y s n : Int), vs = [.ref a, .int n] ∧ SqT K H a (mv x y s) ∧ (bd 700 x ∧ bd 700 y ∧ bd 700 s ∧ bd 200 n ∧ 1 ≤ n) ∧
  (RootOk x y s n → ∀ r H', Fr [] H H' → SqT K H' r (mv (x / n) (y / n) (rootL x y s n / n)) → Q (.ref r) H') ∧ (¬ RootOk x y s n → ∀ H', Fr [] H H' → Q .non H')
theorem use_root {K : PySem.W.Frag} {H H0 : Hp} {M : List Addr} {Γ Θ : LS} {Q : VK} {a : Addr} {x y s n : Int} {E : XK} (S : Sep K H0 M Γ Θ H) (ha : (a, mv x y s) ∈ Θ) (b : bd 700 x ∧ bd 700 y ∧ bd 700 s ∧ bd 200 n ∧ 1 ≤ n)
    (k1 : RootOk x y s n → ∀ r H', Sep K H0 M Γ ((r, mv (x / n) (y / n) (rootL x y s n / n)) :: Θ) H' → Q (.ref r) H') (k2 : ¬ RootOk x y s n → ∀ H', Sep K H0 M Γ Θ H' → Q .non H') : spRoot K [.ref a, .int n] H Q E :=
  ⟨a, x, y, s, n, rfl, S.tp ha, b, fun o r H' f q => k1 o r H' ((S.kept f).addT q), fun o H' f => k2 o H' (S.kept f)⟩
theorem root_eq (x y s n : Int) (h : PyData.eqv (.tuple [.int (n * (x / n)), .int (n * (y / n)), .int (n * ((s - (n * 0 + n * (n - 1) / 2 * (x / n) * (y / n))) / n) + n * (n - 1) / 2 * (x / n) * (y / n))]) (.tuple [.int x, .int y, .int s]) = true) : RootOk x y s n := by
  simp only [PyData.eqv, PyData.eqvAll, Bool.and_eq_true, beq_iff_eq, Bool.and_true, Int.mul_zero, Int.zero_add] at h
  obtain ⟨h1, h2, h3⟩ := h
  refine ⟨h1, h2, ?_⟩
  unfold rootL
  omega
theorem root_ne (x y s n : Int) (h : PyData.eqv (.tuple [.int (n * (x / n)), .int (n * (y / n)), .int (n * ((s - (n * 0 + n * (n - 1) / 2 * (x / n) * (y / n))) / n) + n * (n - 1) / 2 * (x / n) * (y / n))]) (.tuple [.int x, .int y, .int s]) = false) : ¬ RootOk x y s n := by
  rintro ⟨h1, h2, h3⟩
  unfold rootL at h3
  have e : PyData.eqv (.tuple [.int (n * (x / n)), .int (n * (y / n)), .int (n * ((s - (n * 0 + n * (n - 1) / 2 * (x / n) * (y / n))) / n) + n * (n - 1) / 2 * (x / n) * (y / n))]) (.tuple [.int x, .int y, .int s]) = true := by
    rw [Int.mul_zero, Int.zero_add]
    exact mvE h1 h2 (by omega)
  rw [e] at h
  cases h
theorem root_area (x y s n : Int) : (s - (n * 0 + n * (n - 1) / 2 * (x / n) * (y / n))) / n = rootL x y s n / n := by
  unfold rootL
  rw [Int.mul_zero, Int.zero_add]
/-- a power's root is the move itself -/
theorem root_of_power (x y s n : Int) (hn : 1 ≤ n) : n * x / n = x ∧ n * y / n = y ∧ rootL (n * x) (n * y) (n * s + n * (n - 1) / 2 * x * y) n / n = s ∧ RootOk (n * x) (n * y) (n * s + n * (n - 1) / 2 * x * y) n := by
  have h0 : n ≠ 0 := by omega
  have h1 : n * x / n = x := Int.mul_ediv_cancel_left x h0
  have h2 : n * y / n = y := Int.mul_ediv_cancel_left y h0
  have h3 : rootL (n * x) (n * y) (n * s + n * (n - 1) / 2 * x * y) n = n * s := by
    unfold rootL
    rw [h1, h2]
    omega
  refine ⟨h1, h2, by rw [h3]; exact Int.mul_ediv_cancel_left s h0, by rw [h1], by rw [h2], ?_⟩
  rw [h3, Int.mul_ediv_cancel_left s h0]
theorem power_bd {x y s m : Int} (bm : bd 100 m) (bx : bd 102 x) (b_y : bd 102 y) (bs : bd 102 s) : bd 500 (m * s + m * (m - 1) / 2 * x * y) := by
  have h1 : bd 101 (m - 1) := bd_sub bm (bd_le (n := 1) (by unfold bd; decide) (by decide))
  have h2 : bd 201 (m * (m - 1) / 2) := bd_div (bd_mulN bm h1)
  exact bd_le (bd_add (bd_le (m := 405) (bd_mulN bm bs) (by decide)) (bd_mulN (bd_mulN h2 bx) b_y)) (by decide)
/-- the rests tell whether there is a root -/
theorem rest_iff (x n : Int) : x % n = 0 ↔ n * (x / n) = x := by
  have h := Int.mul_ediv_add_emod x n
  omega
structure Def (K : PySem.W.Frag) (mg : Str → Option Value) (x : Str) (st : Stmt) (ps : List Str) (f : Addr) (fd : FuncData) : Prop where
  m : mg x = some (.ref f)
  F : Fun K x x st f fd
  b : Binds K fd ps []
/-! ### the greatest common divisor with its factors -/
def CDivX : Int → Int → Prop := fun _ j => j ≠ 0 ∧ j.natAbs.log2 < 9000
theorem op_fdivX {X : Cx} : OpR X (binaryOp .FloorDiv) (rI CDivX fun i j => .int (i.fdiv j)) :=
  opI fun _ _ _ _ _ _ _ hc q => PyProof.Rows.floordiv_int hc.1 q (Or.inl (PyProof.noPylong_of_log2 hc.2))
theorem cdivX {n : Nat} {i j : Int} (h : j ≠ 0) (hb : bd n j) (h0 : 0 < n) (h9 : n ≤ 9000) : CDivX i j := by
  refine ⟨h, ?_⟩
  have h1 : j.natAbs < 2 ^ n := hb
  have h2 : j.natAbs ≠ 0 := by omega
  have h3 : j.natAbs.log2 < n := (Nat.log2_lt h2).mpr h1
  omega
theorem fmod_abs {d r : Int} (h : r ≠ 0) : (d - d.fdiv r * r).natAbs < r.natAbs := by
  have e : d - d.fdiv r * r = d.fmod r := by
    have := Int.fdiv_mul_add_fmod d r
    omega
  rw [e]
  rcases Int.lt_or_gt_of_ne h with g | g
  · have h1 := Int.fmod_lt_of_pos (-d) (b := -r) (by omega)
    have h2 := Int.fmod_nonneg_of_pos (-d) (b := -r) (by omega)
    rw [Int.neg_fmod_neg] at h1 h2
    omega
  · have h1 := Int.fmod_lt_of_pos d g
    have h2 := Int.fmod_nonneg_of_pos d g
    omega
theorem same_fdiv {d r : Int} (h : (0 ≤ d ∧ 0 ≤ r) ∨ (d < 0 ∧ r < 0)) : d.fdiv r = ((d.natAbs / r.natAbs : Nat) : Int) := by
  rcases h with ⟨h1, h2⟩ | ⟨h1, h2⟩
  · obtain ⟨m, rfl⟩ := Int.eq_ofNat_of_zero_le h1
    obtain ⟨n, rfl⟩ := Int.eq_ofNat_of_zero_le h2
    rw [Int.fdiv_eq_ediv_of_nonneg _ (by omega)]
    simp
  · have e : d.fdiv r = (-d).fdiv (-r) := (Int.neg_fdiv_neg d r).symm
    obtain ⟨m, hm⟩ := Int.eq_ofNat_of_zero_le (show 0 ≤ -d by omega)
    obtain ⟨n, hn⟩ := Int.eq_ofNat_of_zero_le (show 0 ≤ -r by omega)
    rw [e, hm, hn, Int.fdiv_eq_ediv_of_nonneg _ (by omega)]
    have a1 : d.natAbs = m := by omega
    have a2 : r.natAbs = n := by omega
    rw [a1, a2]
    simp
/-- the same sign, where r is not 0 -/
def SameS (d r : Int) : Prop := (0 < d ∧ 0 ≤ r) ∨ (d < 0 ∧ r ≤ 0)
theorem fmod_same {d r : Int} (h : r ≠ 0) : SameS r (d - d.fdiv r * r) := by
  have e : d - d.fdiv r * r = d.fmod r := by
    have := Int.fdiv_mul_add_fmod d r
    omega
  rw [e]
  rcases Int.lt_or_gt_of_ne h with g | g
  · have h2 := Int.fmod_nonneg_of_pos (-d) (b := -r) (by omega)
    rw [Int.neg_fmod_neg] at h2
    exact .inr ⟨g, by omega⟩
  · exact .inl ⟨g, Int.fmod_nonneg_of_pos d g⟩
theorem same_split {d r : Int} (h : SameS d r) (hr : r ≠ 0) : (d - d.fdiv r * r).natAbs + (d.fdiv r).natAbs * r.natAbs = d.natAbs ∧ (d.fdiv r).natAbs * r.natAbs ≤ d.natAbs := by
  have hs : (0 ≤ d ∧ 0 ≤ r) ∨ (d < 0 ∧ r < 0) := by
    rcases h with h | h
    · exact .inl ⟨by omega, h.2⟩
    · exact .inr ⟨h.1, by omega⟩
  have e := same_fdiv hs
  have e2 : ((d.natAbs / r.natAbs : Nat) : Int).natAbs = d.natAbs / r.natAbs := rfl
  have hm := Nat.div_add_mod d.natAbs r.natAbs
  have hc := Nat.mul_comm r.natAbs (d.natAbs / r.natAbs)
  rw [e, e2]
  generalize d.natAbs / r.natAbs = T at *
  have hTle : T * r.natAbs ≤ d.natAbs := by omega
  refine ⟨?_, hTle⟩
  have hz : ((T * r.natAbs : Nat) : Int) = (T : Int) * (r.natAbs : Int) := Int.natCast_mul ..
  rcases hs with ⟨h1, h2⟩ | ⟨h1, h2⟩
  · have hr' : ((r.natAbs : Nat) : Int) = r := by omega
    rw [hr'] at hz
    omega
  · have hr' : ((r.natAbs : Nat) : Int) = -r := by omega
    rw [hr', Int.mul_neg] at hz
    omega
/-- how great factors get -/
def FacB (B : Nat) (d r p rp : Int) : Prop := p.natAbs * r.natAbs + rp.natAbs * d.natAbs ≤ B ∧ p.natAbs ≤ B + 1 ∧ rp.natAbs ≤ B + 1
theorem fac_step {B : Nat} {d r p rp : Int} (h : FacB B d r p rp) (hs : SameS d r) (hr : r ≠ 0) : FacB B r (d - d.fdiv r * r) rp (p - d.fdiv r * rp) := by
  obtain ⟨h1, h2, h3⟩ := h
  obtain ⟨e, _⟩ := same_split hs hr
  unfold FacB
  generalize d.fdiv r = t at *
  have g1 : (p - t * rp).natAbs ≤ p.natAbs + t.natAbs * rp.natAbs := by
    have := Int.natAbs_sub_le p (t * rp)
    rw [Int.natAbs_mul] at this
    exact this
  generalize (d - t * r).natAbs = R' at *
  generalize (p - t * rp).natAbs = P' at *
  have hR : 1 ≤ r.natAbs := by omega
  generalize r.natAbs = R at *
  generalize d.natAbs = D at *
  generalize rp.natAbs = RP at *
  generalize p.natAbs = P at *
  generalize t.natAbs = T at *
  have g2 : P' * R ≤ (P + T * RP) * R := Nat.mul_le_mul_right R g1
  have g3 : RP * R' + (P + T * RP) * R = P * R + RP * D := by
    rw [← e]
    grind
  have g4 : RP * R' + P' * R ≤ B := by omega
  have g5 : P' * 1 ≤ P' * R := Nat.mul_le_mul_left P' hR
  exact ⟨g4, h3, by omega⟩
/-- the state of the loop -/
def EuI (a b d r p q rp rq : Int) : Prop := d = p * a + q * b ∧ r = rp * a + rq * b ∧ Int.gcd d r = Int.gcd a b ∧ d.natAbs ≤ a.natAbs + b.natAbs ∧ r.natAbs ≤ a.natAbs + b.natAbs ∧
  ((d = a ∧ r = b ∧ p = 1 ∧ q = 0 ∧ rp = 0 ∧ rq = 1) ∨ (SameS d r ∧ FacB (a.natAbs + 2 * b.natAbs) d r p rp ∧ FacB (a.natAbs + 2 * b.natAbs) d r q rq))
theorem EuI.start (a b : Int) : EuI a b a b 1 0 0 1 := ⟨by omega, by omega, rfl, by omega, by omega, .inl ⟨rfl, rfl, rfl, rfl, rfl, rfl⟩⟩
theorem EuI.step {a b d r p q rp rq : Int} (h : EuI a b d r p q rp rq) (hr : r ≠ 0) : EuI a b r (d - d.fdiv r * r) rp rq (p - d.fdiv r * rp) (q - d.fdiv r * rq) := by
  obtain ⟨h1, h2, h3, h4, h5, h6⟩ := h
  have g := fmod_abs (d := d) hr
  refine ⟨h2, ?_, ?_, h5, by omega, .inr ⟨fmod_same hr, ?_⟩⟩
  · generalize d.fdiv r = t
    rw [h1, h2]
    grind
  · rw [Int.gcd_sub_mul_right_right, Int.gcd_comm]
    exact h3
  · rcases h6 with ⟨rfl, rfl, rfl, rfl, rfl, rfl⟩ | ⟨hs, f1, f2⟩
    · have e1 : (1 - d.fdiv r * 0) = 1 := by omega
      have e2 : (0 - d.fdiv r * 1) = - d.fdiv r := by omega
      have e3 : (d.fdiv r * r).natAbs ≤ d.natAbs + r.natAbs := by omega
      rw [Int.natAbs_mul] at e3
      have e4 : (d.fdiv r).natAbs * 1 ≤ (d.fdiv r).natAbs * r.natAbs := Nat.mul_le_mul_left _ (by omega)
      rw [e1, e2]
      unfold FacB
      refine ⟨⟨by simp; omega, by simp, by simp⟩, ⟨?_, by simp, by rw [Int.natAbs_neg]; omega⟩⟩
      rw [Int.natAbs_neg]
      simp
      omega
    · exact ⟨fac_step f1 hs hr, fac_step f2 hs hr⟩
theorem EuI.bds {n : Nat} {a b d r p q rp rq : Int} (h : EuI a b d r p q rp rq) (ha : bd n a) (hb : bd n b) : bd (n + 2) d ∧ bd (n + 2) r ∧ bd (n + 2) p ∧ bd (n + 2) q ∧ bd (n + 2) rp ∧ bd (n + 2) rq := by
  obtain ⟨h1, h2, h3, h4, h5, h6⟩ := h
  have ha' : a.natAbs < 2 ^ n := ha
  have hb' : b.natAbs < 2 ^ n := hb
  have e : 2 ^ (n + 2) = 4 * 2 ^ n := by rw [Nat.pow_add]; omega
  unfold bd
  rw [e]
  rcases h6 with ⟨rfl, rfl, rfl, rfl, rfl, rfl⟩ | ⟨hs, f1, f2⟩
  · refine ⟨by omega, by omega, ?_, ?_, ?_, ?_⟩ <;> simp <;> omega
  · obtain ⟨_, f3, f4⟩ := f1
    obtain ⟨_, f5, f6⟩ := f2
    refine ⟨by omega, by omega, by omega, by omega, by omega, by omega⟩
theorem EuI.done {a b d p q rp rq : Int} (h : EuI a b d 0 p q rp rq) : d = p * a + q * b ∧ d.natAbs = Int.gcd a b := by
  obtain ⟨h1, _, h3, _⟩ := h
  refine ⟨h1, ?_⟩
  rw [← h3, Int.gcd_zero_right]
theorem fdiv_abs (d r : Int) : (d.fdiv r).natAbs ≤ d.natAbs := PySem.natAbs_fdiv_le d r
/-- the loop's answer -/
def euG (d r p q rp rq : Int) : Int × Int × Int :=
  if h : r = 0 then (d, p, q) else euG r (d - d.fdiv r * r) rp rq (p - d.fdiv r * rp) (q - d.fdiv r * rq)
termination_by r.natAbs
decreasing_by exact fmod_abs h
theorem euG_ok {n : Nat} {a b : Int} (ha : bd n a) (hb : bd n b) (k : Nat) : ∀ {d r p q rp rq : Int}, r.natAbs ≤ k → EuI a b d r p q rp rq →
    (euG d r p q rp rq).1 = (euG d r p q rp rq).2.1 * a + (euG d r p q rp rq).2.2 * b ∧ (euG d r p q rp rq).1.natAbs = Int.gcd a b ∧ bd (n + 2) (euG d r p q rp rq).1 ∧ bd (n + 2) (euG d r p q rp rq).2.1 ∧ bd (n + 2) (euG d r p q rp rq).2.2 := by
  induction k with
  | zero =>
    intro d r p q rp rq hk h
    have hr : r = 0 := by omega
    subst hr
    rw [euG, dif_pos rfl]
    have hb' := h.bds ha hb
    have hd := h.done
    exact ⟨hd.1, hd.2, hb'.1, hb'.2.2.1, hb'.2.2.2.1⟩
  | succ k ih =>
    intro d r p q rp rq hk h
    by_cases hr : r = 0
    · subst hr
      rw [euG, dif_pos rfl]
      have hb' := h.bds ha hb
      have hd := h.done
      exact ⟨hd.1, hd.2, hb'.1, hb'.2.2.1, hb'.2.2.2.1⟩
    · rw [euG, dif_neg hr]
      have := fmod_abs (d := d) hr
      exact ih (by omega) (h.step hr)
def dvf (a b : Int) : Int × Int × Int := if (euG a b 1 0 0 1).1 < 0 then (-(euG a b 1 0 0 1).1, -(euG a b 1 0 0 1).2.1, -(euG a b 1 0 0 1).2.2) else euG a b 1 0 0 1
theorem dvf_ok {n : Nat} {a b : Int} (ha : bd n a) (hb : bd n b) : (dvf a b).1 = (dvf a b).2.1 * a + (dvf a b).2.2 * b ∧ (dvf a b).1 = (Int.gcd a b : Nat) ∧ bd (n + 2) (dvf a b).1 ∧ bd (n + 2) (dvf a b).2.1 ∧ bd (n + 2) (dvf a b).2.2 := by
  obtain ⟨h1, h2, h3, h4, h5⟩ := euG_ok ha hb b.natAbs (Nat.le_refl _) (EuI.start a b)
  unfold dvf
  by_cases h : (euG a b 1 0 0 1).1 < 0
  · rw [if_pos h]
    refine ⟨?_, ?_, bd_neg h3, bd_neg h4, bd_neg h5⟩
    · show -(euG a b 1 0 0 1).1 = -(euG a b 1 0 0 1).2.1 * a + -(euG a b 1 0 0 1).2.2 * b
      rw [Int.neg_mul, Int.neg_mul]
      omega
    · show -(euG a b 1 0 0 1).1 = _
      omega
  · rw [if_neg h]
    exact ⟨h1, by omega, h3, h4, h5⟩
/-! ### while; three names at once -/
theorem r_while {c : TT} {tb : TS} {D : Ends} {σ : L2.St} {H : Hp} (W : Nat → L2.St → Hp → Prop) (h0 : ∃ m, W m σ H)
    (hs : ∀ m σ H, W m σ H → c σ H fun b H1 => br b (∃ N : L2.St → Hp → Prop, (∀ σ' H', N σ' H' → ∃ m', m' < m ∧ W m' σ' H') ∧ tb { D with nx := N, ct := N, bk := D.nx } σ H1) (D.nx σ H1)) : tWhile c tb D σ H := ⟨W, h0, hs⟩
def kP3 (i j l : Nat) (D : Ends) (σ : L2.St) : List V → Hp → Prop := fun vs H => ∃ u v w, vs = [u, v, w] ∧ D.nx (((σ.set i (some u)).set j (some v)).set l (some w)) H
theorem r_p3 {i j l : Nat} {ta : TA} {D : Ends} {σ : L2.St} {H : Hp} (k : ta σ H (kP3 i j l D σ)) : L2.tPar3 i j l ta D σ H := k
theorem r_kP3 {i j l : Nat} {D : Ends} {σ : L2.St} {H : Hp} {u v w : V} (k : D.nx (((σ.set i (some u)).set j (some v)).set l (some w)) H) : kP3 i j l D σ [u, v, w] H := ⟨u, v, w, rfl, k⟩
def spDivF (K : PySem.W.Frag) : Sp := fun vs H Q _ => ∃ a b : Int, vs = [.int a, .int b] ∧ bd 700 a ∧ bd 700 b ∧
  ∀ r H', Fr [] H H' → SqT K H' r [.int (dvf a b).1, .int (dvf a b).2.1, .int (dvf a b).2.2] → Q (.ref r) H'
theorem use_divF {K : PySem.W.Frag} {H H0 : Hp} {M : List Addr} {Γ Θ : LS} {Q : VK} {a b : Int} {E : XK} (S : Sep K H0 M Γ Θ H) (ha : bd 700 a) (hb : bd 700 b)
    (k : ∀ r H', Sep K H0 M Γ ((r, [.int (dvf a b).1, .int (dvf a b).2.1, .int (dvf a b).2.2]) :: Θ) H' → Q (.ref r) H') : spDivF K [.int a, .int b] H Q E :=
  ⟨a, b, rfl, ha, hb, fun r H' f t => k r H' ((S.kept f).addT t)⟩
/-! ### likeness -/
def alikeV (x y s x' y' s' : Int) : Option (Int × Int × Int) :=
  if x = x' ∧ y = y' then
    if s' - s = 0 then some (0, 0, 0)
    else if (dvf y (-x)).1 = 0 then none
    else if (s' - s) % (dvf y (-x)).1 = 0 then some ((dvf y (-x)).2.1 * ((s' - s) / (dvf y (-x)).1), (dvf y (-x)).2.2 * ((s' - s) / (dvf y (-x)).1), 0)
    else none
  else none
def spAlike (K : PySem.W.Frag) : Sp := fun vs H Q _ => ∃ (a b : Addr) (x y s x' y' s' : Int), vs = [.ref a, .ref b] ∧ SqT K H a (mv x y s) ∧ SqT K H b (mv x' y' s') ∧ (bd 600 x ∧ bd 600 y ∧ bd 600 s ∧ bd 600 s') ∧
  (alikeV x y s x' y' s' = none → ∀ H', Fr [] H H' → Q .non H') ∧ (∀ u v z, alikeV x y s x' y' s' = some (u, v, z) → ∀ r H', Fr [] H H' → SqT K H' r (mv u v z) → Q (.ref r) H')
theorem use_alike {K : PySem.W.Frag} {H H0 : Hp} {M : List Addr} {Γ Θ : LS} {Q : VK} {a b : Addr} {x y s x' y' s' : Int} {E : XK} (S : Sep K H0 M Γ Θ H) (ha : (a, mv x y s) ∈ Θ) (hb : (b, mv x' y' s') ∈ Θ) (o : bd 600 x ∧ bd 600 y ∧ bd 600 s ∧ bd 600 s')
    (k1 : alikeV x y s x' y' s' = none → ∀ H', Sep K H0 M Γ Θ H' → Q .non H') (k2 : ∀ u v z, alikeV x y s x' y' s' = some (u, v, z) → ∀ r H', Sep K H0 M Γ ((r, mv u v z) :: Θ) H' → Q (.ref r) H') : spAlike K [.ref a, .ref b] H Q E :=
  ⟨a, b, x, y, s, x', y', s', rfl, S.tp ha, S.tp hb, o, fun e H' f => k1 e H' (S.kept f), fun u v z e r H' f t => k2 u v z e r H' ((S.kept f).addT t)⟩
theorem eqv2 {x y x' y' : Int} : PyData.eqv (.tuple [.int x, .int y]) (.tuple [.int x', .int y']) = decide (x = x' ∧ y = y') := by
  by_cases h1 : x = x' <;> by_cases h2 : y = y' <;> simp [PyData.eqv, PyData.eqvAll, h1, h2]
/-- what alike tells does it: the gap of what is told and the move is what the area lacks -/
theorem alikeV_some {x y s x' y' s' u v z : Int} (bx : bd 600 x) (b_y : bd 600 y) (h : alikeV x y s x' y' s' = some (u, v, z)) : x = x' ∧ y = y' ∧ u * y - v * x = s' - s ∧ z = 0 := by
  unfold alikeV at h
  split at h
  · rename_i h1
    split at h
    · cases h
      exact ⟨h1.1, h1.2, by omega, rfl⟩
    · split at h
      · cases h
      · split at h
        · rename_i h2 h3 h4
          cases h
          refine ⟨h1.1, h1.2, ?_, rfl⟩
          obtain ⟨e, _⟩ := dvf_ok b_y (bd_neg bx)
          have e3 := Int.mul_ediv_add_emod (s' - s) (dvf y (-x)).1
          rw [h4] at e3
          generalize (s' - s) / (dvf y (-x)).1 = t at *
          rw [e] at e3
          generalize (dvf y (-x)).2.1 = P at *
          generalize (dvf y (-x)).2.2 = W at *
          grind
        · cases h
  · cases h
/-! ### the greatest common divisor by rests, in a counted loop -/
def ShI (a b : Int) (i : Nat) (u v : Nat) : Prop := Nat.gcd u v = Int.gcd a b ∧ (u < 2 ^ 600 ∧ v < 2 ^ 600) ∧ ((i = 0 ∧ u * v < 2 ^ 1200) ∨ (1 ≤ i ∧ v < u ∧ u * v * 2 ^ (i - 1) < 2 ^ 1200))
theorem ShI.start {a b : Int} (ha : bd 600 a) (hb : bd 600 b) : ShI a b 0 a.natAbs b.natAbs := by
  have e : (2 : Nat) ^ 1200 = 2 ^ 600 * 2 ^ 600 := by rw [← Nat.pow_add]
  have ha' : a.natAbs < 2 ^ 600 := ha
  have hb' : b.natAbs < 2 ^ 600 := hb
  refine ⟨rfl, ⟨ha', hb'⟩, .inl ⟨rfl, ?_⟩⟩
  rw [e]
  generalize 2 ^ 600 = T at *
  exact Nat.mul_lt_mul_of_lt_of_le ha' (Nat.le_of_lt hb') (by omega)
theorem ShI.step {a b : Int} {i u v : Nat} (h : ShI a b i u v) (hv : v ≠ 0) : ShI a b (i + 1) v (u % v) := by
  obtain ⟨h1, ⟨h2, h3⟩, h4⟩ := h
  have hlt : u % v < v := Nat.mod_lt _ (by omega)
  have hle : u % v ≤ u := Nat.mod_le _ _
  refine ⟨?_, ⟨h3, by omega⟩, .inr ⟨by omega, hlt, ?_⟩⟩
  · rw [← h1, Nat.gcd_comm u v, Nat.gcd_rec v u, Nat.gcd_comm]
  · show v * (u % v) * 2 ^ i < 2 ^ 1200
    rcases h4 with ⟨h5, h6⟩ | ⟨h5, h6, h7⟩
    · subst h5
      have e1 : v * (u % v) ≤ v * u := Nat.mul_le_mul_left v hle
      have e2 := Nat.mul_comm u v
      generalize 2 ^ 1200 = T at *
      omega
    · have e : 2 ^ i = 2 ^ (i - 1) * 2 := by rw [← Nat.pow_succ]; congr 1; omega
      have e1 : 2 * (u % v) ≤ u := by
        have := Nat.mod_add_div u v
        have h8 : 1 ≤ u / v := Nat.div_pos (by omega) (by omega)
        have h9 : v * 1 ≤ v * (u / v) := Nat.mul_le_mul_left v h8
        omega
      have e2 : v * (2 * (u % v)) ≤ v * u := Nat.mul_le_mul_left v e1
      have e3 : v * (u % v) * 2 ^ i = v * (2 * (u % v)) * 2 ^ (i - 1) := by rw [e]; grind
      rw [e3]
      rw [Nat.mul_comm u v] at h7
      exact Nat.lt_of_le_of_lt (Nat.mul_le_mul_right _ e2) h7
theorem ShI.done {a b : Int} {u v : Nat} (h : ShI a b 3000 u v) : v = 0 := by
  obtain ⟨_, _, h4⟩ := h
  rcases h4 with ⟨h5, _⟩ | ⟨_, h6, h7⟩
  · cases h5
  · apply Decidable.byContradiction
    intro hv
    have e0 : 1 ≤ u * v := Nat.mul_pos (by omega) (by omega)
    have e1 : 1 * 2 ^ (3000 - 1) ≤ u * v * 2 ^ (3000 - 1) := Nat.mul_le_mul_right _ e0
    have e2 : (2 : Nat) ^ 1200 ≤ 2 ^ (3000 - 1) := Nat.pow_le_pow_right (by decide) (by decide)
    generalize 2 ^ (3000 - 1) = T at *
    generalize 2 ^ 1200 = U at *
    omega
theorem ShI.gcd {a b : Int} {i u : Nat} (h : ShI a b i u 0) : (u : Int) = (Int.gcd a b : Nat) := by
  rw [← h.1, Nat.gcd_zero_right]
theorem ShI.bds {a b : Int} {i u v : Nat} (h : ShI a b i u v) : bd 600 (u : Int) ∧ bd 600 (v : Int) := h.2.1
def spShared (_K : PySem.W.Frag) : Sp := fun vs H Q _ => ∃ a b : Int, vs = [.int a, .int b] ∧ bd 600 a ∧ bd 600 b ∧ ∀ H', Fr [] H H' → Q (.int (Int.gcd a b : Nat)) H'
theorem use_shared {K : PySem.W.Frag} {H H0 : Hp} {M : List Addr} {Γ Θ : LS} {Q : VK} {a b : Int} {E : XK} (S : Sep K H0 M Γ Θ H) (ha : bd 600 a) (hb : bd 600 b)
    (k : ∀ H', Sep K H0 M Γ Θ H' → Q (.int (Int.gcd a b : Nat)) H') : spShared K [.int a, .int b] H Q E := ⟨a, b, rfl, ha, hb, fun H' f => k H' (S.kept f)⟩
theorem bd_gcd {n : Nat} {a b : Int} (ha : bd n a) (hb : bd n b) : bd (n + 1) ((Int.gcd a b : Nat) : Int) := by
  have ha' : a.natAbs < 2 ^ n := ha
  have hb' : b.natAbs < 2 ^ n := hb
  have h : Int.gcd a b ≤ a.natAbs + b.natAbs := by
    show Nat.gcd a.natAbs b.natAbs ≤ _
    by_cases h0 : a.natAbs = 0
    · rw [h0, Nat.gcd_zero_left]
      omega
    · have := Nat.gcd_le_left b.natAbs (by omega : 0 < a.natAbs)
      omega
  have e : (2 : Nat) ^ (n + 1) = 2 * 2 ^ n := by rw [Nat.pow_succ]; omega
  show ((Int.gcd a b : Nat) : Int).natAbs < 2 ^ (n + 1)
  rw [e]
  generalize 2 ^ n = T at *
  omega
abbrev spBack (K : PySem.W.Frag) : Sp := spM1 K (fun x y _ => bd 4000 x ∧ bd 4000 y) (fun x _ _ => 0 - x) (fun _ y _ => 0 - y) (fun x y s => x * y - s)
abbrev spAround (K : PySem.W.Frag) : Sp := spMM K (fun x y _ x' y' _ => bd 3000 x ∧ bd 3000 y ∧ bd 3000 x' ∧ bd 3000 y') (fun x _ _ x' _ _ => x + x' + (0 - x)) (fun _ y _ _ y' _ => y + y' + (0 - y)) (fun x y s x' y' s' => s + s' + x * y' + (x * y - s) + (x + x') * (0 - y))
def spPair (K : PySem.W.Frag) : Sp := fun vs H Q _ => ∃ (w : Addr) (l : List V), vs = [.ref w] ∧ H w = some (.lst l) ∧ WellD l ∧
  ∀ (r t1 t2 : Addr) (x y s x' y' s' : Int) (H' : Hp) (l' : List V), (bd 300 x ∧ bd 300 y ∧ bd 300 s ∧ bd 300 x' ∧ bd 300 y' ∧ bd 300 s') → WellD l' → H' w = some (.lst l') → Fr [w] H H' → SqT K H' t1 (mv x y s) → SqT K H' t2 (mv x' y' s') → SqT K H' r [.ref t1, .ref t2] → Q (.ref r) H'
theorem use_pair {K : PySem.W.Frag} {H H0 : Hp} {M : List Addr} {Γ Γ' Θ : LS} {Q : VK} {w : Addr} {l : List V} {E : XK} (S : Sep K H0 M Γ Θ H) (hm : Pick w l Γ Γ') (hw : w ∈ M ∨ H0 w = none) (hl : WellD l)
    (k : ∀ r t1 t2 x y s x' y' s' l' H', (bd 300 x ∧ bd 300 y ∧ bd 300 s ∧ bd 300 x' ∧ bd 300 y' ∧ bd 300 s') → WellD l' → Sep K H0 M ((w, l') :: Γ') ((r, [.ref t1, .ref t2]) :: (t1, mv x y s) :: (t2, mv x' y' s') :: Θ) H' → Q (.ref r) H') : spPair K [.ref w] H Q E :=
  ⟨w, l, rfl, S.at hm, hl, fun r t1 t2 x y s x' y' s' H' l' b c d e f g h => k r t1 t2 x y s x' y' s' l' H' b c ((((S.mut hm hw e d).addT g).addT f).addT h)⟩
theorem around_is (x y s x' y' s' : Int) : x + x' + (0 - x) = x' ∧ y + y' + (0 - y) = y' ∧ s + s' + x * y' + (x * y - s) + (x + x') * (0 - y) = s' + (x * y' - x' * y) := by
  refine ⟨by omega, by omega, ?_⟩
  grind
theorem around_bd {x y s x' y' s' : Int} (h1 : bd 102 x) (h2 : bd 102 y) (h4 : bd 102 x') (h5 : bd 102 y') (h6 : bd 102 s') :
    bd 300 (x + x' + (0 - x)) ∧ bd 300 (y + y' + (0 - y)) ∧ bd 300 (s + s' + x * y' + (x * y - s) + (x + x') * (0 - y)) := by
  obtain ⟨e1, e2, e3⟩ := around_is x y s x' y' s'
  rw [e1, e2, e3]
  exact ⟨bd_le h4 (by decide), bd_le h5 (by decide), bd_le (bd_add (n := 205) (bd_le h6 (by decide)) (bd_sub (bd_mulN h1 h5) (bd_mulN h4 h2))) (by decide)⟩
theorem r_neBB {a b : Bool} {Q : VK} {H : Hp} (k : Q (.bl (!decide (a = b))) H) : rNe (.bl a) (.bl b) H Q := ⟨rfl, by
  have e : decide (V.bl a = V.bl b) = decide (a = b) := by cases a <;> cases b <;> rfl
  rw [e]
  exact k⟩
/-- when two moves are alike -/
def DueP (x y s x' y' s' : Int) : Prop := (x = x' ∧ y = y') ∧ (((Int.gcd x y : Nat) : Int) = 0 → s' - s = 0) ∧ (((Int.gcd x y : Nat) : Int) ≠ 0 → (s' - s) % ((Int.gcd x y : Nat) : Int) = 0)
theorem DueP.symm {x y s x' y' s' : Int} (h : DueP x y s x' y' s') : DueP x' y' s' x y s := by
  obtain ⟨⟨rfl, rfl⟩, h1, h2⟩ := h
  refine ⟨⟨rfl, rfl⟩, fun h => ?_, fun h => ?_⟩
  · have := h1 h
    omega
  · have h3 := Int.dvd_of_emod_eq_zero (h2 h)
    have h4 : s - s' = -(s' - s) := by omega
    rw [h4]
    exact Int.emod_eq_zero_of_dvd ((Int.dvd_neg).mpr h3)
theorem due_symm {x y s x' y' s' : Int} : DueP x y s x' y' s' ↔ DueP x' y' s' x y s := ⟨DueP.symm, DueP.symm⟩
theorem alikeV_none {x y s x' y' s' : Int} (bx : bd 600 x) (b_y : bd 600 y) : alikeV x y s x' y' s' = none ↔ ¬ DueP x y s x' y' s' := by
  obtain ⟨_, e2, _⟩ := dvf_ok b_y (bd_neg bx)
  rw [Int.gcd_neg, Int.gcd_comm] at e2
  unfold alikeV DueP
  rw [e2]
  generalize ((Int.gcd x y : Nat) : Int) = g at *
  by_cases h1 : x = x' ∧ y = y'
  · rw [if_pos h1]
    by_cases h2 : s' - s = 0
    · rw [if_pos h2, h2]
      simp [h1]
    · rw [if_neg h2]
      by_cases h3 : g = 0
      · rw [if_pos h3]
        simp [h1, h2, h3]
      · rw [if_neg h3]
        by_cases h4 : (s' - s) % g = 0
        · rw [if_pos h4]
          simp [h1, h3, h4]
        · rw [if_neg h4]
          simp [h1, h3, h4]
  · rw [if_neg h1]
    simp only [true_iff]
    exact fun z => h1 z.1
theorem alikeV_self (x y s : Int) : alikeV x y s x y s = some (0, 0, 0) := by
  unfold alikeV
  rw [if_pos ⟨rfl, rfl⟩, if_pos (by omega)]
theorem alikeV_bd {x y s x' y' s' u v z : Int} (bx : bd 600 x) (b_y : bd 600 y) (bs : bd 600 s) (bs' : bd 600 s') (h : alikeV x y s x' y' s' = some (u, v, z)) : bd 1300 u ∧ bd 1300 v := by
  have b0 : bd 1300 (0 : Int) := by
    show (0 : Int).natAbs < 2 ^ 1300
    exact Nat.lt_of_lt_of_le (show 0 < 1 by decide) (Nat.one_le_two_pow)
  obtain ⟨_, _, _, b2, b3⟩ := dvf_ok b_y (bd_neg bx)
  unfold alikeV at h
  split at h
  · split at h
    · cases h
      exact ⟨b0, b0⟩
    · split at h
      · cases h
      · split at h
        · cases h
          exact ⟨bd_le (bd_mulN b2 (bd_div (bd_sub bs' bs))) (by decide), bd_le (bd_mulN b3 (bd_div (bd_sub bs' bs))) (by decide)⟩
        · cases h
  · cases h
end Z

/-! ### defs that show data as text: nothing is being shown around them -/
namespace Z
open PySem PySem.Spec PyProof.Rows L2
/-- a def keeps its promise wherever nothing is being shown -/
structure GOk (P : Program) (w : World) (K : PySem.W.Frag) (mg : Str → Option Value) (base : Heap) (k : Nat) (f : Addr) (fd : FuncData) (ps : List Str) (sp : Sp) : Prop where
  len : ∀ vs H Q E, sp vs H Q E → vs.length = ps.length
  go : ∀ (A : Around) (fr : List Env) (st : Shared) (H : Hp) (us : List Value) (vs : List V) (Q : VK) (E : XK), A.guards = some [] → Room k A → Env0 P w K mg base A fr st H →
    BindsTo st fd ⟨us, []⟩ (ps.zip us) → Vals vs us → sp vs H Q E → codeAny (model P w) A (.call (.ref f) ⟨us, []⟩) (CR CX0 fr P w H st Q E) st
section
variable {P : Program} {w : World} {K : PySem.W.Frag} {mg : Str → Option Value} {base : Heap}
theorem GOk.of {x qual : Str} {st : Stmt} {f : Addr} {fd : FuncData} {N ps : List Str} {k : Nat} {sp : Sp} (D : Fun K x qual st f fd) (S : FnScope N ps (defScope st)) (len : ∀ vs H Q E, sp vs H Q E → vs.length = ps.length)
    (body : ∀ (cdv : Value) (A : Around) (fr : List Env) (s : Shared) (H : Hp) (vs : List V) (Q : VK) (E : XK), A.guards = some [] → Room k (A.deeper (envOfC qual (defScope st) s.heap.objs.size f cdv)) → sp vs H Q E →
      ∃ t, PSs (cxOf CX0 P w K mg base N qual (defScope st) f cdv A fr s H E).nox (defBody st) t ∧ t { nx := fun _ H' => Q .non H', rt := Q } (start N vs) H) : GOk P w K mg base (k + 1) f fd ps sp := by
  obtain ⟨c0, c1, c2, c3, c4, c5, cd, c7, c8, rfl, at_f, is_c⟩ := D.ex
  refine ⟨len, fun A fr s1 H us vs Q E gd rm en bi rv sv => ?_⟩
  have n1 := len _ _ _ _ sv
  have inK : K.In s1.heap := en.mod.kin.keeps fun y o e => (en.bs y o e).1
  have free : s1.heap.NoLimit := en.mod.nolimit.keeps fun y o e => (en.bs y o e).1
  have kinds : ∀ y ∈ ps.zip us, (defScope st).names.lookup y.1 = some .local ∨ ((defScope st).names.lookup y.1 = some .cell ∧ ((cellsFrom (s1.heap.objs.size + 1) (defScope st).names []).lookup y.1).isSome = true) := by
    rintro ⟨n, v⟩ hy
    rcases S.par n (List.of_mem_zip hy).1 with z | z
    · exact Or.inl z
    · exact Or.inr ⟨z, PySem.W.cellsFrom_some _ _ _ (Or.inl z)⟩
  refine codeAny_call_function rm.depth (inK _ _ at_f) rfl S.co S.gen rfl (PySem.W.codeRec_of inK is_c) (bi _ _ _ _ ?_)
  refine wpAny_newFunctionEnv_cells S.kind kinds fun env eenv s2 laid => ?_
  subst eenv
  refine ⟨free.keeps laid.toInCall.keep, codeAny_func ?_⟩
  obtain ⟨t, ht, q0⟩ := body cd A fr s1 H vs Q E gd (rm.deeper _) sv
  have I := inv_start (CX := CX0) (E := E) S rm.hd en n1 rv laid
  refine wpAny_mono (ht.nox.run [] s2 (start N vs) H _ I q0) (fun fl s3 z => ?_) fun e s3 z => z
  cases fl with
  | ret u =>
    obtain ⟨v, σ', H', J, rv2, q2⟩ := z
    exact ⟨v, H', J.os, J.bare, J.base, J.hok, rv2, q2⟩
  | next =>
    obtain ⟨σ', H', J, q2⟩ := z
    exact ⟨V.non, H', J.os, J.bare, J.base, J.hok, rfl, q2⟩
  | brk =>
    obtain ⟨_, _, _, z⟩ := z
    exact z.elim
  | cont =>
    obtain ⟨_, _, _, z⟩ := z
    exact z.elim
end
section
variable {X : Cx} {k : Nat} {f : Addr} {fd : FuncData} {ps : List Str} {sp : Sp} {x : Str} {p pos : Pos} {e : Expr} {es : List Expr} {t : TA}
/-- its call, where nothing is being shown -/
theorem pe_callG (F : GOk X.prog X.w X.K X.mg X.base k f fd ps sp) (gd : X.A.guards = some []) (rm : Room k X.A) (hg : Gl X x) (hm : X.mg x = some (.ref f)) (hk : PySem.W.keepIn X.K (.ref f) = true) (hb : Binds X.K fd ps [])
    (ha : PA X (e :: es) t) (h1 : (x == ("__debug__" : Str)) = false := by decide) (h2 : starEach (e :: es) X.env = (false, eval e X.env) :: starEach es X.env := by rfl) (h3 : (backTo pos (starEach es X.env)).any (·.1) = false := by rfl) :
    PE X (.Call (.Name x p) (e :: es) [] pos) (tCall sp [] E0 t) := by
  refine ⟨fun pins s σ H Q I q => ?_⟩
  refine wpAny_Call_Name_kw (ld_glob I hg hm ?_ h1)
  refine PySem.W.callWith_K (h₀ := X.base) I.ok.mod.kin hk (thn (ha.run pos pins s σ H _ I q) fun us s1 ⟨vs, H1, I1, rv, z⟩ => ⟨I1.kIn, ?_⟩) h2 h3
  have z : sp vs H1 Q E0 := by
    have y : sp (vs ++ []) H1 Q E0 := z
    rw [List.append_nil] at y
    exact y
  have n1 : us.length = ps.length := rv.length.symm.trans (F.len _ _ _ _ z)
  have bi := hb s1 us I1.kIn (by rw [List.append_nil]; exact n1)
  rw [List.append_nil] at bi
  refine wpAny_call (codeAny_mono (F.go X.A X.stack s1 H1 us vs Q E0 gd rm I1.env0 bi rv z) fun r s2 z2 => ?_)
  cases r with
  | error e => exact z2.elim
  | ok fl =>
    cases fl with
    | ret u => exact I1.after z2
    | next => exact z2.elim
    | brk => exact z2.elim
    | cont => exact z2.elim
end
section
variable {P : Program} {w : World} {K : PySem.W.Frag} {mg mb : Str → Option Value} {k : Nat} {fa a : Addr} {fd : FuncData} {x : Str} {sp : Sp} {s1 : Shared} {vs : List Value} {ns : List Int}
/-- the law's own call: around it nothing is being shown -/
theorem callG (inK : K.In s1.heap) (atG : s1.heap.Ns mainGlobals mg) (atB : s1.heap.Ns builtinsNs mb) (isB : ∀ x : Str, x ≠ "__name__" → mb x = bootBuiltins x) (free : s1.heap.NoLimit) (noG : s1.gens = #[])
    (at_a : s1.heap.get? a = some { cls := .type "list", data := .seq vs.toArray }) (inz : IntsAre vs ns) (few : ns.length ≤ sizeLine) (rm : Room k callerA)
    (F : ∀ base : Heap, K.In base → base.Ns mainGlobals mg → GOk P w K mg base k fa fd [x] sp) (bi : ∀ (s : Shared) (u : Value), BindsTo s fd ⟨[u], []⟩ [(x, u)])
    (say : ∀ H : Hp, Only H → SqL K H a (ns.map V.int) → sp [.ref a] H (fun v _ => v = .bl true) fun _ _ _ => False) :
    codeAny (model P w) callerA (.call (.ref fa) ⟨[.ref a], []⟩) (fun r s' => r = .ok (.ret (.bool true)) ∧ OldK s1.heap s'.heap ∧ s'.os = s1.os ∧ AllBare s'.gens) s1 := by
  have rv := vals_ints inz
  have nV := inz.length
  have main : ∀ H : Hp, Only H → SqL K H a (ns.map V.int) → HOk P w H s1.heap → (∀ y, H y ≠ none → y = a) → (H a ≠ none → K.lookup a = none) →
      codeAny (model P w) callerA (.call (.ref fa) ⟨[.ref a], []⟩) (fun r s' => r = .ok (.ret (.bool true)) ∧ OldK s1.heap s'.heap ∧ s'.os = s1.os ∧ AllBare s'.gens) s1 := by
    intro H only sq okH alone notK
    have back : ∀ {y : Addr} {o : Obj}, s1.heap.get? y = some o → H y = none → (hidT s1.heap H).get? y = some o := fun e n => hidT_get e n
    have dictN : ∀ {y : Addr} {o : Obj} {es : Array DictEntry} {ep : Nat}, s1.heap.get? y = some o → o.data = .dict es ep → H y = none := by
      intro y o es ep e d
      by_cases hy : H y = none
      · exact hy
      · have ey := alone y hy
        subst ey
        rw [at_a] at e
        cases e
        exact nomatch (show Data.seq vs.toArray _ = Data.dict es ep from d)
    have nsN : ∀ {y : Addr} {m : Str → Option Value}, s1.heap.Ns y m → (hidT s1.heap H).Ns y m := by
      rintro y m ⟨o, es, ep, e, d, rest⟩
      exact ⟨o, es, ep, back e (dictN e d), d, rest⟩
    have kH : K.In (hidT s1.heap H) := by
      intro y o e
      refine back (inK y o e) ?_
      by_cases hy : H y = none
      · exact hy
      · have ey := alone y hy
        subst ey
        rw [notK hy] at e
        cases e
    have md : Mod K mg (hidT s1.heap H) := by
      obtain ⟨mc, u1, u2⟩ := free
      exact ⟨kH, nsN atG, ⟨mb, nsN atB, isB⟩, ⟨mc, nsN u1, u2⟩⟩
    have en : Env0 P w K mg (hidT s1.heap H) callerA [] s1 H := ⟨rfl, md, fun y o e => of_hidT e, Nat.le_of_eq (hidT_size _ _), trivial, (fun y hy => nomatch hy), okH, .of_eq noG⟩
    refine codeAny_mono ((F _ kH (nsN atG)).go callerA [] s1 H [.ref a] [.ref a] _ _ rfl rm en (bi s1 (.ref a)) (.cons rfl .nil) (say H only sq)) fun r s2 z => ?_
    cases r with
    | error e => exact z.elim
    | ok fl =>
      cases fl with
      | next => exact z.elim
      | brk => exact z.elim
      | cont => exact z.elim
      | ret u =>
        obtain ⟨v, H2, os2, bare2, un2, ok2, rv2, q2⟩ := z
        have q3 : v = .bl true := q2
        subst q3
        have eu : u = Value.bool true := rv2
        subst eu
        refine ⟨rfl, OldK.of_keep fun y o e => ?_, os2, bare2⟩
        rcases only y with z | ⟨ob, xs, z⟩
        · exact un2.keep y o e z (fun h => nomatch h) (fun h => nomatch h)
        · obtain ⟨e1, _⟩ := okH y _ z
          obtain ⟨e2, _⟩ := ok2 y _ (un2.frzs y ob _ z)
          rw [e] at e1
          cases e1
          exact e2
  cases hk : K.lookup a with
  | some o =>
    have e := inK a o hk
    rw [at_a] at e
    cases e
    refine main (fun _ => none) (fun _ => Or.inl rfl) (Or.inr ⟨_, vs.toArray, _, hk, rfl, rfl, rfl, ?_, ?_⟩) (fun y u z => (nomatch z)) (fun y z => (z rfl).elim) fun z => (z rfl).elim
    · rw [List.size_toArray, nV]
      exact few
    · simpa using rv
  | none =>
    have here : (fun y => if y = a then some (HO.frz { cls := .type "list", data := .seq vs.toArray } (.lst (ns.map V.int))) else none) a = some (HO.frz { cls := .type "list", data := .seq vs.toArray } (.lst (ns.map V.int))) := if_pos rfl
    refine main (fun y => if y = a then some (HO.frz { cls := .type "list", data := .seq vs.toArray } (.lst (ns.map V.int))) else none) (fun y => ?_) (Or.inl (Or.inr ⟨_, here⟩)) (fun y u z => ?_) (fun y z => ?_) fun _ => hk
    · by_cases hy : y = a
      · exact Or.inr ⟨_, _, if_pos hy⟩
      · exact Or.inl (if_neg hy)
    · by_cases hy : y = a
      · subst hy
        rw [here] at z
        cases z
        exact ⟨at_a, by rw [List.length_map]; exact few, vs, _, rv, at_a⟩
      · exact nomatch (if_neg hy).symm.trans z
    · by_cases hy : y = a
      · exact hy
      · exact (z (if_neg hy)).elim
end
theorem walkG {l : PySem.W.OpenLaw} {n k : Nat} {q : Program} {loose : List Str} {XP : (Str → Option Value) → Heap → Prop} {YP : World → Heap → Prop} {d : DefRec} {K : Params → PySem.W.Frag} {sp : World → Sp} {x : Str}
    (hn : l.most = some n) (few : n ≤ sizeLine) (hdf : d.params.defaults = []) (rm : Room k callerA) (hY : ∀ (w : World) (h : Heap), YP w h → (K w.params).In h)
    (F : ∀ (w : World) (mg : Str → Option Value) (fa : Addr) (h : Heap), (K w.params).In h → h.Ns mainGlobals mg → mg d.name = some (.ref fa) →
      ∃ fd : FuncData, (∀ (s : Shared) (u : Value), BindsTo s fd ⟨[u], []⟩ [(x, u)]) ∧ ∀ base : Heap, (K w.params).In base → base.Ns mainGlobals mg → GOk l.prog w (K w.params) mg base k fa fd [x] (sp w))
    (say : ∀ (w : World) (H : Hp) (a : Addr) (ns : List Int), ns.length ≤ n → Only H → SqL (K w.params) H a (ns.map V.int) → sp w [.ref a] H (fun v _ => v = .bl true) fun _ _ _ => False) :
    PySem.W.WalkO q loose XP YP l.row.toRowW d [] (fun f vs => PySem.call f vs) := by
  refine Att.attach_call hn hdf fun w s0 s1 mg mb fa o pm cd doc a vs ns G Y ho hd hcd hmg obj inz len noG => ?_
  have KX := hY w _ Y
  obtain ⟨fd, bi, hF⟩ := F w mg fa _ KX G.T.g hmg
  exact callG KX G.T.g G.T.b G.T.builtins G.T.nolimit noG obj inz (Nat.le_trans len few) rm hF bi fun H only sq => say w H a ns len only sq

/-! ### repr of data -/
def rRepr (K : PySem.W.Frag) : List V → Hp → VK → Prop := fun xs H Q => ∃ x d, xs = [x] ∧ Dp K H x d ∧ d.showable = true ∧ d.hasDict = false ∧ d.depth ≤ 30 ∧ d.shown.length ≤ sizeLine ∧ Q (.str d.shown) H
theorem z_repr {X : Cx} (gd : X.A.guards = some []) (hu : X.A.units + 64 < cLine) : CallR X (.builtin "repr") (rRepr X.K) := by
  intro pins s σ H xs us Q I r h
  obtain ⟨x, d, rfl, dp, sh, nd, dd, sz, q⟩ := h
  obtain ⟨u, rfl, rx⟩ := vals1 r
  obtain ⟨as, rd⟩ := Dp.reads I d x u dp rx
  cases x with
  | ref a =>
    have eu : u = Value.ref a := rx
    subst eu
    refine repr_of_reads' rd sh (fun z => by rw [nd] at z; cases z) gd (by omega) (fun _ _ e => e) (fun h' t tk kp => ?_) sz
    exact ⟨.str d.shown, H, I.kept kp, ⟨t, rfl⟩, q⟩
  | non =>
    cases dp
    have eu : u = Value.none := rx
    subst eu
    exact PySem.P.repr_of_none ⟨V.str _, H, I.tok _, ⟨_, rfl⟩, q⟩
  | bl b =>
    cases dp
    have eu : u = Value.bool b := rx
    subst eu
    exact PySem.P.repr_of_bool ⟨V.str _, H, I.tok _, ⟨_, rfl⟩, q⟩
  | int i =>
    cases dp
    obtain ⟨t, rfl⟩ := rx
    exact PySem.P.repr_of_int (of_decide_eq_true sh) ⟨V.str _, H, I.tok _, ⟨_, rfl⟩, q⟩
  | str x =>
    cases dp
    obtain ⟨t, rfl⟩ := rx
    exact PySem.P.repr_of_str ⟨V.str _, H, I.tok _, ⟨_, rfl⟩, q⟩ sz
  | byt b => cases dp
  | flt b => cases dp
  | ty b => cases dp
theorem r_repr {K : PySem.W.Frag} {x : V} {d : PyData} {H : Hp} {Q : VK} (h : Dp K H x d) (h1 : d.showable = true) (h2 : d.hasDict = false) (h3 : d.depth ≤ 30) (h4 : d.shown.length ≤ sizeLine) (k : Q (.str d.shown) H) : rRepr K [x] H Q := ⟨x, d, rfl, h, h1, h2, h3, h4, k⟩
theorem shown_b (a : Bool) : (PyData.bool a).shown.length ≤ sizeLine := by cases a <;> decide +kernel
theorem shown_b3 (a b c : Bool) : (PyData.list [.bool a, .bool b, .bool c]).shown.length ≤ sizeLine := by cases a <;> cases b <;> cases c <;> decide +kernel
end Z

/-! A reading of defs as functions: trees for what never changes, a store for what does. -/
namespace E
open PySem L2

/-- a value as a tree; loc: a place of the store; raw: a known address -/
inductive D where
  | non | bl (b : Bool) | int (i : Int) | str (x : Str) | ty (n : String) | raw (a : Addr) | loc (n : Nat)
  | tup (xs : List D) | lst (xs : List D) | frz (xs : List D) | dct (ks : List Key) (vs : List D)
  | cls (nm : Str) | ins (nm : Str) (ns : List Str) (vs : List D)
/-- what may change -/
inductive O where
  | lst (xs : List D)
  | ins (nm : Str) (ns : List Str) (vs : List D)
  | dead
/-- an exception -/
inductive Er where
  | own (c : Addr) (fs : List (Str × D))
  | ty (n : String)
inductive Res (α : Type) where
  | ok (a : α) (S : List O)
  | err (e : Er) (S : List O)
  | no
abbrev M (α : Type) := List O → Res α
/-- carries a continuation, so that rewriting stays out of it -/
inductive Tg {α : Sort u} (a : α) : Type where
  | mk : Tg a
def Res.bind {α β : Type} (m : Res α) (k : α → List O → Res β) (_t : Tg k := .mk) : Res β :=
  match m with
  | .ok a S => k a S
  | .err e S => .err e S
  | .no => .no

/-- the places' addresses; what of the heap is fixed -/
structure W where
  m : List Addr
  F : Hp

/-- the class of a name -/
def ClsN (K : PySem.W.Frag) (nm : Str) (C : Addr) : Prop := PySem.W.nsIn K mainGlobals nm = some (some (.ref C))
mutual
def RD (K : PySem.W.Frag) (w : W) : D → V → Prop
  | .non, v => v = .non
  | .bl b, v => v = .bl b
  | .int i, v => v = .int i
  | .str x, v => v = .str x
  | .ty n, v => v = .ty n
  | .raw a, v => v = .ref a
  | .loc n, v => ∃ a, v = .ref a ∧ w.m[n]? = some a
  | .tup ds, v => ∃ a vs, v = .ref a ∧ SqT K w.F a vs ∧ RDs K w ds vs
  | .lst ds, v => ∃ a vs, v = .ref a ∧ w.F a = some (.lst vs) ∧ RDs K w ds vs
  | .frz ds, v => ∃ a vs, v = .ref a ∧ SqL K w.F a vs ∧ RDs K w ds vs
  | .dct ks ds, v => ∃ a vs, v = .ref a ∧ w.F a = some (.dK (ks.zip vs)) ∧ ks.length = vs.length ∧ RDs K w ds vs
  | .cls nm, v => ∃ C, v = .ref C ∧ ClsN K nm C
  | .ins nm ns ds, v => ∃ a C dx vs, v = .ref a ∧ ClsN K nm C ∧ w.F a = some (.ins C dx (ns.zip vs)) ∧ ns.length = vs.length ∧ RDs K w ds vs
def RDs (K : PySem.W.Frag) (w : W) : List D → List V → Prop
  | [], vs => vs = []
  | d :: ds, vs => ∃ v r, vs = v :: r ∧ RD K w d v ∧ RDs K w ds r
end
def RO (K : PySem.W.Frag) (w : W) (H : Hp) (a : Addr) : O → Prop
  | .lst ds => ∃ vs, H a = some (.lst vs) ∧ RDs K w ds vs
  | .ins nm ns ds => ∃ C dx vs, ClsN K nm C ∧ H a = some (.ins C dx (ns.zip vs)) ∧ ns.length = vs.length ∧ RDs K w ds vs
  | .dead => ∃ o, H a = some o
def live : O → Bool
  | .dead => false
  | _ => true
structure Rel (K : PySem.W.Frag) (w : W) (S : List O) (H : Hp) : Prop where
  len : w.m.length = S.length
  nd : w.m.Nodup
  obj : ∀ (n : Nat) (a : Addr) (o : O), w.m[n]? = some a → S[n]? = some o → RO K w H a o
  fz : ∀ a u, w.F a = some u → H a = some u
  ap : ∀ (n : Nat) (a : Addr) (o : O), w.m[n]? = some a → S[n]? = some o → live o = true → w.F a = none
/-- from (w, H) to (w', H') -/
structure Post (w : W) (H : Hp) (w' : W) (H' : Hp) : Prop where
  m : ∃ k, w'.m = w.m ++ k ∧ ∀ a ∈ k, H a = none
  F : ∀ a u, w.F a = some u → w'.F a = some u
  fr : ∀ a o, H a = some o → a ∉ w.m → H' a = some o
  fn : ∀ a u, w'.F a = some u → w.F a = some u ∨ H a = none ∨ a ∈ w.m

section
variable {K : PySem.W.Frag} {w w1 w2 : W} {S S1 S2 : List O} {H H1 H2 : Hp}
theorem Post.refl : Post w H w H := ⟨⟨[], by simp, by simp⟩, fun _ _ h => h, fun _ _ h _ => h, fun _ _ h => .inl h⟩
theorem Rel.there (R : Rel K w S H) {a : Addr} (h : a ∈ w.m) : ∃ o, H a = some o := by
  obtain ⟨n, hn⟩ := List.getElem?_of_mem h
  have hl : n < S.length := by rw [← R.len]; exact (List.getElem?_eq_some_iff.mp hn).1
  have h1 := R.obj n a S[n] hn (List.getElem?_eq_getElem hl)
  cases e : S[n] with
  | lst ds => rw [e] at h1; obtain ⟨vs, q, _⟩ := h1; exact ⟨_, q⟩
  | ins nm ns ds => rw [e] at h1; obtain ⟨C, dx, vs, _, q, _⟩ := h1; exact ⟨_, q⟩
  | dead => rw [e] at h1; exact h1
theorem Post.trans (R : Rel K w S H) (R1 : Rel K w1 S1 H1) (p : Post w H w1 H1) (q : Post w1 H1 w2 H2) : Post w H w2 H2 := by
  obtain ⟨k, e, hk⟩ := p.m
  obtain ⟨k2, e2, hk2⟩ := q.m
  have nn : ∀ a, H1 a = none → a ∉ w.m → H a = none := fun a z hm => by
    cases c : H a with
    | none => rfl
    | some o => rw [p.fr a o c hm] at z; cases z
  refine ⟨⟨k ++ k2, by rw [e2, e, List.append_assoc], fun a ha => ?_⟩, fun a u h => q.F a u (p.F a u h), fun a o h n => ?_, fun a u h => ?_⟩
  · rcases List.mem_append.mp ha with h | h
    · exact hk a h
    · cases c : H a with
      | none => rfl
      | some o =>
        have z := hk2 a h
        by_cases hm : a ∈ w.m
        · obtain ⟨o', q'⟩ := R1.there (a := a) (by rw [e]; exact List.mem_append_left _ hm)
          rw [z] at q'; cases q'
        · rw [p.fr a o c hm] at z; cases z
  · refine q.fr a o (p.fr a o h n) fun z => ?_
    rw [e] at z
    rcases List.mem_append.mp z with z | z
    · exact n z
    · rw [hk a z] at h; cases h
  · rcases q.fn a u h with h | h | h
    · exact p.fn a u h
    · by_cases hm : a ∈ w.m
      · exact .inr (.inr hm)
      · exact .inr (.inl (nn a h hm))
    · rw [e] at h
      rcases List.mem_append.mp h with h | h
      · exact .inr (.inr h)
      · exact .inr (.inl (hk a h))

theorem SqT.sub {F F' : Hp} {a : Addr} {vs : List V} (h : SqT K F a vs) (f : ∀ a u, F a = some u → F' a = some u) : SqT K F' a vs := by
  rcases h with (h | ⟨o, h⟩) | h
  · exact .inl (.inl (f _ _ h))
  · exact .inl (.inr ⟨o, f _ _ h⟩)
  · exact .inr h
theorem SqL.sub {F F' : Hp} {a : Addr} {vs : List V} (h : SqL K F a vs) (f : ∀ a u, F a = some u → F' a = some u) : SqL K F' a vs := by
  rcases h with (h | ⟨o, h⟩) | h
  · exact .inl (.inl (f _ _ h))
  · exact .inl (.inr ⟨o, f _ _ h⟩)
  · exact .inr h
mutual
theorem RD.mono (hm : ∃ k, w1.m = w.m ++ k) (hF : ∀ a u, w.F a = some u → w1.F a = some u) : ∀ (d : D) (v : V), RD K w d v → RD K w1 d v
  | .non, v, h => h
  | .bl b, v, h => h
  | .int i, v, h => h
  | .str x, v, h => h
  | .ty n, v, h => h
  | .raw a, v, h => h
  | .loc n, v, h => by
    obtain ⟨a, e, q⟩ := h
    obtain ⟨k, ek⟩ := hm
    refine ⟨a, e, ?_⟩
    rw [ek, List.getElem?_append_left (List.getElem?_eq_some_iff.mp q).1]
    exact q
  | .tup ds, v, h => by
    obtain ⟨a, vs, e, q, r⟩ := h
    exact ⟨a, vs, e, SqT.sub q hF, RDs.mono hm hF ds vs r⟩
  | .lst ds, v, h => by
    obtain ⟨a, vs, e, q, r⟩ := h
    exact ⟨a, vs, e, hF _ _ q, RDs.mono hm hF ds vs r⟩
  | .frz ds, v, h => by
    obtain ⟨a, vs, e, q, r⟩ := h
    exact ⟨a, vs, e, SqL.sub q hF, RDs.mono hm hF ds vs r⟩
  | .dct ks ds, v, h => by
    obtain ⟨a, vs, e, q, l, r⟩ := h
    exact ⟨a, vs, e, hF _ _ q, l, RDs.mono hm hF ds vs r⟩
  | .cls nm, v, h => h
  | .ins nm ns ds, v, h => by
    obtain ⟨a, C, dx, vs, e, c, q, l, r⟩ := h
    exact ⟨a, C, dx, vs, e, c, hF _ _ q, l, RDs.mono hm hF ds vs r⟩
theorem RDs.mono (hm : ∃ k, w1.m = w.m ++ k) (hF : ∀ a u, w.F a = some u → w1.F a = some u) : ∀ (ds : List D) (vs : List V), RDs K w ds vs → RDs K w1 ds vs
  | [], vs, h => h
  | d :: ds, vs, h => by
    obtain ⟨v, r, e, h1, h2⟩ := h
    exact ⟨v, r, e, RD.mono hm hF d v h1, RDs.mono hm hF ds r h2⟩
end
theorem Post.rd {d : D} {v : V} (p : Post w H w1 H1) (h : RD K w d v) : RD K w1 d v :=
  RD.mono (p.m.imp fun _ h => h.1) p.F d v h
theorem Post.rds {d : List D} {v : List V} (p : Post w H w1 H1) (h : RDs K w d v) : RDs K w1 d v :=
  RDs.mono (p.m.imp fun _ h => h.1) p.F d v h
theorem RDs.length : ∀ {ds : List D} {vs : List V}, RDs K w ds vs → ds.length = vs.length
  | [], _, h => by rw [show _ = [] from h]; rfl
  | d :: ds, _, ⟨v, r, e, h1, h2⟩ => by rw [e, List.length_cons, List.length_cons, RDs.length h2]
theorem RDs.get : ∀ {ds : List D} {vs : List V} {i : Nat} {d : D}, RDs K w ds vs → ds[i]? = some d → ∃ v, vs[i]? = some v ∧ RD K w d v
  | [], _, _, _, h, e => by simp at e
  | d :: ds, _, 0, d', ⟨v, r, e, h1, h2⟩, q => by
    simp at q; subst q; subst e; exact ⟨v, rfl, h1⟩
  | d :: ds, _, i + 1, d', ⟨v, r, e, h1, h2⟩, q => by
    subst e
    obtain ⟨u, a, b⟩ := RDs.get (i := i) h2 (by simpa using q)
    exact ⟨u, by simpa using a, b⟩
theorem RDs.append : ∀ {ds es : List D} {vs us : List V}, RDs K w ds vs → RDs K w es us → RDs K w (ds ++ es) (vs ++ us)
  | [], _, _, _, h, h' => by rw [show _ = [] from h]; exact h'
  | d :: ds, es, _, us, ⟨v, r, e, h1, h2⟩, h' => by
    subst e
    exact ⟨v, r ++ us, rfl, h1, RDs.append h2 h'⟩
theorem RDs.one {d : D} {v : V} (h : RD K w d v) : RDs K w [d] [v] := ⟨v, [], rfl, h, rfl⟩
theorem RDs.set : ∀ {ds : List D} {vs : List V} (i : Nat) {d : D} {v : V}, RDs K w ds vs → RD K w d v → RDs K w (ds.set i d) (vs.set i v)
  | [], _, _, _, _, h, _ => by rw [show _ = [] from h]; exact rfl
  | d :: ds, _, 0, d', v', ⟨v, r, e, h1, h2⟩, q => by subst e; exact ⟨v', r, rfl, q, h2⟩
  | d :: ds, _, i + 1, d', v', ⟨v, r, e, h1, h2⟩, q => by subst e; exact ⟨v, r.set i v', rfl, h1, RDs.set i h2 q⟩
theorem RDs.take : ∀ {ds : List D} {vs : List V} (i : Nat), RDs K w ds vs → RDs K w (ds.take i) (vs.take i)
  | [], _, _, h => by rw [show _ = [] from h]; simp [RDs]
  | d :: ds, _, 0, ⟨v, r, e, h1, h2⟩ => by simp [RDs]
  | d :: ds, _, i + 1, ⟨v, r, e, h1, h2⟩ => by subst e; exact ⟨v, r.take i, rfl, h1, RDs.take i h2⟩
theorem RDs.drop : ∀ {ds : List D} {vs : List V} (i : Nat), RDs K w ds vs → RDs K w (ds.drop i) (vs.drop i)
  | [], _, _, h => by rw [show _ = [] from h]; simp [RDs]
  | d :: ds, _, 0, h => h
  | d :: ds, _, i + 1, ⟨v, r, e, h1, h2⟩ => by subst e; exact RDs.drop i h2
theorem RDs.nil : RDs K w [] [] := rfl
theorem RDs.replicate {ds : List D} {vs : List V} (h : RDs K w ds vs) : ∀ n : Nat, RDs K w (List.replicate n ds).flatten (List.replicate n vs).flatten
  | 0 => rfl
  | n + 1 => by
    rw [List.replicate_succ, List.replicate_succ, List.flatten_cons, List.flatten_cons]
    exact RDs.append h (RDs.replicate h n)

theorem nd_ix {l : List Addr} (h : l.Nodup) {i j : Nat} {a : Addr} (hi : l[i]? = some a) (hj : l[j]? = some a) : i = j := by
  obtain ⟨h1, e1⟩ := List.getElem?_eq_some_iff.mp hi
  obtain ⟨h2, e2⟩ := List.getElem?_eq_some_iff.mp hj
  have P := List.pairwise_iff_getElem.mp h
  rcases Nat.lt_trichotomy i j with c | c | c
  · exact absurd (e1.trans e2.symm) (P i j h1 h2 c)
  · exact c
  · exact absurd (e2.trans e1.symm) (P j i h2 h1 c)
/-! ### new objects -/
def W.addF (w : W) (p : Addr) (o : HO) : W := ⟨w.m, upd w.F p o⟩
def W.addM (w : W) (p : Addr) : W := ⟨w.m ++ [p], w.F⟩
theorem Rel.noF (R : Rel K w S H) {p : Addr} (h : H p = none) : w.F p = none := by
  cases e : w.F p with
  | none => rfl
  | some u => rw [R.fz p u e] at h; cases h
theorem Rel.noM (R : Rel K w S H) {p : Addr} (h : H p = none) : p ∉ w.m := fun z => by
  obtain ⟨o, q⟩ := R.there z
  rw [h] at q; cases q
theorem RO.mono {a : Addr} {o : O} (h : RO K w H a o) (p : Post w H w1 H1) (e : H1 a = H a) : RO K w1 H1 a o := by
  cases o with
  | lst ds =>
    obtain ⟨vs, q, r⟩ := h
    exact ⟨vs, e.trans q, p.rds r⟩
  | ins nm ns ds =>
    obtain ⟨C, dx, vs, c, q, l, r⟩ := h
    exact ⟨C, dx, vs, c, e.trans q, l, p.rds r⟩
  | dead =>
    obtain ⟨u, q⟩ := h
    exact ⟨u, e.trans q⟩
theorem post_addF (R : Rel K w S H) {p : Addr} {o : HO} (h : H p = none) : Post w H (w.addF p o) (upd H p o) :=
  ⟨⟨[], by simp [W.addF], by simp⟩, fun a u e => by
    show upd w.F p o a = some u
    rw [upd_ne (ne_of_none e (R.noF h))]; exact e, fun a u e _ => by rw [upd_ne (ne_of_none e h)]; exact e, fun a u e => by
    by_cases c : a = p
    · exact .inr (.inl (by rw [c]; exact h))
    · have e : upd w.F p o a = some u := e
      rw [upd_ne c] at e
      exact .inl e⟩
theorem rel_addF (R : Rel K w S H) {p : Addr} {o : HO} (h : H p = none) : Rel K (w.addF p o) S (upd H p o) := by
  have P := post_addF (o := o) R h
  refine ⟨R.len, R.nd, fun n a ob hn ho => ?_, fun a u e => ?_, fun n a ob hn ho hl => ?_⟩
  · have ha : a ≠ p := fun z => R.noM h (by rw [← z]; exact List.mem_of_getElem? hn)
    exact (R.obj n a ob hn ho).mono P (upd_ne ha)
  · by_cases c : a = p
    · subst c
      have e : upd w.F a o a = some u := e
      rw [upd_same] at e ⊢; exact e
    · have e : upd w.F p o a = some u := e
      rw [upd_ne c] at e ⊢
      exact R.fz a u e
  · have ha : a ≠ p := fun z => R.noM h (by rw [← z]; exact List.mem_of_getElem? hn)
    show upd w.F p o a = none
    rw [upd_ne ha]
    exact R.ap n a ob hn ho hl
theorem post_addM (R : Rel K w S H) {p : Addr} {o : HO} (h : H p = none) : Post w H (w.addM p) (upd H p o) :=
  ⟨⟨[p], rfl, fun a ha => by rw [List.mem_singleton.mp ha]; exact h⟩, fun _ _ e => e, fun a u e _ => by rw [upd_ne (ne_of_none e h)]; exact e, fun _ _ e => .inl e⟩
theorem rel_addM (R : Rel K w S H) {p : Addr} {o : HO} {ob : O} (h : H p = none) (q : RO K (w.addM p) (upd H p o) p ob) : Rel K (w.addM p) (S ++ [ob]) (upd H p o) := by
  have P := post_addM (o := o) R h
  refine ⟨by show (w.m ++ [p]).length = _; rw [List.length_append, List.length_append, R.len]; rfl, ?_, fun n a ob' hn ho => ?_, fun a u e => ?_, fun n a ob' hn ho hl => ?_⟩
  · show (w.m ++ [p]).Nodup
    rw [List.nodup_append]
    refine ⟨R.nd, by simp, fun a ha b hb e => ?_⟩
    rw [List.mem_singleton.mp hb] at e
    exact R.noM h (e ▸ ha)
  · have hn : (w.m ++ [p])[n]? = some a := hn
    by_cases c : n < w.m.length
    · rw [List.getElem?_append_left c] at hn
      rw [List.getElem?_append_left (by rw [← R.len]; exact c)] at ho
      have ha : a ≠ p := fun z => R.noM h (by rw [← z]; exact List.mem_of_getElem? hn)
      exact (R.obj n a ob' hn ho).mono P (upd_ne ha)
    · have hl := (List.getElem?_eq_some_iff.mp hn).1
      rw [List.length_append, List.length_singleton] at hl
      have en : n = w.m.length := by omega
      rw [en, List.getElem?_append_right (Nat.le_refl _), Nat.sub_self] at hn
      rw [en, R.len, List.getElem?_append_right (Nat.le_refl _), Nat.sub_self] at ho
      cases (show p = a by simpa using hn)
      cases (show ob = ob' by simpa using ho)
      exact q
  · have c : a ≠ p := ne_of_none e (R.noF h)
    rw [upd_ne c]
    exact R.fz a u e
  · have hn : (w.m ++ [p])[n]? = some a := hn
    by_cases c : n < w.m.length
    · rw [List.getElem?_append_left c] at hn
      rw [List.getElem?_append_left (by rw [← R.len]; exact c)] at ho
      exact R.ap n a ob' hn ho hl
    · have hl := (List.getElem?_eq_some_iff.mp hn).1
      rw [List.length_append, List.length_singleton] at hl
      have en : n = w.m.length := by omega
      rw [en, List.getElem?_append_right (Nat.le_refl _), Nat.sub_self] at hn
      cases (show p = a by simpa using hn)
      exact R.noF h
/-- the object at place n is written -/
theorem post_set (R : Rel K w S H) {n : Nat} {p : Addr} {o : HO} (hn : w.m[n]? = some p) : Post w H w (upd H p o) :=
  ⟨⟨[], by simp, by simp⟩, fun _ _ e => e, fun a u e z => by
    rw [upd_ne fun q => z (by rw [q]; exact List.mem_of_getElem? hn)]; exact e, fun _ _ e => .inl e⟩
theorem rel_set (R : Rel K w S H) {n : Nat} {p : Addr} {o : HO} {ob ob0 : O} (hn : w.m[n]? = some p) (h0 : S[n]? = some ob0) (hl : live ob0 = true) (q : RO K w (upd H p o) p ob) : Rel K w (S.set n ob) (upd H p o) := by
  have P := post_set (o := o) R hn
  have hlt := (List.getElem?_eq_some_iff.mp h0).1
  refine ⟨by rw [List.length_set]; exact R.len, R.nd, fun n' a ob' hn' ho' => ?_, fun a u e => ?_, fun n' a ob' hn' ho' hl' => ?_⟩
  · by_cases c : n' = n
    · subst c
      rw [hn] at hn'; cases hn'
      rw [List.getElem?_set_self hlt] at ho'; cases ho'
      exact q
    · rw [List.getElem?_set_ne (Ne.symm c)] at ho'
      have ha : a ≠ p := fun z => c (by
        subst z
        exact nd_ix R.nd hn' hn)
      exact (R.obj n' a ob' hn' ho').mono P (upd_ne ha)
  · have c : a ≠ p := fun z => by
      subst z
      rw [R.ap n a ob0 hn h0 hl] at e; cases e
    rw [upd_ne c]
    exact R.fz a u e
  · by_cases c : n' = n
    · subst c
      rw [hn] at hn'; cases hn'
      exact R.ap _ _ _ hn h0 hl
    · rw [List.getElem?_set_ne (Ne.symm c)] at ho'
      exact R.ap _ _ _ hn' ho' hl'
/-- from now on fixed -/
theorem rel_freeze (R : Rel K w S H) {n : Nat} {p : Addr} {u : HO} {ob : O} (hn : w.m[n]? = some p) (h0 : S[n]? = some ob) (hlv : live ob = true) (e : H p = some u) :
    Rel K (w.addF p u) (S.set n .dead) H ∧ Post w H (w.addF p u) H := by
  have hlt := (List.getElem?_eq_some_iff.mp h0).1
  have hF : w.F p = none := R.ap _ _ _ hn h0 hlv
  have P : Post w H (w.addF p u) H := ⟨⟨[], by simp [W.addF], by simp⟩, fun a u2 h => by
    show upd w.F p _ a = some u2
    rw [upd_ne (ne_of_none h hF)]; exact h, fun _ _ h _ => h, fun a u2 h => by
    by_cases c : a = p
    · exact .inr (.inr (by rw [c]; exact List.mem_of_getElem? hn))
    · have h : upd w.F p u a = some u2 := h
      rw [upd_ne c] at h
      exact .inl h⟩
  refine ⟨⟨by rw [List.length_set]; exact R.len, R.nd, fun n' a ob' hn' ho' => ?_, fun a u2 h => ?_, fun n' a ob' hn' ho' hl' => ?_⟩, P⟩
  · by_cases c : n' = n
    · subst c
      have hn' : w.m[n']? = some a := hn'
      rw [hn] at hn'; cases hn'
      rw [List.getElem?_set_self hlt] at ho'; cases ho'
      exact ⟨_, e⟩
    · rw [List.getElem?_set_ne (Ne.symm c)] at ho'
      exact (R.obj n' a ob' hn' ho').mono P rfl
  · have h : upd w.F p u a = some u2 := h
    by_cases c : a = p
    · subst c
      rw [upd_same] at h; cases h
      exact e
    · rw [upd_ne c] at h
      exact R.fz a u2 h
  · have hn' : w.m[n']? = some a := hn'
    by_cases c : n' = n
    · subst c
      rw [List.getElem?_set_self hlt] at ho'; cases ho'
      cases hl'
    · rw [List.getElem?_set_ne (Ne.symm c)] at ho'
      have ha : a ≠ p := fun z => c (by
        subst z
        exact nd_ix R.nd hn' hn)
      show upd w.F p _ a = none
      rw [upd_ne ha]
      exact R.ap _ _ _ hn' ho' hl'
/-- an object that is not tracked: a list in the making -/
theorem rel_out (R : Rel K w S H) {p : Addr} {o : HO} (hm : p ∉ w.m) (hF : w.F p = none) : Rel K w S (upd H p o) := by
  refine ⟨R.len, R.nd, fun n a ob hn ho => ?_, fun a u e => ?_, R.ap⟩
  · have ha : a ≠ p := fun z => hm (by rw [← z]; exact List.mem_of_getElem? hn)
    have h1 := R.obj n a ob hn ho
    cases ob with
    | lst ds =>
      obtain ⟨vs, q, r⟩ := h1
      exact ⟨vs, by rw [upd_ne ha]; exact q, r⟩
    | ins nm ns ds =>
      obtain ⟨C, dx, vs, c, q, l, r⟩ := h1
      exact ⟨C, dx, vs, c, by rw [upd_ne ha]; exact q, l, r⟩
    | dead =>
      obtain ⟨u, q⟩ := h1
      exact ⟨u, by rw [upd_ne ha]; exact q⟩
  · rw [upd_ne (ne_of_none e hF)]
    exact R.fz a u e
theorem post_out (p : Post w H w1 H1) {a : Addr} {o : HO} (h : H a = none) : Post w H w1 (upd H1 a o) :=
  ⟨p.m, p.F, fun b u e n => by rw [upd_ne (ne_of_none e h)]; exact p.fr b u e n, p.fn⟩
theorem rel_claim (R : Rel K w S H) {p : Addr} {o : HO} (e : H p = some o) (hm : p ∉ w.m) (hF : w.F p = none) : Rel K (w.addF p o) S H ∧ ∀ w0 H0, Post w0 H0 w H → H0 p = none → Post w0 H0 (w.addF p o) H := by
  have P : ∀ a u, w.F a = some u → (w.addF p o).F a = some u := fun a u h => by
    show upd w.F p o a = some u
    rw [upd_ne (ne_of_none h hF)]
    exact h
  refine ⟨⟨R.len, R.nd, fun n a ob hn ho => ?_, fun a u h => ?_, fun n a ob hn ho hl => ?_⟩, fun w0 H0 q h0 => ⟨q.m, fun a u h => P a u (q.F a u h), q.fr, fun a u h => ?_⟩⟩
  · have h1 := R.obj n a ob hn ho
    cases ob with
    | lst ds =>
      obtain ⟨vs, q, r⟩ := h1
      exact ⟨vs, q, RDs.mono ⟨[], by simp [W.addF]⟩ P _ _ r⟩
    | ins nm ns ds =>
      obtain ⟨C, dx, vs, c, q, l, r⟩ := h1
      exact ⟨C, dx, vs, c, q, l, RDs.mono ⟨[], by simp [W.addF]⟩ P _ _ r⟩
    | dead => exact h1
  · have h : upd w.F p o a = some u := h
    by_cases c : a = p
    · subst c
      rw [upd_same] at h; cases h
      exact e
    · rw [upd_ne c] at h
      exact R.fz a u h
  · have ha : a ≠ p := fun z => hm (by rw [← z]; exact List.mem_of_getElem? hn)
    show upd w.F p o a = none
    rw [upd_ne ha]
    exact R.ap n a ob hn ho hl
  · have h : upd w.F p o a = some u := h
    by_cases c : a = p
    · exact .inr (.inl (by rw [c]; exact h0))
    · rw [upd_ne c] at h
      exact q.fn a u h
theorem Post.out (R : Rel K w S H) (p : Post w H w1 H1) {a : Addr} {o : HO} (e : H a = some o) (hm : a ∉ w.m) (hF : w.F a = none) : H1 a = some o ∧ a ∉ w1.m ∧ w1.F a = none := by
  refine ⟨p.fr a o e hm, fun z => ?_, ?_⟩
  · obtain ⟨k, e2, hk⟩ := p.m
    rw [e2] at z
    rcases List.mem_append.mp z with z | z
    · exact hm z
    · rw [hk a z] at e; cases e
  · cases c : w1.F a with
    | none => rfl
    | some u =>
      rcases p.fn a u c with h | h | h
      · rw [hF] at h; cases h
      · rw [h] at e; cases e
      · exact absurd h hm
end
end E

namespace E
open PySem L2

def sel {α : Type} (c : Bool) (a b : α) : α := match c with
  | true => a
  | false => b
theorem iT {A B : Prop} (h : A) : (if true = true then A else B) := by rw [if_pos rfl]; exact h
theorem iF {A B : Prop} (h : B) : (if false = true then A else B) := by rw [if_neg Bool.false_ne_true]; exact h
abbrev Rho := List (Option D)
abbrev AE := Rho → M D
abbrev AL := Rho → M (List D)
abbrev AT := Rho → M Bool
inductive Fl where
  | nx | rt (d : D) | bk | ct
abbrev AS := Rho → M (Fl × Rho)
abbrev AG := D → Rho → M Rho
/-- what is wanted of an exception -/
abbrev EW := W → List O → Hp → Er → Prop

structure RE (K : PySem.W.Frag) (w : W) (ρ : Rho) (σ : St) : Prop where
  len : ρ.length = σ.length
  at_ : ∀ (i : Nat) (d : D), ρ[i]? = some (some d) → ∃ v, σ[i]? = some (some v) ∧ RD K w d v

def fin (K : PySem.W.Frag) (EX : EW) {α : Type} (R : W → List O → Hp → α → Prop) (w : W) (H : Hp) : Res α → Prop
  | .ok a S => ∀ w' H', Post w H w' H' → Rel K w' S H' → R w' S H' a
  | .err e S => ∀ w' H', Post w H w' H' → Rel K w' S H' → EX w' S H' e
  | .no => False
section
variable {K : PySem.W.Frag} {EX : EW} {α β : Type} {w w1 : W} {H H1 : Hp} {S S1 : List O} {R R' : W → List O → Hp → α → Prop}
theorem fin.rebase {r : Res α} (Rl : Rel K w S H) (Rl1 : Rel K w1 S1 H1) (h : fin K EX R w H r) (p : Post w H w1 H1) : fin K EX R w1 H1 r := by
  cases r with
  | ok a S' => exact fun w' H' q r' => h w' H' (p.trans Rl Rl1 q) r'
  | err e S' => exact fun w' H' q r' => h w' H' (p.trans Rl Rl1 q) r'
  | no => exact h
theorem fin.bind {R : W → List O → Hp → β → Prop} {m : Res α} {k : α → List O → Res β} (Rl : Rel K w S H) (h : fin K EX R w H (m.bind k)) : fin K EX (fun w1 S1 H1 a => fin K EX R w1 H1 (k a S1)) w H m := by
  cases m with
  | ok a S' => exact fun w' H' q r' => fin.rebase Rl r' h q
  | err e S' => exact h
  | no => exact h
theorem fin.mono {r : Res α} (h : fin K EX R w H r) (f : ∀ w' S' H' a, Post w H w' H' → Rel K w' S' H' → R w' S' H' a → R' w' S' H' a) : fin K EX R' w H r := by
  cases r with
  | ok a S' => exact fun w' H' q r' => f _ _ _ _ q r' (h w' H' q r')
  | err e S' => exact h
  | no => exact h
theorem fin.wk {EX' : EW} {r : Res α} (h : fin K EX R w H r) (f : ∀ w' S' H' e, EX w' S' H' e → EX' w' S' H' e) : fin K EX' R w H r := by
  cases r with
  | ok a S' => exact h
  | err e S' => exact fun w' H' q r' => f _ _ _ _ (h w' H' q r')
  | no => exact h
theorem fin.ok {a : α} (Rl : Rel K w S H) (h : fin K EX R w H (.ok a S)) : R w S H a := h w H Post.refl Rl
theorem fin.get {a : α} {S' : List O} (h : fin K EX R w H (.ok a S')) (p : Post w H w1 H1) (Rl1 : Rel K w1 S' H1) : R w1 S' H1 a := h w1 H1 p Rl1
theorem RE.mono {ρ : Rho} {σ : St} (h : RE K w ρ σ) (p : Post w H w1 H1) : RE K w1 ρ σ := ⟨h.len, fun i d e => by
  obtain ⟨v, a, b⟩ := h.at_ i d e
  exact ⟨v, a, p.rd b⟩⟩
theorem RE.set {ρ : Rho} {σ : St} {d : D} {v : V} (h : RE K w ρ σ) (i : Nat) (r : RD K w d v) : RE K w (ρ.set i (some d)) (σ.set i (some v)) := by
  refine ⟨by rw [List.length_set, List.length_set]; exact h.len, fun j d' e => ?_⟩
  by_cases c : j = i
  · subst c
    have hl : j < ρ.length := by have := (List.getElem?_eq_some_iff.mp e).1; rwa [List.length_set] at this
    rw [List.getElem?_set_self hl] at e
    cases e
    exact ⟨v, List.getElem?_set_self (by rw [← h.len]; exact hl), r⟩
  · rw [List.getElem?_set_ne (Ne.symm c)] at e
    obtain ⟨u, a, b⟩ := h.at_ j d' e
    exact ⟨u, by rw [List.getElem?_set_ne (Ne.symm c)]; exact a, b⟩
theorem RE.unset {ρ : Rho} {σ : St} (h : RE K w ρ σ) (i : Nat) : RE K w (ρ.set i none) (σ.set i none) := by
  refine ⟨by rw [List.length_set, List.length_set]; exact h.len, fun j d' e => ?_⟩
  by_cases c : j = i
  · subst c
    have hl : j < ρ.length := by have := (List.getElem?_eq_some_iff.mp e).1; rwa [List.length_set] at this
    rw [List.getElem?_set_self hl] at e
    cases e
  · rw [List.getElem?_set_ne (Ne.symm c)] at e
    obtain ⟨u, a, b⟩ := h.at_ j d' e
    exact ⟨u, by rw [List.getElem?_set_ne (Ne.symm c)]; exact a, b⟩
end

/-! ### readings by functions -/
def EA (EX : St → EW) : EW := fun w S H e => ∀ σ, EX σ w S H e
theorem fin.bindS {K : PySem.W.Frag} {EX : St → EW} {α β : Type} {w : W} {H : Hp} {S : List O} {R : W → List O → Hp → β → Prop} {m : Res α} {k : α → List O → Res β} (rl : Rel K w S H) (h : fin K (EA EX) R w H (m.bind k)) (σ : St) :
    fin K (EX σ) (fun w1 S1 H1 a => fin K (EA EX) R w1 H1 (k a S1)) w H m := (fin.bind rl h).wk fun _ _ _ _ h => h σ
section
variable (K : PySem.W.Frag) (EX : St → EW)
def FQ (Q : VK) : W → List O → Hp → D → Prop := fun w _ H d => ∀ v, RD K w d v → Q v H
def FQs (Q : List V → Hp → Prop) : W → List O → Hp → List D → Prop := fun w _ H ds => ∀ vs, RDs K w ds vs → Q vs H
def FQb (Q : Bool → Hp → Prop) : W → List O → Hp → Bool → Prop := fun _ _ H b => Q b H
def FD (Dn : Ends) : W → List O → Hp → Fl × Rho → Prop := fun w _ H f => match f with
  | (.nx, ρ) => ∀ σ, RE K w ρ σ → Dn.nx σ H
  | (.bk, ρ) => ∀ σ, RE K w ρ σ → Dn.bk σ H
  | (.ct, ρ) => ∀ σ, RE K w ρ σ → Dn.ct σ H
  | (.rt d, _) => ∀ v, RD K w d v → Dn.rt v H
def FR (Q : St → Hp → Prop) : W → List O → Hp → Rho → Prop := fun w _ H ρ => ∀ σ, RE K w ρ σ → Q σ H
def tE (A : AE) : TE := fun σ H Q => ∃ w ρ S, RE K w ρ σ ∧ Rel K w S H ∧ fin K (EX σ) (FQ K Q) w H (A ρ S)
def tL (A : AL) : TA := fun σ H Q => ∃ w ρ S, RE K w ρ σ ∧ Rel K w S H ∧ fin K (EX σ) (FQs K Q) w H (A ρ S)
def tT (A : AT) : TT := fun σ H Q => ∃ w ρ S, RE K w ρ σ ∧ Rel K w S H ∧ fin K (EX σ) (FQb Q) w H (A ρ S)
def tS (A : AS) : TS := fun Dn σ H => ∃ w ρ S, RE K w ρ σ ∧ Rel K w S H ∧ fin K (EA EX) (FD K Dn) w H (A ρ S)
def tG (A : AG) : TG := fun v σ H Q => ∃ w ρ S d, RE K w ρ σ ∧ Rel K w S H ∧ RD K w d v ∧ fin K (EA EX) (FR K Q) w H (A d ρ S)
def XRep (w : W) (H : Hp) (dd : Option Addr) (fs : List (Str × D)) : Prop :=
  (fs = [] ∧ dd = none) ∨ ∃ d vs, dd = some d ∧ H d = some (.xd vs) ∧ vs.map (·.1) = fs.map (·.1) ∧ RDs K w (fs.map (·.2)) (vs.map (·.2))
def XOk (w : W) (E : XK) (H : Hp) : Er → Prop
  | .own C fs => ∀ dd, XRep K w H dd fs → E (.ref C) dd H
  | .ty n => ∀ d, E (.type n) d H
end
structure Ct (X : Cx) (EX : St → EW) (n : Nat) : Prop where
  calm : X.calm = true
  nd : X.N.Nodup
  hr : Room n X.A
  po : PassesOwn (model X.prog X.w) X.A X.env X.xe
  tk : ∃ Wx : WX, Takes X Wx ∧ ∀ σ w S H e, EX σ w S H e → XOk X.K w (fun c d H' => Wx c d σ H') H e
def EX0 : St → EW := fun _ _ _ _ _ => False
theorem Ct.blk {X : Cx} {EX : St → EW} {n : Nat} (C : Ct X EX n) (s : Shared) (H : Hp) (scope : Scope) (cenv : Env) (fp : List Addr) : Ct (X.blk s H scope cenv fp) EX0 n :=
  ⟨C.calm, C.nd, C.hr, PassesOwn.never, ⟨fun _ _ _ _ => False, (fun _ _ ⟨_, _, _, _, _, _, _, _, _, _, _, _, _, _, _, _, z⟩ => z.elim), fun _ _ _ _ _ h => h.elim⟩⟩

section
variable {X : Cx} {EX : St → EW} {n : Nat}
abbrev QE (X : Cx) (EX : St → EW) (e : Expr) (A : AE) : Prop := PE X e (tE X.K EX A)
abbrev QL (X : Cx) (EX : St → EW) (es : List Expr) (A : AL) : Prop := PA X es (tL X.K EX A)
abbrev QT (X : Cx) (EX : St → EW) (e : Expr) (A : AT) : Prop := PT X e (tT X.K EX A)
abbrev QW (X : Cx) (EX : St → EW) (e : Expr) (A : AT) : Prop := PW X e (tT X.K EX A)
abbrev QS (X : Cx) (EX : St → EW) (s : Stmt) (A : AS) : Prop := PS X s (tS X.K EX A)
abbrev QSs (X : Cx) (EX : St → EW) (s : List Stmt) (A : AS) : Prop := PSs X s (tS X.K EX A)
abbrev QG (X : Cx) (EX : St → EW) (e : Expr) (A : AG) : Prop := PG X e (tG X.K EX A)
theorem PE.imp {e : Expr} {t t' : TE} (h : PE X e t) (f : ∀ σ H Q, t' σ H Q → t σ H Q) : PE X e t' := ⟨fun pins s σ H Q I q => h.run pins s σ H Q I (f _ _ _ q)⟩
theorem PA.imp {e : List Expr} {t t' : TA} (h : PA X e t) (f : ∀ σ H Q, t' σ H Q → t σ H Q) : PA X e t' := ⟨fun p pins s σ H Q I q => h.run p pins s σ H Q I (f _ _ _ q)⟩
theorem PT.imp {e : Expr} {t t' : TT} (h : PT X e t) (f : ∀ σ H Q, t' σ H Q → t σ H Q) : PT X e t' := ⟨fun pins s σ H Q I q => h.run pins s σ H Q I (f _ _ _ q)⟩
theorem PW.imp {e : Expr} {t t' : TT} (h : PW X e t) (f : ∀ σ H Q, t' σ H Q → t σ H Q) : PW X e t' := ⟨fun wh pins s σ H Q I q => h.run wh pins s σ H Q I (f _ _ _ q)⟩
theorem PS.imp {e : Stmt} {t t' : TS} (h : PS X e t) (f : ∀ D σ H, t' D σ H → t D σ H) : PS X e t' := ⟨fun pins s σ H D I q => h.run pins s σ H D I (f _ _ _ q)⟩
theorem PSs.imp {e : List Stmt} {t t' : TS} (h : PSs X e t) (f : ∀ D σ H, t' D σ H → t D σ H) : PSs X e t' := ⟨fun pins s σ H D I q => h.run pins s σ H D I (f _ _ _ q)⟩
theorem PG.imp {e : Expr} {t t' : TG} (h : PG X e t) (f : ∀ v σ H Q, t' v σ H Q → t v σ H Q) : PG X e t' := by
  obtain ⟨h⟩ := h
  exact ⟨by intros; apply h <;> first | assumption | (apply f; assumption)⟩

/-! expressions -/
def aVar (i : Nat) : AE := fun ρ S => match ρ[i]? with
  | some (some d) => .ok d S
  | _ => .no
def aC (d : D) : AE := fun _ S => .ok d S
def aNo {α β : Type} : β → M α := fun _ _ => .no
theorem q_var {i : Nat} {x : Str} {pos : Pos} (h : PE X (.Name x pos) (tVar i)) : QE X EX (.Name x pos) (aVar i) := PE.imp h fun σ H Q ⟨w, ρ, S, re, rl, f⟩ => by
  unfold aVar at f
  split at f
  · next d e =>
    obtain ⟨v, a, b⟩ := re.at_ i d e
    exact ⟨v, a, (fin.ok rl f) v b⟩
  · exact f.elim
/-- what stands for itself in each world -/
def cD : D → V → Bool
  | .non, .non => true
  | .bl a, .bl b => decide (a = b)
  | .int a, .int b => decide (a = b)
  | .str a, .str b => decide (a = b)
  | .ty a, .ty b => decide (a = b)
  | .raw a, .ref b => decide (a = b)
  | _, _ => false
theorem cD_rd {K : PySem.W.Frag} {w : W} {d : D} {v : V} (h : cD d v = true) : RD K w d v := by
  unfold cD at h
  split at h <;> first | (cases h; done) | (rename_i a b; have e : a = b := of_decide_eq_true h; subst e; rfl) | rfl
theorem q_c {e : Expr} {v : V} (d : D) (h : PE X e (tC v)) (hd : ∀ K w, RD K w d v) : QE X EX e (aC d) := PE.imp h fun σ H Q ⟨w, ρ, S, re, rl, f⟩ => (fin.ok rl f) v (hd _ _)
theorem q_int {i : Int} {j pos} : QE X EX (.Constant (.int i) j pos) (aC (.int i)) := q_c (.int i) pe_int fun _ _ => rfl
theorem q_bl {b j pos} : QE X EX (.Constant (.bool b) j pos) (aC (.bl b)) := q_c (.bl b) pe_bl fun _ _ => rfl
theorem q_non {j pos} : QE X EX (.Constant .none j pos) (aC .non) := q_c .non pe_non fun _ _ => rfl
theorem q_str {x j pos} : QE X EX (.Constant (.str x) j pos) (aC (.str x)) := q_c (.str x) pe_str fun _ _ => rfl
/-- a module's constant that is a tree -/
theorem q_glob {e : Expr} {v : V} {d : D} (h : PE X e (tC v)) (hd : ∀ w, RD X.K w d v) : QE X EX e (aC d) := PE.imp h fun σ H Q ⟨w, ρ, S, re, rl, f⟩ => (fin.ok rl f) v (hd _)

def aBin (f : D → D → M D) (A B : AE) : AE := fun ρ S => (A ρ S).bind fun x S1 => (B ρ S1).bind fun y S2 => f x y S2
def aUn (f : D → M D) (A : AE) : AE := fun ρ S => (A ρ S).bind fun x S1 => f x S1
def OpOK (K : PySem.W.Frag) (EX : EW) (r : R2) (f : D → D → M D) : Prop := ∀ w S H x y dx dy Q, Rel K w S H → RD K w dx x → RD K w dy y → fin K EX (FQ K Q) w H (f dx dy S) → r x y H Q
theorem q_bin2 {e : Expr} {ta tb : AE} {r : R2} {f : D → D → M D} (h : PE X e (tOp r (tE X.K EX ta) (tE X.K EX tb))) (ok : ∀ EX, OpOK X.K EX r f) : QE X EX e (aBin f ta tb) := PE.imp h fun σ H Q ⟨w, ρ, S, re, rl, g⟩ =>
  ⟨w, ρ, S, re, rl, (fin.bind rl g).mono fun w1 S1 H1 d p1 rl1 g1 v rd => ⟨w1, ρ, S1, re.mono p1, rl1, (fin.bind rl1 g1).mono fun w2 S2 H2 d2 p2 rl2 g2 v2 rd2 => ok _ w2 S2 H2 v v2 d d2 Q rl2 (p2.rd rd) rd2 g2⟩⟩
theorem q_op {a b : Expr} {pos : Pos} {op : Operator} {A B : AE} {r : R2} {f : D → D → M D} (ho : OpR X (binaryOp op) r) (ok : ∀ EX, OpOK X.K EX r f) (ha : QE X EX a A) (hb : QE X EX b B) : QE X EX (.BinOp a op b pos) (aBin f A B) := q_bin2 (pe_op ho ha hb) ok
theorem q_cmp {a b : Expr} {pos : Pos} {op : CmpOp} {A B : AE} {r : R2} {f : D → D → M D} (ho : OpR X (compareOp op) r) (ok : ∀ EX, OpOK X.K EX r f) (ha : QE X EX a A) (hb : QE X EX b B) (hm : behindInMarks op b = false) : QE X EX (.Compare a [op] [b] pos) (aBin f A B) := q_bin2 (pe_cmpR ho ha hb hm) ok
def UnOK (K : PySem.W.Frag) (EX : EW) (r : V → Hp → VK → Prop) (f : D → M D) : Prop := ∀ w S H x dx Q, Rel K w S H → RD K w dx x → fin K EX (FQ K Q) w H (f dx S) → r x H Q
theorem q_un {a : Expr} {pos : Pos} {op : UnaryOp} {A : AE} {r : V → Hp → VK → Prop} {f : D → M D} (ho : UnR X (unaryOp op) r) (ok : ∀ EX, UnOK X.K EX r f) (ha : QE X EX a A) : QE X EX (.UnaryOp op a pos) (aUn f A) := PE.imp (pe_un ho ha) fun σ H Q ⟨w, ρ, S, re, rl, g⟩ =>
  ⟨w, ρ, S, re, rl, (fin.bind rl g).mono fun w1 S1 H1 d p1 rl1 g1 v rd => ok _ w1 S1 H1 v d Q rl1 rd g1⟩

/-! tests -/
def bOf : D → M Bool
  | .bl b => fun S => .ok b S
  | _ => fun _ => .no
def aB (A : AE) : AT := fun ρ S => (A ρ S).bind bOf
theorem bOf_bl {K : PySem.W.Frag} {EX : EW} {w : W} {S : List O} {H : Hp} {R : W → List O → Hp → Bool → Prop} {d : D} {v : V} (rl : Rel K w S H) (rd : RD K w d v) (h : fin K EX R w H (bOf d S)) : ∃ b, d = .bl b ∧ v = .bl b ∧ R w S H b := by
  cases d <;> first | exact h.elim | skip
  exact ⟨_, rfl, rd, fin.ok rl h⟩
theorem q_tval {e : Expr} {A : AE} (h : PT X e (tB (tE X.K EX A))) : QT X EX e (aB A) := PT.imp h fun σ H Q ⟨w, ρ, S, re, rl, g⟩ => ⟨w, ρ, S, re, rl, (fin.bind rl g).mono fun w1 S1 H1 d p1 rl1 g1 v rd => by
  obtain ⟨b, _, e2, q⟩ := bOf_bl rl1 rd g1
  exact ⟨b, e2, q⟩⟩
theorem q_tcmp {a b : Expr} {pos : Pos} {op : CmpOp} {A B : AE} {r : R2} {f : D → D → M D} (ho : OpR X (compareOp op) r) (ok : ∀ EX, OpOK X.K EX r f) (ha : QE X EX a A) (hb : QE X EX b B) (hm : behindInMarks op b = false) : QT X EX (.Compare a [op] [b] pos) (aB (aBin f A B)) :=
  PT.imp (pt_cmpR ho ha hb hm) fun σ H Q ⟨w, ρ, S, re, rl, g⟩ => by
    have g := fin.bind rl g
    unfold aBin at g
    exact ⟨w, ρ, S, re, rl, (fin.bind rl g).mono fun w1 S1 H1 d p1 rl1 g1 v rd => ⟨w1, ρ, S1, re.mono p1, rl1, (fin.bind rl1 g1).mono fun w2 S2 H2 d2 p2 rl2 g2 v2 rd2 => ok _ w2 S2 H2 v v2 d d2 _ rl2 (p2.rd rd) rd2 (g2.mono fun w3 S3 H3 d3 p3 rl3 g3 v3 rd3 => by
      obtain ⟨b, _, e2, q⟩ := bOf_bl rl3 rd3 g3
      exact ⟨b, e2, q⟩)⟩⟩
def aAnd (A B : AT) : AT := fun ρ S => (A ρ S).bind fun c S1 => sel c (B ρ S1) (.ok false S1)
def aOr (A B : AT) : AT := fun ρ S => (A ρ S).bind fun c S1 => sel c (.ok true S1) (B ρ S1)
def aNot (A : AT) : AT := fun ρ S => (A ρ S).bind fun c S1 => .ok (!c) S1
theorem q_and1 {a : Expr} {pos : Pos} {A : AT} (h : QT X EX a A) : QW X EX (.BoolOp .And [a] pos) A := pw_and1 h
theorem q_or1 {a : Expr} {pos : Pos} {A : AT} (h : QT X EX a A) : QW X EX (.BoolOp .Or [a] pos) A := pw_or1 h
theorem q_and {a b : Expr} {rest : List Expr} {pos : Pos} {A B : AT} (ha : QT X EX a A) (hb : QW X EX (.BoolOp .And (b :: rest) pos) B) : QW X EX (.BoolOp .And (a :: b :: rest) pos) (aAnd A B) := PW.imp (pw_and ha hb) fun σ H Q ⟨w, ρ, S, re, rl, g⟩ =>
  ⟨w, ρ, S, re, rl, (fin.bind rl g).mono fun w1 S1 H1 c p1 rl1 g1 => by
    cases c with
    | true => exact iT (B := Q false H1) ⟨w1, ρ, S1, re.mono p1, rl1, g1⟩
    | false => exact iF (A := tT X.K EX B σ H1 Q) (fin.ok (EX := EX σ) rl1 g1)⟩
theorem q_or {a b : Expr} {rest : List Expr} {pos : Pos} {A B : AT} (ha : QT X EX a A) (hb : QW X EX (.BoolOp .Or (b :: rest) pos) B) : QW X EX (.BoolOp .Or (a :: b :: rest) pos) (aOr A B) := PW.imp (pw_or ha hb) fun σ H Q ⟨w, ρ, S, re, rl, g⟩ =>
  ⟨w, ρ, S, re, rl, (fin.bind rl g).mono fun w1 S1 H1 c p1 rl1 g1 => by
    cases c with
    | true => exact iT (B := tT X.K EX B σ H1 Q) (fin.ok (EX := EX σ) rl1 g1)
    | false => exact iF (A := Q true H1) ⟨w1, ρ, S1, re.mono p1, rl1, g1⟩⟩
theorem q_not {a : Expr} {pos : Pos} {A : AT} (ha : QT X EX a A) : QT X EX (.UnaryOp .Not a pos) (aNot A) := PT.imp (pt_not ha) fun σ H Q ⟨w, ρ, S, re, rl, g⟩ =>
  ⟨w, ρ, S, re, rl, (fin.bind rl g).mono fun w1 S1 H1 c p1 rl1 g1 => fin.ok (EX := EX σ) rl1 g1⟩
def aAndV (A B : AE) : AE := fun ρ S => (aB A ρ S).bind fun c S1 => sel c (B ρ S1) (.ok (.bl false) S1)
def aOrV (A B : AE) : AE := fun ρ S => (aB A ρ S).bind fun c S1 => sel c (.ok (.bl true) S1) (B ρ S1)
def aNotV (A : AE) : AE := fun ρ S => (aB A ρ S).bind fun c S1 => .ok (.bl (!c)) S1
theorem aB_bind {K : PySem.W.Frag} {EX : EW} {w : W} {S : List O} {H : Hp} {β : Type} {R : W → List O → Hp → β → Prop} {A : AE} {ρ : Rho} {k : Bool → List O → Res β} (rl : Rel K w S H) (g : fin K EX R w H ((aB A ρ S).bind k)) :
    fin K EX (FQ K fun v H1 => ∃ b, v = .bl b ∧ ∃ w1 S1, Post w H w1 H1 ∧ Rel K w1 S1 H1 ∧ fin K EX R w1 H1 (k b S1)) w H (A ρ S) := by
  have g : fin K EX R w H ((A ρ S).bind fun d S1 => (bOf d S1).bind k) := by
    unfold aB at g
    cases h : A ρ S with
    | ok d S1 => rw [h] at g; exact g
    | err e S1 => rw [h] at g; exact g
    | no => rw [h] at g; exact g
  refine (fin.bind rl g).mono fun w1 S1 H1 d p1 rl1 g1 v rd => ?_
  obtain ⟨b, e1, e2, q⟩ := bOf_bl rl1 rd (fin.bind rl1 g1)
  exact ⟨b, e2, w1, S1, p1, rl1, q⟩
theorem q_one {a : Expr} {op pos} {A : AE} (ha : QE X EX a A) : QE X EX (.BoolOp op [a] pos) A := pe_one ha
theorem q_andV {a b : Expr} {rest : List Expr} {pos : Pos} {A B : AE} (ha : QE X EX a A) (hb : QE X EX (.BoolOp .And (b :: rest) pos) B) : QE X EX (.BoolOp .And (a :: b :: rest) pos) (aAndV A B) := PE.imp (pe_and ha hb) fun σ H Q ⟨w, ρ, S, re, rl, g⟩ =>
  ⟨w, ρ, S, re, rl, (aB_bind rl g).mono fun w1 S1 H1 d p1 rl1 h v rd => by
    obtain ⟨b, e, w2, S2, p2, rl2, q⟩ := h v rd
    refine ⟨b, e, ?_⟩
    cases b with
    | true => exact iT ⟨w2, ρ, S2, re.mono p2, rl2, q⟩
    | false => exact iF (fin.ok rl2 q _ rfl)⟩
theorem q_orV {a b : Expr} {rest : List Expr} {pos : Pos} {A B : AE} (ha : QE X EX a A) (hb : QE X EX (.BoolOp .Or (b :: rest) pos) B) : QE X EX (.BoolOp .Or (a :: b :: rest) pos) (aOrV A B) := PE.imp (pe_or ha hb) fun σ H Q ⟨w, ρ, S, re, rl, g⟩ =>
  ⟨w, ρ, S, re, rl, (aB_bind rl g).mono fun w1 S1 H1 d p1 rl1 h v rd => by
    obtain ⟨b, e, w2, S2, p2, rl2, q⟩ := h v rd
    refine ⟨b, e, ?_⟩
    cases b with
    | true => exact iT (fin.ok rl2 q _ rfl)
    | false => exact iF ⟨w2, ρ, S2, re.mono p2, rl2, q⟩⟩
theorem q_notV {a : Expr} {pos : Pos} {A : AE} (ha : QE X EX a A) : QE X EX (.UnaryOp .Not a pos) (aNotV A) := PE.imp (pe_not ha) fun σ H Q ⟨w, ρ, S, re, rl, g⟩ =>
  ⟨w, ρ, S, re, rl, (aB_bind rl g).mono fun w1 S1 H1 d p1 rl1 h v rd => by
    obtain ⟨b, e, w2, S2, p2, rl2, q⟩ := h v rd
    exact ⟨b, e, fin.ok rl2 q _ rfl⟩⟩
def aIf {α : Type} (T : AT) (A B : Rho → M α) : Rho → M α := fun ρ S => (T ρ S).bind fun c S1 => sel c (A ρ S1) (B ρ S1)
theorem q_if {c a b : Expr} {pos : Pos} {T : AT} {A B : AE} (hc : QT X EX c T) (ha : QE X EX a A) (hb : QE X EX b B) : QE X EX (.IfExp c a b pos) (aIf T A B) := PE.imp (pe_ifExp hc ha hb) fun σ H Q ⟨w, ρ, S, re, rl, g⟩ =>
  ⟨w, ρ, S, re, rl, (fin.bind rl g).mono fun w1 S1 H1 c p1 rl1 g1 => by
    cases c with
    | true => exact iT (B := tE X.K EX B σ H1 Q) ⟨w1, ρ, S1, re.mono p1, rl1, g1⟩
    | false => exact iF (A := tE X.K EX A σ H1 Q) ⟨w1, ρ, S1, re.mono p1, rl1, g1⟩⟩
/-- a op b op' c -/
def aChain (f f' : D → D → M D) (A B C : AE) : AE := fun ρ S => (A ρ S).bind fun x S1 => (B ρ S1).bind fun y S2 => (f x y S2).bind fun d S3 => (bOf d S3).bind fun c S4 => sel c ((C ρ S4).bind fun z S5 => f' y z S5) (.ok (.bl false) S4)
theorem rd_chain {K : PySem.W.Frag} {A B C : AE} {r r' : R2} {f f' : D → D → M D} (ok : ∀ EX, OpOK K EX r f) (ok' : ∀ EX, OpOK K EX r' f') (σ : St) (H : Hp) (Q : VK) (h : tE K EX (aChain f f' A B C) σ H Q) : tChain r r' (tE K EX A) (tE K EX B) (tE K EX C) σ H Q := by
  obtain ⟨w, ρ, S, re, rl, g⟩ := h
  exact ⟨w, ρ, S, re, rl, (fin.bind rl g).mono fun w1 S1 H1 d p1 rl1 g1 v rd => ⟨w1, ρ, S1, re.mono p1, rl1, (fin.bind rl1 g1).mono fun w2 S2 H2 d2 p2 rl2 g2 v2 rd2 => ok _ w2 S2 H2 v v2 d d2 _ rl2 (p2.rd rd) rd2 ((fin.bind rl2 g2).mono fun w3 S3 H3 d3 p3 rl3 g3 v3 rd3 => by
    obtain ⟨k, e1, e2, q⟩ := bOf_bl rl3 rd3 (fin.bind rl3 g3)
    refine ⟨k, e2, ?_⟩
    cases k with
    | true => exact iT ⟨w3, ρ, S3, ((re.mono p1).mono p2).mono p3, rl3, (fin.bind rl3 q).mono fun w4 S4 H4 d4 p4 rl4 g4 v4 rd4 => ok' _ w4 S4 H4 v2 v4 d2 d4 Q rl4 (p4.rd (p3.rd rd2)) rd4 g4⟩
    | false => exact iF (fin.ok rl3 q _ rfl))⟩⟩
theorem q_chain {e : Expr} {A B C : AE} {r r' : R2} {f f' : D → D → M D} (ok : ∀ EX, OpOK X.K EX r f) (ok' : ∀ EX, OpOK X.K EX r' f') (h : PE X e (tChain r r' (tE X.K EX A) (tE X.K EX B) (tE X.K EX C))) : QE X EX e (aChain f f' A B C) := PE.imp h (rd_chain ok ok')

/-! lists of expressions -/
def aNil : AL := fun _ S => .ok [] S
def aCons (A : AE) (B : AL) : AL := fun ρ S => (A ρ S).bind fun x S1 => (B ρ S1).bind fun xs S2 => .ok (x :: xs) S2
theorem ql_nil : QL X EX [] aNil := PA.imp pa_nil fun σ H Q ⟨w, ρ, S, re, rl, g⟩ => fin.ok rl g _ rfl
theorem ql_cons {e : Expr} {es : List Expr} {A : AE} {B : AL} (ha : QE X EX e A) (hb : QL X EX es B) (hs : starEach (e :: es) X.env = (false, eval e X.env) :: starEach es X.env := by rfl) : QL X EX (e :: es) (aCons A B) := PA.imp (pa_cons ha hb hs) fun σ H Q ⟨w, ρ, S, re, rl, g⟩ =>
  ⟨w, ρ, S, re, rl, (fin.bind rl g).mono fun w1 S1 H1 d p1 rl1 g1 v rd => ⟨w1, ρ, S1, re.mono p1, rl1, (fin.bind rl1 g1).mono fun w2 S2 H2 ds p2 rl2 g2 vs rds => fin.ok rl2 g2 _ ⟨v, vs, rfl, p2.rd rd, rds⟩⟩⟩
def small (n : Nat) : Bool := decide (n ≤ 100000)
theorem small_line {n : Nat} (h : small n = true) : n ≤ sizeLine := by
  have := of_decide_eq_true h
  rw [sizeLine_eq]; omega
def aTup (B : AL) : AE := fun ρ S => (B ρ S).bind fun xs S1 => if small xs.length then .ok (.tup xs) S1 else .no
def aLst (B : AL) : AE := fun ρ S => (B ρ S).bind fun xs S1 => if small xs.length then .ok (.lst xs) S1 else .no
/-- a list that will change -/
def aLstM (B : AL) : AE := fun ρ S => (B ρ S).bind fun xs S1 => if small xs.length then .ok (.loc S1.length) (S1 ++ [.lst xs]) else .no
theorem sqT_new {K : PySem.W.Frag} {w : W} {p : Addr} {vs : List V} : SqT K (w.addF p (.tup vs)).F p vs := .inl (.inl upd_same)
theorem new_tup {K : PySem.W.Frag} {EX : EW} {w : W} {S : List O} {H : Hp} {Q : VK} {ds : List D} {vs : List V} (rl : Rel K w S H) (rds : RDs K w ds vs) (g : fin K EX (FQ K Q) w H (.ok (.tup ds) S)) : ∀ p, H p = none → Q (.ref p) (upd H p (.tup vs)) := fun p hp =>
  g _ _ (post_addF rl hp) (rel_addF rl hp) _ ⟨p, vs, rfl, sqT_new, (post_addF (o := .tup vs) rl hp).rds rds⟩
theorem new_lst {K : PySem.W.Frag} {EX : EW} {w : W} {S : List O} {H : Hp} {Q : VK} {ds : List D} {vs : List V} (rl : Rel K w S H) (rds : RDs K w ds vs) (g : fin K EX (FQ K Q) w H (.ok (.lst ds) S)) : ∀ p, H p = none → Q (.ref p) (upd H p (.lst vs)) := fun p hp =>
  g _ _ (post_addF rl hp) (rel_addF rl hp) _ ⟨p, vs, rfl, upd_same, (post_addF (o := .lst vs) rl hp).rds rds⟩
theorem new_loc {K : PySem.W.Frag} {EX : EW} {w : W} {S : List O} {H : Hp} {Q : VK} {ds : List D} {vs : List V} (rl : Rel K w S H) (rds : RDs K w ds vs) (g : fin K EX (FQ K Q) w H (.ok (.loc S.length) (S ++ [.lst ds]))) : ∀ p, H p = none → Q (.ref p) (upd H p (.lst vs)) := fun p hp =>
  g _ _ (post_addM (o := .lst vs) rl hp) (rel_addM rl hp ⟨vs, upd_same, (post_addM (o := .lst vs) rl hp).rds rds⟩) _ ⟨p, rfl, by
    show (w.m ++ [p])[S.length]? = some p
    rw [← rl.len, List.getElem?_append_right (Nat.le_refl _), Nat.sub_self]; rfl⟩
theorem q_tup {es : List Expr} {x1} {pos : Pos} {B : AL} (h : QL X EX es B) : QE X EX (.Tuple es x1 pos) (aTup B) := PE.imp (pe_tup h) fun σ H Q ⟨w, ρ, S, re, rl, g⟩ =>
  ⟨w, ρ, S, re, rl, (fin.bind rl g).mono fun w1 S1 H1 ds p1 rl1 g1 vs rds => by
    split at g1
    · next c => exact ⟨by rw [← rds.length]; exact small_line c, new_tup rl1 rds g1⟩
    · exact g1.elim⟩
theorem q_lst {es : List Expr} {pos : Pos} {B : AL} (h : QL X EX es B) : QE X EX (.List es pos) (aLst B) := PE.imp (pe_lst h) fun σ H Q ⟨w, ρ, S, re, rl, g⟩ =>
  ⟨w, ρ, S, re, rl, (fin.bind rl g).mono fun w1 S1 H1 ds p1 rl1 g1 vs rds => by
    split at g1
    · next c => exact ⟨by rw [← rds.length]; exact small_line c, new_lst rl1 rds g1⟩
    · exact g1.elim⟩
theorem q_lstM {es : List Expr} {pos : Pos} {B : AL} (h : QL X EX es B) : QE X EX (.List es pos) (aLstM B) := PE.imp (pe_lst h) fun σ H Q ⟨w, ρ, S, re, rl, g⟩ =>
  ⟨w, ρ, S, re, rl, (fin.bind rl g).mono fun w1 S1 H1 ds p1 rl1 g1 vs rds => by
    split at g1
    · next c => exact ⟨by rw [← rds.length]; exact small_line c, new_loc rl1 rds g1⟩
    · exact g1.elim⟩
end
end E

namespace E
open PySem L2

/-! ### what a tree is in the heap -/
def dl : D → List O → Option (List D)
  | .lst xs, _ => some xs
  | .frz xs, _ => some xs
  | .loc n, S => match S[n]? with
    | some (.lst xs) => some xs
    | _ => none
  | _, _ => none
/-- a list that is no known one -/
def dw : D → List O → Option (List D)
  | .lst xs, _ => some xs
  | .loc n, S => match S[n]? with
    | some (.lst xs) => some xs
    | _ => none
  | _, _ => none
section
variable {K : PySem.W.Frag} {EX : EW} {w : W} {S : List O} {H : Hp} {d : D} {v : V} {xs : List D}
theorem dw_rd (rl : Rel K w S H) (rd : RD K w d v) (h : dw d S = some xs) : ∃ a vs, v = .ref a ∧ H a = some (.lst vs) ∧ RDs K w xs vs := by
  cases d <;> simp only [dw, reduceCtorEq] at h
  · next n =>
    obtain ⟨a, e, q⟩ := rd
    split at h
    · next ys e2 =>
      cases h
      obtain ⟨vs, h1, h2⟩ := rl.obj n a _ q e2
      exact ⟨a, vs, e, h1, h2⟩
    · cases h
  · next ys =>
    cases h
    obtain ⟨a, vs, e, q, r⟩ := rd
    exact ⟨a, vs, e, rl.fz _ _ q, r⟩
theorem dl_rd (rl : Rel K w S H) (rd : RD K w d v) (h : dl d S = some xs) : ∃ a vs, v = .ref a ∧ SqL K H a vs ∧ RDs K w xs vs := by
  cases d <;> simp only [dl, reduceCtorEq] at h
  · next n =>
    obtain ⟨a, vs, e, q, r⟩ := dw_rd rl rd (d := .loc n) h
    exact ⟨a, vs, e, .inl (.inl q), r⟩
  · next ys =>
    obtain ⟨a, vs, e, q, r⟩ := dw_rd rl rd (d := .lst ys) h
    exact ⟨a, vs, e, .inl (.inl q), r⟩
  · next ys =>
    cases h
    obtain ⟨a, vs, e, q, r⟩ := rd
    exact ⟨a, vs, e, SqL.sub q rl.fz, r⟩
theorem dt_rd (rl : Rel K w S H) (rd : RD K w (.tup xs) v) : ∃ a vs, v = .ref a ∧ SqT K H a vs ∧ RDs K w xs vs := by
  obtain ⟨a, vs, e, q, r⟩ := rd
  exact ⟨a, vs, e, SqT.sub q rl.fz, r⟩
end

/-! ### data -/
mutual
def pd : List O → D → Option PyData
  | _, .non => some .none
  | _, .bl b => some (.bool b)
  | _, .int i => some (.int i)
  | _, .str x => some (.str x)
  | S, .tup xs => (pds S xs).map .tuple
  | S, .lst xs => (pds S xs).map .list
  | S, .frz xs => (pds S xs).map .list
  | _, _ => none
def pds : List O → List D → Option (List PyData)
  | _, [] => some []
  | S, x :: xs => match pd S x, pds S xs with
    | some p, some ps => some (p :: ps)
    | _, _ => none
end
def pdS (S : List O) : D → Option PyData
  | .loc n => match S[n]? with
    | some (.lst xs) => (pds S xs).map .list
    | _ => none
  | d => pd S d
section
variable {K : PySem.W.Frag} {EX : EW} {w : W} {S : List O} {H : Hp}
mutual
theorem pd_dp (rl : Rel K w S H) : ∀ (d : D) (v : V) (p : PyData), RD K w d v → pd S d = some p → Dp K H v p ∧ p.plain = true
  | .non, v, p, rd, h => by
    rw [show v = .non from rd]; simp only [pd, Option.some.injEq] at h; subst h; exact ⟨.non, rfl⟩
  | .bl b, v, p, rd, h => by
    rw [show v = .bl b from rd]; simp only [pd, Option.some.injEq] at h; subst h; exact ⟨.bl b, rfl⟩
  | .int b, v, p, rd, h => by
    rw [show v = .int b from rd]; simp only [pd, Option.some.injEq] at h; subst h; exact ⟨.int b, rfl⟩
  | .str b, v, p, rd, h => by
    rw [show v = .str b from rd]; simp only [pd, Option.some.injEq] at h; subst h; exact ⟨.str b, rfl⟩
  | .tup ds, v, p, rd, h => by
    simp only [pd, Option.map_eq_some_iff] at h
    obtain ⟨ps, h1, rfl⟩ := h
    obtain ⟨a, vs, rfl, q, r⟩ := rd
    obtain ⟨z, zp⟩ := pds_dp rl ds vs ps r h1
    exact ⟨.tup (SqT.sub q rl.fz) z, by simpa only [PyData.plain] using zp⟩
  | .lst ds, v, p, rd, h => by
    simp only [pd, Option.map_eq_some_iff] at h
    obtain ⟨ps, h1, rfl⟩ := h
    obtain ⟨a, vs, rfl, q, r⟩ := rd
    obtain ⟨z, zp⟩ := pds_dp rl ds vs ps r h1
    exact ⟨.lst (.inl (.inl (rl.fz _ _ q))) z, by simpa only [PyData.plain] using zp⟩
  | .frz ds, v, p, rd, h => by
    simp only [pd, Option.map_eq_some_iff] at h
    obtain ⟨ps, h1, rfl⟩ := h
    obtain ⟨a, vs, rfl, q, r⟩ := rd
    obtain ⟨z, zp⟩ := pds_dp rl ds vs ps r h1
    exact ⟨.lst (SqL.sub q rl.fz) z, by simpa only [PyData.plain] using zp⟩
  | .ty _, _, _, _, h => by simp only [pd, reduceCtorEq] at h
  | .raw _, _, _, _, h => by simp only [pd, reduceCtorEq] at h
  | .loc _, _, _, _, h => by simp only [pd, reduceCtorEq] at h
theorem pds_dp (rl : Rel K w S H) : ∀ (ds : List D) (vs : List V) (ps : List PyData), RDs K w ds vs → pds S ds = some ps → DpAll K H vs ps ∧ PyData.plainAll ps = true
  | [], vs, ps, r, h => by
    simp only [pds, Option.some.injEq] at h; subst h
    rw [show vs = [] from r]
    exact ⟨.nil, rfl⟩
  | d :: ds, vs, ps, r, h => by
    obtain ⟨v, r', rfl, h1, h2⟩ := r
    simp only [pds] at h
    split at h
    · next p ps' e1 e2 =>
      cases h
      obtain ⟨z1, p1⟩ := pd_dp rl d v p h1 e1
      obtain ⟨z2, p2⟩ := pds_dp rl ds r' ps' h2 e2
      exact ⟨.cons z1 z2, by simp only [PyData.plainAll, p1, p2, Bool.and_self]⟩
    · cases h
end
theorem pdS_dp (rl : Rel K w S H) {d : D} {v : V} {p : PyData} (rd : RD K w d v) (h : pdS S d = some p) : Dp K H v p ∧ p.plain = true := by
  cases d with
  | loc n =>
    simp only [pdS] at h
    split at h
    · next xs e =>
      simp only [Option.map_eq_some_iff] at h
      obtain ⟨ps, h1, rfl⟩ := h
      obtain ⟨a, e1, q⟩ := rd
      obtain ⟨vs, h3, h4⟩ := rl.obj n a _ q e
      obtain ⟨z, zp⟩ := pds_dp rl xs vs ps h4 h1
      subst e1
      exact ⟨.lst (.inl (.inl h3)) z, by simpa only [PyData.plain] using zp⟩
    · cases h
  | _ => exact pd_dp rl _ v p rd h
end

/-! ### + - * // % ** -/
def aAdd : D → D → M D
  | .int i, .int j => fun S => .ok (.int (i + j)) S
  | .str a, .str b => fun S => if small (a.length + b.length) then .ok (.str (a ++ b)) S else .no
  | .tup xs, .tup ys => fun S => if small (xs.length + ys.length) then .ok (.tup (xs ++ ys)) S else .no
  | d, e => fun S => match dw d S, dw e S with
    | some xs, some ys => if small (xs.length + ys.length) then .ok (.lst (xs ++ ys)) S else .no
    | _, _ => .no
def small64 (i : Int) : Bool := decide (-(2 ^ 64) < i) && decide (i < 2 ^ 64)
def mulOk (i j : Int) : Bool := small64 i || small64 j || decide (i.natAbs.log2 + j.natAbs.log2 < 1000000)
def divOk (j : Int) : Bool := decide (j ≠ 0) && decide (j.natAbs.log2 < 9000)
def aSub : D → D → M D
  | .int i, .int j => fun S => .ok (.int (i - j)) S
  | _, _ => fun _ => .no
def repOk (n : Nat) (k : Int) : Bool := decide (-(2 ^ 63) ≤ k) && decide (k < 2 ^ 63) && small (n * k.toNat)
def aMul : D → D → M D
  | .int i, .int j => fun S => if mulOk i j then .ok (.int (i * j)) S else .no
  | d, .int k => fun S => match dw d S with
    | some xs => if repOk xs.length k then .ok (.lst (List.replicate k.toNat xs).flatten) S else .no
    | none => .no
  | _, _ => fun _ => .no
def qu (i j : Int) : Int := if 0 < j then i / j else i.fdiv j
def rm (i j : Int) : Int := if 0 < j then i % j else i.fmod j
theorem qu_pos {i j : Int} (h : 0 < j) : qu i j = i / j := if_pos h
theorem rm_pos {i j : Int} (h : 0 < j) : rm i j = i % j := if_pos h
theorem qu_eq (i j : Int) : qu i j = i.fdiv j := by
  unfold qu
  split
  · next h => rw [Int.fdiv_eq_ediv_of_nonneg i (by omega)]
  · rfl
theorem rm_eq (i j : Int) : rm i j = i.fmod j := by
  unfold rm
  split
  · next h => rw [Int.fmod_eq_emod_of_nonneg i (by omega)]
  · rfl
def aDiv : D → D → M D
  | .int i, .int j => fun S => if divOk j then .ok (.int (qu i j)) S else .no
  | _, _ => fun _ => .no
def aMod : D → D → M D
  | .int i, .int j => fun S => if decide (j ≠ 0) then .ok (.int (rm i j)) S else .no
  | _, _ => fun _ => .no
def powOk (i j : Int) : Bool := decide (0 ≤ j) && decide (j ≤ 1000000) && decide (i.natAbs < 2 ^ 64)
def aPow : D → D → M D
  | .int i, .int j => fun S => if powOk i j then .ok (.int (i ^ j.toNat)) S else .no
  | _, _ => fun _ => .no
def aNeg : D → M D
  | .int i => fun S => .ok (.int (-i)) S
  | _ => fun _ => .no
/-- one of two readings -/
theorem OpOK.or {K : PySem.W.Frag} {EX : EW} {r r' : R2} {f : D → D → M D} (h : ∀ w S H x y dx dy Q, Rel K w S H → RD K w dx x → RD K w dy y → fin K EX (FQ K Q) w H (f dx dy S) → r x y H Q ∨ r' x y H Q) : OpOK K EX (fun x y H Q => r x y H Q ∨ r' x y H Q) f := h
def rAddA (K : PySem.W.Frag) : R2 := fun x y H Q => (((rI0 fun i j => .int (i + j)) x y H Q ∨ (∃ i j, x = .str i ∧ y = .str j ∧ i.length + j.length ≤ sizeLine ∧ Q (.str (i ++ j)) H)) ∨ rCatA K x y H Q) ∨ rCat x y H Q
theorem or_add {X : Cx} : OpR X (binaryOp .Add) (rAddA X.K) := OpR.or (OpR.or (OpR.or op_add op_add_str) op_catA) op_cat
theorem ok_cat {K : PySem.W.Frag} {EX : EW} {w : W} {S : List O} {H : Hp} {x y : V} {dx dy : D} {Q : VK} (rl : Rel K w S H) (rx : RD K w dx x) (ry : RD K w dy y)
    (g : fin K EX (FQ K Q) w H (match dw dx S, dw dy S with
    | some xs, some ys => if small (xs.length + ys.length) then .ok (.lst (xs ++ ys)) S else .no
    | _, _ => .no)) : rCat x y H Q := by
  split at g
  · next xs ys e1 e2 =>
    split at g
    · next c =>
      obtain ⟨a, vs, rfl, h1, r1⟩ := dw_rd rl rx e1
      obtain ⟨b, us, rfl, h2, r2⟩ := dw_rd rl ry e2
      exact ⟨a, b, vs, us, rfl, rfl, h1, h2, by rw [← r1.length, ← r2.length]; exact small_line c, new_lst rl (r1.append r2) g⟩
    · exact g.elim
  · exact g.elim
theorem ok_add {K : PySem.W.Frag} {EX : EW} : OpOK K EX (rAddA K) aAdd := by
  intro w S H x y dx dy Q rl rx ry g
  unfold aAdd at g
  split at g
  · next i j => exact .inl (.inl (.inl ⟨i, j, rx, ry, fin.ok rl g _ rfl⟩))
  · next a b =>
    split at g
    · next c => exact .inl (.inl (.inr ⟨a, b, rx, ry, small_line c, fin.ok rl g _ rfl⟩))
    · exact g.elim
  · next xs ys =>
    split at g
    · next c =>
      obtain ⟨a, vs, rfl, h1, r1⟩ := dt_rd rl rx
      obtain ⟨b, us, rfl, h2, r2⟩ := dt_rd rl ry
      refine .inl (.inr ⟨a, b, vs, us, rfl, rfl, h1, h2, by rw [← r1.length, ← r2.length]; exact small_line c, fun e => ?_, fun n e => ?_, fun n n2 p hp => new_tup rl (r1.append r2) g p hp⟩)
      · subst e
        have : xs = [] := List.length_eq_zero_iff.mp (by rw [r1.length]; rfl)
        subst this
        exact fin.ok rl g _ ry
      · subst e
        have : ys = [] := List.length_eq_zero_iff.mp (by rw [r2.length]; rfl)
        subst this
        rw [List.append_nil] at g
        exact fin.ok rl g _ rx
    · exact g.elim
  · exact .inr (ok_cat rl rx ry g)
theorem ok_sub {K : PySem.W.Frag} {EX : EW} : OpOK K EX (rI0 fun i j => .int (i - j)) aSub := by
  intro w S H x y dx dy Q rl rx ry g
  unfold aSub at g
  split at g
  · next i j => exact ⟨i, j, rx, ry, fin.ok rl g _ rfl⟩
  · exact g.elim
def rMulA : R2 := fun x y H Q => ((rI CMulW fun i j => .int (i * j)) x y H Q ∨ (rI CMul fun i j => .int (i * j)) x y H Q) ∨ rRep x y H Q
theorem or_mul {X : Cx} : OpR X (binaryOp .Mult) rMulA := OpR.or (OpR.or op_mulW op_mul) op_rep
theorem ok_mul {K : PySem.W.Frag} {EX : EW} : OpOK K EX rMulA aMul := by
  intro w S H x y dx dy Q rl rx ry g
  unfold aMul at g
  split at g
  · next i j =>
    split at g
    · next c =>
      simp only [mulOk, small64, Bool.or_eq_true, Bool.and_eq_true, decide_eq_true_eq] at c
      rcases c with (c | c) | c
      · exact .inl (.inr ⟨i, j, rx, ry, .inl c, fin.ok rl g _ rfl⟩)
      · exact .inl (.inr ⟨i, j, rx, ry, .inr c, fin.ok rl g _ rfl⟩)
      · exact .inl (.inl ⟨i, j, rx, ry, c, fin.ok rl g _ rfl⟩)
    · exact g.elim
  · next k nn =>
    dsimp only at g
    split at g
    · next xs e =>
      split at g
      · next c =>
        obtain ⟨a, vs, rfl, h1, r1⟩ := dw_rd rl rx e
        simp only [repOk, Bool.and_eq_true, decide_eq_true_eq] at c
        exact .inr ⟨a, k, vs, rfl, ry, h1, c.1.1, c.1.2, by rw [← r1.length]; exact small_line c.2, new_lst rl (r1.replicate _) g⟩
      · exact g.elim
    · exact g.elim
  · exact g.elim
theorem ok_div {K : PySem.W.Frag} {EX : EW} : OpOK K EX (rI Z.CDivX fun i j => .int (i.fdiv j)) aDiv := by
  intro w S H x y dx dy Q rl rx ry g
  unfold aDiv at g
  split at g
  · next i j =>
    split at g
    · next c =>
      simp only [divOk, Bool.and_eq_true, decide_eq_true_eq] at c
      exact ⟨i, j, rx, ry, c, by show Q (.int (i.fdiv j)) H; rw [← qu_eq]; exact fin.ok rl g _ rfl⟩
    · exact g.elim
  · exact g.elim
theorem ok_mod {K : PySem.W.Frag} {EX : EW} : OpOK K EX (rI (fun _ j => j ≠ 0) fun i j => .int (i.fmod j)) aMod := by
  intro w S H x y dx dy Q rl rx ry g
  unfold aMod at g
  split at g
  · next i j =>
    split at g
    · next c => exact ⟨i, j, rx, ry, of_decide_eq_true c, by show Q (.int (i.fmod j)) H; rw [← rm_eq]; exact fin.ok rl g _ rfl⟩
    · exact g.elim
  · exact g.elim
theorem ok_pow {K : PySem.W.Frag} {EX : EW} : OpOK K EX (rI CPow fun i j => .int (i ^ j.toNat)) aPow := by
  intro w S H x y dx dy Q rl rx ry g
  unfold aPow at g
  split at g
  · next i j =>
    split at g
    · next c =>
      simp only [powOk, Bool.and_eq_true, decide_eq_true_eq] at c
      exact ⟨i, j, rx, ry, ⟨c.1.1, c.1.2, c.2⟩, fin.ok rl g _ rfl⟩
    · exact g.elim
  · exact g.elim
theorem ok_neg {K : PySem.W.Frag} {EX : EW} : UnOK K EX (rU fun i => .int (-i)) aNeg := by
  intro w S H x dx Q rl rx g
  unfold aNeg at g
  split at g
  · next i => exact ⟨i, rx, fin.ok rl g _ rfl⟩
  · exact g.elim

/-! ### comparisons -/
def aLt : D → D → M D
  | .int i, .int j => fun S => .ok (.bl (decide (i < j))) S
  | .str i, .str j => fun S => .ok (.bl (decide (i.cps.toList < j.cps.toList))) S
  | _, _ => fun _ => .no
def aLe : D → D → M D
  | .int i, .int j => fun S => .ok (.bl (decide (i ≤ j))) S
  | _, _ => fun _ => .no
def aGt : D → D → M D
  | .int i, .int j => fun S => .ok (.bl (decide (j < i))) S
  | _, _ => fun _ => .no
def aGe : D → D → M D
  | .int i, .int j => fun S => .ok (.bl (decide (j ≤ i))) S
  | _, _ => fun _ => .no
theorem or_lt {X : Cx} : OpR X (compareOp .Lt) (fun x y H Q => (rI0 fun i j => .bl (decide (i < j))) x y H Q ∨ (∃ i j, x = .str i ∧ y = .str j ∧ Q (.bl (decide (i.cps.toList < j.cps.toList))) H)) := OpR.or op_lt op_lt_str
theorem ok_lt {K : PySem.W.Frag} {EX : EW} : OpOK K EX (fun x y H Q => (rI0 fun i j => .bl (decide (i < j))) x y H Q ∨ (∃ i j, x = .str i ∧ y = .str j ∧ Q (.bl (decide (i.cps.toList < j.cps.toList))) H)) aLt := by
  intro w S H x y dx dy Q rl rx ry g
  unfold aLt at g
  split at g
  · next i j => exact .inl ⟨i, j, rx, ry, fin.ok rl g _ rfl⟩
  · next i j => exact .inr ⟨i, j, rx, ry, fin.ok rl g _ rfl⟩
  · exact g.elim
theorem ok_le {K : PySem.W.Frag} {EX : EW} : OpOK K EX (rI0 fun i j => .bl (decide (i ≤ j))) aLe := by
  intro w S H x y dx dy Q rl rx ry g
  unfold aLe at g
  split at g
  · next i j => exact ⟨i, j, rx, ry, fin.ok rl g _ rfl⟩
  · exact g.elim
theorem ok_gt {K : PySem.W.Frag} {EX : EW} : OpOK K EX (rI0 fun i j => .bl (decide (j < i))) aGt := by
  intro w S H x y dx dy Q rl rx ry g
  unfold aGt at g
  split at g
  · next i j => exact ⟨i, j, rx, ry, fin.ok rl g _ rfl⟩
  · exact g.elim
theorem ok_ge {K : PySem.W.Frag} {EX : EW} : OpOK K EX (rI0 fun i j => .bl (decide (j ≤ i))) aGe := by
  intro w S H x y dx dy Q rl rx ry g
  unfold aGe at g
  split at g
  · next i j => exact ⟨i, j, rx, ry, fin.ok rl g _ rfl⟩
  · exact g.elim
/-- == of data, of types -/
def aEq : D → D → M D
  | .ty a, .ty b => fun S => .ok (.bl (decide (a = b))) S
  | d, e => fun S => match pdS S d, pdS S e with
    | some p, some q => if min p.depth q.depth ≤ 60 then .ok (.bl (PyData.eqv p q)) S else .no
    | _, _ => .no
def aNe : D → D → M D
  | .ty a, .ty b => fun S => .ok (.bl (!decide (a = b))) S
  | d, e => fun S => match pdS S d, pdS S e with
    | some p, some q => if min p.depth q.depth ≤ 60 then .ok (.bl (!PyData.eqv p q)) S else .no
    | _, _ => .no
def rEqP (K : PySem.W.Frag) : R2 := fun x y H Q => ∃ p q, Dp K H x p ∧ Dp K H y q ∧ p.plain = true ∧ q.plain = true ∧ min p.depth q.depth ≤ 60 ∧ Q (.bl (PyData.eqv p q)) H
def rNeP (K : PySem.W.Frag) : R2 := fun x y H Q => ∃ p q, Dp K H x p ∧ Dp K H y q ∧ p.plain = true ∧ q.plain = true ∧ min p.depth q.depth ≤ 60 ∧ Q (.bl (!PyData.eqv p q)) H
theorem op_eqP {X : Cx} (hu : X.A.units + 64 < cLine) : OpR X (compareOp .Eq) (rEqP X.K) := by
  intro pins s σ H x y v u Q I rx ry h
  obtain ⟨d, e, hd, he, sd, se, hm, q⟩ := h
  obtain ⟨as, r1⟩ := Dp.reads I d x v hd rx
  obtain ⟨bs, r2⟩ := Dp.reads I e y u he ry
  exact SeqAt.eq_plain r1 r2 sd se (by omega) ⟨.bl _, H, I, rfl, q⟩
theorem op_neP {X : Cx} (hu : X.A.units + 64 < cLine) : OpR X (compareOp .NotEq) (rNeP X.K) := by
  intro pins s σ H x y v u Q I rx ry h
  obtain ⟨d, e, hd, he, sd, se, hm, q⟩ := h
  obtain ⟨as, r1⟩ := Dp.reads I d x v hd rx
  obtain ⟨bs, r2⟩ := Dp.reads I e y u he ry
  exact SeqAt.ne_plain r1 r2 sd se (by omega) ⟨.bl _, H, I, rfl, q⟩
end E

namespace PySem
open PySem PySem.TypeEq Sem Builtin
theorem slot_type_neA : Slot "type" (cmpInfo .NotEq).2.1 "object.__ne__" :=
  .of (owner := "object") (n := "__ne__") (by rw [typeLookup_type, builtinLookup_eq_fast]; kernel_rfl) (by decide +kernel) (by decide +kernel) (by decide +kernel)
    (by first | exact .inl (by decide +kernel) | exact .inr (by decide +kernel)) (by rw [isSubtype_type]; kernel_rfl)
theorem slot_type_neB : Slot "type" (cmpInfo .NotEq).2.2 "object.__ne__" :=
  .of (owner := "object") (n := "__ne__") (by rw [typeLookup_type, builtinLookup_eq_fast]; kernel_rfl) (by decide +kernel) (by decide +kernel) (by decide +kernel)
    (by first | exact .inl (by decide +kernel) | exact .inr (by decide +kernel)) (by rw [isSubtype_type]; kernel_rfl)
section
variable {prog : Program} {w : World} {A : Around} {E : Value → Shared → Prop} {s : Shared}
theorem objNe_type {X Y : String} {Q : Value → Shared → Prop} (hX : ∀ s' : Shared, s'.TypeIs (.type X) "type") (h : Q (if (Value.type X == Value.type Y) = true then .bool false else .notImplemented) s) :
    wpAny (model prog w) A (call (.builtin "object.__ne__") [.type X, .type Y]) Q E s := by
  refine wpAny_call_entry slot_type_neA (hX s) F.cmpEntry_ne ?_ (F.cmpArgs_ne _ _)
  unfold Builtin.«object.__ne__»
  cases e : (Value.type X == Value.type Y) with
  | true =>
    rw [e] at h
    repeat (first
      | with_reducible refine wpAny_cRoomFor_or (.inl rfl) ?_
      | refine wpAny_bind (m := callSpecialIfBound? (.type X) (Str.ofString "__eq__") [.type Y]) (wpAny_callSpecialIfBound?_slot (hX s) slot_type_eq (call_gives slot_type_eq (hX s) F.entry_object_eq (F.args_object_eq_2 _ _) (object_eq_same rfl e) ?_))
      | wp_step)
    refine wpAny_bind (m := truthy (.bool true)) (wpAny_truthy_bool ?_)
    exact wpAny_pure ⟨_, rfl, h⟩
  | false =>
    rw [e] at h
    repeat (first
      | with_reducible refine wpAny_cRoomFor_or (.inl rfl) ?_
      | refine wpAny_bind (m := callSpecialIfBound? (.type X) (Str.ofString "__eq__") [.type Y]) (wpAny_callSpecialIfBound?_slot (hX s) slot_type_eq (call_gives slot_type_eq (hX s) F.entry_object_eq (F.args_object_eq_2 _ _) (object_eq_other rfl e) ?_))
      | wp_step)
    exact wpAny_pure (a := Fin.done (Flow.ret Value.notImplemented)) ⟨_, rfl, h⟩
theorem ne_type {X Y : String} {Q : Value → Shared → Prop} (hX : ∀ s' : Shared, s'.TypeIs (.type X) "type") (hY : ∀ s' : Shared, s'.TypeIs (.type Y) "type") (h : Q (.bool (!(Value.type X == Value.type Y))) s) :
    wpAny (model prog w) A (compareOp .NotEq (.type X) (.type Y)) Q E s := by
  show wpAny _ A (richCompare .NotEq _ _) Q E s
  rcases hi : cmpInfo CmpOp.NotEq with ⟨sym, f, r⟩
  have h1 := slot_type_neA
  have h2 := slot_type_neB
  rw [hi] at h1 h2
  simp only [richCompare, hi, (hX s).oneThing_none]
  refine wpAny_holding ?_
  refine wpAny_bind (wpAny_cRoomFor_or (.inl rfl) ?_)
  refine wpAny_bind (wpAny_typeOf (hX s) (wpAny_bind (wpAny_typeOf (hY s) ?_)))
  simp only [bne_self_eq_false, Bool.false_eq_true, if_false, pure_bind, Bool.not_false, if_true]
  cases e : (Value.type X == Value.type Y) with
  | true =>
    rw [e] at h
    refine wpAny_bind (m := tryCompare (.type X) _ (.type Y)) (wpAny_tryCompare_slot (hX s) h1 (objNe_type hX ?_))
    rw [e]
    exact ⟨(fun z => nomatch z), wpAny_pure h⟩
  | false =>
    rw [e] at h
    have e' : (Value.type Y == Value.type X) = false := by
      rw [Bool.eq_false_iff] at e ⊢
      intro z
      exact e (by rw [beq_iff_eq] at z ⊢; exact z.symm)
    refine wpAny_bind (m := tryCompare (.type X) _ (.type Y)) (wpAny_tryCompare_declines (hX s) h1 (objNe_type hX ?_))
    rw [e]
    refine ⟨rfl, wpAny_bind (m := tryCompare (.type Y) _ (.type X)) (wpAny_tryCompare_declines (hY s) h2 (objNe_type hY ?_))⟩
    rw [e']
    refine ⟨rfl, wpAny_bind (wpAny_rule (wpAny_bind (wpAny_of_eq (isSame_plain rfl) (wpAny_pure ?_))))⟩
    rw [e]
    exact h
end
end PySem
namespace E
open PySem L2

theorem meta_ok {a : String} (h : (["int", "str", "tuple", "list", "dict", "bool", "NoneType"].contains a) = true) : ∀ s : Shared, s.TypeIs (.type a) "type" := by
  intro s
  simp only [List.contains_cons, List.contains_nil, Bool.or_false, Bool.or_eq_true, beq_iff_eq] at h
  rcases h with rfl | rfl | rfl | rfl | rfl | rfl | rfl
  · exact PySem.TypeEq.meta_int s
  · exact PySem.TypeEq.meta_str s
  · exact PySem.TypeEq.meta_tuple s
  · exact PySem.TypeEq.meta_list s
  · exact PySem.TypeEq.meta_dict s
  · exact PySem.TypeEq.meta_bool s
  · exact PySem.TypeEq.meta_NoneType s
def tyC (a : String) : Bool := ["int", "str", "tuple", "list", "dict", "bool", "NoneType"].contains a
def dEq : D → D → M D
  | .ty a, .ty b => fun S => if tyC a && tyC b then .ok (.bl (decide (a = b))) S else .no
  | d, e => fun S => match pdS S d, pdS S e with
    | some p, some q => if min p.depth q.depth ≤ 60 then .ok (.bl (PyData.eqv p q)) S else .no
    | _, _ => .no
def dNe : D → D → M D
  | .ty a, .ty b => fun S => if tyC a && tyC b then .ok (.bl (!decide (a = b))) S else .no
  | d, e => fun S => match pdS S d, pdS S e with
    | some p, some q => if min p.depth q.depth ≤ 60 then .ok (.bl (!PyData.eqv p q)) S else .no
    | _, _ => .no
theorem or_neTy {X : Cx} : OpR X (compareOp .NotEq) Z.rNeTy := by
  intro pins s σ H x y v u Q I rx ry h
  obtain ⟨a, b, rfl, rfl, ha, hb, q⟩ := h
  cases (show v = Value.type a from rx)
  cases (show u = Value.type b from ry)
  refine PySem.ne_type ha hb ⟨.bl _, H, I, rfl, ?_⟩
  rw [ty_beq]
  exact q
def rEqA (K : PySem.W.Frag) : R2 := fun x y H Q => rEqP K x y H Q ∨ Z.rEqTy x y H Q
def rNeA (K : PySem.W.Frag) : R2 := fun x y H Q => rNeP K x y H Q ∨ Z.rNeTy x y H Q
theorem or_eq {X : Cx} (hu : X.A.units + 64 < cLine) : OpR X (compareOp .Eq) (rEqA X.K) := OpR.or (op_eqP hu) Z.op_eqTy
theorem or_ne {X : Cx} (hu : X.A.units + 64 < cLine) : OpR X (compareOp .NotEq) (rNeA X.K) := OpR.or (op_neP hu) or_neTy
theorem ok_eq {K : PySem.W.Frag} {EX : EW} : OpOK K EX (rEqA K) dEq := by
  intro w S H x y dx dy Q rl rx ry g
  unfold dEq at g
  split at g
  · next a b =>
    split at g
    · next c =>
      simp only [Bool.and_eq_true] at c
      exact .inr ⟨a, b, rx, ry, meta_ok c.1, meta_ok c.2, fin.ok rl g _ rfl⟩
    · exact g.elim
  · dsimp only at g
    split at g
    · next p q e1 e2 =>
      split at g
      · next c =>
        obtain ⟨d1, p1⟩ := pdS_dp rl rx e1
        obtain ⟨d2, p2⟩ := pdS_dp rl ry e2
        exact .inl ⟨p, q, d1, d2, p1, p2, c, fin.ok rl g _ rfl⟩
      · exact g.elim
    · exact g.elim
theorem ok_ne {K : PySem.W.Frag} {EX : EW} : OpOK K EX (rNeA K) dNe := by
  intro w S H x y dx dy Q rl rx ry g
  unfold dNe at g
  split at g
  · next a b =>
    split at g
    · next c =>
      simp only [Bool.and_eq_true] at c
      exact .inr ⟨a, b, rx, ry, meta_ok c.1, meta_ok c.2, fin.ok rl g _ rfl⟩
    · exact g.elim
  · dsimp only at g
    split at g
    · next p q e1 e2 =>
      split at g
      · next c =>
        obtain ⟨d1, p1⟩ := pdS_dp rl rx e1
        obtain ⟨d2, p2⟩ := pdS_dp rl ry e2
        exact .inl ⟨p, q, d1, d2, p1, p2, c, fin.ok rl g _ rfl⟩
      · exact g.elim
    · exact g.elim
/-- in a list or a tuple of data -/
def rInP (K : PySem.W.Frag) (ng : Bool) : R2 := fun x y H Q => ∃ p q, Dp K H x p ∧ Dp K H y q ∧ p.plain = true ∧ q.plain = true ∧ p.depth ≤ 60 ∧ ∃ ps, (q = .list ps ∨ q = .tuple ps) ∧ Q (.bl (if ng then !(ps.any fun z => PyData.eqv z p) else ps.any fun z => PyData.eqv z p)) H
theorem op_inP {X : Cx} (hu : X.A.units + 64 < cLine) : OpR X (compareOp .In) (rInP X.K false) := by
  intro pins s σ H x y v u Q I rx ry h
  obtain ⟨d, e, hd, he, sd, se, hm, ps, h, q⟩ := h
  obtain ⟨as, r1⟩ := Dp.reads I d x v hd rx
  obtain ⟨bs, r2⟩ := Dp.reads I e y u he ry
  rcases h with rfl | rfl
  · exact SeqAt.in_list_data r2 r1 (by simpa only [PyData.plain] using se) sd (by omega) ⟨.bl _, H, I, rfl, q⟩
  · exact SeqAt.in_tuple_data r2 r1 (by simpa only [PyData.plain] using se) sd (by omega) ⟨.bl _, H, I, rfl, q⟩
theorem op_notInP {X : Cx} (hu : X.A.units + 64 < cLine) : OpR X (compareOp .NotIn) (rInP X.K true) := by
  intro pins s σ H x y v u Q I rx ry h
  obtain ⟨d, e, hd, he, sd, se, hm, ps, h, q⟩ := h
  obtain ⟨as, r1⟩ := Dp.reads I d x v hd rx
  obtain ⟨bs, r2⟩ := Dp.reads I e y u he ry
  rcases h with rfl | rfl
  · exact SeqAt.notIn_list_data r2 r1 (by simpa only [PyData.plain] using se) sd (by omega) ⟨.bl _, H, I, rfl, q⟩
  · exact SeqAt.notIn_tuple_data r2 r1 (by simpa only [PyData.plain] using se) sd (by omega) ⟨.bl _, H, I, rfl, q⟩
def strIn (i j : Str) : Bool := !(Builtin.Str.occurrences j i 0 j.length 1).isEmpty
def itemsP : PyData → Option (List PyData)
  | .list ps => some ps
  | .tuple ps => some ps
  | _ => none
def dIn (ng : Bool) : D → D → M D
  | .str i, .str j => fun S => .ok (.bl (if ng then !strIn i j else strIn i j)) S
  | d, e => fun S => match pdS S d, pdS S e with
    | some p, some q => match itemsP q with
      | some ps => if p.depth ≤ 60 then .ok (.bl (if ng then !(ps.any fun z => PyData.eqv z p) else ps.any fun z => PyData.eqv z p)) S else .no
      | none => .no
    | _, _ => .no
def rInA (K : PySem.W.Frag) (ng : Bool) : R2 := fun x y H Q => rInP K ng x y H Q ∨ ∃ i j, x = .str i ∧ y = .str j ∧ Q (.bl (if ng then !strIn i j else strIn i j)) H
theorem or_in {X : Cx} (hu : X.A.units + 64 < cLine) : OpR X (compareOp .In) (rInA X.K false) := OpR.or (op_inP hu) op_in_str
theorem or_notIn {X : Cx} (hu : X.A.units + 64 < cLine) : OpR X (compareOp .NotIn) (rInA X.K true) := OpR.or (op_notInP hu) op_notin_str
theorem ok_in {K : PySem.W.Frag} {EX : EW} {ng : Bool} : OpOK K EX (rInA K ng) (dIn ng) := by
  intro w S H x y dx dy Q rl rx ry g
  unfold dIn at g
  split at g
  · next a b => exact .inr ⟨a, b, rx, ry, fin.ok rl g _ rfl⟩
  · dsimp only at g
    split at g
    · next p q e1 e2 =>
      split at g
      · next ps e3 =>
        split at g
        · next c =>
          obtain ⟨d1, p1⟩ := pdS_dp rl rx e1
          obtain ⟨d2, p2⟩ := pdS_dp rl ry e2
          refine .inl ⟨p, q, d1, d2, p1, p2, c, ps, ?_, fin.ok rl g _ rfl⟩
          unfold itemsP at e3
          split at e3
          · cases e3; exact .inl rfl
          · cases e3; exact .inr rfl
          · cases e3
        · exact g.elim
      · exact g.elim
    · exact g.elim

/-! ### is None -/
def isNonD : D → Bool
  | .non => true
  | _ => false
theorem isNon_rd {K : PySem.W.Frag} {w : W} {d : D} {v : V} (h : RD K w d v) : decide (v = .non) = isNonD d := by
  cases d <;> simp only [RD] at h <;> first
    | (subst h; rfl)
    | (obtain ⟨a, h⟩ := h; first | (obtain ⟨rfl, _⟩ := h; rfl) | (obtain ⟨vs, rfl, _⟩ := h; rfl) | (obtain ⟨C, dx, vs, rfl, _⟩ := h; rfl) | (obtain ⟨C, vs, rfl, _⟩ := h; rfl) | (obtain ⟨C, vs, us, rfl, _⟩ := h; rfl))
def aIsN (A : AE) : AE := fun ρ S => (A ρ S).bind fun d S1 => .ok (.bl (isNonD d)) S1
def aNotN (A : AE) : AE := fun ρ S => (A ρ S).bind fun d S1 => .ok (.bl (!isNonD d)) S1
section
variable {X : Cx} {EX : St → EW} {EY : EW} {A B C : AE}
theorem rd_isN {K : PySem.W.Frag} (σ : St) (H : Hp) (Q : VK) (h : tE K EX (aIsN A) σ H Q) : tIsN (tE K EX A) σ H Q := by
  obtain ⟨w, ρ, S, re, rl, g⟩ := h
  refine ⟨w, ρ, S, re, rl, (fin.bind rl g).mono fun w1 S1 H1 d p1 rl1 g1 v rd => ?_⟩
  show Q (V.bl (decide (v = V.non))) H1
  rw [isNon_rd rd]
  exact fin.ok rl1 g1 _ rfl
theorem rd_notN {K : PySem.W.Frag} (σ : St) (H : Hp) (Q : VK) (h : tE K EX (aNotN A) σ H Q) : tNotN (tE K EX A) σ H Q := by
  obtain ⟨w, ρ, S, re, rl, g⟩ := h
  refine ⟨w, ρ, S, re, rl, (fin.bind rl g).mono fun w1 S1 H1 d p1 rl1 g1 v rd => ?_⟩
  show Q (V.bl (!decide (v = V.non))) H1
  rw [isNon_rd rd]
  exact fin.ok rl1 g1 _ rfl
theorem q_isN {e : Expr} (h : PE X e (tIsN (tE X.K EX A))) : QE X EX e (aIsN A) := PE.imp h rd_isN
theorem q_notN {e : Expr} (h : PE X e (tNotN (tE X.K EX A))) : QE X EX e (aNotN A) := PE.imp h rd_notN
/-- a test that is a value -/
theorem q_tB {e : Expr} (h : PT X e (tB (tE X.K EX A))) : QT X EX e (aB A) := q_tval h
theorem aB_fin {K : PySem.W.Frag} {EX : EW} {w : W} {S : List O} {H : Hp} {ρ : Rho} {Q : Bool → Hp → Prop} (rl : Rel K w S H) (g : fin K EX (FQb Q) w H (aB A ρ S)) :
    fin K EX (FQ K fun x H1 => ∃ c, x = .bl c ∧ Q c H1) w H (A ρ S) := by
  unfold aB at g
  refine (fin.bind rl g).mono fun w1 S1 H1 d p1 rl1 g1 v rd => ?_
  obtain ⟨b, _, e2, q⟩ := bOf_bl rl1 rd g1
  exact ⟨b, e2, q⟩
theorem q_tOf {e : Expr} {t : TE} (h : PT X e (tB t)) (hA : ∀ σ H Q, tE X.K EX A σ H Q → t σ H Q) : QT X EX e (aB A) := PT.imp h fun σ H Q ⟨w, ρ, S, re, rl, g⟩ => hA _ _ _ ⟨w, ρ, S, re, rl, aB_fin rl g⟩

/-! ### places -/
theorem atI_rd {K : PySem.W.Frag} {w : W} {ds : List D} {vs : List V} {i : Int} {d : D} (r : RDs K w ds vs) (h : atI ds i = some d) : ∃ v, atI vs i = some v ∧ RD K w d v := by
  unfold atI at *
  rw [← r.length]
  cases e : ixN ds.length i with
  | none => rw [e] at h; cases h
  | some j =>
    rw [e] at h
    exact r.get h
def chrAt (z : Str) (i : Int) : Option Str := (atI z.cps.toList i).map fun c => ⟨#[c]⟩
def dIx : D → D → M D
  | .tup xs, .int i => fun S => match atI xs i with
    | some d => .ok d S
    | none => .no
  | .str z, .int i => fun S => match chrAt z i with
    | some c => if small z.length then .ok (.str c) S else .no
    | none => .no
  | d, .int i => fun S => match dl d S with
    | some xs => match atI xs i with
      | some d => .ok d S
      | none => .no
    | none => .no
  | _, _ => fun _ => .no
def rIxA (K : PySem.W.Frag) : R2 := fun x y H Q => (rIxL K x y H Q ∨ rIxT K x y H Q) ∨ rIxS x y H Q
theorem ix_all : IxR X (rIxA X.K) := IxR.or (IxR.or ix_list ix_tup) ix_str
theorem ok_ix {K : PySem.W.Frag} : OpOK K EY (rIxA K) dIx := by
  intro w S H x y dx dy Q rl rx ry g
  unfold dIx at g
  split at g
  · next xs i =>
    split at g
    · next d e =>
      obtain ⟨a, vs, rfl, h1, r1⟩ := dt_rd rl rx
      obtain ⟨v, e2, r2⟩ := atI_rd r1 e
      exact .inl (.inr ⟨a, vs, i, v, rfl, ry, h1, e2, fin.ok rl g _ r2⟩)
    · exact g.elim
  · next z i =>
    split at g
    · next c e =>
      split at g
      · next hz =>
        unfold chrAt at e
        simp only [Option.map_eq_some_iff] at e
        obtain ⟨c', e, rfl⟩ := e
        exact .inr ⟨z, i, c', rx, ry, small_line hz, e, fin.ok rl g _ rfl⟩
      · exact g.elim
    · exact g.elim
  · next i _ _ =>
    dsimp only at g
    split at g
    · next xs e1 =>
      split at g
      · next d e =>
        obtain ⟨a, vs, rfl, h1, r1⟩ := dl_rd rl rx e1
        obtain ⟨v, e2, r2⟩ := atI_rd r1 e
        exact .inl (.inl ⟨a, vs, i, v, rfl, ry, h1, e2, fin.ok rl g _ r2⟩)
      · exact g.elim
    · exact g.elim
  · exact g.elim
theorem q_ix {a b : Expr} {pos : Pos} (ha : QE X EX a A) (hb : QE X EX b B) (hs : PlainIx b) : QE X EX (.Subscript a b pos) (aBin dIx A B) := q_bin2 (pe_ix ix_all ha hb hs) fun _ => ok_ix

/-! ### parts -/
abbrev AO := Rho → M (Option Int)
def FQo (Q : Option Int → Hp → Prop) : W → List O → Hp → Option Int → Prop := fun _ _ H o => Q o H
def tO (K : PySem.W.Frag) (EX : St → EW) (A : AO) : TO := fun σ H Q => ∃ w ρ S, RE K w ρ σ ∧ Rel K w S H ∧ fin K (EX σ) (FQo Q) w H (A ρ S)
def aNoPart : AO := fun _ S => .ok none S
def iOf : D → M (Option Int)
  | .int i => fun S => .ok (some i) S
  | _ => fun _ => .no
def aPart (A : AE) : AO := fun ρ S => (A ρ S).bind iOf
theorem PO.imp {e : Option Expr} {t t' : TO} (h : PO X e t) (f : ∀ σ H Q, t' σ H Q → t σ H Q) : PO X e t' := by
  obtain ⟨h⟩ := h
  exact ⟨by intros; apply h <;> first | assumption | (apply f; assumption)⟩
theorem q_noPart : PO X none (tO X.K EX aNoPart) := PO.imp po_none fun σ H Q ⟨w, ρ, S, re, rl, g⟩ => fin.ok (EX := EX σ) rl g
theorem q_part {e : Expr} (h : QE X EX e A) : PO X (some e) (tO X.K EX (aPart A)) := PO.imp (po_some h) fun σ H Q ⟨w, ρ, S, re, rl, g⟩ =>
  ⟨w, ρ, S, re, rl, (fin.bind rl g).mono fun w1 S1 H1 d p1 rl1 g1 v rd => by
    cases d <;> first | exact g1.elim | skip
    exact ⟨_, rd, fin.ok (EX := EX σ) rl1 g1⟩⟩
def cutD (xs : List D) (lo hi : Option Int) : List D := (xs.drop (HT.sIx xs.length 0 lo)).take (HT.sIx xs.length xs.length hi - HT.sIx xs.length 0 lo)
theorem cutD_rd {K : PySem.W.Frag} {w : W} {ds : List D} {vs : List V} {lo hi : Option Int} (r : RDs K w ds vs) : RDs K w (cutD ds lo hi) (cutV vs lo hi) := by
  unfold cutD cutV
  rw [← r.length]
  exact (r.drop _).take _
def dSl : D → Option Int → Option Int → M D
  | .tup xs, lo, hi => fun S => .ok (.tup (cutD xs lo hi)) S
  | .str z, lo, hi => fun S => if small z.length then .ok (.str (cutS z lo hi)) S else .no
  | d, lo, hi => fun S => match dl d S with
    | some xs => .ok (.lst (cutD xs lo hi)) S
    | none => .no
def aSl (A : AE) (L U : AO) : AE := fun ρ S => (A ρ S).bind fun x S1 => (L ρ S1).bind fun l S2 => (U ρ S2).bind fun u S3 => dSl x l u S3
def rSlAll (K : PySem.W.Frag) : V → Option Int → Option Int → Hp → VK → Prop := fun x lo hi H Q => (rSlL K x lo hi H Q ∨ rSlA K x lo hi H Q) ∨ rSlS x lo hi H Q
theorem sl_all : SlR X (rSlAll X.K) := SlR.or (SlR.or sl_list sl_tupA) sl_str
theorem cutD_whole {xs : List D} {lo hi : Option Int} (h : HT.sIx xs.length 0 lo = 0 ∧ HT.sIx xs.length xs.length hi = xs.length) : cutD xs lo hi = xs := by
  unfold cutD
  rw [h.1, h.2]
  simp
theorem ok_sl {K : PySem.W.Frag} {EX : EW} {w : W} {S : List O} {H : Hp} {x : V} {d : D} {lo hi : Option Int} {Q : VK} (rl : Rel K w S H) (rx : RD K w d x) (g : fin K EX (FQ K Q) w H (dSl d lo hi S)) : rSlAll K x lo hi H Q := by
  unfold dSl at g
  split at g
  · next xs =>
    obtain ⟨a, vs, e, h1, r1⟩ := dt_rd rl rx
    refine .inl (.inr ⟨a, vs, e, h1, fun h => ?_, fun h p hp => new_tup rl (cutD_rd r1) g p hp⟩)
    rw [← r1.length] at h
    rw [cutD_whole h] at g
    rw [← e]
    exact fin.ok rl g _ rx
  · next z =>
    split at g
    · next c => exact .inr ⟨z, rx, small_line c, fin.ok rl g _ rfl⟩
    · exact g.elim
  · dsimp only at g
    split at g
    · next xs e1 =>
      obtain ⟨a, vs, e, h1, r1⟩ := dl_rd rl rx e1
      exact .inl (.inl ⟨a, vs, e, h1, fun p hp => new_lst rl (cutD_rd r1) g p hp⟩)
    · exact g.elim
theorem q_sl {e : Expr} {lo hi : Option Expr} {L U : AO} {p2 pos : Pos} (ha : QE X EX e A) (hl : PO X lo (tO X.K EX L)) (hu : PO X hi (tO X.K EX U)) : QE X EX (.Subscript e (.Slice lo hi none p2) pos) (aSl A L U) :=
  PE.imp (pe_slice sl_all ha hl hu) fun σ H Q ⟨w, ρ, S, re, rl, g⟩ =>
    ⟨w, ρ, S, re, rl, (fin.bind rl g).mono fun w1 S1 H1 d p1 rl1 g1 v rd => ⟨w1, ρ, S1, re.mono p1, rl1, (fin.bind rl1 g1).mono fun w2 S2 H2 l p2 rl2 g2 => ⟨w2, ρ, S2, (re.mono p1).mono p2, rl2, (fin.bind rl2 g2).mono fun w3 S3 H3 u p3 rl3 g3 => ok_sl rl3 (p3.rd (p2.rd rd)) g3⟩⟩⟩

/-! ### built-ins -/
def CallOK (K : PySem.W.Frag) (EX : EW) (r : List V → Hp → VK → Prop) (f : List D → M D) : Prop := ∀ w S H xs ds Q, Rel K w S H → RDs K w ds xs → fin K EX (FQ K Q) w H (f ds S) → r xs H Q
def aCall (f : List D → M D) (L : AL) : AE := fun ρ S => (L ρ S).bind f
theorem q_cb {e : Expr} {L : AL} {r : List V → Hp → VK → Prop} {f : List D → M D} (h : PE X e (tCB r (tL X.K EX L))) (ok : ∀ EX, CallOK X.K EX r f) : QE X EX e (aCall f L) := PE.imp h fun σ H Q ⟨w, ρ, S, re, rl, g⟩ =>
  ⟨w, ρ, S, re, rl, (fin.bind rl g).mono fun w1 S1 H1 ds p1 rl1 g1 vs rds => ok _ w1 S1 H1 vs ds Q rl1 rds g1⟩
theorem rds1 {K : PySem.W.Frag} {w : W} {d : D} {vs : List V} (h : RDs K w [d] vs) : ∃ v, vs = [v] ∧ RD K w d v := by
  obtain ⟨v, r, e, h1, h2⟩ := h
  rw [show r = [] from h2] at e
  exact ⟨v, e, h1⟩
theorem rds2 {K : PySem.W.Frag} {w : W} {d d2 : D} {vs : List V} (h : RDs K w [d, d2] vs) : ∃ v v2, vs = [v, v2] ∧ RD K w d v ∧ RD K w d2 v2 := by
  obtain ⟨v, r, e, h1, h2⟩ := h
  obtain ⟨v2, e2, h3⟩ := rds1 h2
  exact ⟨v, v2, by rw [e, e2], h1, h3⟩
def bLen : List D → M D
  | [.tup xs] => fun S => .ok (.int xs.length) S
  | [.str z] => fun S => if small z.length then .ok (.int z.length) S else .no
  | [d] => fun S => match dl d S with
    | some xs => .ok (.int xs.length) S
    | none => .no
  | _ => fun _ => .no
theorem cr_len : CallR X (.builtin "len") (fun xs H Q => Z.rLen X.K xs H Q ∨ Z.rLenS xs H Q) := CallR.or Z.z_len Z.z_lenS
theorem ok_len {K : PySem.W.Frag} : CallOK K EY (fun xs H Q => Z.rLen K xs H Q ∨ Z.rLenS xs H Q) bLen := by
  intro w S H xs ds Q rl rds g
  unfold bLen at g
  split at g
  · next ys =>
    obtain ⟨v, rfl, rd⟩ := rds1 rds
    obtain ⟨a, vs, rfl, h1, r1⟩ := dt_rd rl rd
    exact .inl ⟨a, vs, rfl, .inr h1, by rw [← r1.length]; exact fin.ok rl g _ rfl⟩
  · next z =>
    split at g
    · next c =>
      obtain ⟨v, rfl, rd⟩ := rds1 rds
      exact .inr ⟨z, by rw [show v = .str z from rd], small_line c, fin.ok rl g _ rfl⟩
    · exact g.elim
  · next d _ _ =>
    dsimp only at g
    split at g
    · next ys e =>
      obtain ⟨v, rfl, rd⟩ := rds1 rds
      obtain ⟨a, vs, rfl, h1, r1⟩ := dl_rd rl rd e
      exact .inl ⟨a, vs, rfl, .inl h1, by rw [← r1.length]; exact fin.ok rl g _ rfl⟩
    · exact g.elim
  · exact g.elim
def bInt : List D → M D
  | [.int i] => fun S => .ok (.int i) S
  | [.bl b] => fun S => .ok (.int (if b then 1 else 0)) S
  | _ => fun _ => .no
theorem ok_int {K : PySem.W.Frag} : CallOK K EY Z.rInt bInt := by
  intro w S H xs ds Q rl rds g
  unfold bInt at g
  split at g
  · next i =>
    obtain ⟨v, rfl, rd⟩ := rds1 rds
    exact .inl ⟨i, by rw [show v = .int i from rd], fin.ok rl g _ rfl⟩
  · next b =>
    obtain ⟨v, rfl, rd⟩ := rds1 rds
    exact .inr ⟨b, by rw [show v = .bl b from rd], fin.ok rl g _ rfl⟩
  · exact g.elim
def bAbs : List D → M D
  | [.int i] => fun S => .ok (.int (if i < 0 then -i else i)) S
  | _ => fun _ => .no
theorem ok_abs {K : PySem.W.Frag} : CallOK K EY Z.rAbs bAbs := by
  intro w S H xs ds Q rl rds g
  unfold bAbs at g
  split at g
  · next i =>
    obtain ⟨v, rfl, rd⟩ := rds1 rds
    exact ⟨i, by rw [show v = .int i from rd], fin.ok rl g _ rfl⟩
  · exact g.elim
def bMax2 : List D → M D
  | [.int i, .int j] => fun S => .ok (.int (if j > i then j else i)) S
  | _ => fun _ => .no
def bMin2 : List D → M D
  | [.int i, .int j] => fun S => .ok (.int (if j < i then j else i)) S
  | _ => fun _ => .no
theorem ok_max2 {K : PySem.W.Frag} : CallOK K EY Z.rMax2 bMax2 := by
  intro w S H xs ds Q rl rds g
  unfold bMax2 at g
  split at g
  · next i j =>
    obtain ⟨v, v2, rfl, r1, r2⟩ := rds2 rds
    exact ⟨i, j, by rw [show v = .int i from r1, show v2 = .int j from r2], fin.ok rl g _ rfl⟩
  · exact g.elim
theorem ok_min2 {K : PySem.W.Frag} : CallOK K EY Z.rMin2 bMin2 := by
  intro w S H xs ds Q rl rds g
  unfold bMin2 at g
  split at g
  · next i j =>
    obtain ⟨v, v2, rfl, r1, r2⟩ := rds2 rds
    exact ⟨i, j, by rw [show v = .int i from r1, show v2 = .int j from r2], fin.ok rl g _ rfl⟩
  · exact g.elim
def divOk2 (j : Int) : Bool := decide (0 < j) && decide (j < 1073741824)
def bDivmod : List D → M D
  | [.int i, .int j] => fun S => if divOk2 j then .ok (.tup [.int (i / j), .int (i % j)]) S else .no
  | _ => fun _ => .no
theorem ok_divmod {K : PySem.W.Frag} : CallOK K EY Z.rDivmod bDivmod := by
  intro w S H xs ds Q rl rds g
  unfold bDivmod at g
  split at g
  · next i j =>
    split at g
    · next c =>
      simp only [divOk2, Bool.and_eq_true, decide_eq_true_eq] at c
      obtain ⟨v, v2, rfl, r1, r2⟩ := rds2 rds
      exact ⟨i, j, by rw [show v = .int i from r1, show v2 = .int j from r2], ⟨c.1, c.2⟩, new_tup (ds := [.int (i / j), .int (i % j)]) rl ⟨_, _, rfl, rfl, _, _, rfl, rfl, rfl⟩ g⟩
    · exact g.elim
  · exact g.elim
def bTuple : List D → M D
  | [.tup xs] => fun S => .ok (.tup xs) S
  | [d] => fun S => match dl d S with
    | some xs => .ok (.tup xs) S
    | none => .no
  | _ => fun _ => .no
theorem ok_tuple {K : PySem.W.Frag} : CallOK K EY (Z.rTuple K) bTuple := by
  intro w S H xs ds Q rl rds g
  unfold bTuple at g
  split at g
  · next ys =>
    obtain ⟨v, rfl, rd⟩ := rds1 rds
    obtain ⟨a, vs, rfl, h1, r1⟩ := dt_rd rl rd
    exact ⟨a, vs, rfl, .inr ⟨h1, fin.ok rl g _ rd⟩⟩
  · next d _ =>
    dsimp only at g
    split at g
    · next ys e =>
      obtain ⟨v, rfl, rd⟩ := rds1 rds
      obtain ⟨a, vs, rfl, h1, r1⟩ := dl_rd rl rd e
      exact ⟨a, vs, rfl, .inl ⟨h1, new_tup rl r1 g⟩⟩
    · exact g.elim
  · exact g.elim
/-- list(x): a new one, that stays or changes -/
def ditems : D → List O → Option (List D)
  | .tup xs, _ => some xs
  | d, S => dl d S
theorem ditems_rd {K : PySem.W.Frag} {w : W} {S : List O} {H : Hp} {d : D} {v : V} {xs : List D} (rl : Rel K w S H) (rd : RD K w d v) (h : ditems d S = some xs) : ∃ a vs, v = .ref a ∧ (SqL K H a vs ∨ SqT K H a vs) ∧ RDs K w xs vs := by
  unfold ditems at h
  split at h
  · cases h
    obtain ⟨a, vs, e, h1, r1⟩ := dt_rd rl rd
    exact ⟨a, vs, e, .inr h1, r1⟩
  · obtain ⟨a, vs, e, h1, r1⟩ := dl_rd rl rd h
    exact ⟨a, vs, e, .inl h1, r1⟩
def bList : List D → M D
  | [d] => fun S => match ditems d S with
    | some xs => .ok (.lst xs) S
    | none => .no
  | _ => fun _ => .no
def bListM : List D → M D
  | [d] => fun S => match ditems d S with
    | some xs => .ok (.loc S.length) (S ++ [.lst xs])
    | none => .no
  | _ => fun _ => .no
theorem ok_list {K : PySem.W.Frag} : CallOK K EY (Z.rList K) bList := by
  intro w S H xs ds Q rl rds g
  unfold bList at g
  split at g
  · next d =>
    split at g
    · next ys e =>
      obtain ⟨v, rfl, rd⟩ := rds1 rds
      obtain ⟨a, vs, rfl, h1, r1⟩ := ditems_rd rl rd e
      exact ⟨a, vs, rfl, h1, new_lst rl r1 g⟩
    · exact g.elim
  · exact g.elim
theorem ok_listM {K : PySem.W.Frag} : CallOK K EY (Z.rList K) bListM := by
  intro w S H xs ds Q rl rds g
  unfold bListM at g
  split at g
  · next d =>
    split at g
    · next ys e =>
      obtain ⟨v, rfl, rd⟩ := rds1 rds
      obtain ⟨a, vs, rfl, h1, r1⟩ := ditems_rd rl rd e
      exact ⟨a, vs, rfl, h1, new_loc rl r1 g⟩
    · exact g.elim
  · exact g.elim
/-- bools, ints of a list -/
def blsOf : List D → Option (List Bool)
  | [] => some []
  | .bl b :: ds => (blsOf ds).map (b :: ·)
  | _ => none
def intsOf : List D → Option (List Int)
  | [] => some []
  | .int b :: ds => (intsOf ds).map (b :: ·)
  | _ => none
def strsOf : List D → Option (List Str)
  | [] => some []
  | .str b :: ds => (strsOf ds).map (b :: ·)
  | _ => none
theorem bls_rd {K : PySem.W.Frag} {w : W} : ∀ {ds : List D} {vs : List V} {bs : List Bool}, RDs K w ds vs → blsOf ds = some bs → vs = bs.map V.bl
  | [], vs, bs, r, h => by simp only [blsOf, Option.some.injEq] at h; subst h; exact r
  | d :: ds, vs, bs, ⟨v, r, e, h1, h2⟩, h => by
    cases d <;> simp only [blsOf, reduceCtorEq] at h
    simp only [Option.map_eq_some_iff] at h
    obtain ⟨bs', h, rfl⟩ := h
    rw [e, bls_rd h2 h, show v = .bl _ from h1]; rfl
theorem ints_rd {K : PySem.W.Frag} {w : W} : ∀ {ds : List D} {vs : List V} {bs : List Int}, RDs K w ds vs → intsOf ds = some bs → vs = bs.map V.int
  | [], vs, bs, r, h => by simp only [intsOf, Option.some.injEq] at h; subst h; exact r
  | d :: ds, vs, bs, ⟨v, r, e, h1, h2⟩, h => by
    cases d <;> simp only [intsOf, reduceCtorEq] at h
    simp only [Option.map_eq_some_iff] at h
    obtain ⟨bs', h, rfl⟩ := h
    rw [e, ints_rd h2 h, show v = .int _ from h1]; rfl
theorem strs_rd {K : PySem.W.Frag} {w : W} : ∀ {ds : List D} {vs : List V} {bs : List Str}, RDs K w ds vs → strsOf ds = some bs → vs = bs.map V.str
  | [], vs, bs, r, h => by simp only [strsOf, Option.some.injEq] at h; subst h; exact r
  | d :: ds, vs, bs, ⟨v, r, e, h1, h2⟩, h => by
    cases d <;> simp only [strsOf, reduceCtorEq] at h
    simp only [Option.map_eq_some_iff] at h
    obtain ⟨bs', h, rfl⟩ := h
    rw [e, strs_rd h2 h, show v = .str _ from h1]; rfl
def bAll : List D → M D
  | [d] => fun S => match (dl d S).bind blsOf with
    | some bs => .ok (.bl (bs.all id)) S
    | none => .no
  | _ => fun _ => .no
def bAny : List D → M D
  | [d] => fun S => match (dl d S).bind blsOf with
    | some bs => .ok (.bl (bs.any id)) S
    | none => .no
  | _ => fun _ => .no
def bSum : List D → M D
  | [d] => fun S => match (dl d S).bind intsOf with
    | some bs => .ok (.int bs.sum) S
    | none => .no
  | _ => fun _ => .no
theorem ok_all {K : PySem.W.Frag} : CallOK K EY (rAll K) bAll := by
  intro w S H xs ds Q rl rds g
  unfold bAll at g
  split at g
  · next d =>
    split at g
    · next bs e =>
      obtain ⟨ys, e1, e2⟩ := Option.bind_eq_some_iff.mp e
      obtain ⟨v, rfl, rd⟩ := rds1 rds
      obtain ⟨a, vs, rfl, h1, r1⟩ := dl_rd rl rd e1
      exact ⟨a, bs, rfl, by rw [← bls_rd r1 e2]; exact h1, fin.ok rl g _ rfl⟩
    · exact g.elim
  · exact g.elim
theorem ok_any {K : PySem.W.Frag} : CallOK K EY (rAny K) bAny := by
  intro w S H xs ds Q rl rds g
  unfold bAny at g
  split at g
  · next d =>
    split at g
    · next bs e =>
      obtain ⟨ys, e1, e2⟩ := Option.bind_eq_some_iff.mp e
      obtain ⟨v, rfl, rd⟩ := rds1 rds
      obtain ⟨a, vs, rfl, h1, r1⟩ := dl_rd rl rd e1
      exact ⟨a, bs, rfl, by rw [← bls_rd r1 e2]; exact h1, fin.ok rl g _ rfl⟩
    · exact g.elim
  · exact g.elim
theorem ok_sum {K : PySem.W.Frag} : CallOK K EY (rSum K) bSum := by
  intro w S H xs ds Q rl rds g
  unfold bSum at g
  split at g
  · next d =>
    split at g
    · next bs e =>
      obtain ⟨ys, e1, e2⟩ := Option.bind_eq_some_iff.mp e
      obtain ⟨v, rfl, rd⟩ := rds1 rds
      obtain ⟨a, vs, rfl, h1, r1⟩ := dl_rd rl rd e1
      exact ⟨a, bs, rfl, by rw [← ints_rd r1 e2]; exact h1, fin.ok rl g _ rfl⟩
    · exact g.elim
  · exact g.elim
def dTyp (S : List O) : D → Option String
  | .non => some "NoneType"
  | .bl _ => some "bool"
  | .int _ => some "int"
  | .str _ => some "str"
  | .tup _ => some "tuple"
  | .lst _ => some "list"
  | .frz _ => some "list"
  | .loc n => match S[n]? with
    | some (.lst _) => some "list"
    | _ => none
  | _ => none
def bType : List D → M D
  | [d] => fun S => match dTyp S d with
    | some t => .ok (.ty t) S
    | none => .no
  | _ => fun _ => .no
theorem ok_type {K : PySem.W.Frag} : CallOK K EY (rTyp K) bType := by
  intro w S H xs ds Q rl rds g
  unfold bType at g
  split at g
  · next d =>
    split at g
    · next t e =>
      obtain ⟨v, rfl, rd⟩ := rds1 rds
      refine ⟨v, t, rfl, ?_, fin.ok rl g _ rfl⟩
      cases d <;> simp only [dTyp, reduceCtorEq, Option.some.injEq] at e
      · subst e; rw [show v = .non from rd]; exact .non
      · subst e; rw [show v = .bl _ from rd]; exact .bl _
      · subst e; rw [show v = .int _ from rd]; exact .int _
      · subst e; rw [show v = .str _ from rd]; exact .str _
      · next n =>
        split at e
        · next ys e2 =>
          cases e
          obtain ⟨a, vs, rfl, h1, r1⟩ := dw_rd (d := .loc n) (xs := ys) rl rd (by simp only [dw]; rw [e2])
          exact .lst (.inl (.inl h1))
        · cases e
      · next xs =>
        subst e
        obtain ⟨a, vs, rfl, h1, r1⟩ := dt_rd rl rd
        exact .tup h1
      · next xs =>
        subst e
        obtain ⟨a, vs, rfl, h1, r1⟩ := dl_rd (xs := xs) rl rd rfl
        exact .lst h1
      · next xs =>
        subst e
        obtain ⟨a, vs, rfl, h1, r1⟩ := dl_rd (xs := xs) rl rd rfl
        exact .lst h1
    · exact g.elim
  · exact g.elim
end
end E

namespace E
open PySem L2

/-! ### statements -/
def aSeq (A B : AS) : AS := fun ρ S => (A ρ S).bind fun f S1 => match f with
  | (.nx, ρ1) => B ρ1 S1
  | g => .ok g S1
def aNext : AS := fun ρ S => .ok (.nx, ρ) S
def aBreak : AS := fun ρ S => .ok (.bk, ρ) S
def aCont : AS := fun ρ S => .ok (.ct, ρ) S
def aDrop (A : AE) : AS := fun ρ S => (A ρ S).bind fun _ S1 => .ok (.nx, ρ) S1
def aRet (A : AE) : AS := fun ρ S => (A ρ S).bind fun d S1 => .ok (.rt d, ρ) S1
def aRetN : AS := fun ρ S => .ok (.rt .non, ρ) S
def aAsg (A : AE) (G : AG) : AS := fun ρ S => (A ρ S).bind fun d S1 => (G d ρ S1).bind fun ρ1 S2 => .ok (.nx, ρ1) S2
def aGName (i : Nat) : AG := fun d ρ S => .ok (ρ.set i (some d)) S
abbrev AGs := List D → Rho → M Rho
def aGNil : AGs := fun ds ρ S => match ds with
  | [] => .ok ρ S
  | _ => .no
def aGCons (G : AG) (Gs : AGs) : AGs := fun ds ρ S => match ds with
  | d :: r => (G d ρ S).bind fun ρ1 S1 => Gs r ρ1 S1
  | _ => .no
def aGTup (n : Nat) (Gs : AGs) : AG := fun d ρ S => match d with
  | .tup xs => if xs.length = n then Gs xs ρ S else .no
  | _ => .no
def aPar (i j : Nat) (L : AL) : AS := fun ρ S => (L ρ S).bind fun ds S1 => match ds with
  | [x, y] => .ok (.nx, (ρ.set i (some x)).set j (some y)) S1
  | _ => .no
def aPar3 (i j l : Nat) (L : AL) : AS := fun ρ S => (L ρ S).bind fun ds S1 => match ds with
  | [x, y, z] => .ok (.nx, ((ρ.set i (some x)).set j (some y)).set l (some z)) S1
  | _ => .no
def aAug (i : Nat) (f : D → D → M D) (A : AE) : AS := fun ρ S => match ρ[i]? with
  | some (some x) => (A ρ S).bind fun y S1 => (f x y S1).bind fun z S2 => .ok (.nx, ρ.set i (some z)) S2
  | _ => .no
/-- o[i] = v of a list that changes -/
def dSet : D → D → D → List O → Res Unit
  | .loc n, .int i, v, S => match S[n]? with
    | some (.lst xs) => match ixN xs.length i with
      | some j => .ok () (S.set n (.lst (xs.set j v)))
      | none => .no
    | _ => .no
  | _, _, _, _ => .no
def aGSub (A B : AE) : AG := fun d ρ S => (A ρ S).bind fun o S1 => (B ρ S1).bind fun i S2 => (dSet o i d S2).bind fun _ S3 => .ok ρ S3
/-- the list at a place stays as it is from now on -/
def dFix : D → M D
  | .loc n => fun S => match S[n]? with
    | some (.lst xs) => .ok (.lst xs) (S.set n .dead)
    | _ => .no
  | d => fun S => .ok d S
def aFix (A : AE) : AE := fun ρ S => (A ρ S).bind dFix
section
variable {X : Cx} {EX : St → EW} {EY : EW} {n : Nat}
theorem qs_nil : QSs X EX [] aNext := PSs.imp pss_nil fun Dn σ H ⟨w, ρ, S, re, rl, g⟩ => fin.ok (EX := EA EX) rl g σ re
theorem seq_fin {K : PySem.W.Frag} {EX : St → EW} {A B : AS} {Dn : Ends} {w : W} {H : Hp} {ρ : Rho} {S : List O} (rl : Rel K w S H) (g : fin K (EA EX) (FD K Dn) w H (aSeq A B ρ S)) : fin K (EA EX) (FD K { Dn with nx := tS K EX B Dn }) w H (A ρ S) := by
  refine (fin.bind rl g).mono fun w1 S1 H1 f p1 rl1 g1 => ?_
  obtain ⟨f, ρ1⟩ := f
  cases f with
  | nx => exact fun σ re => ⟨w1, ρ1, S1, re, rl1, g1⟩
  | rt d => exact fin.ok (EX := EA EX) rl1 g1
  | bk => exact fin.ok (EX := EA EX) rl1 g1
  | ct => exact fin.ok (EX := EA EX) rl1 g1
theorem qs_cons {st : Stmt} {rest : List Stmt} {A B : AS} (h : QS X EX st A) (h2 : QSs X EX rest B) : QSs X EX (st :: rest) (aSeq A B) := PSs.imp (pss_cons h h2) fun Dn σ H ⟨w, ρ, S, re, rl, g⟩ =>
  ⟨w, ρ, S, re, rl, seq_fin rl g⟩
theorem qs_one {st : Stmt} {A : AS} (h : QS X EX st A) : QSs X EX [st] A := pss_one h
theorem qs_pass {pos} : QS X EX (.Pass pos) aNext := PS.imp ps_pass fun Dn σ H ⟨w, ρ, S, re, rl, g⟩ => fin.ok (EX := EA EX) rl g σ re
theorem qs_doc {st : Stmt} (h : PS X st tNext) : QS X EX st aNext := PS.imp h fun Dn σ H ⟨w, ρ, S, re, rl, g⟩ => fin.ok (EX := EA EX) rl g σ re
theorem qs_break {pos} : QS X EX (.Break pos) aBreak := PS.imp ps_break fun Dn σ H ⟨w, ρ, S, re, rl, g⟩ => fin.ok (EX := EA EX) rl g σ re
theorem qs_continue {pos} : QS X EX (.Continue pos) aCont := PS.imp ps_continue fun Dn σ H ⟨w, ρ, S, re, rl, g⟩ => fin.ok (EX := EA EX) rl g σ re
theorem qs_expr {st : Stmt} {A : AE} (h : PS X st (tDrop (tE X.K EX A))) : QS X EX st (aDrop A) := PS.imp h fun Dn σ H ⟨w, ρ, S, re, rl, g⟩ =>
  ⟨w, ρ, S, re, rl, (fin.bindS rl g σ).mono fun w1 S1 H1 d p1 rl1 g1 v rd => fin.ok (EX := EA EX) rl1 g1 σ (re.mono p1)⟩
theorem qs_ret {st : Stmt} {A : AE} (h : PS X st (tRet (tE X.K EX A))) : QS X EX st (aRet A) := PS.imp h fun Dn σ H ⟨w, ρ, S, re, rl, g⟩ =>
  ⟨w, ρ, S, re, rl, (fin.bindS rl g σ).mono fun w1 S1 H1 d p1 rl1 g1 v rd => fin.ok (EX := EA EX) rl1 g1 v rd⟩
theorem qs_retN {pos} : QS X EX (.Return none pos) aRetN := PS.imp ps_retN fun Dn σ H ⟨w, ρ, S, re, rl, g⟩ => fin.ok (EX := EA EX) rl g _ rfl
theorem qs_if {c : Expr} {a b : List Stmt} {pos : Pos} {T : AT} {A B : AS} (hc : QT X EX c T) (ha : QSs X EX a A) (hb : QSs X EX b B) : QS X EX (.If c a b pos) (aIf T A B) := PS.imp (ps_if hc ha hb) fun Dn σ H ⟨w, ρ, S, re, rl, g⟩ =>
  ⟨w, ρ, S, re, rl, (fin.bindS rl g σ).mono fun w1 S1 H1 c p1 rl1 g1 => by
    cases c with
    | true => exact iT (B := tS X.K EX B Dn σ H1) ⟨w1, ρ, S1, re.mono p1, rl1, g1⟩
    | false => exact iF (A := tS X.K EX A Dn σ H1) ⟨w1, ρ, S1, re.mono p1, rl1, g1⟩⟩
theorem qs_never {st : Stmt} : QS X EX st fun _ _ => .no := PS.imp ps_never fun Dn σ H ⟨w, ρ, S, re, rl, g⟩ => g.elim
/-! targets -/
theorem qg_name {e : Expr} {i : Nat} (h : PG X e (gName i)) : QG X EX e (aGName i) := PG.imp h fun v σ H Q ⟨w, ρ, S, d, re, rl, rd, g⟩ => fin.ok (EX := EA EX) rl g _ (re.set i rd)
def tGs (K : PySem.W.Frag) (EX : St → EW) (A : AGs) : TGs := fun vs σ H Q => ∃ w ρ S ds, RE K w ρ σ ∧ Rel K w S H ∧ RDs K w ds vs ∧ fin K (EA EX) (FR K Q) w H (A ds ρ S)
theorem PGs.imp {e : List Expr} {t t' : TGs} (h : PGs X e t) (f : ∀ v σ H Q, t' v σ H Q → t v σ H Q) : PGs X e t' := by
  obtain ⟨h⟩ := h
  exact ⟨by intros; apply h <;> first | assumption | (apply f; assumption)⟩
theorem qg_nil : PGs X [] (tGs X.K EX aGNil) := PGs.imp pgs_nil fun vs σ H Q ⟨w, ρ, S, ds, re, rl, rd, g⟩ => by
  cases ds with
  | nil => exact ⟨rd, fin.ok (EX := EA EX) rl g _ re⟩
  | cons d r => exact g.elim
theorem qg_cons {e : Expr} {es : List Expr} {G : AG} {Gs : AGs} (h1 : QG X EX e G) (h2 : PGs X es (tGs X.K EX Gs)) (hs : (assignEach (e :: es) X.env).map (·.2) = assign e X.env :: (assignEach es X.env).map (·.2) := by rfl) : PGs X (e :: es) (tGs X.K EX (aGCons G Gs)) := PGs.imp (pgs_cons h1 h2 hs) fun vs σ H Q ⟨w, ρ, S, ds, re, rl, rd, g⟩ => by
  cases ds with
  | nil => exact g.elim
  | cons d r =>
    obtain ⟨v, vr, e1, h1, h2⟩ := rd
    exact ⟨v, vr, e1, w, ρ, S, d, re, rl, h1, (fin.bind rl g).mono fun w1 S1 H1 ρ1 p1 rl1 g1 σ1 re1 => ⟨w1, ρ1, S1, r, re1, rl1, p1.rds h2, g1⟩⟩
theorem qg_tup {e : Expr} {n : Nat} {Gs : AGs} (h : PG X e (gTup X.K n (tGs X.K EX Gs))) : QG X EX e (aGTup n Gs) := PG.imp h fun v σ H Q ⟨w, ρ, S, d, re, rl, rd, g⟩ => by
  cases d <;> first | exact g.elim | skip
  simp only [aGTup] at g
  split at g
  · next c =>
    obtain ⟨a, vs, e, h1, r1⟩ := dt_rd rl rd
    exact ⟨a, vs, e, h1, by rw [← r1.length]; exact c, w, ρ, S, _, re, rl, r1, g⟩
  · exact g.elim
theorem ok_set {K : PySem.W.Frag} {EX : EW} {w : W} {S : List O} {H : Hp} {o i v : V} {do_ di d : D} {R : W → List O → Hp → Unit → Prop} (rl : Rel K w S H) (ro : RD K w do_ o) (ri : RD K w di i) (rv : RD K w d v) (g : fin K EX R w H (dSet do_ di d S)) :
    ∃ p xs k j, o = .ref p ∧ i = .int k ∧ H p = some (.lst xs) ∧ ixN xs.length k = some j ∧ ∃ S', Rel K w S' (upd H p (.lst (xs.set j v))) ∧ Post w H w (upd H p (.lst (xs.set j v))) ∧ R w S' (upd H p (.lst (xs.set j v))) () := by
  unfold dSet at g
  split at g
  · next n k =>
    split at g
    · next xs e =>
      split at g
      · next j ej =>
        obtain ⟨p, e1, q⟩ := ro
        obtain ⟨vs, h1, h2⟩ := rl.obj n p _ q e
        have P : Post w H w (upd H p (.lst (vs.set j v))) := post_set rl q
        have rl2 : Rel K w (S.set n (.lst (xs.set j d))) (upd H p (.lst (vs.set j v))) := rel_set rl q e rfl ⟨_, upd_same, h2.set j rv⟩
        exact ⟨p, vs, k, j, e1, ri, h1, by rw [← h2.length]; exact ej, _, rl2, P, fin.get g P rl2⟩
      · exact g.elim
    · exact g.elim
  · exact g.elim
theorem qg_sub {e : Expr} {A B : AE} (h : PG X e (gSub (tE X.K EX A) (tE X.K EX B) rSetL)) : QG X EX e (aGSub A B) := PG.imp h fun v σ H Q ⟨w, ρ, S, d, re, rl, rd, g⟩ =>
  ⟨w, ρ, S, re, rl, (fin.bindS rl g σ).mono fun w1 S1 H1 d1 p1 rl1 g1 v1 rd1 => ⟨w1, ρ, S1, re.mono p1, rl1, (fin.bindS rl1 g1 σ).mono fun w2 S2 H2 d2 p2 rl2 g2 v2 rd2 => by
    obtain ⟨p, xs, k, j, e1, e2, h1, h2, S', rl3, p3, q⟩ := ok_set rl2 (p2.rd rd1) rd2 (p2.rd (p1.rd rd)) (fin.bind rl2 g2)
    exact ⟨p, xs, k, j, e1, e2, h1, h2, fin.ok (EX := EA EX) rl3 q σ (((re.mono p1).mono p2).mono p3)⟩⟩⟩
theorem qs_asg {st : Stmt} {A : AE} {G : AG} (h : PS X st (tAsg (tE X.K EX A) (tG X.K EX G))) : QS X EX st (aAsg A G) := PS.imp h fun Dn σ H ⟨w, ρ, S, re, rl, g⟩ =>
  ⟨w, ρ, S, re, rl, (fin.bindS rl g σ).mono fun w1 S1 H1 d p1 rl1 g1 v rd => ⟨w1, ρ, S1, d, re.mono p1, rl1, rd, (fin.bind rl1 g1).mono fun w2 S2 H2 ρ2 p2 rl2 g2 σ2 re2 => fin.ok (EX := EA EX) rl2 g2 σ2 re2⟩⟩
def aSetS (i : Nat) (A : AE) : AS := fun ρ S => (A ρ S).bind fun d S1 => .ok (.nx, ρ.set i (some d)) S1
theorem qs_set {st : Stmt} {A : AE} {i : Nat} (h : PS X st (tAsg (tE X.K EX A) (gName i))) : QS X EX st (aSetS i A) := PS.imp h fun Dn σ H ⟨w, ρ, S, re, rl, g⟩ =>
  ⟨w, ρ, S, re, rl, (fin.bindS rl g σ).mono fun w1 S1 H1 d p1 rl1 g1 v rd => fin.ok (EX := EA EX) rl1 g1 _ ((re.mono p1).set i rd)⟩
theorem qs_par {st : Stmt} {L : AL} {i j : Nat} (h : PS X st (tPar i j (tL X.K EX L))) : QS X EX st (aPar i j L) := PS.imp h fun Dn σ H ⟨w, ρ, S, re, rl, g⟩ =>
  ⟨w, ρ, S, re, rl, (fin.bindS rl g σ).mono fun w1 S1 H1 ds p1 rl1 g1 vs rds => by
    split at g1
    · next x y =>
      obtain ⟨v, u, rfl, r1, r2⟩ := rds2 rds
      exact ⟨v, u, rfl, fin.ok (EX := EA EX) rl1 g1 _ (((re.mono p1).set i r1).set j r2)⟩
    · exact g1.elim⟩
theorem rds3 {K : PySem.W.Frag} {w : W} {d d2 d3 : D} {vs : List V} (h : RDs K w [d, d2, d3] vs) : ∃ v v2 v3, vs = [v, v2, v3] ∧ RD K w d v ∧ RD K w d2 v2 ∧ RD K w d3 v3 := by
  obtain ⟨v, r, e, h1, h2⟩ := h
  obtain ⟨v2, v3, e2, h3, h4⟩ := rds2 h2
  exact ⟨v, v2, v3, by rw [e, e2], h1, h3, h4⟩
theorem qs_par3 {st : Stmt} {L : AL} {i j l : Nat} (h : PS X st (tPar3 i j l (tL X.K EX L))) : QS X EX st (aPar3 i j l L) := PS.imp h fun Dn σ H ⟨w, ρ, S, re, rl, g⟩ =>
  ⟨w, ρ, S, re, rl, (fin.bindS rl g σ).mono fun w1 S1 H1 ds p1 rl1 g1 vs rds => by
    split at g1
    · next x y z =>
      obtain ⟨v, u, q, rfl, r1, r2, r3⟩ := rds3 rds
      exact ⟨v, u, q, rfl, fin.ok (EX := EA EX) rl1 g1 _ ((((re.mono p1).set i r1).set j r2).set l r3)⟩
    · exact g1.elim⟩
/-- op= on ints -/
theorem qs_aug {st : Stmt} {A : AE} {i : Nat} {f : D → D → M D} {t : TIp} (h : PS X st (tAug i (tE X.K EX A) t)) (ok : ∀ EX, OpOK X.K EX t f) : QS X EX st (aAug i f A) := PS.imp h fun Dn σ H ⟨w, ρ, S, re, rl, g⟩ => by
  unfold aAug at g
  split at g
  · next x e =>
    obtain ⟨v, ev, rv⟩ := re.at_ i x e
    exact ⟨v, ev, w, ρ, S, re, rl, (fin.bindS rl g σ).mono fun w1 S1 H1 d p1 rl1 g1 v1 rd1 => ok _ w1 S1 H1 v v1 x d _ rl1 (p1.rd rv) rd1 ((fin.bind rl1 g1).mono fun w2 S2 H2 d2 p2 rl2 g2 v2 rd2 =>
      fin.ok (EX := EA EX) rl2 g2 _ (((re.mono p1).mono p2).set i rd2))⟩
  · exact g.elim
def dAddI : D → D → M D
  | .int i, .int j => fun S => .ok (.int (i + j)) S
  | _, _ => fun _ => .no
theorem ok_ipAdd {K : PySem.W.Frag} : OpOK K EY (ipI fun i j => i + j) dAddI := by
  intro w S H x y dx dy Q rl rx ry g
  unfold dAddI at g
  split at g
  · next i j => exact ⟨i, j, rx, ry, fin.ok rl g _ rfl⟩
  · exact g.elim
theorem ok_ipSub {K : PySem.W.Frag} : OpOK K EY (ipI fun i j => i - j) aSub := by
  intro w S H x y dx dy Q rl rx ry g
  unfold aSub at g
  split at g
  · next i j => exact ⟨i, j, rx, ry, fin.ok rl g _ rfl⟩
  · exact g.elim
theorem q_fix {e : Expr} {A : AE} (h : QE X EX e A) : QE X EX e (aFix A) := PE.imp h fun σ H Q ⟨w, ρ, S, re, rl, g⟩ =>
  ⟨w, ρ, S, re, rl, (fin.bind rl g).mono fun w1 S1 H1 d p1 rl1 g1 v rd => by
    unfold dFix at g1
    split at g1
    · next n =>
      split at g1
      · next xs e =>
        obtain ⟨a, e1, q⟩ := rd
        obtain ⟨vs, h1, h2⟩ := rl1.obj n a _ q e
        obtain ⟨rl2, p2⟩ := rel_freeze rl1 q e rfl h1
        exact fin.get g1 p2 rl2 v ⟨a, vs, e1, upd_same, p2.rds h2⟩
      · exact g1.elim
    · exact fin.ok rl1 g1 v rd⟩

/-! ### methods of lists -/
def dAppend : D → List D → M D
  | .loc n, [v] => fun S => match S[n]? with
    | some (.lst xs) => if small (xs.length + 1) then .ok .non (S.set n (.lst (xs ++ [v]))) else .no
    | _ => .no
  | _, _ => fun _ => .no
def aMeth (f : D → List D → M D) (A : AE) (L : AL) : AE := fun ρ S => (A ρ S).bind fun o S1 => (L ρ S1).bind fun ds S2 => f o ds S2
/-- whose type a method asks -/
def isL (S : List O) (d : D) : Bool := (dl d S).isSome
def aMethL (f : D → List D → M D) (A : AE) (L : AL) : AE := fun ρ S => (A ρ S).bind fun o S1 => if isL S1 o then (L ρ S1).bind fun ds S2 => f o ds S2 else .no
def MetOK (K : PySem.W.Frag) (EX : EW) (r : V → List V → Hp → VK → Prop) (f : D → List D → M D) : Prop := ∀ w S H x xs d ds Q, Rel K w S H → RD K w d x → RDs K w ds xs → fin K EX (FQ K Q) w H (f d ds S) → r x xs H Q
theorem ok_append {K : PySem.W.Frag} : MetOK K EY rAppend dAppend := by
  intro w S H x xs d ds Q rl rx rds g
  unfold dAppend at g
  split at g
  · next n v =>
    split at g
    · next ys e =>
      split at g
      · next c =>
        obtain ⟨p, e1, q⟩ := rx
        obtain ⟨u, rfl, ru⟩ := rds1 rds
        obtain ⟨vs, h1, h2⟩ := rl.obj n p _ q e
        have P : Post w H w (upd H p (.lst (vs ++ [u]))) := post_set rl q
        have rl2 : Rel K w (S.set n (.lst (ys ++ [v]))) (upd H p (.lst (vs ++ [u]))) := rel_set rl q e rfl ⟨_, upd_same, h2.append (RDs.one ru)⟩
        refine ⟨p, vs, u, e1, rfl, h1, ?_, fin.get g P rl2 _ rfl⟩
        have := small_line c
        rw [h2.length] at this
        omega
      · exact g.elim
    · exact g.elim
  · exact g.elim
theorem q_methL {e : Expr} {A : AE} {L : AL} {r : V → List V → Hp → VK → Prop} {f : D → List D → M D} (h : PE X e (tBM X.K "list" r (tE X.K EX A) (tL X.K EX L))) (ok : ∀ EX, MetOK X.K EX r f) : QE X EX e (aMethL f A L) := PE.imp h fun σ H Q ⟨w, ρ, S, re, rl, g⟩ =>
  ⟨w, ρ, S, re, rl, (fin.bind rl g).mono fun w1 S1 H1 d p1 rl1 g1 v rd => by
    split at g1
    · next c =>
      obtain ⟨xs, e⟩ := Option.isSome_iff_exists.mp c
      obtain ⟨a, vs, rfl, h1, r1⟩ := dl_rd rl1 rd e
      exact ⟨.inl ⟨rfl, _, h1⟩, w1, ρ, S1, re.mono p1, rl1, (fin.bind rl1 g1).mono fun w2 S2 H2 ds p2 rl2 g2 us rds => ok _ w2 S2 H2 _ us d ds Q rl2 (p2.rd rd) rds g2⟩
    · exact g1.elim⟩

/-! ### defs -/
def spF (K : PySem.W.Frag) (F : List D → M D) (n : Nat) : Sp := fun vs H Q E => vs.length = n ∧ ∃ w S ds, Rel K w S H ∧ RDs K w ds vs ∧ fin K (fun w S H e => XOk K w E H e) (FQ K Q) w H (F ds S)
/-- a def's value by its body: N slots -/
def runF (N : Nat) (A : AS) : List D → M D := fun ds S => (A (ds.map some ++ List.replicate (N - ds.length) none) S).bind fun f S1 => match f with
  | (.rt d, _) => .ok d S1
  | (.nx, _) => .ok .non S1
  | _ => .no
theorem start_re {K : PySem.W.Frag} {w : W} {ds : List D} {vs : List V} {N : List Str} (r : RDs K w ds vs) : RE K w (ds.map some ++ List.replicate (N.length - ds.length) none) (L2.start N vs) := by
  refine ⟨by simp [L2.start, r.length], fun i d e => ?_⟩
  have hi : i < ds.length := by
    by_cases c : i < ds.length
    · exact c
    · rw [List.getElem?_append_right (by rw [List.length_map]; omega)] at e
      have := List.mem_of_getElem? e
      rw [List.mem_replicate] at this
      cases this.2
  rw [List.getElem?_append_left (by rw [List.length_map]; exact hi), List.getElem?_map] at e
  have e : ds[i]? = some d := by
    cases c : ds[i]? with
    | none => rw [c] at e; cases e
    | some x => rw [c] at e; simp at e; rw [e]
  obtain ⟨v, a, b⟩ := r.get e
  refine ⟨v, ?_, b⟩
  unfold L2.start
  rw [List.getElem?_append_left (by rw [List.length_map, ← r.length]; exact hi), List.getElem?_map, a]
  rfl
theorem run_fin {K : PySem.W.Frag} {EX : EW} {A : AS} {w : W} {S : List O} {H : Hp} {ds : List D} {N : Nat} {Q : VK} (rl : Rel K w S H) (g : fin K EX (FQ K Q) w H (runF N A ds S)) :
    fin K EX (FD K { nx := fun _ H' => Q .non H', rt := Q }) w H (A (ds.map some ++ List.replicate (N - ds.length) none) S) := by
  refine (fin.bind rl g).mono fun w1 S1 H1 f p1 rl1 g1 => ?_
  obtain ⟨f, ρ⟩ := f
  cases f with
  | nx => exact fun σ re => fin.ok (EX := EX) rl1 g1 _ rfl
  | rt d => exact fin.ok (EX := EX) rl1 g1
  | bk => exact g1.elim
  | ct => exact g1.elim
section
variable {P : Program} {pw : World} {K : PySem.W.Frag} {mg : Str → Option Value} {base : Heap}
/-- a def of the text: its body by rules gives its function -/
theorem fn_ok {x qual : Str} {st : Stmt} {f : Addr} {fd : FuncData} {N ps : List Str} {k m : Nat} {A : AS} (D : Fun K x qual st f fd) (Sc : FnScope N ps (defScope st)) (hN : N.length = m)
    (body : ∀ (cdv : Value) (A0 : Around) (outer : List Env) (s : Shared) (H : Hp) (E : XK), Ct (cxOf (CX P pw) P pw K mg base N qual (defScope st) f cdv A0 outer s H E) (fun _ w S H e => XOk K w E H e) k →
      QSs (cxOf (CX P pw) P pw K mg base N qual (defScope st) f cdv A0 outer s H E) (fun _ w S H e => XOk K w E H e) (defBody st) A) : FnOk P pw K mg base (CX P pw) (k + 1) f fd ps (spF K (runF m A) ps.length) := by
  refine D.okX Sc (fun vs H Q E h => h.1) fun cdv A0 outer s H vs Q E hr h => ⟨_, body cdv A0 outer s H E ⟨rfl, Sc.nd, hr, passes_of rfl, ⟨_, takes_of rfl rfl rfl rfl, fun _ _ _ _ _ h => h⟩⟩, ?_⟩
  obtain ⟨hl, w, S, ds, rl, rds, g⟩ := h
  refine ⟨w, _, S, start_re rds, rl, ?_⟩
  rw [hN]
  exact (run_fin rl g).wk fun _ _ _ _ h σ => h
end
end
end E

namespace E
open PySem L2

/-! ### calls of defs -/
section
variable {X : Cx} {EX : St → EW} {EY : EW} {n : Nat}
theorem q_call {x : Str} {pos p : Pos} {f : Addr} {fd : FuncData} {ps : List Str} {k m : Nat} {e : Expr} {es : List Expr} {L : AL} {F : List D → M D}
    (C : Ct X EX n) (Fo : FnOk X.prog X.w X.K X.mg X.base (CX X.prog X.w) k f fd ps (spF X.K F m)) (hk : k ≤ n) (hg : Gl X x) (hm : X.mg x = some (.ref f)) (hkp : PySem.W.keepIn X.K (.ref f) = true) (hb : Binds X.K fd ps [])
    (hl : (e :: es).length = m) (hL : QL X EX (e :: es) L) (hLn : ∀ ρ S ds S1, L ρ S = .ok ds S1 → ds.length = m)
    (hdb : (x == ("__debug__" : Str)) = false := by decide) (he : starEach (e :: es) X.env = (false, eval e X.env) :: starEach es X.env := by rfl) (hpl : (backTo pos (starEach es X.env)).any (·.1) = false := by rfl) :
    QE X EX (.Call (.Name x p) (e :: es) [] pos) (aCall F L) := by
  obtain ⟨Wx, tk, hE⟩ := C.tk
  refine PE.imp (pe_callS (E := fun σ c d H => Wx c d σ H) Fo (C.hr.mono hk) hg hm hkp hb (fun σ => passAt tk σ) hL hdb he hpl) fun σ H Q ⟨w, ρ, S, re, rl, g⟩ => ?_
  have g' := fin.bind rl g
  refine ⟨w, ρ, S, re, rl, ?_⟩
  cases hr : L ρ S with
  | ok ds S1 =>
    rw [hr] at g'
    intro w1 H1 p1 rl1 vs rds
    exact ⟨by rw [← rds.length]; exact hLn _ _ _ _ hr, w1, S1, ds, rl1, rds, (fin.get g' p1 rl1).wk fun _ _ _ _ h => hE _ _ _ _ _ h⟩
  | err e S1 => rw [hr] at g'; exact g'
  | no => rw [hr] at g'; exact g'
theorem len_cons {A : AE} {L : AL} {m : Nat} (h : ∀ ρ S ds S1, L ρ S = .ok ds S1 → ds.length = m) : ∀ ρ S ds S1, aCons A L ρ S = .ok ds S1 → ds.length = m + 1 := by
  intro ρ S ds S1 e
  unfold aCons at e
  cases h1 : A ρ S with
  | ok x S2 =>
    rw [h1] at e
    simp only [Res.bind] at e
    cases h2 : L ρ S2 with
    | ok xs S3 =>
      rw [h2] at e
      cases e
      rw [List.length_cons, h _ _ _ _ h2]
    | err _ _ => rw [h2] at e; cases e
    | no => rw [h2] at e; cases e
  | err _ _ => rw [h1] at e; cases e
  | no => rw [h1] at e; cases e
theorem len_nil : ∀ (ρ : Rho) S ds S1, aNil ρ S = .ok ds S1 → ds.length = 0 := by
  intro ρ S ds S1 e
  cases e
  rfl
/-- f(k = v, ..), all by name: perm gives the values in the parameters' order -/
abbrev QK (X : Cx) (EX : St → EW) (ks : List Keyword) (A : AL) : Prop := PK X ks (tL X.K EX A)
theorem PK.imp {e : List Keyword} {t t' : TA} (h : PK X e t) (f : ∀ σ H Q, t' σ H Q → t σ H Q) : PK X e t' := by
  obtain ⟨h⟩ := h
  exact ⟨by intros; apply h <;> first | assumption | (apply f; assumption)⟩
theorem qk_nil : QK X EX [] aNil := PK.imp pk_nil fun σ H Q ⟨w, ρ, S, re, rl, g⟩ => fin.ok rl g _ rfl
theorem qk_cons {nm : Option Str} {e : Expr} {kpos : Pos} {ks : List Keyword} {A : AE} {B : AL} (ha : QE X EX e A) (hb : QK X EX ks B) : QK X EX (⟨nm, e, kpos⟩ :: ks) (aCons A B) := PK.imp (pk_cons ha hb) fun σ H Q ⟨w, ρ, S, re, rl, g⟩ =>
  ⟨w, ρ, S, re, rl, (fin.bind rl g).mono fun w1 S1 H1 d p1 rl1 g1 v rd => ⟨w1, ρ, S1, re.mono p1, rl1, (fin.bind rl1 g1).mono fun w2 S2 H2 ds p2 rl2 g2 vs rds => fin.ok rl2 g2 _ ⟨v, vs, rfl, p2.rd rd, rds⟩⟩⟩
end

/-! ### loops -/
/-- what a walk gives: the items -/
structure ItR (K : PySem.W.Frag) (J : It) (w0 : W) (H0 : Hp) (ds : List D) : Prop where
  stop : ∀ (i : Nat) (w : W) (S : List O) (H : Hp), Post w0 H0 w H → Rel K w S H → ds.length ≤ i → J.stop i H
  go : ∀ (i : Nat) (d : D) (w : W) (S : List O) (H : Hp), Post w0 H0 w H → Rel K w S H → ds[i]? = some d → J.go i H ∧ ∀ x H', J.yld i H x H' → ∃ w', Post w H w' H' ∧ Rel K w' S H' ∧ RD K w' d x
theorem ItR.mono {K : PySem.W.Frag} {J : It} {w0 w1 : W} {H0 H1 : Hp} {S0 S1 : List O} {ds : List D} (h : ItR K J w0 H0 ds) (r0 : Rel K w0 S0 H0) (r1 : Rel K w1 S1 H1) (p : Post w0 H0 w1 H1) : ItR K J w1 H1 ds :=
  ⟨fun i w S H q r e => h.stop i w S H (p.trans r0 r1 q) r e, fun i d w S H q r e => h.go i d w S H (p.trans r0 r1 q) r e⟩
/-- items that stay while the walk goes -/
abbrev AI := Rho → M (List D)
def FI (K : PySem.W.Frag) (R : It → Hp → Prop) : W → List O → Hp → List D → Prop := fun w _ H ds => ∀ J, ItR K J w H ds → R J H
def tI (K : PySem.W.Frag) (EX : St → EW) (A : AI) : TI := fun σ H R => ∃ w ρ S, RE K w ρ σ ∧ Rel K w S H ∧ fin K (EX σ) (FI K R) w H (A ρ S)
abbrev QI (X : Cx) (EX : St → EW) (tg it : Expr) (A : AI) : Prop := PI X tg it (tI X.K EX A)
theorem PI.imp {X : Cx} {tg it : Expr} {t t' : TI} (h : PI X tg it t) (f : ∀ σ H Q, t' σ H Q → t σ H Q) : PI X tg it t' := ⟨fun pins s σ H R I q => h.run pins s σ H R I (f _ _ _ q)⟩
def aLoop (G : AG) (B : AS) : List D → AS
  | [], ρ, S => .ok (.nx, ρ) S
  | d :: ds, ρ, S => (G d ρ S).bind fun ρ1 S1 => (B ρ1 S1).bind fun f S2 => match f with
    | (.nx, ρ2) => aLoop G B ds ρ2 S2
    | (.ct, ρ2) => aLoop G B ds ρ2 S2
    | (.bk, ρ2) => .ok (.nx, ρ2) S2
    | (.rt v, ρ2) => .ok (.rt v, ρ2) S2
def aFor (A : AI) (G : AG) (B : AS) : AS := fun ρ S => (A ρ S).bind fun ds S1 => aLoop G B ds ρ S1
section
variable {X : Cx} {EX : St → EW} {EY : EW} {n : Nat}
theorem loop_fin {K : PySem.W.Frag} {J : It} {g : TG} {tb : TS} {G : AG} {B : AS} {Dn : Ends} (hg : g = tG K EX G) (hb : tb = tS K EX B) {w : W} {H : Hp} {S : List O} {ρ : Rho} {σ : St} {ds : List D} (rl : Rel K w S H) (re : RE K w ρ σ) (it : ItR K J w H ds)
    (f : fin K (EA EX) (FD K Dn) w H (aLoop G B ds ρ S)) :
    ∃ Wv : Nat → Nat → St → Hp → Prop, (∃ m, Wv 0 m σ H) ∧ ∀ i m σ H, Wv i m σ H →
      (J.stop i H ∧ Dn.nx σ H) ∨ (J.go i H ∧ ∃ N : St → Hp → Prop, (∀ σ' H', N σ' H' → ∃ m', m' < m ∧ Wv (i + 1) m' σ' H') ∧ ∀ x H', J.yld i H x H' → g x σ H' fun σ2 H2 => tb { Dn with nx := N, ct := N, bk := Dn.nx } σ2 H2) := by
  subst hg hb
  refine ⟨fun i m σ' H' => i + m = ds.length + 1 ∧ 0 < m ∧ ∃ w' ρ' S', Post w H w' H' ∧ Rel K w' S' H' ∧ RE K w' ρ' σ' ∧ fin K (EA EX) (FD K Dn) w' H' (aLoop G B (ds.drop i) ρ' S'), ⟨ds.length + 1, by omega, by omega, w, ρ, S, Post.refl, rl, re, by rw [List.drop_zero]; exact f⟩, ?_⟩
  rintro i m σ1 H1 ⟨hm, hm0, w1, ρ1, S1, p1, rl1, re1, f1⟩
  by_cases c : i < ds.length
  · refine .inr ?_
    have e : ds[i]? = some ds[i] := List.getElem?_eq_getElem c
    obtain ⟨hgo, hy⟩ := it.go i ds[i] w1 S1 H1 p1 rl1 e
    refine ⟨hgo, fun σ' H' => i + 1 + (m - 1) = ds.length + 1 ∧ 0 < m - 1 ∧ ∃ w' ρ' S', Post w H w' H' ∧ Rel K w' S' H' ∧ RE K w' ρ' σ' ∧ fin K (EA EX) (FD K Dn) w' H' (aLoop G B (ds.drop (i + 1)) ρ' S'), fun σ' H' h => ⟨m - 1, by omega, h⟩, fun x H2 hx => ?_⟩
    obtain ⟨w2, p2, rl2, rd⟩ := hy x H2 hx
    rw [List.drop_eq_getElem_cons c] at f1
    unfold aLoop at f1
    have f2 := fin.bind rl2 (f1.rebase rl1 rl2 p2)
    refine ⟨w2, ρ1, S1, ds[i], re1.mono p2, rl2, rd, f2.mono fun w3 S3 H3 ρ3 p3 rl3 f3 σ3 re3 => ⟨w3, ρ3, S3, re3, rl3, (fin.bind rl3 f3).mono fun w4 S4 H4 fl p4 rl4 f4 => ?_⟩⟩
    have pa : Post w H w4 H4 := ((p1.trans rl rl1 p2).trans rl rl2 p3).trans rl rl3 p4
    obtain ⟨fl, ρ4⟩ := fl
    cases fl with
    | nx => exact fun σ4 re4 => ⟨by omega, by omega, w4, ρ4, S4, pa, rl4, re4, f4⟩
    | ct => exact fun σ4 re4 => ⟨by omega, by omega, w4, ρ4, S4, pa, rl4, re4, f4⟩
    | bk => exact fun σ4 re4 => fin.ok (EX := EA EX) rl4 f4 σ4 re4
    | rt d => exact fin.ok (EX := EA EX) rl4 f4
  · refine .inl ⟨it.stop i w1 S1 H1 p1 rl1 (by omega), ?_⟩
    rw [List.drop_of_length_le (by omega)] at f1
    unfold aLoop at f1
    exact fin.ok (EX := EA EX) rl1 f1 σ1 re1
theorem qs_for {st : Stmt} {A : AI} {G : AG} {B : AS} (h : PS X st (tFor (tI X.K EX A) (tG X.K EX G) (tS X.K EX B))) : QS X EX st (aFor A G B) := PS.imp h fun Dn σ H ⟨w, ρ, S, re, rl, g⟩ =>
  ⟨w, ρ, S, re, rl, (fin.bindS rl g σ).mono fun w1 S1 H1 ds p1 rl1 g1 J it => loop_fin rfl rfl rl1 (re.mono p1) it g1⟩
/-! walks -/
theorem itr_list {K : PySem.W.Frag} {w : W} {H : Hp} {S : List O} {a : Addr} {vs : List V} {ds : List D} (hF : SqL K w.F a vs) (r : RDs K w ds vs) (hi : ∀ H ys, SqL K H a vs → SqL K H a ys → ys[0]? = ys[0]?) : True := trivial
end
end E

namespace PySem
open PySem AutoSeq1
theorem meets_enumerate_newT (l : Addr) (items : Array Value) :
    Meets (Builtin.«enumerate.__new__» ⟨[.type "enumerate", .ref l], []⟩) (fun _ R s => s.heap.IsTuple l items ∧
      R (.ok (.ret (.ref (s.heap.push { cls := .type "tuple_iterator", data := .fields #[.ref l, .int 0 0] }).objs.size)))
        { s with heap := (s.heap.push { cls := .type "tuple_iterator", data := .fields #[.ref l, .int 0 0] }).push { cls := .type "enumerate", data := .fields #[.none, .bool false, .ref s.heap.objs.size, rawInt 0, .none, .none] } }) :=
  .of_wp fun prog w A R s h => by
    obtain ⟨hp, g, d, tk, os⟩ := s; obtain ⟨hL, h⟩ := h
    have hsub := sub_enumerate
    wp_walk using wpAny_pyIter_tuple hL
    refine wpAny_stack_any fun st => wpAny_pure ?_
    split
    · rename_i c _ _ _ _ _
      cases (c == Value.type "enumerate")
      · wp_walk using wpAny_pyIter_tuple hL
        exact ⟨_, rfl, h⟩
      · wp_walk using wpAny_pyIter_tuple hL
        exact ⟨_, rfl, h⟩
    · wp_walk using wpAny_pyIter_tuple hL
      exact ⟨_, rfl, h⟩
section
variable {prog : Program} {w : World} {A : Around} {E : Value → Shared → Prop} {s : Shared}
theorem call_enumerate_tuple {l : Addr} {items : Array Value} {Q : Value → Shared → Prop} (hL : s.heap.IsTuple l items)
    (h : ∀ h', IsEnum h' (s.heap.objs.size + 1) s.heap.objs.size 0 .none → h'.IsTupleIter s.heap.objs.size l 0 → h'.objs.size = s.heap.objs.size + 2 →
      (∀ b o, s.heap.get? b = some o → h'.get? b = some o) → Q (.ref (s.heap.objs.size + 1)) { s with heap := h' }) :
    wpAny (model prog w) A (call (.type "enumerate") [.ref l]) Q E s := by
  refine callType_new F.called_enumerate (by decide) (F.typeCall_enumerate_1 _) (F.newCall_enumerate_1 _) (fun obj => F.args_object_init_2 obj _) F.entry_enumerate_new
    (meets_enumerate_newT l items) ⟨hL, ?_⟩
  have hz : (s.heap.push { cls := .type "tuple_iterator", data := .fields #[.ref l, .int 0 0] }).objs.size = s.heap.objs.size + 1 := Heap.size_push ..
  show _ ∧ _
  rw [hz]
  have he : IsEnum ((s.heap.push { cls := .type "tuple_iterator", data := .fields #[.ref l, .int 0 0] }).push
      { cls := .type "enumerate", data := .fields #[.none, .bool false, .ref s.heap.objs.size, rawInt 0, .none, .none] }) (s.heap.objs.size + 1) s.heap.objs.size 0 .none := by
    have := Heap.get?_push_size (s.heap.push { cls := .type "tuple_iterator", data := .fields #[.ref l, .int 0 0] })
      (o := { cls := .type "enumerate", data := .fields #[.none, .bool false, .ref s.heap.objs.size, rawInt 0, .none, .none] }) rfl
    rw [hz] at this; exact this
  refine ⟨⟨_, he, rfl⟩, h _ he ⟨_, Heap.get?_push_of_some _ (Heap.get?_push_size _ rfl), rfl, rfl⟩ (by rw [Heap.size_push, hz]) fun b o x => Heap.get?_push_of_some _ (Heap.get?_push_of_some _ x)⟩
end
end PySem
namespace E
open PySem PySem.Spec PyProof.Rows L2
/-- the tuple at a, each item in a new pair -/
def IteT (K : PySem.W.Frag) (a : Addr) : It :=
  ⟨fun i H => ∃ (xs : List V) (x : V), SqT K H a xs ∧ xs[i]? = some x, fun i H v H' => ∃ T x, v = .ref T ∧ H T = none ∧ H' = upd H T (.tup [.int (i : Nat), x]) ∧ ∀ xs, SqT K H a xs → xs[i]? = some x, fun i H => ∃ xs : List V, SqT K H a xs ∧ xs.length ≤ i⟩
theorem turn_enumT {P : Program} {w : World} {K : PySem.W.Frag} {elts : List Expr} {kk : Nat} {tpos : Pos} (a e it : Addr) :
    Turn P w K (.Tuple elts kk tpos) (IteT K a) [e, it] e (fun i h => (∃ old, IsEnum h e it ((i : Nat) : Int) old) ∧ h.IsTupleIter it a i ∧ e ≠ it) where
  mem := by simp
  obj := fun i h st b hb => by
    obtain ⟨⟨old, he⟩, ⟨o, ho, hc, hd⟩, _⟩ := st
    have e' : b = e ∨ b = it := by simpa using hb
    rcases e' with z | z
    · rw [z]; exact ⟨_, he, fun v q => nomatch q⟩
    · rw [z]; exact ⟨o, ho, fun v q => by rw [hd] at q; cases q⟩
  keep := fun i h h' st k => let ⟨⟨old, he⟩, hi, hne⟩ := st; ⟨⟨old, k e (by simp) _ he⟩, hi.at fun o q => k it (by simp) o q, hne⟩
  item := by
    intro X hP hw hK hc i pins s σ H E I hf st hg
    subst hP hw hK
    obtain ⟨⟨old, he⟩, hit, hne⟩ := st
    obtain ⟨xs, x, hq, hx⟩ := hg
    obtain ⟨its, rv, p, hz⟩ := I.tuple hq
    have p : s.heap.IsTuple a its.toArray := p
    obtain ⟨u, hu, ru⟩ := rv.get hx
    have hel : e < s.heap.objs.size := Heap.lt_size he
    have hil : it < s.heap.objs.size := by obtain ⟨_, q, _⟩ := hit; exact Heap.lt_size q
    have hat : a ≠ it := fun z => by
      subst z
      obtain ⟨o, h1, h2, _⟩ := hit
      obtain ⟨o2, h3, h4, _⟩ := p
      rw [h1] at h3; cases h3
      rw [h2] at h4
      exact absurd (Value.type.inj h4) (by decide)
    have hea : e ≠ a := fun z => by
      subst z
      obtain ⟨o2, h3, h4, _⟩ := p
      have h5 : s.heap.get? e = some _ := he
      rw [h3] at h5; cases h5
      exact absurd (Value.type.inj h4) (by decide)
    have D := Draws.tuple (prog := X.prog) (w := X.w) (A := X.A.in1) (I.ok.hd hc) it a hat its.toArray
    have hlt : i < its.toArray.size := by
      have := (List.getElem?_eq_some_iff.mp hu).1
      simpa using this
    refine wpAny_pyNext_enum_itemC D he ⟨hit, p⟩ hlt hne (by simp [hne, hea]) fun y h' tk hP ho hst' hT hsz hk => ?_
    have hy : y = u := by
      have hP : its.toArray[i]? = some y := hP
      rw [List.getElem?_toArray, hu] at hP
      exact (Option.some.inj hP).symm
    subst hy
    refine ⟨_, rfl, wpAny_letOwnedTupleGo_enum (s := { s with heap := h', toks := tk + 1 }) ho fun h'' he' sb => ?_⟩
    have hT2 : h''.get? s.heap.objs.size = some { cls := .type "tuple", data := .seq #[.int i tk, y] } := (sb.2 _ (Nat.ne_of_gt hel)).trans hT
    have new : ObjOk X.prog X.w (upd H s.heap.objs.size (.tup [.int (i : Nat), x])) h'' s.heap.objs.size (.tup [.int (i : Nat), x]) :=
      ⟨by show 2 ≤ sizeLine; decide, [.int i tk, y], .cons ⟨_, rfl⟩ (.cons ru .nil), ⟨_, hT2, rfl, _, rfl⟩⟩
    have I1 : Inv X pins σ (upd H s.heap.objs.size (.tup [.int (i : Nat), x])) { s with heap := h'', toks := tk + 1 } :=
      I.turnedNew (ch := [e, it]) (fun b ob hb q => (sb.2 b (fun z => hb (by simp [z]))).trans (hk b ob (fun z => hb (by simp [z])) (fun z => hb (by simp [z])) q)) hf (Nat.le_refl _) new
    refine ⟨.ref s.heap.objs.size, _, I1, rfl, ⟨_, x, rfl, I.hok.fresh (Nat.le_refl _), rfl, fun ys hy => by rw [I.tuple_inj hy hq]; exact hx⟩, ⟨⟨y, ?_⟩, hst'.1.at fun o q => (sb.2 it (Ne.symm hne)).trans q, hne⟩, fun b hb => ?_⟩
    · have e1 : ((i + 1 : Nat) : Int) = (i : Int) + 1 := by omega
      rw [e1]; exact he'
    · have hb' : b < s.heap.objs.size := by
        have e' : b = e ∨ b = it := by simpa using hb
        rcases e' with z | z
        · rw [z]; exact hel
        · rw [z]; exact hil
      rw [upd_ne (Nat.ne_of_lt hb')]
      exact (hf b hb).1
  done := by
    intro X hP hw hK hc i pins s σ H E I hf st hg
    subst hP hw hK
    obtain ⟨⟨old, he⟩, hit, hne⟩ := st
    obtain ⟨xs, hq, hx⟩ := hg
    obtain ⟨its, rv, p, hz⟩ := I.tuple hq
    have p : s.heap.IsTuple a its.toArray := p
    obtain ⟨f0, f1, f2, f3, f4, f5⟩ := hf it (by simp)
    have hl := rv.length
    have hT : s.TypeIs (.ref e) "enumerate" := ⟨_, he, rfl⟩
    have key : wpAny (model X.prog X.w) X.A (pyNext (.ref e)) (fun r s1 => r = none ∧ Inv X pins σ H s1) E s := by
      unfold pyNext
      refine wpAny_bind (wpAny_attempt (wpAny_callSpecial?_slot (name := Str.ofString "__next__") hT F.slot_enumerate_next
        (wpAny_call_entry F.slot_enumerate_next hT F.entry_enumerate_next ?_ (F.args_enumerate_next_1 _))))
      show wpAny _ _ (field (.ref e) 2 >>= _) _ _ _
      refine wpAny_bind (wpAny_field he rfl (x := .ref it) rfl ?_)
      refine wpAny_bind (wpAny_nextOf_tuple_end (A := X.A.in1) (I.ok.hd hc) hit p (by simp; omega) fun h' x he' hx' => ?_)
      obtain ⟨o, ho, hc⟩ := hx'
      refine wpAny_bind (wpAny_isInstance (T := "StopIteration") (b := true) ⟨o, ho, hc⟩ isSubtype_stop ?_)
      exact wpAny_pure ⟨rfl, I.turned (t' := s.toks) (fun b o hb q => he' b o hb q) f0 f1 f3 f4 f5⟩
    exact key
  self := fun A i s Q E st h => let ⟨⟨_, he⟩, _⟩ := st; wpAny_pyIter_enum he h
def iEnumA (K : PySem.W.Frag) (ta : TA) : TI := fun σ H R => ta σ H fun vs H1 => ∃ a xs, vs = [.ref a] ∧ SqT K H1 a xs ∧ R (IteT K a) H1
theorem pi_enumT {X : Cx} {e : Expr} {ta : TA} {p pos tpos : Pos} {elts : List Expr} {kk : Nat} (hg : Gl X "enumerate") (hm : X.mg "enumerate" = none) (ha : PA X [e] ta) (hs : starEach [e] X.env = [(false, eval e X.env)] := by rfl) :
    PI X (.Tuple elts kk tpos) (.Call (.Name "enumerate" p) [e] [] pos) (iEnumA X.K ta) := by
  refine ⟨fun pins s σ H R I h => ?_⟩
  refine Call_ (ld_blt I hg hm boot_enumerate (PyProof.Rows.callWith_type1 (thn (ha.run pos pins s σ H _ I h) fun us s1 ⟨vs, H1, I1, r1, q1⟩ => ?_) hs rfl))
  obtain ⟨a, xs, ex, hq, q⟩ := q1
  subst ex
  cases r1 with
  | cons r rr =>
    cases rr
    cases r
    obtain ⟨its, rv, p', hz⟩ := I1.tuple hq
    refine call_enumerate_tuple (items := its.toArray) p' fun h' he hit hsz hk => wpAny_pyIter_enum he ?_
    have I2 : Inv X pins σ H1 { s1 with heap := h' } := I1.kept (t' := s1.toks) hk
    refine ⟨s1.heap.objs.size + 1, [s1.heap.objs.size + 1, s1.heap.objs.size], _, _, H1, rfl, I2, turn_enumT a (s1.heap.objs.size + 1) s1.heap.objs.size, ⟨⟨.none, he⟩, hit, Nat.succ_ne_self _⟩, fun b hb => ?_, q⟩
    have e' : b = s1.heap.objs.size + 1 ∨ b = s1.heap.objs.size := by simpa using hb
    have hle : s1.heap.objs.size ≤ b := by
      rcases e' with z | z
      · rw [z]; exact Nat.le_add_right _ _
      · rw [z]; exact Nat.le_refl _
    exact I1.fpOk hle (I1.hok.fresh hle)
end E

namespace E
open PySem L2

theorem Post.rel_sub {w w' : W} {H H' : Hp} (p : Post w H w' H') : ∀ a u, w.F a = some u → w'.F a = some u := p.F
/-! ### what is walked -/
section
variable {K : PySem.W.Frag} {w : W} {H : Hp} {S : List O} {a b : Addr} {vs us : List V} {ds es : List D}
theorem itr_listF (hF : SqL K w.F a vs) (r : RDs K w ds vs) : ItR K (Itl K a) w H ds := 
  ⟨fun i w' S' H' p rl e => ⟨vs, SqL.sub (SqL.sub hF p.F) rl.fz, by rw [← r.length]; exact e⟩, fun i d w' S' H' p rl e => by
    obtain ⟨v, h1, h2⟩ := r.get e
    have hs : SqL K H' a vs := SqL.sub (SqL.sub hF p.F) rl.fz
    refine ⟨⟨vs, v, hs, h1⟩, fun x H2 ⟨e2, q⟩ => ?_⟩
    subst e2
    have := q vs hs
    rw [h1] at this
    cases this
    exact ⟨w', Post.refl, rl, p.rd h2⟩⟩
theorem itr_tup (hF : SqT K w.F a vs) (r : RDs K w ds vs) : ItR K (Itt K a) w H ds := 
  ⟨fun i w' S' H' p rl e => ⟨vs, SqT.sub (SqT.sub hF p.F) rl.fz, by rw [← r.length]; exact e⟩, fun i d w' S' H' p rl e => by
    obtain ⟨v, h1, h2⟩ := r.get e
    have hs : SqT K H' a vs := SqT.sub (SqT.sub hF p.F) rl.fz
    refine ⟨⟨vs, v, hs, h1⟩, fun x H2 ⟨e2, q⟩ => ?_⟩
    subst e2
    have := q vs hs
    rw [h1] at this
    cases this
    exact ⟨w', Post.refl, rl, p.rd h2⟩⟩
def rangeD (lo : Int) (n : Nat) : List D := (List.range n).map fun (i : Nat) => D.int (lo + i)
theorem itr_range {lo : Int} {n : Nat} : ItR K (Itr lo n) w H (rangeD lo n) :=
  ⟨fun i w' S' H' p rl e => by
    have e : n ≤ i := by simpa [rangeD] using e
    exact e, fun i d w' S' H' p rl e => by
    have hi : i < n := by have := (List.getElem?_eq_some_iff.mp e).1; simpa [rangeD] using this
    refine ⟨hi, fun x H2 ⟨e2, q⟩ => ?_⟩
    subst e2
    refine ⟨w', Post.refl, rl, ?_⟩
    unfold rangeD at e
    rw [List.getElem?_map, List.getElem?_range hi] at e
    cases e
    exact q⟩
def strD (z : Str) : List D := z.cps.toList.map fun c => D.str ⟨#[c]⟩
theorem itr_str {z : Str} : ItR K (Its z) w H (strD z) :=
  ⟨fun i w' S' H' p rl e => by
    have e : z.cps.size ≤ i := by simpa [strD] using e
    exact e, fun i d w' S' H' p rl e => by
    have hi : i < z.cps.size := by have := (List.getElem?_eq_some_iff.mp e).1; simpa [strD] using this
    refine ⟨hi, fun x H2 ⟨e2, c, h1, h2⟩ => ?_⟩
    subst e2
    refine ⟨w', Post.refl, rl, ?_⟩
    unfold strD at e
    rw [List.getElem?_map, Array.getElem?_toList, h1] at e
    cases e
    exact h2⟩
/-- a new tuple at each turn -/
theorem itr_new {T : Addr} {w' : W} {S' : List O} {H' : Hp} {x y : V} {d e : D} (rl : Rel K w' S' H') (hT : H' T = none) (h1 : RD K w' d x) (h2 : RD K w' e y) :
    ∃ w'', Post w' H' w'' (upd H' T (.tup [x, y])) ∧ Rel K w'' S' (upd H' T (.tup [x, y])) ∧ RD K w'' (.tup [d, e]) (.ref T) :=
  have P := post_addF (o := .tup [x, y]) rl hT
  ⟨_, P, rel_addF rl hT, T, _, rfl, sqT_new, _, _, rfl, P.rd h1, _, _, rfl, P.rd h2, rfl⟩
def zipD : List D → List D → List D
  | d :: ds, e :: es => .tup [d, e] :: zipD ds es
  | _, _ => []
theorem zipD_get : ∀ {ds es : List D} {i : Nat} {d : D}, (zipD ds es)[i]? = some d → ∃ x y, ds[i]? = some x ∧ es[i]? = some y ∧ d = .tup [x, y]
  | [], _, _, _, h => by simp [zipD] at h
  | _ :: _, [], _, _, h => by simp [zipD] at h
  | x :: ds, y :: es, 0, d, h => by simp [zipD] at h; exact ⟨x, y, rfl, rfl, h.symm⟩
  | x :: ds, y :: es, i + 1, d, h => by
    simp only [zipD, List.getElem?_cons_succ] at h
    obtain ⟨x', y', a, b, c⟩ := zipD_get h
    exact ⟨x', y', by simpa using a, by simpa using b, c⟩
theorem zipD_length : ∀ {ds es : List D}, (zipD ds es).length = min ds.length es.length
  | [], es => by simp [zipD]
  | d :: ds, [] => by simp [zipD]
  | d :: ds, e :: es => by simp only [zipD, List.length_cons, zipD_length]; omega
theorem itr_zip (hF : SqL K w.F a vs) (r : RDs K w ds vs) (hF2 : SqL K w.F b us) (r2 : RDs K w es us) : ItR K (Itz K a b) w H (zipD ds es) :=
  ⟨fun i w' S' H' p rl e => ⟨vs, us, SqL.sub (SqL.sub hF p.F) rl.fz, SqL.sub (SqL.sub hF2 p.F) rl.fz, by
      rw [zipD_length, r.length, r2.length] at e
      omega⟩, fun i d w' S' H' p rl e => by
    obtain ⟨x, y, e1, e2, rfl⟩ := zipD_get e
    obtain ⟨v, h1, h2⟩ := r.get e1
    obtain ⟨u, h3, h4⟩ := r2.get e2
    have hs : SqL K H' a vs := SqL.sub (SqL.sub hF p.F) rl.fz
    have hs2 : SqL K H' b us := SqL.sub (SqL.sub hF2 p.F) rl.fz
    refine ⟨⟨vs, us, v, u, hs, hs2, h1, h3⟩, fun z H2 ⟨T, x', y', e3, e4, e5, q1, q2⟩ => ?_⟩
    have := q1 vs hs
    rw [h1] at this; cases this
    have := q2 us hs2
    rw [h3] at this; cases this
    subst e3 e5
    exact itr_new rl e4 (p.rd h2) (p.rd h4)⟩
theorem itr_zipT (hF : SqT K w.F a vs) (r : RDs K w ds vs) (hF2 : SqT K w.F b us) (r2 : RDs K w es us) : ItR K (RZ.ItzT K a b) w H (zipD ds es) :=
  ⟨fun i w' S' H' p rl e => ⟨vs, us, SqT.sub (SqT.sub hF p.F) rl.fz, SqT.sub (SqT.sub hF2 p.F) rl.fz, by
      rw [zipD_length, r.length, r2.length] at e
      omega⟩, fun i d w' S' H' p rl e => by
    obtain ⟨x, y, e1, e2, rfl⟩ := zipD_get e
    obtain ⟨v, h1, h2⟩ := r.get e1
    obtain ⟨u, h3, h4⟩ := r2.get e2
    have hs : SqT K H' a vs := SqT.sub (SqT.sub hF p.F) rl.fz
    have hs2 : SqT K H' b us := SqT.sub (SqT.sub hF2 p.F) rl.fz
    refine ⟨⟨vs, us, v, u, hs, hs2, h1, h3⟩, fun z H2 ⟨T, x', y', e3, e4, e5, q1, q2⟩ => ?_⟩
    have := q1 vs hs
    rw [h1] at this; cases this
    have := q2 us hs2
    rw [h3] at this; cases this
    subst e3 e5
    exact itr_new rl e4 (p.rd h2) (p.rd h4)⟩
def enumD (n : Nat) : List D → List D
  | [] => []
  | d :: ds => .tup [.int n, d] :: enumD (n + 1) ds
theorem enumD_get : ∀ {ds : List D} {n i : Nat} {d : D}, (enumD n ds)[i]? = some d → ∃ x, ds[i]? = some x ∧ d = .tup [.int ((n + i : Nat) : Int), x]
  | [], _, _, _, h => by simp [enumD] at h
  | x :: ds, n, 0, d, h => by simp [enumD] at h; exact ⟨x, rfl, h.symm⟩
  | x :: ds, n, i + 1, d, h => by
    simp only [enumD, List.getElem?_cons_succ] at h
    obtain ⟨x', a, c⟩ := enumD_get h
    exact ⟨x', by simpa using a, by rw [c, show n + 1 + i = n + (i + 1) by omega]⟩
theorem enumD_length : ∀ {ds : List D} {n : Nat}, (enumD n ds).length = ds.length
  | [], n => rfl
  | d :: ds, n => by simp only [enumD, List.length_cons, enumD_length]
theorem itr_enum (hF : SqL K w.F a vs) (r : RDs K w ds vs) : ItR K (Ite K a) w H (enumD 0 ds) :=
  ⟨fun i w' S' H' p rl e => ⟨vs, SqL.sub (SqL.sub hF p.F) rl.fz, by rw [enumD_length, r.length] at e; exact e⟩, fun i d w' S' H' p rl e => by
    obtain ⟨x, e1, rfl⟩ := enumD_get e
    obtain ⟨v, h1, h2⟩ := r.get e1
    have hs : SqL K H' a vs := SqL.sub (SqL.sub hF p.F) rl.fz
    refine ⟨⟨vs, v, hs, h1⟩, fun z H2 ⟨T, x', e3, e4, e5, q1⟩ => ?_⟩
    have := q1 vs hs
    rw [h1] at this; cases this
    subst e3 e5
    have e0 : V.int ((i : Nat) : Int) = V.int ((0 + i : Nat) : Int) := by rw [Nat.zero_add]
    rw [e0]
    exact itr_new rl e4 (show RD K w' (.int _) (.int _) from rfl) (p.rd h2)⟩
end
theorem itr_enumT {K : PySem.W.Frag} {w : W} {H : Hp} {a : Addr} {vs : List V} {ds : List D} (hF : SqT K w.F a vs) (r : RDs K w ds vs) : ItR K (IteT K a) w H (enumD 0 ds) :=
  ⟨fun i w' S' H' p rl e => ⟨vs, SqT.sub (SqT.sub hF p.F) rl.fz, by rw [enumD_length, r.length] at e; exact e⟩, fun i d w' S' H' p rl e => by
    obtain ⟨x, e1, rfl⟩ := enumD_get e
    obtain ⟨v, h1, h2⟩ := r.get e1
    have hs : SqT K H' a vs := SqT.sub (SqT.sub hF p.F) rl.fz
    refine ⟨⟨vs, v, hs, h1⟩, fun z H2 ⟨T, x', e3, e4, e5, q1⟩ => ?_⟩
    have := q1 vs hs
    rw [h1] at this; cases this
    subst e3 e5
    have e0 : V.int ((i : Nat) : Int) = V.int ((0 + i : Nat) : Int) := by rw [Nat.zero_add]
    rw [e0]
    exact itr_new rl e4 (show RD K w' (.int _) (.int _) from rfl) (p.rd h2)⟩
def dItems : D → M (List D)
  | .lst xs => fun S => .ok xs S
  | .frz xs => fun S => .ok xs S
  | .tup xs => fun S => .ok xs S
  | .str z => fun S => .ok (strD z) S
  | _ => fun _ => .no
def aItems (A : AE) : AI := fun ρ S => (A ρ S).bind dItems
theorem PI.or {X : Cx} {tg it : Expr} {t t' : TI} (h : PI X tg it t) (h' : PI X tg it t') : PI X tg it (fun σ H R => t σ H R ∨ t' σ H R) :=
  ⟨fun pins s σ H R I q => q.elim (h.run pins s σ H R I) (h'.run pins s σ H R I)⟩
section
variable {X : Cx} {EX : St → EW} {EY : EW} {n : Nat} {A B : AE} {tg : Expr}
theorem fsub {K : PySem.W.Frag} {w : W} {xs : List D} {v : V} (rd : RD K w (.lst xs) v) : ∃ a vs, v = .ref a ∧ SqL K w.F a vs ∧ RDs K w xs vs := by
  obtain ⟨a, vs, e, q, r⟩ := rd
  exact ⟨a, vs, e, .inl (.inl q), r⟩
theorem qi_items {e : Expr} (he : QE X EX e A) : QI X EX tg e (aItems A) := PI.imp (PI.or (PI.or (pi_list he) (pi_tup he)) (pi_str he)) fun σ H R ⟨w, ρ, S, re, rl, g⟩ => by
  have g' := fin.bind rl g
  cases hr : A ρ S with
  | ok d S1 =>
    rw [hr] at g'
    cases d with
    | lst xs =>
      refine .inl (.inl ⟨w, ρ, S, re, rl, ?_⟩)
      rw [hr]
      intro w1 H1 p1 rl1 v rd
      obtain ⟨a, vs, e1, h1, r1⟩ := fsub rd
      exact ⟨a, e1, ⟨vs, SqL.sub h1 rl1.fz⟩, fin.ok (EX := EX σ) rl1 (fin.get g' p1 rl1) _ (itr_listF h1 r1)⟩
    | frz xs =>
      refine .inl (.inl ⟨w, ρ, S, re, rl, ?_⟩)
      rw [hr]
      intro w1 H1 p1 rl1 v rd
      obtain ⟨a, vs, e1, h1, r1⟩ := rd
      exact ⟨a, e1, ⟨vs, SqL.sub h1 rl1.fz⟩, fin.ok (EX := EX σ) rl1 (fin.get g' p1 rl1) _ (itr_listF h1 r1)⟩
    | tup xs =>
      refine .inl (.inr ⟨w, ρ, S, re, rl, ?_⟩)
      rw [hr]
      intro w1 H1 p1 rl1 v rd
      obtain ⟨a, vs, e1, h1, r1⟩ := rd
      exact ⟨a, e1, ⟨vs, SqT.sub h1 rl1.fz⟩, fin.ok (EX := EX σ) rl1 (fin.get g' p1 rl1) _ (itr_tup h1 r1)⟩
    | str z =>
      refine .inr ⟨w, ρ, S, re, rl, ?_⟩
      rw [hr]
      intro w1 H1 p1 rl1 v rd
      exact ⟨z, rd, fin.ok (EX := EX σ) rl1 (fin.get g' p1 rl1) _ itr_str⟩
    | _ =>
      refine .inl (.inl ⟨w, ρ, S, re, rl, ?_⟩)
      rw [hr]
      intro w1 H1 p1 rl1 v rd
      exact (fin.get g' p1 rl1).elim
  | err e S1 =>
    rw [hr] at g'
    exact .inl (.inl ⟨w, ρ, S, re, rl, by rw [hr]; exact g'⟩)
  | no => rw [hr] at g'; exact g'.elim

def aRange1 (L : AL) : AI := fun ρ S => (L ρ S).bind fun ds S1 => match ds with
  | [.int j] => if -(2 ^ 62) ≤ j ∧ j < 2 ^ 62 then .ok (rangeD 0 j.toNat) S1 else .no
  | _ => .no
def aRange2 (L : AL) : AI := fun ρ S => (L ρ S).bind fun ds S1 => match ds with
  | [.int i, .int j] => if -(2 ^ 62) ≤ i ∧ i < 2 ^ 62 ∧ -(2 ^ 62) ≤ j ∧ j < 2 ^ 62 then .ok (rangeD i (j - i).toNat) S1 else .no
  | _ => .no
theorem qi_range1 {e : Expr} {L : AL} (h : PI X tg e (iRng1 (tL X.K EX L))) : QI X EX tg e (aRange1 L) := PI.imp h fun σ H R ⟨w, ρ, S, re, rl, g⟩ =>
  ⟨w, ρ, S, re, rl, (fin.bind rl g).mono fun w1 S1 H1 ds p1 rl1 g1 vs rds => by
    split at g1
    · next j =>
      split at g1
      · next c =>
        obtain ⟨v, rfl, rd⟩ := rds1 rds
        exact ⟨j, by rw [show v = .int j from rd], c.1, c.2, fin.ok (EX := EX σ) rl1 g1 _ itr_range⟩
      · exact g1.elim
    · exact g1.elim⟩
theorem qi_range2 {e : Expr} {L : AL} (h : PI X tg e (iRng2 (tL X.K EX L))) : QI X EX tg e (aRange2 L) := PI.imp h fun σ H R ⟨w, ρ, S, re, rl, g⟩ =>
  ⟨w, ρ, S, re, rl, (fin.bind rl g).mono fun w1 S1 H1 ds p1 rl1 g1 vs rds => by
    split at g1
    · next i j =>
      split at g1
      · next c =>
        obtain ⟨v, v2, rfl, rd, rd2⟩ := rds2 rds
        exact ⟨i, j, by rw [show v = .int i from rd, show v2 = .int j from rd2], c, fin.ok (EX := EX σ) rl1 g1 _ itr_range⟩
      · exact g1.elim
    · exact g1.elim⟩
def dListF : D → Option (List D)
  | .lst xs => some xs
  | .frz xs => some xs
  | _ => none
theorem dListF_rd {K : PySem.W.Frag} {w : W} {d : D} {v : V} {xs : List D} (rd : RD K w d v) (h : dListF d = some xs) : ∃ a vs, v = .ref a ∧ SqL K w.F a vs ∧ RDs K w xs vs := by
  unfold dListF at h
  split at h
  · cases h; exact fsub rd
  · cases h; exact rd
  · cases h
def aZip (L : AL) : AI := fun ρ S => (L ρ S).bind fun ds S1 => match ds with
  | [.tup xs, .tup ys] => .ok (zipD xs ys) S1
  | [d, e] => match dListF d, dListF e with
    | some xs, some ys => .ok (zipD xs ys) S1
    | _, _ => .no
  | _ => .no
theorem qi_zip {e : Expr} {L : AL} (h : PI X tg e (RZ.iZipA X.K (tL X.K EX L))) : QI X EX tg e (aZip L) := PI.imp h fun σ H R ⟨w, ρ, S, re, rl, g⟩ =>
  ⟨w, ρ, S, re, rl, (fin.bind rl g).mono fun w1 S1 H1 ds p1 rl1 g1 vs rds => by
    split at g1
    · next xs ys =>
      obtain ⟨v, v2, rfl, rd, rd2⟩ := rds2 rds
      obtain ⟨a, us, rfl, h1, r1⟩ := rd
      obtain ⟨b, us2, rfl, h2, r2⟩ := rd2
      exact ⟨a, b, us, us2, rfl, .inr ⟨SqT.sub h1 rl1.fz, SqT.sub h2 rl1.fz, fin.ok (EX := EX σ) rl1 g1 _ (itr_zipT h1 r1 h2 r2)⟩⟩
    · next d e _ =>
      split at g1
      · next xs ys e1 e2 =>
        obtain ⟨v, v2, rfl, rd, rd2⟩ := rds2 rds
        obtain ⟨a, us, rfl, h1, r1⟩ := dListF_rd rd e1
        obtain ⟨b, us2, rfl, h2, r2⟩ := dListF_rd rd2 e2
        exact ⟨a, b, us, us2, rfl, .inl ⟨SqL.sub h1 rl1.fz, SqL.sub h2 rl1.fz, fin.ok (EX := EX σ) rl1 g1 _ (itr_zip h1 r1 h2 r2)⟩⟩
      · exact g1.elim
    · exact g1.elim⟩
def aEnum (L : AL) : AI := fun ρ S => (L ρ S).bind fun ds S1 => match ds with
  | [.tup xs] => .ok (enumD 0 xs) S1
  | [d] => match dListF d with
    | some xs => .ok (enumD 0 xs) S1
    | _ => .no
  | _ => .no
theorem qi_enum {e : Expr} {L : AL} (h : PI X tg e (iEnum X.K (tL X.K EX L))) (h' : PI X tg e (iEnumA X.K (tL X.K EX L))) : QI X EX tg e (aEnum L) := PI.imp (PI.or h h') fun σ H R ⟨w, ρ, S, re, rl, g⟩ => by
  have g' := fin.bind rl g
  have left : (∀ ds S1, L ρ S = .ok ds S1 → ∀ xs, ds ≠ [.tup xs]) → iEnum X.K (tL X.K EX L) σ H R := fun no => by
    refine ⟨w, ρ, S, re, rl, ?_⟩
    cases hr : L ρ S with
    | ok ds S1 =>
      rw [hr] at g'
      intro w1 H1 p1 rl1 vs rds
      have g1 := fin.get g' p1 rl1
      split at g1
      · next xs => exact absurd rfl (no _ _ hr xs)
      · next d _ =>
        split at g1
        · next xs e1 =>
          obtain ⟨v, rfl, rd⟩ := rds1 rds
          obtain ⟨a, us, rfl, h1, r1⟩ := dListF_rd rd e1
          exact ⟨a, us, rfl, SqL.sub h1 rl1.fz, fin.ok (EX := EX σ) rl1 g1 _ (itr_enum h1 r1)⟩
        · exact g1.elim
      · exact g1.elim
    | err e S1 => rw [hr] at g'; exact g'
    | no => rw [hr] at g'; exact g'
  by_cases c : ∃ xs S1, L ρ S = .ok [.tup xs] S1
  · obtain ⟨xs, S1, hr⟩ := c
    refine .inr ⟨w, ρ, S, re, rl, ?_⟩
    rw [hr] at g' ⊢
    intro w1 H1 p1 rl1 vs rds
    have g1 := fin.get g' p1 rl1
    obtain ⟨v, rfl, rd⟩ := rds1 rds
    obtain ⟨a, us, rfl, h1, r1⟩ := rd
    exact ⟨a, us, rfl, SqT.sub h1 rl1.fz, fin.ok (EX := EX σ) rl1 g1 _ (itr_enumT h1 r1)⟩
  · exact .inl (left fun ds S1 hr xs e => c ⟨xs, S1, by rw [hr, e]⟩)

/-! ### comprehensions -/
def wipeR (ρ : Rho) : List Nat → Rho
  | [] => ρ
  | v :: vs => (wipeR ρ vs).set v none
theorem RE.wipe {K : PySem.W.Frag} {w : W} {ρ : Rho} {σ : St} (h : RE K w ρ σ) : ∀ vs : List Nat, RE K w (wipeR ρ vs) (L2.wipe σ vs)
  | [] => h
  | v :: vs => (RE.wipe h vs).unset v
/-- targets that set the block's own names alone -/
def TgOK (K : PySem.W.Frag) (g : TG) (G : AG) (vs : List Nat) : Prop := ∀ (EX : EW) (σ0 : St) (w : W) (S : List O) (H : Hp) (ρ : Rho) (σ : St) (d : D) (v : V) (R : W → List O → Hp → Rho → Prop) (Q : St → Hp → Prop), RE K w ρ σ → Rel K w S H → RD K w d v → L2.wipe σ vs = L2.wipe σ0 vs → fin K EX R w H (G d ρ S) →
  (∀ w' S' ρ' σ', Post w H w' H → Rel K w' S' H → RE K w' ρ' σ' → L2.wipe σ' vs = L2.wipe σ0 vs → R w' S' H ρ' → Q σ' H) → g v σ H Q
theorem wipe_set : ∀ (vs : List Nat) (σ : St) (i : Nat) (v : Option V), i ∈ vs → L2.wipe (σ.set i v) vs = L2.wipe σ vs
  | [], _, _, _, h => by cases h
  | u :: vs, σ, i, v, h => by
    show (L2.wipe (σ.set i v) vs).set u none = (L2.wipe σ vs).set u none
    by_cases c : i ∈ vs
    · rw [wipe_set vs σ i v c]
    · have e : i = u := (List.mem_cons.mp h).resolve_right c
      subst e
      have : ∀ (us : List Nat) (σ : St), i ∉ us → L2.wipe (σ.set i v) us = (L2.wipe σ us).set i v := by
        intro us
        induction us with
        | nil => intro σ _; rfl
        | cons x us ih =>
          intro σ hx
          show (L2.wipe (σ.set i v) us).set x none = ((L2.wipe σ us).set x none).set i v
          rw [ih σ fun z => hx (List.mem_cons_of_mem _ z), List.set_comm]
          exact fun z => hx (by rw [z]; exact List.mem_cons_self)
      rw [this vs σ c, List.set_set]
theorem tg_name {K : PySem.W.Frag} {i : Nat} {vs : List Nat} (hi : i ∈ vs) : TgOK K (gName i) (aGName i) vs := fun EX σ0 w S H ρ σ d v R Q re rl rd hw g k =>
  k w S _ _ Post.refl rl (re.set i rd) (by rw [wipe_set vs σ i _ hi]; exact hw) (fin.ok rl g)
def TgsOK (K : PySem.W.Frag) (g : TGs) (G : AGs) (vs : List Nat) : Prop := ∀ (EX : EW) (σ0 : St) (w : W) (S : List O) (H : Hp) (ρ : Rho) (σ : St) (d : List D) (v : List V) (R : W → List O → Hp → Rho → Prop) (Q : St → Hp → Prop), RE K w ρ σ → Rel K w S H → RDs K w d v → L2.wipe σ vs = L2.wipe σ0 vs → fin K EX R w H (G d ρ S) →
  (∀ w' S' ρ' σ', Post w H w' H → Rel K w' S' H → RE K w' ρ' σ' → L2.wipe σ' vs = L2.wipe σ0 vs → R w' S' H ρ' → Q σ' H) → g v σ H Q
theorem tgs_nil {K : PySem.W.Frag} {vs : List Nat} : TgsOK K gNil aGNil vs := fun EX σ0 w S H ρ σ d v R Q re rl rd hw g k => by
  cases d with
  | nil => exact ⟨rd, k w S _ _ Post.refl rl re hw (fin.ok (EX := EX) rl g)⟩
  | cons _ _ => exact g.elim
theorem tgs_cons {K : PySem.W.Frag} {vs : List Nat} {g : TG} {G : AG} {gs : TGs} {Gs : AGs} (h1 : TgOK K g G vs) (h2 : TgsOK K gs Gs vs) : TgsOK K (gCons g gs) (aGCons G Gs) vs := fun EX σ0 w S H ρ σ d v R Q re rl rd hw gg k => by
  cases d with
  | nil => exact gg.elim
  | cons d ds =>
    obtain ⟨u, r, e, q1, q2⟩ := rd
    refine ⟨u, r, e, h1 EX σ0 w S H ρ σ d u _ _ re rl q1 hw (fin.bind rl gg) fun w' S' ρ' σ' p' rl' re' hw' f' => ?_⟩
    exact h2 EX σ0 w' S' H ρ' σ' ds r R Q re' rl' (p'.rds q2) hw' f' fun w2 S2 ρ2 σ2 p2 rl2 re2 hw2 z => k w2 S2 ρ2 σ2 (p'.trans rl rl' p2) rl2 re2 hw2 z
theorem tg_tup {K : PySem.W.Frag} {vs : List Nat} {n : Nat} {gs : TGs} {Gs : AGs} (h : TgsOK K gs Gs vs) : TgOK K (gTup K n gs) (aGTup n Gs) vs := fun EX σ0 w S H ρ σ d v R Q re rl rd hw g k => by
  cases d <;> first | exact g.elim | skip
  simp only [aGTup] at g
  split at g
  · next c =>
    obtain ⟨a, us, e, h1, r1⟩ := dt_rd rl rd
    exact ⟨a, us, e, h1, by rw [← r1.length]; exact c, h EX σ0 w S H ρ σ _ us R Q re rl r1 hw g k⟩
  · exact g.elim
def aCLoop (G : AG) (T : AT) (E : AE) (vs : List Nat) (ρ : Rho) : List D → List D → M (List D)
  | [], acc, S => .ok acc S
  | d :: ds, acc, S => (G d (wipeR ρ vs) S).bind fun ρ1 S1 => (T ρ1 S1).bind fun b S2 => sel b ((E ρ1 S2).bind fun x S3 => if small (acc.length + 1) then aCLoop G T E vs ρ ds (acc ++ [x]) S3 else .no) (aCLoop G T E vs ρ ds acc S2)
def aYes : AT := fun _ S => .ok true S
def lstOf : Res (List D) → Res D
  | .ok xs S => .ok (.lst xs) S
  | _ => .no
def aComp (A : AI) (G : AG) (T : AT) (E : AE) (vs : List Nat) : AE := fun ρ S => (A ρ S).bind fun ds S1 => lstOf (aCLoop G T E vs ρ ds [] S1)
theorem fin.bindB {K : PySem.W.Frag} {EX : EW} {α β : Type} {w w1 : W} {H H1 : Hp} {S S1 : List O} {R : W → List O → Hp → β → Prop} {m : Res α} {k : α → List O → Res β} (rl : Rel K w S H) (rl1 : Rel K w1 S1 H1) (p : Post w H w1 H1) (h : fin K EX R w H (m.bind k)) :
    fin K EX (fun _ S2 _ a => fin K EX R w H (k a S2)) w1 H1 m := by
  cases m with
  | ok a S' => exact fun w' H' q r' => h
  | err e S' => exact fun w' H' q r' => h w' H' (p.trans rl rl1 q) r'
  | no => exact h
theorem bind_assoc {α β γ : Type} (m : Res α) (k : α → List O → Res β) (l : β → List O → Res γ) : (m.bind k).bind l = m.bind fun a S => (k a S).bind l := by
  cases m <;> rfl
theorem wipe2 (us : List Nat) (σ : St) : L2.wipe (L2.wipe σ us) us = L2.wipe σ us := by
  have key : ∀ (us' : List Nat) (τ : St), (∀ u ∈ us', u ∈ us) → L2.wipe (L2.wipe τ us) us' = L2.wipe τ us := by
    intro us'
    induction us' with
    | nil => intro τ _; rfl
    | cons u us' ih =>
      intro τ hu
      show (L2.wipe (L2.wipe τ us) us').set u none = L2.wipe τ us
      rw [ih τ fun z hz => hu z (List.mem_cons_of_mem _ hz)]
      have hin : u ∈ us := hu u List.mem_cons_self
      have : ∀ (l : List Nat) (τ : St), u ∈ l → (L2.wipe τ l).set u none = L2.wipe τ l := by
        intro l
        induction l with
        | nil => intro τ h; cases h
        | cons y l ih2 =>
          intro τ h
          show ((L2.wipe τ l).set y none).set u none = (L2.wipe τ l).set y none
          by_cases cy : u = y
          · subst cy; rw [List.set_set]
          · rw [List.set_comm _ _ (fun z => cy z.symm), ih2 τ ((List.mem_cons.mp h).resolve_left cy)]
      exact this us τ hin
  exact key us σ fun _ h => h
theorem comp_fin {K : PySem.W.Frag} {J : It} {g : TG} {tt : TT} {te : TE} {G : AG} {T : AT} {E : AE} {vs : List Nat} {w : W} {H : Hp} {S : List O} {ρ : Rho} {σ : St} {ds : List D} {Q : VK}
    (hg : TgOK K g G vs) (ht : tt = tT K EX0 T) (he : te = tE K EX0 E) (rl : Rel K w S H) (re : RE K w ρ σ) (it : ItR K J w H ds)
    (f : fin K (EX0 σ) (FQ K Q) w H ((aCLoop G T E vs ρ ds [] S).bind fun xs S2 => .ok (.lst xs) S2)) :
    Z.lcK J g tt te vs σ H Q := by
  subst ht he
  intro Da hDa
  refine ⟨fun i m H' => i + m = ds.length + 1 ∧ 0 < m ∧ ∃ w' S' acc accv, Post w H w' H' ∧ Rel K w' S' H' ∧ Da ∉ w'.m ∧ w'.F Da = none ∧ H' Da = some (.lst accv) ∧ RDs K w' acc accv ∧
      fin K (EX0 σ) (FQ K Q) w H ((aCLoop G T E vs ρ (ds.drop i) acc S').bind fun xs S2 => .ok (.lst xs) S2), ⟨ds.length + 1, by omega, by omega, w, S, [], [], ?_⟩, ?_⟩
  · exact ⟨post_out Post.refl hDa, rel_out rl (rl.noM hDa) (rl.noF hDa), rl.noM hDa, rl.noF hDa, upd_same, rfl, by rw [List.drop_zero]; exact f⟩
  rintro i m H1 ⟨hmm, hm0, w1, S1, acc, accv, p1, rl1, hm, hF, hD, ra, f1⟩
  by_cases c : i < ds.length
  · refine .inr ?_
    have e : ds[i]? = some ds[i] := List.getElem?_eq_getElem c
    obtain ⟨hgo, hy⟩ := it.go i ds[i] w1 S1 H1 p1 rl1 e
    refine ⟨hgo, fun H' => i + 1 + (m - 1) = ds.length + 1 ∧ 0 < m - 1 ∧ ∃ w' S' acc accv, Post w H w' H' ∧ Rel K w' S' H' ∧ Da ∉ w'.m ∧ w'.F Da = none ∧ H' Da = some (.lst accv) ∧ RDs K w' acc accv ∧
      fin K (EX0 σ) (FQ K Q) w H ((aCLoop G T E vs ρ (ds.drop (i + 1)) acc S').bind fun xs S2 => .ok (.lst xs) S2), fun H' h => ⟨m - 1, by omega, h⟩, fun x H2 hx => ?_⟩
    obtain ⟨w2, p2, rl2, rd⟩ := hy x H2 hx
    obtain ⟨hD2, hm2, hF2⟩ := p2.out rl1 hD hm hF
    have pa2 := p1.trans rl rl1 p2
    rw [List.drop_eq_getElem_cons c] at f1
    unfold aCLoop at f1
    rw [bind_assoc] at f1
    refine hg _ (L2.wipe σ vs) w2 S1 H2 _ _ ds[i] x _ _ ((re.mono pa2).wipe vs) rl2 rd rfl (fin.bindB rl rl2 pa2 f1) fun w3 S3 ρ3 σ3 p3 rl3 re3 hw3 f4 => ?_
    obtain ⟨hD3, hm3, hF3⟩ := p3.out rl2 hD2 hm2 hF2
    have pa3 := pa2.trans rl rl2 p3
    rw [bind_assoc] at f4
    refine ⟨by rw [hw3]; exact wipe2 vs σ, w3, ρ3, S3, re3, rl3, (fin.bindB rl rl3 pa3 f4).mono fun w4 S4 H4 b p4 rl4 f6 => ?_⟩
    obtain ⟨hD4, hm4, hF4⟩ := p4.out rl3 hD3 hm3 hF3
    have pa4 := pa3.trans rl rl3 p4
    have ra4 := p4.rds (p3.rds (p2.rds ra))
    cases b with
    | true =>
      dsimp only [sel] at f6
      rw [bind_assoc] at f6
      refine iT (B := (fun H' => i + 1 + (m - 1) = ds.length + 1 ∧ 0 < m - 1 ∧ ∃ w' S' acc accv, Post w H w' H' ∧ Rel K w' S' H' ∧ Da ∉ w'.m ∧ w'.F Da = none ∧ H' Da = some (.lst accv) ∧ RDs K w' acc accv ∧
        fin K (EX0 σ) (FQ K Q) w H ((aCLoop G T E vs ρ (ds.drop (i + 1)) acc S').bind fun xs S2 => .ok (.lst xs) S2)) H4) ⟨w4, ρ3, S4, re3.mono p4, rl4, (fin.bindB rl rl4 pa4 f6).mono fun w5 S5 H5 x5 p5 rl5 f8 y rd5 => ?_⟩
      obtain ⟨hD5, hm5, hF5⟩ := p5.out rl4 hD4 hm4 hF4
      have pa5 := pa4.trans rl rl4 p5
      split at f8
      · next hs =>
        have hlen := small_line hs
        rw [(p5.rds ra4).length] at hlen
        exact ⟨accv, hD5, by omega, by omega, by omega, w5, S5, acc ++ [x5], accv ++ [y], post_out pa5 hDa, rel_out rl5 hm5 hF5, hm5, hF5, upd_same, (p5.rds ra4).append (RDs.one rd5), f8⟩
      · exact f8.elim
    | false =>
      exact iF (A := tE K EX0 E σ3 H4 fun y H4 => ∃ acc, H4 Da = some (.lst acc) ∧ acc.length < sizeLine ∧ (fun H' => i + 1 + (m - 1) = ds.length + 1 ∧ 0 < m - 1 ∧ ∃ w' S' acc accv, Post w H w' H' ∧ Rel K w' S' H' ∧ Da ∉ w'.m ∧ w'.F Da = none ∧ H' Da = some (.lst accv) ∧ RDs K w' acc accv ∧
        fin K (EX0 σ) (FQ K Q) w H ((aCLoop G T E vs ρ (ds.drop (i + 1)) acc S').bind fun xs S2 => .ok (.lst xs) S2)) (upd H4 Da (.lst (acc ++ [y])))) ⟨by omega, by omega, w4, S4, acc, accv, pa4, rl4, hm4, hF4, hD4, ra4, f6⟩
  · refine .inl ⟨it.stop i w1 S1 H1 p1 rl1 (by omega), ?_⟩
    rw [List.drop_of_length_le (by omega)] at f1
    unfold aCLoop at f1
    obtain ⟨rl2, p2⟩ := rel_claim rl1 hD hm hF
    have p3 := p2 w H p1 hDa
    refine f1 _ _ p3 rl2 _ ⟨Da, accv, rfl, upd_same, RDs.mono ⟨[], by simp [W.addF]⟩ (fun a u h => ?_) _ _ ra⟩
    show upd w1.F Da _ a = some u
    rw [upd_ne (ne_of_none h hF)]
    exact h
theorem rd_comp {K : PySem.W.Frag} {A : AI} {g : TG} {G : AG} {T : AT} {E : AE} {vs : List Nat} (hg : TgOK K g G vs) (σ : St) (H : Hp) (Q : VK) (h : tE K EX (aComp A G T E vs) σ H Q) : tLc (tI K EX A) g (tT K EX0 T) (tE K EX0 E) vs σ H Q := by
  obtain ⟨w, ρ, S, re, rl, g⟩ := h
  exact ⟨w, ρ, S, re, rl, (fin.bind rl g).mono fun w1 S1 H1 ds p1 rl1 g1 J it => comp_fin hg rfl rfl rl1 (re.mono p1) it (by
    cases c : aCLoop G T E vs ρ ds [] S1 with
    | ok a b => rw [c] at g1; exact g1
    | err a b => rw [c] at g1; exact g1.elim
    | no => rw [c] at g1; exact g1)⟩
theorem q_comp {e : Expr} {A : AI} {g : TG} {G : AG} {T : AT} {E : AE} {vs : List Nat} (hg : TgOK X.K g G vs) (h : PE X e (tLc (tI X.K EX A) g (tT X.K EX0 T) (tE X.K EX0 E) vs)) : QE X EX e (aComp A G T E vs) := PE.imp h (rd_comp hg)
theorem qs_comp {st : Stmt} {A : AI} {g : TG} {G : AG} {T : AT} {E : AE} {vs : List Nat} {i : Nat} (hg : TgOK X.K g G vs) (h : PS X st (tAsg (tLc (tI X.K EX A) g (tT X.K EX0 T) (tE X.K EX0 E) vs) (gName i))) : QS X EX st (aSetS i (aComp A G T E vs)) :=
  PS.imp h fun Dn σ H ⟨w, ρ, S, re, rl, g⟩ => rd_comp (EX := EX) hg σ H _ ⟨w, ρ, S, re, rl, (fin.bindS rl g σ).mono fun w1 S1 H1 d p1 rl1 g1 v rd => fin.ok (EX := EA EX) rl1 g1 _ ((re.mono p1).set i rd)⟩
theorem qts_nil : PTs X [] (tT X.K EX aYes) := ⟨fun pins s σ H Q I ⟨w, ρ, S, re, rl, g⟩ => pts_nil.run pins s σ H Q I (fin.ok (EX := EX σ) rl g)⟩
theorem k_len1 {K : PySem.W.Frag} {w : W} (ds : List D) (vs : List V) (h : ds.length = 1) (r : RDs K w ds vs) : RDs K w (Z.k1 [] ds) (Z.k1 [] vs) ∧ (Z.k1 [] vs).length = 1 := by
  match ds, vs, h, r with
  | [d], vs, _, r =>
    obtain ⟨v, rfl, rd⟩ := rds1 r
    exact ⟨RDs.one rd, rfl⟩
theorem k_len12 {K : PySem.W.Frag} {w : W} (ds : List D) (vs : List V) (h : ds.length = 2) (r : RDs K w ds vs) : RDs K w (Z.k12 [] ds) (Z.k12 [] vs) ∧ (Z.k12 [] vs).length = 2 := by
  match ds, vs, h, r with
  | [d, e], vs, _, r =>
    obtain ⟨v, u, rfl, rd, rd2⟩ := rds2 r
    exact ⟨⟨_, _, rfl, rd, RDs.one rd2⟩, rfl⟩
theorem k_len21 {K : PySem.W.Frag} {w : W} (ds : List D) (vs : List V) (h : ds.length = 2) (r : RDs K w ds vs) : RDs K w (Z.k21 [] ds) (Z.k21 [] vs) ∧ (Z.k21 [] vs).length = 2 := by
  match ds, vs, h, r with
  | [d, e], vs, _, r =>
    obtain ⟨v, u, rfl, rd, rd2⟩ := rds2 r
    exact ⟨⟨_, _, rfl, rd2, RDs.one rd⟩, rfl⟩
end
end E

namespace E
open PySem L2

/-! ### while -/
def aIter (T : AT) (B : AS) : Nat → Rho → List O → Option (Res (Fl × Rho))
  | 0, _, _ => none
  | n + 1, ρ, S => match T ρ S with
    | .ok true S1 => match B ρ S1 with
      | .ok (.nx, ρ2) S2 => aIter T B n ρ2 S2
      | .ok (.ct, ρ2) S2 => aIter T B n ρ2 S2
      | .ok (.bk, ρ2) S2 => some (.ok (.nx, ρ2) S2)
      | .ok (.rt v, ρ2) S2 => some (.ok (.rt v, ρ2) S2)
      | .err e S2 => some (.err e S2)
      | .no => some .no
    | .ok false S1 => some (.ok (.nx, ρ) S1)
    | .err e S1 => some (.err e S1)
    | .no => some .no
open Classical in
noncomputable def aWhile (T : AT) (B : AS) : AS := fun ρ S => if h : ∃ n r, aIter T B n ρ S = some r then choose (choose_spec h) else .no
theorem aIter_more {T : AT} {B : AS} : ∀ {n : Nat} {ρ : Rho} {S : List O} {r : Res (Fl × Rho)}, aIter T B n ρ S = some r → ∀ k, aIter T B (n + k) ρ S = some r
  | 0, _, _, _, h, _ => by cases h
  | n + 1, ρ, S, r, h, k => by
    rw [show n + 1 + k = (n + k) + 1 by omega]
    unfold aIter at *
    split at h
    · split at h
      · exact aIter_more h k
      · exact aIter_more h k
      · exact h
      · exact h
      · exact h
      · exact h
    · exact h
    · exact h
    · exact h
theorem aWhile_of {T : AT} {B : AS} {n : Nat} {ρ : Rho} {S : List O} {r : Res (Fl × Rho)} (h : aIter T B n ρ S = some r) : aWhile T B ρ S = r := by
  unfold aWhile
  have hx : ∃ n r, aIter T B n ρ S = some r := ⟨n, r, h⟩
  rw [dif_pos hx]
  have hc := Classical.choose_spec (Classical.choose_spec hx)
  have h1 := aIter_more h (Classical.choose hx)
  have h2 := aIter_more hc n
  rw [Nat.add_comm] at h2
  rw [h1] at h2
  exact (Option.some.inj h2).symm
section
variable {X : Cx} {EX : St → EW} {EY : EW} {n : Nat}
theorem while_fin {K : PySem.W.Frag} {Dn : Ends} {T : AT} {B : AS} {w : W} {H : Hp} {S : List O} {ρ : Rho} {σ : St} {n : Nat} {r : Res (Fl × Rho)} (rl : Rel K w S H) (re : RE K w ρ σ) (h : aIter T B n ρ S = some r) (f : fin K (EA EX) (FD K Dn) w H r) :
    tWhile (tT K EX T) (tS K EX B) Dn σ H := by
  refine ⟨fun m σ' H' => ∃ w' ρ' S', Post w H w' H' ∧ Rel K w' S' H' ∧ RE K w' ρ' σ' ∧ aIter T B m ρ' S' = some r, ⟨n, w, ρ, S, Post.refl, rl, re, h⟩, ?_⟩
  rintro m σ1 H1 ⟨w1, ρ1, S1, p1, rl1, re1, h1⟩
  cases m with
  | zero => cases h1
  | succ m =>
    refine ⟨w1, ρ1, S1, re1, rl1, ?_⟩
    unfold aIter at h1
    cases hT : T ρ1 S1 with
    | no =>
      rw [hT] at h1; cases h1
      exact f
    | err e S2 =>
      rw [hT] at h1; cases h1
      exact fun w' H' q r' => f w' H' (p1.trans rl rl1 q) r' σ1
    | ok b S2 =>
      rw [hT] at h1
      intro w2 H2 p2 rl2
      cases b with
      | false =>
        cases h1
        have z : ∀ A : Prop, (if false = true then A else Dn.nx σ1 H2) = Dn.nx σ1 H2 := fun A => if_neg Bool.false_ne_true
        unfold FQb
        simp only [z]
        exact f w2 H2 (p1.trans rl rl1 p2) rl2 σ1 (re1.mono p2)
      | true =>
        refine iT (B := Dn.nx σ1 H2) ⟨fun σ' H' => ∃ w' ρ' S', Post w H w' H' ∧ Rel K w' S' H' ∧ RE K w' ρ' σ' ∧ aIter T B m ρ' S' = some r, fun σ' H' hh => ⟨m, Nat.lt_succ_self m, hh⟩, w2, ρ1, S2, re1.mono p2, rl2, ?_⟩
        have pa := p1.trans rl rl1 p2
        dsimp only at h1
        cases hB : B ρ1 S2 with
        | no => rw [hB] at h1; cases h1; exact f
        | err e S3 => rw [hB] at h1; cases h1; exact fun w' H' q r' => f w' H' (pa.trans rl rl2 q) r'
        | ok fl S3 =>
          rw [hB] at h1
          obtain ⟨fl, ρ3⟩ := fl
          intro w3 H3 p3 rl3
          cases fl with
          | nx => exact fun σ3 re3 => ⟨w3, ρ3, S3, pa.trans rl rl2 p3, rl3, re3, h1⟩
          | ct => exact fun σ3 re3 => ⟨w3, ρ3, S3, pa.trans rl rl2 p3, rl3, re3, h1⟩
          | bk => cases h1; exact f w3 H3 (pa.trans rl rl2 p3) rl3
          | rt d => cases h1; exact f w3 H3 (pa.trans rl rl2 p3) rl3
theorem qs_while {st : Stmt} {T : AT} {B : AS} (h : PS X st (tWhile (tT X.K EX T) (tS X.K EX B))) : QS X EX st (aWhile T B) := PS.imp h fun Dn σ H ⟨w, ρ, S, re, rl, g⟩ => by
  unfold aWhile at g
  split at g
  · next hx => exact while_fin rl re (Classical.choose_spec (Classical.choose_spec hx)) g
  · exact g.elim
end

end E
namespace E
open PySem PySem.Spec PyProof.Rows L2
/-! ### defs that are called where nothing is being shown -/
structure FOk (P : Program) (w : World) (K : PySem.W.Frag) (mg : Str → Option Value) (base : Heap) (k : Nat) (f : Addr) (fd : FuncData) (ps : List Str) (sp : Sp) : Prop where
  len : ∀ vs H Q E, sp vs H Q E → vs.length = ps.length
  go : ∀ (A : Around) (fr : List Env) (st : Shared) (H : Hp) (us : List Value) (vs : List V) (Q : VK) (E : XK), A.guards = some [] → Room k A → Env0 P w K mg base A fr st H →
    BindsTo st fd ⟨us, []⟩ (ps.zip us) → Vals vs us → sp vs H Q E → codeAny (model P w) A (.call (.ref f) ⟨us, []⟩) (CR (CX P w) fr P w H st Q E) st
section
variable {P : Program} {w : World} {K : PySem.W.Frag} {mg : Str → Option Value} {base : Heap}
theorem FOk.of {x qual : Str} {st : Stmt} {f : Addr} {fd : FuncData} {N ps : List Str} {k : Nat} {sp : Sp} (D : Fun K x qual st f fd) (S : FnScope N ps (defScope st)) (len : ∀ vs H Q E, sp vs H Q E → vs.length = ps.length)
    (body : ∀ (cdv : Value) (A : Around) (fr : List Env) (s : Shared) (H : Hp) (vs : List V) (Q : VK) (E : XK), A.guards = some [] → Room k (A.deeper (envOfC qual (defScope st) s.heap.objs.size f cdv)) → sp vs H Q E →
      ∃ t, PSs (cxOf (CX P w) P w K mg base N qual (defScope st) f cdv A fr s H E) (defBody st) t ∧ t { nx := fun _ H' => Q .non H', rt := Q } (L2.start N vs) H) : FOk P w K mg base (k + 1) f fd ps sp := by
  obtain ⟨c0, c1, c2, c3, c4, c5, cd, c7, c8, rfl, at_f, is_c⟩ := D.ex
  refine ⟨len, fun A fr s1 H us vs Q E gd rm en bi rv sv => ?_⟩
  have n1 := len _ _ _ _ sv
  have inK : K.In s1.heap := en.mod.kin.keeps fun y o e => (en.bs y o e).1
  have free : s1.heap.NoLimit := en.mod.nolimit.keeps fun y o e => (en.bs y o e).1
  have kinds : ∀ y ∈ ps.zip us, (defScope st).names.lookup y.1 = some .local ∨ ((defScope st).names.lookup y.1 = some .cell ∧ ((cellsFrom (s1.heap.objs.size + 1) (defScope st).names []).lookup y.1).isSome = true) := by
    rintro ⟨n, v⟩ hy
    rcases S.par n (List.of_mem_zip hy).1 with z | z
    · exact Or.inl z
    · exact Or.inr ⟨z, PySem.W.cellsFrom_some _ _ _ (Or.inl z)⟩
  refine codeAny_call_function rm.depth (inK _ _ at_f) rfl S.co S.gen rfl (PySem.W.codeRec_of inK is_c) (bi _ _ _ _ ?_)
  refine wpAny_newFunctionEnv_cells S.kind kinds fun env eenv s2 laid => ?_
  subst eenv
  refine ⟨free.keeps laid.toInCall.keep, codeAny_func ?_⟩
  obtain ⟨t, ht, q0⟩ := body cd A fr s1 H vs Q E gd (rm.deeper _) sv
  have I := inv_start (CX := CX P w) (E := E) S rm.hd en n1 rv laid
  refine wpAny_mono (ht.run [] s2 (L2.start N vs) H _ I q0) (fun fl s3 z => ?_) fun e s3 z => z
  cases fl with
  | ret u =>
    obtain ⟨v, σ', H', J, rv2, q2⟩ := z
    exact ⟨v, H', J.os, J.bare, J.base, J.hok, rv2, q2⟩
  | next =>
    obtain ⟨σ', H', J, q2⟩ := z
    exact ⟨V.non, H', J.os, J.bare, J.base, J.hok, rfl, q2⟩
  | brk =>
    obtain ⟨_, _, _, z⟩ := z
    exact z.elim
  | cont =>
    obtain ⟨_, _, _, z⟩ := z
    exact z.elim
end
section
variable {P : Program} {pw : World} {K : PySem.W.Frag} {mg : Str → Option Value} {base : Heap}
theorem fn_okG {x qual : Str} {st : Stmt} {f : Addr} {fd : FuncData} {N ps : List Str} {k m : Nat} {A : AS} (D : Fun K x qual st f fd) (Sc : FnScope N ps (defScope st)) (hN : N.length = m)
    (body : ∀ (cdv : Value) (A0 : Around) (outer : List Env) (s : Shared) (H : Hp) (E : XK), A0.guards = some [] → Ct (cxOf (CX P pw) P pw K mg base N qual (defScope st) f cdv A0 outer s H E) (fun _ w S H e => XOk K w E H e) k →
      QSs (cxOf (CX P pw) P pw K mg base N qual (defScope st) f cdv A0 outer s H E) (fun _ w S H e => XOk K w E H e) (defBody st) A) : FOk P pw K mg base (k + 1) f fd ps (spF K (runF m A) ps.length) := by
  refine FOk.of D Sc (fun vs H Q E h => h.1) fun cdv A0 outer s H vs Q E gd hr h => ⟨_, body cdv A0 outer s H E gd ⟨rfl, Sc.nd, hr, passes_of rfl, ⟨_, takes_of rfl rfl rfl rfl, fun _ _ _ _ _ h => h⟩⟩, ?_⟩
  obtain ⟨hl, w, S, ds, rl, rds, g⟩ := h
  refine ⟨w, _, S, start_re rds, rl, ?_⟩
  rw [hN]
  exact (run_fin rl g).wk fun _ _ _ _ h σ => h
end
section
variable {X : Cx} {EX : L2.St → EW} {n : Nat}
theorem q_callG {x : Str} {pos p : Pos} {f : Addr} {fd : FuncData} {ps : List Str} {k m : Nat} {e : Expr} {es : List Expr} {L : AL} {F : List D → M D}
    (C : Ct X EX n) (gd : X.A.guards = some []) (Fo : FOk X.prog X.w X.K X.mg X.base k f fd ps (spF X.K F m)) (hk : k ≤ n) (hg : Gl X x) (hm : X.mg x = some (.ref f)) (hkp : PySem.W.keepIn X.K (.ref f) = true) (hb : Binds X.K fd ps [])
    (hl : (e :: es).length = m) (hL : QL X EX (e :: es) L) (hLn : ∀ ρ S ds S1, L ρ S = .ok ds S1 → ds.length = m)
    (hdb : (x == ("__debug__" : Str)) = false := by decide) (he : starEach (e :: es) X.env = (false, eval e X.env) :: starEach es X.env := by rfl) (hpl : (backTo pos (starEach es X.env)).any (·.1) = false := by rfl) :
    QE X EX (.Call (.Name x p) (e :: es) [] pos) (aCall F L) := by
  obtain ⟨Wx, tk, hE⟩ := C.tk
  have key : PE X (.Call (.Name x p) (e :: es) [] pos) (tCallS (spF X.K F m) (fun σ c d H => Wx c d σ H) (tL X.K EX L)) := by
    refine ⟨fun pins s σ H Q I q => ?_⟩
    refine wpAny_Call_Name_kw (ld_glob I hg hm ?_ hdb)
    refine PySem.W.callWith_K (h₀ := X.base) I.ok.mod.kin hkp (thn (hL.run pos pins s σ H _ I q) fun us s1 ⟨vs, H1, I1, rv, z⟩ => ⟨I1.kIn, ?_⟩) he hpl
    have n1 : us.length = ps.length := rv.length.symm.trans (Fo.len _ _ _ _ z)
    have bi := hb s1 us I1.kIn (by rw [List.append_nil]; exact n1)
    rw [List.append_nil] at bi
    refine wpAny_call (codeAny_mono (Fo.go X.A X.stack s1 H1 us vs Q _ gd (C.hr.mono hk) I1.env0 bi rv z) fun r s2 z2 => ?_)
    cases r with
    | error e => exact passAt tk σ pins H1 s1 e s2 I1 z2
    | ok fl =>
      cases fl with
      | ret u => exact I1.after z2
      | next => exact z2.elim
      | brk => exact z2.elim
      | cont => exact z2.elim
  refine PE.imp key fun σ H Q ⟨w, ρ, S, re, rl, g⟩ => ?_
  have g' := fin.bind rl g
  refine ⟨w, ρ, S, re, rl, ?_⟩
  cases hr : L ρ S with
  | ok ds S1 =>
    rw [hr] at g'
    intro w1 H1 p1 rl1 vs rds
    exact ⟨by rw [← rds.length]; exact hLn _ _ _ _ hr, w1, S1, ds, rl1, rds, (fin.get g' p1 rl1).wk fun _ _ _ _ h => hE _ _ _ _ _ h⟩
  | err e S1 => rw [hr] at g'; exact g'
  | no => rw [hr] at g'; exact g'
/-- f(k = v, ..), all by name: perm puts the values in the parameters' order -/
theorem q_callK {x : Str} {pos p : Pos} {f : Addr} {fd : FuncData} {ps ks : List Str} {k m : Nat} {kws : List Keyword} {L : AL} {F : List D → M D} {perm : List D → List D} {g : List Value → List Value → List Value} {gV : List V → List V → List V}
    (C : Ct X EX n) (Fo : FnOk X.prog X.w X.K X.mg X.base (CX X.prog X.w) k f fd ps (spF X.K F m)) (hk : k ≤ n) (hg : Gl X x) (hm : X.mg x = some (.ref f)) (hkp : PySem.W.keepIn X.K (.ref f) = true) (hb : KBinds X.K fd ps ks g gV)
    (hL : QK X EX kws L) (hLn : ∀ ρ S ds S1, L ρ S = .ok ds S1 → ds.length = m)
    (hperm : ∀ (K : PySem.W.Frag) (w : W) ds vs, ds.length = m → RDs K w ds vs → RDs K w (perm ds) (gV [] vs) ∧ (gV [] vs).length = m)
    (hall : (backToKw pos (keywordEach kws X.env)).all (·.1.isSome) = true := by rfl) (hks : (backToKw pos (keywordEach kws X.env)).filterMap (·.1) = ks := by rfl)
    (hdb : (x == ("__debug__" : Str)) = false := by decide)
    (hpl : ((backTo pos (starEach [] X.env)).any (·.1) || (backToKw pos (keywordEach kws X.env)).any (·.1.isNone)) = false := by rfl) :
    QE X EX (.Call (.Name x p) [] kws pos) (aCall (fun ds => F (perm ds)) L) := by
  obtain ⟨Wx, tk, hE⟩ := C.tk
  have key : PE X (.Call (.Name x p) [] kws pos) (fun σ H Q => tL X.K EX L σ H fun zs H2 => spF X.K F m (gV [] zs) H2 Q (fun c d H => Wx c d σ H)) := by
    refine ⟨fun pins s σ H Q I q => ?_⟩
    refine wpAny_Call_Name_kw (ld_glob I hg hm ?_ hdb)
    refine PySem.W.callWith_KW0 (h₀ := X.base) I.ok.mod.kin hkp hall ?_ hpl
    refine thn (hL.run pos pins s σ H _ I q) fun ws s2 ⟨zs, H2, I2, rz, q2⟩ => ⟨I2.kIn, ?_⟩
    rw [hks]
    have r2 := hb.rel (vs := []) (us := []) .nil rz
    refine wpAny_call (codeAny_mono (Fo.run X.A X.stack s2 H2 ⟨[], ks.zip ws⟩ _ _ Q (fun c d H => Wx c d σ H) (C.hr.mono hk) I2.env0 (hb.to s2 [] ws I2.kIn (by rw [← r2.length]; exact Fo.len _ _ _ _ q2)) r2 q2) fun r s3 z2 => ?_)
    cases r with
    | error e => exact passAt tk σ pins H2 s2 e s3 I2 z2
    | ok fl =>
      cases fl with
      | ret u => exact I2.after z2
      | next => exact z2.elim
      | brk => exact z2.elim
      | cont => exact z2.elim
  refine PE.imp key fun σ H Q ⟨w, ρ, S, re, rl, g⟩ => ?_
  have g' := fin.bind rl g
  refine ⟨w, ρ, S, re, rl, ?_⟩
  cases hr : L ρ S with
  | ok ds S1 =>
    rw [hr] at g'
    intro w1 H1 p1 rl1 vs rds
    obtain ⟨h1, h2⟩ := hperm _ _ ds vs (hLn _ _ _ _ hr) rds
    exact ⟨h2, w1, S1, _, rl1, h1, (fin.get g' p1 rl1).wk fun _ _ _ _ h => hE _ _ _ _ _ h⟩
  | err e S1 => rw [hr] at g'; exact g'
  | no => rw [hr] at g'; exact g'
end
/-! ### repr of data -/
def bRepr : List D → M D
  | [d] => fun S => match pdS S d with
    | some p => if p.showable && !p.hasDict && decide (p.depth ≤ 30) && small p.shown.length then .ok (.str p.shown) S else .no
    | none => .no
  | _ => fun _ => .no
theorem ok_repr {K : PySem.W.Frag} {EY : EW} : CallOK K EY (Z.rRepr K) bRepr := by
  intro w S H xs ds Q rl rds g
  unfold bRepr at g
  split at g
  · next d =>
    split at g
    · next p e =>
      split at g
      · next c =>
        simp only [Bool.and_eq_true, Bool.not_eq_true', decide_eq_true_eq] at c
        obtain ⟨v, rfl, rd⟩ := rds1 rds
        exact ⟨v, p, rfl, (pdS_dp rl rd e).1, c.1.1.1, c.1.1.2, c.1.2, small_line c.2, fin.ok rl g _ rfl⟩
      · exact g.elim
    · exact g.elim
  · exact g.elim
end E

namespace E
open PySem L2
/-- the law's promise: a list of at most 63 ints, then True -/
def spLaw (K : PySem.W.Frag) : Sp := fun vs H Q _ => ∃ (a : Addr) (ns : List Int), vs = [.ref a] ∧ SqL K H a (ns.map V.int) ∧ ns.length ≤ 63 ∧ ∀ H', Q (.bl true) H'
/-- the law's function is true at each script -/
def LawTrue (F : List D → M D) : Prop := ∀ ns : List Int, ns.length ≤ 63 → ∃ S, F [.frz (ns.map D.int)] [] = .ok (.bl true) S
theorem rds_ints {K : PySem.W.Frag} {w : W} : ∀ ns : List Int, RDs K w (ns.map D.int) (ns.map V.int)
  | [] => rfl
  | n :: ns => ⟨_, _, rfl, rfl, rds_ints ns⟩
theorem sp_law {K : PySem.W.Frag} {F : List D → M D} (h : LawTrue F) {vs : List V} {H : Hp} {Q : VK} {E : XK} (q : spLaw K vs H Q E) : spF K F 1 vs H Q fun _ _ _ => False := by
  obtain ⟨a, ns, rfl, hs, hn, k⟩ := q
  refine ⟨rfl, ⟨[], fun b => if b = a then H b else none⟩, [], [.frz (ns.map D.int)], ⟨rfl, List.nodup_nil, (fun n b o e _ => absurd e (by simp)), (fun b u e => ?_), (fun n b o e _ _ => absurd e (by simp))⟩, ⟨_, _, rfl, ⟨a, _, rfl, ?_, rds_ints ns⟩, rfl⟩, ?_⟩
  · have e : (if b = a then H b else none) = some u := e
    split at e
    · exact e
    · cases e
  · have e : (fun b => if b = a then H b else none) a = H a := if_pos rfl
    rcases hs with (hs | ⟨o, hs⟩) | hs
    · exact .inl (.inl (e.trans hs))
    · exact .inl (.inr ⟨o, e.trans hs⟩)
    · exact .inr hs
  · obtain ⟨S, e⟩ := h ns hn
    rw [e]
    intro w' H' p rl v rd
    rw [show v = .bl true from rd]
    exact k H'
section
variable {P : Program} {w : World} {K : PySem.W.Frag} {mg : Str → Option Value} {base : Heap} {k : Nat} {f : Addr} {fd : FuncData} {x : Str} {F : List D → M D}
theorem gok_ofG (h : FOk P w K mg base k f fd [x] (spF K F 1)) (t : LawTrue F) : Z.GOk P w K mg base k f fd [x] (spLaw K) :=
  ⟨fun vs H Q E q => by obtain ⟨a, ns, rfl, _⟩ := q; rfl, fun A fr st H us vs Q E gd rm en bi rv q => codeAny_mono (h.go A fr st H us vs Q _ gd rm en bi rv (sp_law t q)) fun r s z => by
    cases r with
    | error e =>
      obtain ⟨_, _, _, _, _, _, _, _, _, _, _, _, z⟩ := z
      exact z.elim
    | ok fl =>
      cases fl with
      | ret u => exact z
      | next => exact z.elim
      | brk => exact z.elim
      | cont => exact z.elim⟩
theorem gok_of (h : FnOk P w K mg base (CX P w) k f fd [x] (spF K F 1)) (t : LawTrue F) : Z.GOk P w K mg base k f fd [x] (spLaw K) :=
  ⟨fun vs H Q E q => by obtain ⟨a, ns, rfl, _⟩ := q; rfl, fun A fr st H us vs Q E gd rm en bi rv q => codeAny_mono (h.run A fr st H ⟨us, []⟩ us vs Q _ rm en bi rv (sp_law t q)) fun r s z => by
    cases r with
    | error e =>
      obtain ⟨_, _, _, _, _, _, _, _, _, _, _, _, z⟩ := z
      exact z.elim
    | ok fl =>
      cases fl with
      | ret u => exact z
      | next => exact z.elim
      | brk => exact z.elim
      | cont => exact z.elim⟩
end
end E

/-! Reasoning about the functions: what a run gives. -/
namespace E
open PySem L2

def ev {α : Type} (r : Res α) (R : α → List O → Prop) (_t : Tg R := .mk) : Prop := match r with
  | .ok a S => R a S
  | _ => False
theorem ev_congr {α : Type} {r r' : Res α} {R : α → List O → Prop} (h : r = r') : ev r R = ev r' R := by rw [h]
theorem ev_ok {α : Type} {a : α} {S : List O} {R : α → List O → Prop} : ev (.ok a S) R = R a S := rfl
theorem ev_bind {α β : Type} {m : Res α} {k : α → List O → Res β} {R : β → List O → Prop} : ev (m.bind k) R = ev m fun a S => ev (k a S) R := by
  cases m <;> rfl
theorem bind_ok {α β : Type} {a : α} {S : List O} {k : α → List O → Res β} : (Res.ok a S).bind k = k a S := rfl
theorem ev_sel {α : Type} {c : Bool} {a b : Res α} {R : α → List O → Prop} : ev (sel c a b) R = Z.br c (ev a R) (ev b R) := by
  cases c
  · exact (propext ⟨fun h => Z.brF h, fun h => by simpa [Z.br, sel] using h⟩)
  · exact (propext ⟨fun h => Z.brT h, fun h => by simpa [Z.br, sel] using h⟩)
theorem ev_guard {α : Type} {c : Prop} [Decidable c] {a : Res α} {R : α → List O → Prop} : ev (if c then a else .no) R = (c ∧ ev a R) := by
  by_cases h : c
  · rw [if_pos h]; exact propext ⟨fun q => ⟨h, q⟩, fun q => q.2⟩
  · rw [if_neg h]; exact propext ⟨fun q => q.elim, fun q => absurd q.1 h⟩
theorem ev.mono {α : Type} {r : Res α} {R R' : α → List O → Prop} (h : ev r R) (f : ∀ a S, R a S → R' a S) : ev r R' := by
  cases r with
  | ok a S => exact f _ _ h
  | err e S => exact h
  | no => exact h
theorem ev.eq {α : Type} {r : Res α} {R : α → List O → Prop} (h : ev r R) : ∃ a S, r = .ok a S ∧ R a S := by
  cases r with
  | ok a S => exact ⟨a, S, rfl, h⟩
  | err e S => exact h.elim
  | no => exact h.elim
theorem ev_of {α : Type} {r : Res α} {a : α} {S : List O} {R : α → List O → Prop} (h : r = .ok a S) (k : R a S) : ev r R := by rw [h]; exact k
/-! loops -/
theorem aLoop_nil {G : AG} {B : AS} {ρ : Rho} {S : List O} : aLoop G B [] ρ S = .ok (.nx, ρ) S := rfl
/-- Inv i: ahead of item i -/
theorem ev_loop {G : AG} {B : AS} {R : Fl × Rho → List O → Prop} (Inv : Nat → Rho → List O → Prop) : ∀ (ds : List D) (i : Nat) (ρ : Rho) (S : List O), Inv i ρ S →
    (∀ j d ρ S, ds[j]? = some d → Inv (i + j) ρ S → ev (G d ρ S) fun ρ1 S1 => ev (B ρ1 S1) fun f S2 => match f with
      | (.nx, ρ2) => Inv (i + j + 1) ρ2 S2
      | (.ct, ρ2) => Inv (i + j + 1) ρ2 S2
      | (.bk, ρ2) => R (.nx, ρ2) S2
      | (.rt v, ρ2) => R (.rt v, ρ2) S2) → (∀ ρ S, Inv (i + ds.length) ρ S → R (.nx, ρ) S) → ev (aLoop G B ds ρ S) R
  | [], i, ρ, S, h0, _, hd => hd ρ S h0
  | d :: ds, i, ρ, S, h0, hs, hd => by
    unfold aLoop
    rw [ev_bind]
    refine (hs 0 d ρ S rfl h0).mono fun ρ1 S1 h1 => ?_
    rw [ev_bind]
    refine h1.mono fun f S2 h2 => ?_
    obtain ⟨f, ρ2⟩ := f
    have more : Inv (i + 0 + 1) ρ2 S2 → ev (aLoop G B ds ρ2 S2) R := fun h3 =>
      ev_loop Inv ds (i + 1) ρ2 S2 h3 (fun j d ρ S e h => by
        have := hs (j + 1) d ρ S (by simpa using e) (by rw [show i + (j + 1) = i + 1 + j by omega]; exact h)
        rw [show i + (j + 1) + 1 = i + 1 + j + 1 by omega] at this
        exact this) fun ρ S h => hd ρ S (by rw [List.length_cons, show i + (ds.length + 1) = i + 1 + ds.length by omega]; exact h)
    cases f with
    | nx => exact more h2
    | ct => exact more h2
    | bk => exact h2
    | rt v => exact h2
theorem ev_lstOf {r : Res (List D)} {R : D → List O → Prop} : ev (lstOf r) R = ev r fun xs S => R (.lst xs) S := by
  cases r <;> rfl
theorem cloop_nil {G : AG} {T : AT} {E : AE} {vs : List Nat} {ρ : Rho} {acc : List D} {S : List O} : aCLoop G T E vs ρ [] acc S = .ok acc S := rfl
theorem cloop_cons {G : AG} {E : AE} {vs : List Nat} {ρ : Rho} {d : D} {ds acc : List D} {S : List O} : aCLoop G aYes E vs ρ (d :: ds) acc S = (G d (wipeR ρ vs) S).bind fun ρ1 S1 => (E ρ1 S1).bind fun x S2 => if small (acc.length + 1) then aCLoop G aYes E vs ρ ds (acc ++ [x]) S2 else .no := by
  show Res.bind _ _ = _
  congr 1
/-- a comprehension that makes f of each item and leaves the store -/
theorem cloop_map {G : AG} {E : AE} {vs : List Nat} {ρ : Rho} {S : List O} (f : D → D) : ∀ (ds acc : List D), (acc.length + ds.length ≤ 100000) → (∀ d ∈ ds, ∃ ρ1, G d (wipeR ρ vs) S = .ok ρ1 S ∧ E ρ1 S = .ok (f d) S) → aCLoop G aYes E vs ρ ds acc S = .ok (acc ++ ds.map f) S
  | [], acc, _, _ => by simp [aCLoop]
  | d :: ds, acc, hl, h => by
    obtain ⟨ρ1, h1, h2⟩ := h d List.mem_cons_self
    unfold aCLoop
    have hs : small (acc.length + 1) = true := decide_eq_true (by rw [List.length_cons] at hl; omega)
    rw [h1]
    simp only [bind_ok, aYes, sel, h2]
    rw [if_pos hs, cloop_map f ds (acc ++ [f d]) (by rw [List.length_append, List.length_singleton]; rw [List.length_cons] at hl; omega) fun x hx => h x (List.mem_cons_of_mem _ hx)]
    simp
/-- a comprehension whose items are drawn: Inv i acc S -/
theorem ev_cloop {G : AG} {E : AE} {vs : List Nat} {ρ : Rho} {R : List D → List O → Prop} (Inv : Nat → List D → List O → Prop) : ∀ (ds : List D) (i : Nat) (acc : List D) (S : List O), acc.length + ds.length ≤ 100000 → Inv i acc S →
    (∀ j d acc S, ds[j]? = some d → Inv (i + j) acc S → ev (G d (wipeR ρ vs) S) fun ρ1 S1 => ev (E ρ1 S1) fun x S2 => Inv (i + j + 1) (acc ++ [x]) S2) → (∀ acc S, Inv (i + ds.length) acc S → R acc S) → ev (aCLoop G aYes E vs ρ ds acc S) R
  | [], i, acc, S, _, h0, _, hd => hd acc S h0
  | d :: ds, i, acc, S, hl, h0, hs, hd => by
    unfold aCLoop
    rw [ev_bind]
    refine (hs 0 d acc S rfl h0).mono fun ρ1 S1 h1 => ?_
    simp only [bind_ok, aYes, sel]
    rw [ev_bind]
    refine h1.mono fun x S2 h2 => ?_
    have hs' : small (acc.length + 1) = true := decide_eq_true (by rw [List.length_cons] at hl; omega)
    rw [if_pos hs']
    exact ev_cloop Inv ds (i + 1) (acc ++ [x]) S2 (by rw [List.length_append, List.length_singleton]; rw [List.length_cons] at hl; omega) h2 (fun j d acc S e h => by
        have := hs (j + 1) d acc S (by simpa using e) (by rw [show i + (j + 1) = i + 1 + j by omega]; exact h)
        rw [show i + (j + 1) + 1 = i + 1 + j + 1 by omega] at this
        exact this) fun acc S h => hd acc S (by rw [List.length_cons, show i + (ds.length + 1) = i + 1 + ds.length by omega]; exact h)

/-! ### the store -/
/-- what stood at other places than n stays -/
def Keep (n : Nat) (S S' : List O) : Prop := S.length ≤ S'.length ∧ ∀ m, m ≠ n → m < S.length → S'[m]? = S[m]?
theorem Keep.refl {n : Nat} {S : List O} : Keep n S S := ⟨Nat.le_refl _, fun _ _ _ => rfl⟩
theorem Keep.trans {n : Nat} {S S1 S2 : List O} (a : Keep n S S1) (b : Keep n S1 S2) : Keep n S S2 :=
  ⟨Nat.le_trans a.1 b.1, fun m h1 h2 => (b.2 m h1 (Nat.lt_of_lt_of_le h2 a.1)).trans (a.2 m h1 h2)⟩
theorem Keep.get {n m : Nat} {S S1 : List O} {o : O} (a : Keep n S S1) (h : S[m]? = some o) (c : m ≠ n) : S1[m]? = some o := by
  rw [a.2 m c (List.getElem?_eq_some_iff.mp h).1]; exact h
theorem Keep.set {n : Nat} {S : List O} {o : O} : Keep n S (S.set n o) := ⟨by rw [List.length_set]; exact Nat.le_refl _, fun m h _ => List.getElem?_set_ne (Ne.symm h)⟩
theorem Keep.push {n : Nat} {S : List O} {o : List O} : Keep n S (S ++ o) := ⟨by rw [List.length_append]; omega, fun m h l => List.getElem?_append_left l⟩
theorem set_get {n : Nat} {S : List O} {o o' : O} (h : S[n]? = some o') : (S.set n o)[n]? = some o := List.getElem?_set_self (List.getElem?_eq_some_iff.mp h).1
theorem push_get {n : Nat} {S : List O} {o o' : O} (h : S[n]? = some o') : (S ++ [o])[n]? = some o' := by
  rw [List.getElem?_append_left (List.getElem?_eq_some_iff.mp h).1]; exact h
theorem push_last {S : List O} {o : O} : (S ++ [o])[S.length]? = some o := by
  rw [List.getElem?_append_right (Nat.le_refl _), Nat.sub_self]; rfl
/-- a well at n -/
def Well (n : Nat) (S : List O) : Prop := ∃ a b c : Int, S[n]? = some (.lst [.int a, .int b, .int c]) ∧ -18446744073709551616 < b ∧ b < 18446744073709551616
theorem Well.keep {n m : Nat} {S S' : List O} (h : Well n S) (k : Keep m S S') (c : n ≠ m) : Well n S' := by
  obtain ⟨a, b, d, e, h1, h2⟩ := h
  exact ⟨a, b, d, k.get e c, h1, h2⟩
theorem Well.lt {n : Nat} {S : List O} (h : Well n S) : n < S.length := by
  obtain ⟨a, b, c, e, _⟩ := h
  exact (List.getElem?_eq_some_iff.mp e).1
/-! ### sizes -/
theorem mulOk_of {a b : Nat} {x y : Int} (hx : Z.bd a x) (hy : Z.bd b y) (h : a + b + 2 ≤ 1000000) : mulOk x y = true := by
  have h : decide (x.natAbs.log2 + y.natAbs.log2 < 1000000) = true := decide_eq_true (Z.mulW hx hy h)
  unfold mulOk
  rw [h, Bool.or_true]
theorem small64_of {x : Int} (h1 : -18446744073709551616 < x) (h2 : x < 18446744073709551616) : small64 x = true := by
  simp only [small64, Bool.and_eq_true, decide_eq_true_eq]
  exact ⟨h1, h2⟩
theorem mulOkR {x y : Int} (h1 : -18446744073709551616 < y) (h2 : y < 18446744073709551616) : mulOk x y = true := by
  unfold mulOk
  rw [small64_of h1 h2, Bool.or_true, Bool.true_or]
theorem mulOkL {x y : Int} (h1 : -18446744073709551616 < x) (h2 : x < 18446744073709551616) : mulOk x y = true := by
  unfold mulOk
  rw [small64_of h1 h2, Bool.true_or, Bool.true_or]
/-- one part behind the other, with what holds between them: for parts that come together again behind an if -/
theorem ev_aSeq {s t : AS} {ρ : Rho} {S : List O} {R : Fl × Rho → List O → Prop} (Mid : Rho → List O → Prop) (h1 : ev (s ρ S) fun f S1 => match f with
    | (.nx, ρ1) => Mid ρ1 S1
    | g => R g S1) (h2 : ∀ ρ1 S1, Mid ρ1 S1 → ev (t ρ1 S1) R) : ev (aSeq s t ρ S) R := by
  unfold aSeq
  rw [ev_bind]
  refine h1.mono fun f S1 q => ?_
  obtain ⟨f, ρ1⟩ := f
  cases f with
  | nx => exact h2 ρ1 S1 q
  | rt d => exact q
  | bk => exact q
  | ct => exact q
end E

namespace E
open PySem L2
theorem bind_congr {α β : Type} {m m' : Res α} {k : α → List O → Res β} (h : m = m') : m.bind k = m'.bind k := by rw [h]
section
variable {S : List O} {ρ : Rho} {i j : Int} {a b : Bool} {x y z : Str} {xs ys : List D} {d e : D} {n : Nat}
theorem v0 {r : Rho} : aVar 0 (some d :: r) S = .ok d S := rfl
theorem v1 {o0} {r : Rho} : aVar 1 (o0 :: some d :: r) S = .ok d S := rfl
theorem v2 {o0 o1} {r : Rho} : aVar 2 (o0 :: o1 :: some d :: r) S = .ok d S := rfl
theorem v3 {o0 o1 o2} {r : Rho} : aVar 3 (o0 :: o1 :: o2 :: some d :: r) S = .ok d S := rfl
theorem v4 {o0 o1 o2 o3} {r : Rho} : aVar 4 (o0 :: o1 :: o2 :: o3 :: some d :: r) S = .ok d S := rfl
theorem v5 {o0 o1 o2 o3 o4} {r : Rho} : aVar 5 (o0 :: o1 :: o2 :: o3 :: o4 :: some d :: r) S = .ok d S := rfl
theorem v6 {o0 o1 o2 o3 o4 o5} {r : Rho} : aVar 6 (o0 :: o1 :: o2 :: o3 :: o4 :: o5 :: some d :: r) S = .ok d S := rfl
theorem v7 {o0 o1 o2 o3 o4 o5 o6} {r : Rho} : aVar 7 (o0 :: o1 :: o2 :: o3 :: o4 :: o5 :: o6 :: some d :: r) S = .ok d S := rfl
theorem v8 {o0 o1 o2 o3 o4 o5 o6 o7} {r : Rho} : aVar 8 (o0 :: o1 :: o2 :: o3 :: o4 :: o5 :: o6 :: o7 :: some d :: r) S = .ok d S := rfl
theorem v9 {o0 o1 o2 o3 o4 o5 o6 o7 o8} {r : Rho} : aVar 9 (o0 :: o1 :: o2 :: o3 :: o4 :: o5 :: o6 :: o7 :: o8 :: some d :: r) S = .ok d S := rfl
theorem v10 {o0 o1 o2 o3 o4 o5 o6 o7 o8 o9} {r : Rho} : aVar 10 (o0 :: o1 :: o2 :: o3 :: o4 :: o5 :: o6 :: o7 :: o8 :: o9 :: some d :: r) S = .ok d S := rfl
theorem v11 {o0 o1 o2 o3 o4 o5 o6 o7 o8 o9 oa} {r : Rho} : aVar 11 (o0 :: o1 :: o2 :: o3 :: o4 :: o5 :: o6 :: o7 :: o8 :: o9 :: oa :: some d :: r) S = .ok d S := rfl
theorem v12 {o0 o1 o2 o3 o4 o5 o6 o7 o8 o9 oa ob} {r : Rho} : aVar 12 (o0 :: o1 :: o2 :: o3 :: o4 :: o5 :: o6 :: o7 :: o8 :: o9 :: oa :: ob :: some d :: r) S = .ok d S := rfl
theorem v13 {o0 o1 o2 o3 o4 o5 o6 o7 o8 o9 oa ob oc} {r : Rho} : aVar 13 (o0 :: o1 :: o2 :: o3 :: o4 :: o5 :: o6 :: o7 :: o8 :: o9 :: oa :: ob :: oc :: some d :: r) S = .ok d S := rfl
theorem add_ii : aAdd (.int i) (.int j) S = .ok (.int (i + j)) S := rfl
theorem add_ss : aAdd (.str x) (.str y) S = if small (x.length + y.length) then .ok (.str (x ++ y)) S else .no := rfl
theorem add_tt : aAdd (.tup xs) (.tup ys) S = if small (xs.length + ys.length) then .ok (.tup (xs ++ ys)) S else .no := rfl
theorem add_ll : aAdd (.lst xs) (.lst ys) S = if small (xs.length + ys.length) then .ok (.lst (xs ++ ys)) S else .no := rfl
theorem sub_ii : aSub (.int i) (.int j) S = .ok (.int (i - j)) S := rfl
theorem mul_ii : aMul (.int i) (.int j) S = if mulOk i j then .ok (.int (i * j)) S else .no := rfl
theorem mul_li : aMul (.lst xs) (.int j) S = if repOk xs.length j then .ok (.lst (List.replicate j.toNat xs).flatten) S else .no := rfl
theorem div_ii : aDiv (.int i) (.int j) S = if divOk j then .ok (.int (qu i j)) S else .no := rfl
theorem mod_ii : aMod (.int i) (.int j) S = if decide (j ≠ 0) then .ok (.int (rm i j)) S else .no := rfl
theorem pow_6 : aPow (.int 10) (.int 6) S = .ok (.int 1000000) S := rfl
theorem pow_18 : aPow (.int 10) (.int 18) S = .ok (.int 1000000000000000000) S := rfl
theorem pow_30 : aPow (.int 10) (.int 30) S = .ok (.int 1000000000000000000000000000000) S := rfl
theorem neg_i : aNeg (.int i) S = .ok (.int (-i)) S := rfl
theorem lt_ii : aLt (.int i) (.int j) S = .ok (.bl (decide (i < j))) S := rfl
theorem le_ii : aLe (.int i) (.int j) S = .ok (.bl (decide (i ≤ j))) S := rfl
theorem gt_ii : aGt (.int i) (.int j) S = .ok (.bl (decide (j < i))) S := rfl
theorem ge_ii : aGe (.int i) (.int j) S = .ok (.bl (decide (j ≤ i))) S := rfl
theorem eq_ii : dEq (.int i) (.int j) S = .ok (.bl (i == j)) S := rfl
theorem ne_ii : dNe (.int i) (.int j) S = .ok (.bl (!(i == j))) S := rfl
theorem eq_ss : dEq (.str x) (.str y) S = .ok (.bl (x == y)) S := rfl
theorem ne_ss : dNe (.str x) (.str y) S = .ok (.bl (!(x == y))) S := rfl
theorem eq_tyty {p q : String} : dEq (.ty p) (.ty q) S = if tyC p && tyC q then .ok (.bl (decide (p = q))) S else .no := rfl
theorem ne_tyty {p q : String} : dNe (.ty p) (.ty q) S = if tyC p && tyC q then .ok (.bl (!decide (p = q))) S else .no := rfl
theorem bOf_b : bOf (.bl a) S = .ok a S := rfl
theorem iOf_i : iOf (.int i) S = .ok (some i) S := rfl
theorem isN_n : isNonD .non = true := rfl
theorem isN_i : isNonD (.int i) = false := rfl
theorem isN_t : isNonD (.tup xs) = false := rfl
theorem isN_s : isNonD (.str x) = false := rfl
theorem isN_l : isNonD (.lst xs) = false := rfl
theorem isN_b : isNonD (.bl a) = false := rfl
theorem at_0 {α : Type} {x : α} {xs : List α} : atI (x :: xs) 0 = some x := by simp [atI, ixN]
theorem at_1 {α : Type} {x y : α} {xs : List α} : atI (x :: y :: xs) 1 = some y := by
  have h : ixN (xs.length + 1 + 1) 1 = some 1 := by
    unfold ixN
    rw [if_pos (by decide), if_pos (by omega)]; rfl
  unfold atI
  rw [List.length_cons, List.length_cons, h]; rfl
theorem at_2 {α : Type} {x y z : α} {xs : List α} : atI (x :: y :: z :: xs) 2 = some z := by
  have h : ixN (xs.length + 1 + 1 + 1) 2 = some 2 := by
    unfold ixN
    rw [if_pos (by decide), if_pos (by omega)]; rfl
  unfold atI
  rw [List.length_cons, List.length_cons, List.length_cons, h]; rfl
theorem at_nat {α : Type} {xs : List α} {i : Nat} {v : α} (h : xs[i]? = some v) : atI xs (i : Int) = some v := by
  have hl := (List.getElem?_eq_some_iff.mp h).1
  have e : ixN xs.length (i : Int) = some i := by
    unfold ixN
    rw [if_pos (by omega), if_pos (by omega)]; simp
  unfold atI
  rw [e]; exact h
theorem ix_t0 {r : List D} : dIx (.tup (d :: r)) (.int 0) S = .ok d S := by simp only [dIx, at_0]
theorem ix_t1 {o0 : D} {r : List D} : dIx (.tup (o0 :: d :: r)) (.int 1) S = .ok d S := by simp only [dIx, at_1]
theorem ix_t2 {o0 o1 : D} {r : List D} : dIx (.tup (o0 :: o1 :: d :: r)) (.int 2) S = .ok d S := by simp only [dIx, at_2]
theorem ix_l0 {r : List D} : dIx (.lst (d :: r)) (.int 0) S = .ok d S := by simp only [dIx, dl, at_0]
theorem ix_l1 {o0 : D} {r : List D} : dIx (.lst (o0 :: d :: r)) (.int 1) S = .ok d S := by simp only [dIx, dl, at_1]
theorem ix_l2 {o0 o1 : D} {r : List D} : dIx (.lst (o0 :: o1 :: d :: r)) (.int 2) S = .ok d S := by simp only [dIx, dl, at_2]
theorem ix_loc (h : S[n]? = some (.lst xs)) (h2 : atI xs i = some d) : dIx (.loc n) (.int i) S = .ok d S := by simp only [dIx, dl, h, h2]
theorem ix_lst (h2 : atI xs i = some d) : dIx (.lst xs) (.int i) S = .ok d S := by simp only [dIx, dl, h2]
theorem ix_frz (h2 : atI xs i = some d) : dIx (.frz xs) (.int i) S = .ok d S := by simp only [dIx, dl, h2]
theorem ix_tup (h2 : atI xs i = some d) : dIx (.tup xs) (.int i) S = .ok d S := by simp only [dIx, h2]
theorem len_t : bLen [.tup xs] S = .ok (.int xs.length) S := rfl
theorem len_l : bLen [.lst xs] S = .ok (.int xs.length) S := rfl
theorem len_f : bLen [.frz xs] S = .ok (.int xs.length) S := rfl
theorem int_i : bInt [.int i] S = .ok (.int i) S := rfl
theorem abs_i : bAbs [.int i] S = .ok (.int (if i < 0 then -i else i)) S := rfl
theorem max_ii : bMax2 [.int i, .int j] S = .ok (.int (if j > i then j else i)) S := rfl
theorem min_ii : bMin2 [.int i, .int j] S = .ok (.int (if j < i then j else i)) S := rfl
theorem divmod_ii : bDivmod [.int i, .int j] S = if divOk2 j then .ok (.tup [.int (i / j), .int (i % j)]) S else .no := rfl
theorem tuple_l : bTuple [.lst xs] S = .ok (.tup xs) S := rfl
theorem tuple_t : bTuple [.tup xs] S = .ok (.tup xs) S := rfl
theorem list_l : bList [.lst xs] S = .ok (.lst xs) S := rfl
theorem list_t : bList [.tup xs] S = .ok (.lst xs) S := rfl
theorem type_i : bType [.int i] S = .ok (.ty "int") S := rfl
theorem type_t : bType [.tup xs] S = .ok (.ty "tuple") S := rfl
theorem type_s : bType [.str x] S = .ok (.ty "str") S := rfl
theorem items_l : dItems (.lst xs) S = .ok xs S := rfl
theorem items_t : dItems (.tup xs) S = .ok xs S := rfl
theorem items_f : dItems (.frz xs) S = .ok xs S := rfl
theorem items_s : dItems (.str x) S = .ok (strD x) S := rfl
theorem sl_l {lo hi : Option Int} : dSl (.lst xs) lo hi S = .ok (.lst (cutD xs lo hi)) S := rfl
theorem sl_f {lo hi : Option Int} : dSl (.frz xs) lo hi S = .ok (.lst (cutD xs lo hi)) S := rfl
theorem sl_t {lo hi : Option Int} : dSl (.tup xs) lo hi S = .ok (.tup (cutD xs lo hi)) S := rfl
theorem gtup {n : Nat} {Gs : AGs} : aGTup n Gs (.tup xs) ρ S = if xs.length = n then Gs xs ρ S else .no := rfl
theorem gcons {G : AG} {Gs : AGs} {r : List D} : aGCons G Gs (d :: r) ρ S = (G d ρ S).bind fun ρ1 S1 => Gs r ρ1 S1 := rfl
theorem gnil : aGNil [] ρ S = .ok ρ S := rfl
theorem blsOf_map (bs : List Bool) : blsOf (bs.map D.bl) = some bs := by
  induction bs with
  | nil => rfl
  | cons b bs ih => simp only [List.map_cons, blsOf, ih, Option.map_some]
theorem intsOf_map (bs : List Int) : intsOf (bs.map D.int) = some bs := by
  induction bs with
  | nil => rfl
  | cons b bs ih => simp only [List.map_cons, intsOf, ih, Option.map_some]
theorem all_l {bs : List Bool} : bAll [.lst (bs.map D.bl)] S = .ok (.bl (bs.all id)) S := by simp only [bAll, dl, Option.bind_some, blsOf_map]
theorem sum_l {bs : List Int} : bSum [.lst (bs.map D.int)] S = .ok (.int bs.sum) S := by simp only [bSum, dl, Option.bind_some, intsOf_map]
theorem ev_methL {f : D → List D → M D} {A : AE} {L : AL} {R : D → List O → Prop} : ev (aMethL f A L ρ S) R = ev (A ρ S) fun o S1 => isL S1 o = true ∧ ev (L ρ S1) fun ds S2 => ev (f o ds S2) R := by
  unfold aMethL
  rw [ev_bind]
  refine congrArg (fun K => ev (A ρ S) K) ?_
  funext o S1
  rw [ev_guard, ev_bind]
theorem small_0 : small 0 = true := rfl
theorem small_1 : small 1 = true := rfl
theorem small_2 : small 2 = true := rfl
theorem small_3 : small 3 = true := rfl
theorem small_4 : small 4 = true := rfl
theorem small_5 : small 5 = true := rfl
theorem small_6 : small 6 = true := rfl
theorem small_7 : small 7 = true := rfl
theorem small_8 : small 8 = true := rfl
theorem mulOk_0 : mulOk 0 i = true := mulOkL (by decide) (by decide)
theorem mulOk_1 : mulOk 1 i = true := mulOkL (by decide) (by decide)
theorem mulOk_2 : mulOk 2 i = true := mulOkL (by decide) (by decide)
theorem mulOk_r0 : mulOk i 0 = true := mulOkR (by decide) (by decide)
theorem mulOk_r1 : mulOk i 1 = true := mulOkR (by decide) (by decide)
theorem mulOk_r2 : mulOk i 2 = true := mulOkR (by decide) (by decide)
theorem sum_3 {k : Int} : bSum [.lst [.int i, .int j, .int k]] S = .ok (.int (i + (j + (k + 0)))) S := rfl
theorem k1_eq : Z.k1 [] [d] = [d] := rfl
theorem k12_eq : Z.k12 [] [d, e] = [d, e] := rfl
theorem k21_eq : Z.k21 [] [d, e] = [e, d] := rfl
theorem cutD_take {k : Int} (h : 0 ≤ k) : cutD xs none (some k) = xs.take k.toNat := by
  unfold cutD
  rw [HT.sIx_none, List.drop_zero]
  have e : HT.sIx xs.length xs.length (some k) = min k.toNat xs.length := by
    have := HT.sIx_nat xs.length xs.length k.toNat
    rw [show ((k.toNat : Nat) : Int) = k by omega] at this
    exact this
  rw [e, Nat.sub_zero]
  by_cases c : k.toNat ≤ xs.length
  · rw [Nat.min_eq_left c]
  · rw [Nat.min_eq_right (by omega), List.take_length, List.take_of_length_le (by omega)]
theorem cutD_drop {k : Int} (h : 0 ≤ k) : cutD xs (some k) none = xs.drop k.toNat := by
  unfold cutD
  rw [HT.sIx_none]
  have e : HT.sIx xs.length 0 (some k) = min k.toNat xs.length := by
    have := HT.sIx_nat xs.length 0 k.toNat
    rw [show ((k.toNat : Nat) : Int) = k by omega] at this
    exact this
  rw [e]
  by_cases c : k.toNat ≤ xs.length
  · rw [Nat.min_eq_left c, List.take_of_length_le (by rw [List.length_drop]; omega)]
  · rw [Nat.min_eq_right (by omega), List.drop_of_length_le (Nat.le_refl _), List.drop_of_length_le (by omega)]
    simp
/-! equality of data -/
theorem dEq_of {p q : PyData} (hd : ∀ t, d ≠ .ty t) (h1 : pdS S d = some p) (h2 : pdS S e = some q) (h3 : p.depth ≤ 60) : dEq d e S = .ok (.bl (PyData.eqv p q)) S := by
  unfold dEq
  split
  · next a b => exact absurd rfl (hd a)
  · simp only [h1, h2]
    rw [if_pos (Nat.le_trans (Nat.min_le_left _ _) h3)]
theorem dNe_of {p q : PyData} (hd : ∀ t, d ≠ .ty t) (h1 : pdS S d = some p) (h2 : pdS S e = some q) (h3 : p.depth ≤ 60) : dNe d e S = .ok (.bl (!PyData.eqv p q)) S := by
  unfold dNe
  split
  · next a b => exact absurd rfl (hd a)
  · simp only [h1, h2]
    rw [if_pos (Nat.le_trans (Nat.min_le_left _ _) h3)]
mutual
theorem pd_plain : ∀ (d : D) (p : PyData), pd S d = some p → p.plain = true
  | .non, p, h => by simp only [pd, Option.some.injEq] at h; subst h; rfl
  | .bl b, p, h => by simp only [pd, Option.some.injEq] at h; subst h; rfl
  | .int b, p, h => by simp only [pd, Option.some.injEq] at h; subst h; rfl
  | .str b, p, h => by simp only [pd, Option.some.injEq] at h; subst h; rfl
  | .tup ds, p, h => by
    simp only [pd, Option.map_eq_some_iff] at h
    obtain ⟨ps, h1, rfl⟩ := h
    simpa only [PyData.plain] using pds_plain ds ps h1
  | .lst ds, p, h => by
    simp only [pd, Option.map_eq_some_iff] at h
    obtain ⟨ps, h1, rfl⟩ := h
    simpa only [PyData.plain] using pds_plain ds ps h1
  | .frz ds, p, h => by
    simp only [pd, Option.map_eq_some_iff] at h
    obtain ⟨ps, h1, rfl⟩ := h
    simpa only [PyData.plain] using pds_plain ds ps h1
  | .ty _, _, h => by simp only [pd, reduceCtorEq] at h
  | .raw _, _, h => by simp only [pd, reduceCtorEq] at h
  | .loc _, _, h => by simp only [pd, reduceCtorEq] at h
theorem pds_plain : ∀ (ds : List D) (ps : List PyData), pds S ds = some ps → PyData.plainAll ps = true
  | [], ps, h => by simp only [pds, Option.some.injEq] at h; subst h; rfl
  | d :: ds, ps, h => by
    simp only [pds] at h
    split at h
    · next p ps' e1 e2 =>
      cases h
      simp only [PyData.plainAll, pd_plain d p e1, pds_plain ds ps' e2, Bool.and_self]
    · cases h
end
theorem dNe_self {p : PyData} (h1 : pd S d = some p) (h3 : p.depth ≤ 60) : dNe d d S = .ok (.bl false) S := by
  have h2 : pdS S d = some p := by
    cases d <;> first | exact h1 | (simp only [pd, reduceCtorEq] at h1)
  rw [dNe_of (fun t e => by subst e; simp only [pd, reduceCtorEq] at h1) h2 h2 h3, SeqAt.eqv_refl_plain p (pd_plain d p h1)]
  rfl
theorem dEq_self {p : PyData} (h1 : pd S d = some p) (h3 : p.depth ≤ 60) : dEq d d S = .ok (.bl true) S := by
  have h2 : pdS S d = some p := by
    cases d <;> first | exact h1 | (simp only [pd, reduceCtorEq] at h1)
  rw [dEq_of (fun t e => by subst e; simp only [pd, reduceCtorEq] at h1) h2 h2 h3, SeqAt.eqv_refl_plain p (pd_plain d p h1)]
/-- moves: triples of ints -/
def mv (a b c : Int) : D := .tup [.int a, .int b, .int c]
theorem ne_mv {a b c d e f : Int} (h : a = d ∧ b = e ∧ c = f) : dNe (mv a b c) (mv d e f) S = .ok (.bl false) S := by
  obtain ⟨rfl, rfl, rfl⟩ := h
  exact dNe_self (p := .tuple [.int a, .int b, .int c]) rfl (Nat.le_of_ble_eq_true rfl)
theorem eq_mv {a b c d e f : Int} (h : a = d ∧ b = e ∧ c = f) : dEq (mv a b c) (mv d e f) S = .ok (.bl true) S := by
  obtain ⟨rfl, rfl, rfl⟩ := h
  exact dEq_self (p := .tuple [.int a, .int b, .int c]) rfl (Nat.le_of_ble_eq_true rfl)
/-! br -/
theorem br_true {A B : Prop} : Z.br true A B = A := propext ⟨fun h => by simpa [Z.br] using h, Z.brT⟩
theorem br_false {A B : Prop} : Z.br false A B = B := propext ⟨fun h => by simpa [Z.br] using h, Z.brF⟩
end
end E

/-! Texts and tables. -/
namespace E
open PySem L2
open PyProof.Rows (Subscript_ tail_any picked_rev filterMap_get)

section
variable {X : Cx} {EX : St → EW} {A B : AE} {e e2 : Expr}
theorem small_le {n : Nat} (h : small n = true) : n ≤ 100000 := by simpa [small] using h
/-! ### text * int -/
def repS (z : Str) (k : Int) : Str := ⟨(List.replicate k.toNat z.cps).foldl (· ++ ·) #[]⟩
def rRepS : R2 := fun x y H Q => ∃ z k, x = .str z ∧ y = .int k ∧ repOk z.length k = true ∧ Q (.str (repS z k)) H
theorem foldl_nil (z : Str) (h : z.length = 0) (k : Nat) : (List.replicate k z.cps).foldl (· ++ ·) #[] = z.cps := by
  have hz : z.cps = #[] := Array.eq_empty_of_size_eq_zero h
  rw [hz]
  induction k with
  | zero => rfl
  | succ k ih => rw [List.replicate_succ, List.foldl_cons]; exact ih
theorem foldl_size (a : Array Nat) : ∀ (k : Nat) (acc : Array Nat), ((List.replicate k a).foldl (fun x y => x ++ y) acc).size = acc.size + k * a.size
  | 0, acc => by simp
  | k + 1, acc => by
    rw [List.replicate_succ, List.foldl_cons, foldl_size a k, Array.size_append, Nat.succ_mul]
    omega
theorem op_repS : OpR X (binaryOp .Mult) rRepS := by
  intro pins s σ H x y v u Q I rx ry h
  obtain ⟨z, k, rfl, rfl, hk, q⟩ := h
  obtain ⟨t, rfl⟩ := rx
  obtain ⟨t2, rfl⟩ := ry
  simp only [repOk, Bool.and_eq_true, decide_eq_true_eq] at hk
  have hs : z.length * k.toNat ≤ 16777216 := Nat.le_trans (small_le hk.2) (by decide)
  refine PySem.P.mul_str ?_ (fun h1 h2 => ?_) (fun h1 h2 => PyProof.Rows.short24 hs) ?_
  · rw [decide_eq_false (by omega), decide_eq_false (by omega)]; rfl
  · have hkp : 0 < k := by omega
    have e : ((z.length * k.toNat : Nat) : Int) = (z.length : Int) * k := by
      rw [Int.natCast_mul, Int.toNat_of_nonneg (by omega)]
    have h3 : (z.length : Int) * k ≤ 2 ^ 63 - 1 := by rw [← e]; omega
    have h4 := (Int.le_ediv_iff_mul_le hkp).mpr h3
    omega
  · by_cases c : k < 1
    · rw [if_pos c]
      have e0 : repS z k = Str.empty := by
        unfold repS
        rw [show k.toNat = 0 by omega]; rfl
      exact ⟨by decide, ⟨.str (repS z k), H, I.tok _, ⟨_, by rw [e0]⟩, q⟩⟩
    · rw [if_neg c]
      by_cases c2 : (k == 1 || z.length == 0) = true
      · rw [if_pos c2]
        have e0 : repS z k = z := by
          rw [Bool.or_eq_true, beq_iff_eq, beq_iff_eq] at c2
          rcases c2 with rfl | c2
          · unfold repS
            show (⟨#[] ++ z.cps⟩ : Str) = z
            rw [Array.empty_append]
          · unfold repS
            rw [foldl_nil z c2]
        rw [e0] at q
        exact ⟨.str z, H, I, ⟨t, rfl⟩, q⟩
      · rw [if_neg c2]
        refine ⟨?_, ⟨.str (repS z k), H, I.tok _, ⟨_, rfl⟩, q⟩⟩
        show (List.foldl (fun x1 x2 => x1 ++ x2) #[] (List.replicate k.toNat z.cps)).size ≤ sizeLine
        rw [foldl_size, Array.size_empty, Nat.zero_add, Nat.mul_comm]
        exact small_line hk.2
def aMulS : D → D → M D
  | .str z, .int k => fun S => if repOk z.length k then .ok (.str (repS z k)) S else .no
  | _, _ => fun _ => .no
theorem ok_repS {K : PySem.W.Frag} {EX : EW} : OpOK K EX rRepS aMulS := by
  intro w S H x y dx dy Q rl rx ry g
  unfold aMulS at g
  split at g
  · next z k =>
    split at g
    · next c => exact ⟨z, k, rx, ry, c, fin.ok rl g _ rfl⟩
    · exact g.elim
  · exact g.elim

/-! ### x[::-1] -/
def revS (z : Str) : Str := ⟨z.cps.reverse⟩
theorem rds_rev {K : PySem.W.Frag} {w : W} : ∀ {ds : List D} {vs : List V}, RDs K w ds vs → RDs K w ds.reverse vs.reverse
  | [], _, h => by rw [show _ = [] from h]; exact rfl
  | d :: ds, _, ⟨v, r, e, h1, h2⟩ => by
    subst e
    rw [List.reverse_cons, List.reverse_cons]
    exact (rds_rev h2).append (RDs.one h1)
theorem revS_eq (z : Str) : (⟨((Builtin.Str.strSliceIndices none none (-1) z.length).filterMap (z.cps[·]?)).toArray⟩ : Str) = revS z := by
  have h : ∀ i ∈ ((List.range z.length).map fun k => z.length - 1 - k), i < z.cps.size := by
    intro i hi
    obtain ⟨k, hk, rfl⟩ := List.mem_map.mp hi
    have hk' : k < z.length := List.mem_range.mp hk
    show z.length - 1 - k < z.length
    omega
  rw [picked_rev, filterMap_get _ _ h, List.map_map]
  unfold revS
  congr 1
  apply Array.ext'
  rw [List.toList_toArray, Array.toList_reverse]
  apply List.ext_getElem
  · rw [List.length_map, List.length_range, List.length_reverse]; rfl
  · intro i h1 h2
    rw [List.getElem_map, List.getElem_range, List.getElem_reverse]
    have h3 : i < z.length := by simpa using h1
    have h4 : z.length - 1 - i < z.cps.size := by show _ < z.length; omega
    show z.cps.getD (z.length - 1 - i) 0 = z.cps.toList[z.length - 1 - i]
    rw [Array.getElem_toList]
    exact (Array.getElem_eq_getD (h := h4) 0).symm
def dRev (d : D) : M D := fun S => match d with
  | .str z => if small z.length then .ok (.str (revS z)) S else .no
  | d => match dl d S with
    | some xs => .ok (.lst xs.reverse) S
    | none => .no
def aRev (A : AE) : AE := fun ρ S => (A ρ S).bind dRev

/-! ### join -/
def dStrs : List D → Option (List Str)
  | [] => some []
  | .str x :: r => (dStrs r).map (x :: ·)
  | _ :: _ => none
theorem dStrs_rd {K : PySem.W.Frag} {w : W} : ∀ {ds : List D} {vs : List V} {ys : List Str}, dStrs ds = some ys → RDs K w ds vs → vs = ys.map V.str
  | [], vs, ys, h, r => by
    cases h
    exact r
  | .str x :: ds, _, ys, h, ⟨v, r, e, h1, h2⟩ => by
    simp only [dStrs, Option.map_eq_some_iff] at h
    obtain ⟨zs, h3, rfl⟩ := h
    rw [e, show v = .str x from h1, dStrs_rd h3 h2]
    rfl
def isStr : D → Bool
  | .str _ => true
  | _ => false
def dJoin (d l : D) : M D := fun S => match d with
  | .str a => match (match l with | .tup xs => some xs | l => dl l S) with
    | some xs => match dStrs xs with
      | some ys => if small ((ys.map (·.length)).sum + ys.length * a.length) then .ok (.str (Txt.join a ys)) S else .no
      | none => .no
    | none => .no
  | _ => .no
def aJoin (A B : AE) : AE := fun ρ S => (A ρ S).bind fun d S1 => if isStr d then (B ρ S1).bind fun l S2 => dJoin d l S2 else .no
theorem q_join {apos pos : Pos} (ha : QE X EX e A) (hb : QE X EX e2 B) (hs : starEach [e2] X.env = [(false, eval e2 X.env)] := by rfl) (hbase : attributeBase e "join" X.env (eval e X.env) = eval e X.env := by rfl) (hline : (apos.endLine == pos.line) = true := by rfl) :
    QE X EX (.Call (.Attribute e "join" apos) [e2] [] pos) (aJoin A B) := PE.imp (pe_join ha hb hs hbase hline) fun σ H Q ⟨w, ρ, S, re, rl, g⟩ =>
  ⟨w, ρ, S, re, rl, (fin.bind rl g).mono fun w1 S1 H1 d p1 rl1 g1 v rd => by
    cases d <;> first
      | exact g1.elim
      | skip
    next a =>
    refine ⟨⟨a, rd⟩, w1, ρ, S1, re.mono p1, rl1, (fin.bind rl1 g1).mono fun w2 S2 H2 l p2 rl2 g2 u ru => ?_⟩
    unfold dJoin at g2
    dsimp only at g2
    split at g2
    · next xs e1 =>
      split at g2
      · next ys e3 =>
        split at g2
        · next c =>
          have hz : (ys.map (·.length)).sum + ys.length * a.length ≤ 16777216 := Nat.le_trans (small_le c) (by decide)
          have key : ∃ p vs, u = .ref p ∧ (SqL X.K H2 p vs ∨ SqT X.K H2 p vs) ∧ RDs X.K w2 xs vs := by
            split at e1
            · next zs =>
              cases e1
              obtain ⟨p, vs, e4, h1, r1⟩ := dt_rd rl2 ru
              exact ⟨p, vs, e4, .inr h1, r1⟩
            · obtain ⟨p, vs, e4, h1, r1⟩ := dl_rd rl2 ru e1
              exact ⟨p, vs, e4, .inl h1, r1⟩
          obtain ⟨p, vs, rfl, h1, r1⟩ := key
          have e5 := dStrs_rd e3 r1
          subst e5
          exact ⟨a, p, ys, rd, rfl, h1, hz, fin.ok rl2 g2 _ rfl⟩
        · exact g2.elim
      · exact g2.elim
    · exact g2.elim⟩

theorem q_revD {k : Nat} {p1 p2 p3 pos : Pos} (ha : QE X EX e A) : QE X EX (.Subscript e (.Slice none none (some (.UnaryOp .USub (.Constant (.int 1) k p1) p2)) p3) pos) (aRev A) := by
  refine ⟨fun pins s σ H Q I h => ?_⟩
  obtain ⟨w, ρ, S, re, rl, g⟩ := h
  have g' := fin.bind rl g
  cases hr : A ρ S with
  | err er S1 =>
    rw [hr] at g'
    exact (pe_revL ha).run pins s σ H Q I ⟨w, ρ, S, re, rl, by rw [hr]; exact g'⟩
  | no => rw [hr] at g'; exact g'.elim
  | ok d S1 =>
    rw [hr] at g'
    by_cases hd : isStr d = true
    · cases d <;> first
        | cases hd
        | skip
      next z =>
      refine Subscript_ (thn (ha.run pins s σ H (fun v H1 => v = .str z ∧ small z.length = true ∧ Q (.str (revS z)) H1) I ⟨w, ρ, S, re, rl, ?_⟩) fun v s1 ⟨x, H1, I1, r1, ex, hz, q⟩ => ?_)
      · rw [hr]
        intro w1 H1 p1 rl1 v rd
        have g2 := fin.get g' p1 rl1
        simp only [dRev] at g2
        split at g2
        · next c => exact ⟨rd, c, fin.ok (EX := EX σ) rl1 g2 _ rfl⟩
        · exact g2.elim
      subst ex
      obtain ⟨t, rfl⟩ := r1
      have hst : PO X (some (.UnaryOp .USub (.Constant (.int 1) k p1) p2)) (tPart (tUn (rU fun i => .int (-i)) (tC (.int 1)))) := po_some (pe_un un_neg pe_int)
      refine wpAny_Slice (thn (po_none.run pins s1 σ H1 (fun o H2 => o = none ∧ H2 = H1) I1 ⟨rfl, rfl⟩) fun vl s2 ⟨l, H2, I2, pl, el, e2⟩ => ?_)
      subst el e2
      refine thn (po_none.run pins s2 σ H2 (fun o H3 => o = none ∧ H3 = H2) I2 ⟨rfl, rfl⟩) fun vu s3 ⟨u, H3, I3, pu, eu, e3⟩ => ?_
      subst eu e3
      refine thn (hst.run pins s3 σ H3 (fun o H4 => o = some (-1) ∧ H4 = H3) I3 ⟨1, rfl, -1, rfl, rfl, rfl⟩) fun vs s4 ⟨o, H4, I4, ps, eo, e4⟩ => ?_
      subst eo e4
      have I5 : Inv X pins σ H4 { s4 with heap := s4.heap.push { cls := .type "slice", data := .fields #[vl, vu, vs] } } := I4.kept (t' := s4.toks) fun b ob q => Heap.get?_push_of_some _ q
      show wpAny (model X.prog X.w) X.A (PyProof.Rows.subscriptTail e (.Slice none none (some (.UnaryOp .USub (.Constant (.int 1) k p1) p2)) p3) (.str z t) (.ref s4.heap.objs.size)) (EP X pins σ Q) X.xe { s4 with heap := s4.heap.push { cls := .type "slice", data := .fields #[vl, vu, vs] } }
      obtain ⟨l, rfl, hl⟩ := IsPart.raw pl
      obtain ⟨u, rfl, hu⟩ := IsPart.raw pu
      obtain ⟨st, rfl, hst2⟩ := IsPart.raw ps
      refine tail_any (ops := [.str z t, .ref s4.heap.objs.size]) (typeIs_str _ _ _) PySem.F.slot_str_getitem.lookup ?_ (by with_unfolding_all rfl)
      refine wpAny_getItem_str_slice (l := l) (u := u) (st := st) ⟨_, Heap.get?_push_size _ rfl, rfl, rfl⟩ (by rw [hst2]; rfl) ?_
      unfold sliceMade slicePicked
      rw [hl, hu, hst2]
      show Made.post (Made.str ⟨((Builtin.Str.strSliceIndices none none (-1) z.length).filterMap (z.cps[·]?)).toArray⟩) _ _
      rw [revS_eq]
      exact ⟨by show z.cps.reverse.size ≤ sizeLine; rw [Array.size_reverse]; exact small_line hz, ⟨.str (revS z), H4, I5.tok _, ⟨_, rfl⟩, q⟩⟩
    · refine (pe_revL ha).run pins s σ H Q I ⟨w, ρ, S, re, rl, ?_⟩
      rw [hr]
      intro w1 H1 p1 rl1 v rd
      have g2 := fin.get g' p1 rl1
      unfold dRev at g2
      split at g2
      · exact absurd rfl hd
      · split at g2
        · next xs e1 =>
          obtain ⟨a, vs, ev, h1, r1⟩ := dl_rd rl1 rd e1
          exact ⟨a, vs, ev, h1, new_lst rl1 (rds_rev r1) g2⟩
        · exact g2.elim
end
end E

/-! Tables. -/
namespace E
open PySem L2
section
variable {X : Cx} {EX : St → EW} {A B : AE} {e e2 : Expr}
def valD : List Key → List D → Key → Option D
  | k :: ks, d :: ds, x => if k = x then some d else valD ks ds x
  | _, _, _ => none
theorem valD_rd {K : PySem.W.Frag} {w : W} {x : Key} {d : D} : ∀ {ks : List Key} {ds : List D} {vs : List V}, RDs K w ds vs → ks.length = vs.length → valD ks ds x = some d → ∃ v, valV (ks.zip vs) x = some v ∧ RD K w d v
  | [], ds, vs, r, l, h => by simp [valD] at h
  | k :: ks, [], vs, r, l, h => by simp [valD] at h
  | k :: ks, d' :: ds, _, ⟨v, vs, e, h1, h2⟩, l, h => by
    subst e
    unfold valD at h
    by_cases c : k = x
    · rw [if_pos c] at h
      cases h
      exact ⟨v, valV_pos (p := (k, v)) c, h1⟩
    · rw [if_neg c] at h
      obtain ⟨u, h3, h4⟩ := valD_rd h2 (by simpa using l) h
      exact ⟨u, by rw [List.zip_cons_cons, valV_neg (p := (k, v)) c]; exact h3, h4⟩
def keyD : D → Option Key
  | .int i => some (.inl i)
  | .str x => some (.inr x)
  | _ => none
theorem keyD_rd {K : PySem.W.Frag} {w : W} {d : D} {v : V} {k : Key} (rd : RD K w d v) (h : keyD d = some k) : v = kV k := by
  unfold keyD at h
  split at h
  · cases h; exact rd
  · cases h; exact rd
  · cases h
def dGet : D → D → M D
  | .dct ks ds, x => fun S => match keyD x with
    | some k => match valD ks ds k with
      | some d => .ok d S
      | none => .no
    | none => .no
  | _, _ => fun _ => .no
theorem q_dget {pos : Pos} (hu : X.A.units + 64 < cLine) (ha : QE X EX e A) (hb : QE X EX e2 B) (hs : NoSl e2) : QE X EX (.Subscript e e2 pos) (aBin dGet A B) := PE.imp (pe_dget (by omega) ha hb hs) fun σ H Q ⟨w, ρ, S, re, rl, g⟩ =>
  ⟨w, ρ, S, re, rl, (fin.bind rl g).mono fun w1 S1 H1 d p1 rl1 g1 v rd => ⟨w1, ρ, S1, re.mono p1, rl1, (fin.bind rl1 g1).mono fun w2 S2 H2 x p2 rl2 g2 u ru => by
    have rd2 := p2.rd rd
    unfold dGet at g2
    split at g2
    · next ks ds =>
      split at g2
      · next k ek =>
        split at g2
        · next r er =>
          obtain ⟨a, vs, rfl, hF, l, r1⟩ := rd2
          obtain ⟨z, h1, h2⟩ := valD_rd r1 l er
          have ek2 := keyD_rd ru ek
          subst ek2
          refine ⟨a, z, rfl, ?_, fin.ok rl2 g2 _ h2⟩
          rw [← h1]
          exact DGet.k (rl2.fz _ _ hF)
        · exact g2.elim
      · exact g2.elim
    · exact g2.elim⟩⟩
/-! dict(pairs) -/
def pairsD : List D → Option (List Key × List D)
  | [] => some ([], [])
  | .tup [k, d] :: r => match keyD k, pairsD r with
    | some x, some (ks, ds) => some (x :: ks, d :: ds)
    | _, _ => none
  | _ :: _ => none
theorem new_dct {K : PySem.W.Frag} {EX : EW} {w : W} {S : List O} {H : Hp} {Q : VK} {ks : List Key} {ds : List D} {vs : List V} (rl : Rel K w S H) (l : ks.length = vs.length) (rds : RDs K w ds vs) (g : fin K EX (FQ K Q) w H (.ok (.dct ks ds) S)) : ∀ p, H p = none → Q (.ref p) (upd H p (.dK (ks.zip vs))) := fun p hp =>
  g _ _ (post_addF rl hp) (rel_addF rl hp) _ ⟨p, vs, rfl, upd_same, l, (post_addF (o := .dK (ks.zip vs)) rl hp).rds rds⟩
theorem mergeK_nd : ∀ (more kvs : List (Key × V)), ((kvs ++ more).map (·.1)).Nodup → mergeK kvs more = kvs ++ more
  | [], kvs, _ => by rw [List.append_nil]; rfl
  | p :: r, kvs, h => by
    have h1 : valV kvs p.1 = none := by
      have h2 := valV_any p.1 kvs
      cases c : valV kvs p.1 with
      | none => rfl
      | some v =>
        rw [c] at h2
        have h3 : (kvs.any fun kv => decide (kv.1 = p.1)) = true := h2
        obtain ⟨q, hq, hq2⟩ := List.any_eq_true.mp h3
        rw [List.map_append, List.nodup_append] at h
        exact absurd (of_decide_eq_true hq2) (h.2.2 _ (List.mem_map_of_mem hq) _ (by simp))
    show mergeK (putK kvs p.1 p.2) r = _
    rw [putK_new _ h1, mergeK_nd r _ (by rw [List.append_assoc]; exact h), List.append_assoc]
    rfl
def bDict : List D → M D := fun l S => match l with
  | [d] => match dl d S with
    | some xs => match pairsD xs with
      | some (ks, ds) => if ks.Nodup then .ok (.dct ks ds) S else .no
      | none => .no
    | none => .no
  | _ => .no
theorem pairsD_rd {K : PySem.W.Frag} {w : W} {S : List O} {H : Hp} (rl : Rel K w S H) : ∀ {xs : List D} {vs : List V} {ks : List Key} {ds : List D}, RDs K w xs vs → pairsD xs = some (ks, ds) →
    ∃ (ps : List Addr) (us : List V), vs = ps.map V.ref ∧ ks.length = us.length ∧ RDs K w ds us ∧ Paired (fun p kv => SqT K H p [kV kv.1, kv.2]) ps (ks.zip us)
  | [], vs, ks, ds, r, h => by
    cases h
    rw [show vs = [] from r]
    exact ⟨[], [], rfl, rfl, rfl, .nil⟩
  | x :: xs, _, ks, ds, ⟨v, vs, e, h1, h2⟩, h => by
    subst e
    unfold pairsD at h
    split at h
    · next h0 => cases h0
    · next k d r h0 =>
      cases h0
      split at h
      · next kk ks' ds' ek er =>
        cases h
        obtain ⟨ps, us, e1, l, r1, q⟩ := pairsD_rd rl h2 er
        obtain ⟨a, ws, ea, ht, rw⟩ := dt_rd rl h1
        obtain ⟨v1, v2, ew, g1, g2⟩ := rds2 rw
        subst ea ew e1
        have := keyD_rd g1 ek
        subst this
        exact ⟨a :: ps, v2 :: us, rfl, by simp [l], ⟨v2, us, rfl, g2, r1⟩, .cons ht q⟩
      · cases h
    · cases h
theorem ok_dict {K : PySem.W.Frag} {EX : EW} : CallOK K EX (fun xs H Q => ∃ (a : Addr) (ps : List Addr) (kvs : List (Key × V)), xs = [.ref a] ∧ SqL K H a (ps.map V.ref) ∧ Paired (fun p kv => SqT K H p [kV kv.1, kv.2]) ps kvs ∧
    ∀ p, H p = none → Q (.ref p) (upd H p (.dK (mergeK [] kvs)))) bDict := by
  intro w S H xs ds Q rl rds g
  unfold bDict at g
  split at g
  · next d =>
    split at g
    · next ys e1 =>
      split at g
      · next ks dd e2 =>
        split at g
        · next c =>
          obtain ⟨v, rfl, rv⟩ := rds1 rds
          obtain ⟨a, vs, rfl, h1, r1⟩ := dl_rd rl rv e1
          obtain ⟨ps, us, rfl, l, r2, q⟩ := pairsD_rd rl r1 e2
          refine ⟨a, ps, ks.zip us, rfl, h1, q, ?_⟩
          rw [mergeK_nd, List.nil_append]
          · exact new_dct rl l r2 g
          · rw [List.nil_append, List.map_fst_zip (by omega)]
            exact c
        · exact g.elim
      · exact g.elim
    · exact g.elim
  · exact g.elim
/-! a table of the module -/
def tabD : List (Str × D) → Str → Option D
  | (k, d) :: r, x => if k = x then some d else tabD r x
  | [], _ => none
/-- what a table of the module holds -/
def KTab (K : PySem.W.Frag) (w : World) (a : Addr) (tab : List (Str × D)) : Prop := ∀ x d, tabD tab x = some d → ∃ v, KDct K w a x v ∧ ∀ w' : W, RD K w' d v
theorem KTab.nil {K : PySem.W.Frag} {w : World} {a : Addr} : KTab K w a [] := fun x d h => by cases h
theorem KTab.cons {K : PySem.W.Frag} {w : World} {a : Addr} {x : Str} {d : D} {r : List (Str × D)} (h : ∃ v, KDct K w a x v ∧ ∀ w' : W, RD K w' d v) (hr : KTab K w a r) : KTab K w a ((x, d) :: r) := fun y d' e => by
  unfold tabD at e
  split at e
  · next c => subst c; cases e; exact h
  · exact hr y d' e
def dTab (tab : List (Str × D)) : D → M D := fun x S => match x with
  | .str z => match tabD tab z with
    | some d => .ok d S
    | none => .no
  | _ => .no
def aTab (tab : List (Str × D)) (B : AE) : AE := fun ρ S => (B ρ S).bind (dTab tab)
theorem q_tab {pos : Pos} {a : Addr} {tab : List (Str × D)} (hk : KTab X.K X.w a tab) (ha : QE X EX e (aC (.raw a))) (hb : QE X EX e2 B) (hs : PlainIx e2) : QE X EX (.Subscript e e2 pos) (aTab tab B) := PE.imp (pe_ix ix_kdict ha hb hs) fun σ H Q ⟨w, ρ, S, re, rl, g⟩ =>
  ⟨w, ρ, S, re, rl, fun w1 H1 p1 rl1 v rd => ⟨w1, ρ, S, re.mono p1, rl1, (fin.bind rl1 (fin.rebase rl rl1 g p1)).mono fun w2 S2 H2 x p2 rl2 g2 u ru => by
    unfold dTab at g2
    split at g2
    · next z =>
      split at g2
      · next d e1 =>
        obtain ⟨v2, h1, h2⟩ := hk z d e1
        exact ⟨a, z, v2, rd, ru, h1, fin.ok rl2 g2 _ (h2 w2)⟩
      · exact g2.elim
    · exact g2.elim⟩⟩
end
end E

/-! Methods of texts, numbers as texts. -/
namespace E
open PySem L2
section
variable {X : Cx} {EX : St → EW} {A B : AE}
/-- text.m(e) -/
def aSm (f : Str → D → M D) (A B : AE) : AE := fun ρ S => (A ρ S).bind fun d S1 => match d with
  | .str a => (B ρ S1).bind fun y S2 => f a y S2
  | _ => .no
def SmOK (K : PySem.W.Frag) (r : V → List V → Hp → VK → Prop) (f : Str → D → M D) : Prop := ∀ (EX : EW) w S H a y d Q, Rel K w S H → RD K w d y → fin K EX (FQ K Q) w H (f a d S) → r (.str a) [y] H Q
theorem q_m1 {t : Expr} {r : V → List V → Hp → VK → Prop} {f : Str → D → M D} (h : PE X t (tM1 r (tE X.K EX A) (tE X.K EX B))) (ok : SmOK X.K r f) : QE X EX t (aSm f A B) := PE.imp h fun σ H Q ⟨w, ρ, S, re, rl, g⟩ =>
  ⟨w, ρ, S, re, rl, (fin.bind rl g).mono fun w1 S1 H1 d p1 rl1 g1 v rd => by
    cases d <;> first
      | exact g1.elim
      | skip
    next a =>
    have ev : v = .str a := rd
    subst ev
    exact ⟨⟨a, rfl⟩, w1, ρ, S1, re.mono p1, rl1, (fin.bind rl1 g1).mono fun w2 S2 H2 y p2 rl2 g2 u ru => ok _ w2 S2 H2 a u y Q rl2 ru g2⟩⟩
def smStart (a : Str) (y : D) : M D := fun S => match y with
  | .str b => .ok (.bl (Txt.startswith a b)) S
  | _ => .no
theorem ok_start {K : PySem.W.Frag} : SmOK K (fun x xs H Q => ∃ a b, x = .str a ∧ xs = [.str b] ∧ Q (.bl (Txt.startswith a b)) H) smStart := by
  intro EX w S H a y d Q rl rd g
  unfold smStart at g
  split at g
  · next b => exact ⟨a, b, rfl, by rw [show y = .str b from rd], fin.ok rl g _ rfl⟩
  · exact g.elim
def smRemove (a : Str) (y : D) : M D := fun S => match y with
  | .str b => if small a.length then .ok (.str (Txt.removeprefix a b)) S else .no
  | _ => .no
theorem ok_remove {K : PySem.W.Frag} : SmOK K (fun x xs H Q => ∃ a b, x = .str a ∧ xs = [.str b] ∧ a.length ≤ sizeLine ∧ Q (.str (Txt.removeprefix a b)) H) smRemove := by
  intro EX w S H a y d Q rl rd g
  unfold smRemove at g
  split at g
  · next b =>
    split at g
    · next c => exact ⟨a, b, rfl, by rw [show y = .str b from rd], small_line c, fin.ok rl g _ rfl⟩
    · exact g.elim
  · exact g.elim
def smZfill (a : Str) (y : D) : M D := fun S => match y with
  | .int i => if PadOk i then .ok (.str (Txt.zfill a i)) S else .no
  | _ => .no
theorem ok_zfill {K : PySem.W.Frag} : SmOK K (fun x xs H Q => ∃ (a : Str) (i : Int), x = .str a ∧ xs = [.int i] ∧ PadOk i = true ∧ Q (.str (Txt.zfill a i)) H) smZfill := by
  intro EX w S H a y d Q rl rd g
  unfold smZfill at g
  split at g
  · next b =>
    split at g
    · next c => exact ⟨a, b, rfl, by rw [show y = .int b from rd], c, fin.ok rl g _ rfl⟩
    · exact g.elim
  · exact g.elim
theorem rds_strs {K : PySem.W.Frag} {w : W} : ∀ (ys : List Str), RDs K w (ys.map D.str) (ys.map V.str)
  | [] => rfl
  | y :: ys => ⟨_, _, rfl, rfl, rds_strs ys⟩
def smSplit (a : Str) (y : D) : M D := fun S => match y with
  | .str b => if (b.length == 0) = false ∧ small (a.length + 2) = true then .ok (.lst ((Txt.split a b).map D.str)) S else .no
  | _ => .no
theorem ok_split {K : PySem.W.Frag} : SmOK K (fun x xs H Q => ∃ a b, x = .str a ∧ xs = [.str b] ∧ (b.length == 0) = false ∧ a.length + 2 ≤ sizeLine ∧ rNewStrs (Txt.split a b) H Q) smSplit := by
  intro EX w S H a y d Q rl rd g
  unfold smSplit at g
  split at g
  · next b =>
    split at g
    · next c => exact ⟨a, b, rfl, by rw [show y = .str b from rd], c.1, small_line c.2, new_lst rl (rds_strs _) g⟩
    · exact g.elim
  · exact g.elim
/-! str(int), str(text) -/
def bStr : List D → M D
  | [.int i] => fun S => if i.natAbs.log2 < 1920 then .ok (.str (toString i)) S else .no
  | [.str a] => fun S => .ok (.str a) S
  | _ => fun _ => .no
def rStrA : List V → Hp → VK → Prop := fun xs H Q => (∃ i : Int, xs = [.int i] ∧ i.natAbs.log2 < 1920 ∧ Q (.str (toString i)) H) ∨ (∃ a, xs = [.str a] ∧ Q (.str a) H)
theorem cr_str : CallR X (.type "str") rStrA := fun pins s σ H xs us Q I r q => q.elim (fun q => call_str_int pins s σ H xs us Q I r q) (fun q => SkE.call_str_str pins s σ H xs us Q I r q)
theorem ok_str {K : PySem.W.Frag} {EX : EW} : CallOK K EX rStrA bStr := by
  intro w S H xs ds Q rl rds g
  unfold bStr at g
  split at g
  · next i =>
    split at g
    · next c =>
      obtain ⟨v, rfl, rv⟩ := rds1 rds
      exact .inl ⟨i, by rw [show v = .int i from rv], c, fin.ok rl g _ rfl⟩
    · exact g.elim
  · next a =>
    obtain ⟨v, rfl, rv⟩ := rds1 rds
    exact .inr ⟨a, by rw [show v = .str a from rv], fin.ok rl g _ rfl⟩
  · exact g.elim
end
end E

/-! Own classes. -/
namespace E
open PySem L2
section
variable {X : Cx} {EX : St → EW} {n : Nat} {A B : AE} {e e2 : Expr}
def insOf : D → List O → Option (Str × List Str × List D)
  | .ins nm ns vs, _ => some (nm, ns, vs)
  | .loc n, S => match S[n]? with
    | some (.ins nm ns vs) => some (nm, ns, vs)
    | _ => none
  | _, _ => none
theorem ins_rd {K : PySem.W.Frag} {w : W} {S : List O} {H : Hp} {d : D} {v : V} {nm : Str} {ns : List Str} {ds : List D} (rl : Rel K w S H) (rd : RD K w d v) (h : insOf d S = some (nm, ns, ds)) :
    ∃ a C dx vs, v = .ref a ∧ ClsN K nm C ∧ H a = some (.ins C dx (ns.zip vs)) ∧ ns.length = vs.length ∧ RDs K w ds vs := by
  unfold insOf at h
  split at h
  · cases h
    obtain ⟨a, C, dx, vs, e, c, q, l, r⟩ := rd
    exact ⟨a, C, dx, vs, e, c, rl.fz _ _ q, l, r⟩
  · next n =>
    split at h
    · next e2 =>
      cases h
      obtain ⟨a, e, q⟩ := rd
      obtain ⟨C, dx, vs, c, h1, l, r⟩ := rl.obj n a _ q e2
      exact ⟨a, C, dx, vs, e, c, h1, l, r⟩
    · cases h
  · cases h
def fldD : List Str → List D → Str → Option D
  | k :: ks, d :: ds, x => if x = k then some d else fldD ks ds x
  | _, _, _ => none
theorem fldD_rd {K : PySem.W.Frag} {w : W} {x : Str} {d : D} : ∀ {ks : List Str} {ds : List D} {vs : List V}, RDs K w ds vs → ks.length = vs.length → fldD ks ds x = some d → ∃ v, (ks.zip vs).lookup x = some v ∧ RD K w d v
  | [], ds, vs, r, l, h => by simp [fldD] at h
  | k :: ks, [], vs, r, l, h => by simp [fldD] at h
  | k :: ks, d' :: ds, _, ⟨v, vs, e, h1, h2⟩, l, h => by
    subst e
    unfold fldD at h
    rw [List.zip_cons_cons, List.lookup_cons]
    by_cases c : x = k
    · rw [if_pos c] at h
      cases h
      rw [show (x == k) = true from beq_iff_eq.mpr c]
      exact ⟨v, rfl, h1⟩
    · rw [if_neg c] at h
      rw [show (x == k) = false from beq_eq_false_iff_ne.mpr c]
      exact fldD_rd h2 (by simpa using l) h
def dFld (nm f : Str) (d : D) : M D := fun S => match insOf d S with
  | some (nm', ns, ds) => if nm' = nm then (match fldD ns ds f with
    | some r => .ok r S
    | none => .no) else .no
  | none => .no
def aFld (nm f : Str) (A : AE) : AE := fun ρ S => (A ρ S).bind (dFld nm f)
theorem q_fld {nm f : Str} {pos : Pos} (hC : ∀ C, ClsN X.K nm C → Cls X.K C ∧ NoAttr X.K C f) (ha : QE X EX e A) (hb : attributeBase e f X.env (eval e X.env) = eval e X.env) : QE X EX (.Attribute e f pos) (aFld nm f A) := PE.imp (pe_fld ha hb) fun σ H Q ⟨w, ρ, S, re, rl, g⟩ =>
  ⟨w, ρ, S, re, rl, (fin.bind rl g).mono fun w1 S1 H1 d p1 rl1 g1 v rd => by
    unfold dFld at g1
    split at g1
    · next nm' ns ds e1 =>
      split at g1
      · next c =>
        subst c
        split at g1
        · next r e2 =>
          obtain ⟨a, C, dx, vs, ev, hc, h1, l, r1⟩ := ins_rd rl1 rd e1
          obtain ⟨z, h2, h3⟩ := fldD_rd r1 l e2
          exact ⟨a, C, dx, _, z, ev, h1, (hC C hc).1, (hC C hc).2, h2, fin.ok rl1 g1 _ h3⟩
        · exact g1.elim
      · exact g1.elim
    · exact g1.elim⟩
/-! self.f = value, a new field -/
theorem putF_new {f : Str} {y : V} : ∀ {ns : List Str} {vs : List V}, ns.length = vs.length → f ∉ ns → putF f y (ns.zip vs) = (ns ++ [f]).zip (vs ++ [y])
  | [], [], _, _ => rfl
  | [], _ :: _, h, _ => by cases h
  | _ :: _, [], h, _ => by cases h
  | k :: ks, v :: vs, h, hf => by
    rw [List.zip_cons_cons]
    show (if k = f then _ else _) = _
    rw [if_neg fun c => hf (by simp [c]), putF_new (by simpa using h) fun c => hf (List.mem_cons_of_mem _ c)]
    rfl
def dSetF (nm f : Str) (d y : D) : M Unit := fun S => match d with
  | .loc n => match S[n]? with
    | some (.ins nm' ns ds) => if nm' = nm ∧ f ∉ ns ∧ ns.length < 900 then .ok () (S.set n (.ins nm (ns ++ [f]) (ds ++ [y]))) else .no
    | _ => .no
  | _ => .no
def aSetF (nm f : Str) (A B : AE) : AS := fun ρ S => (B ρ S).bind fun y S1 => (A ρ S1).bind fun d S2 => (dSetF nm f d y S2).bind fun _ S3 => .ok (.nx, ρ) S3
theorem qs_fld {nm f : Str} {pos pos' : Pos} (hC : ∀ C, ClsN X.K nm C → Cls X.K C ∧ NoAttr X.K C f) (ha : QE X EX e A) (hb : QE X EX e2 B) (hs : swapsWith e2 (some (.Attribute e f pos')) pos.line X.env = pure false) :
    QS X EX (.Assign [.Attribute e f pos'] e2 pos) (aSetF nm f A B) := PS.imp (ps_fld ha hb hs) fun Dn σ H ⟨w, ρ, S, re, rl, g⟩ =>
  ⟨w, ρ, S, re, rl, (fin.bindS rl g σ).mono fun w1 S1 H1 y p1 rl1 g1 u ru => ⟨w1, ρ, S1, re.mono p1, rl1, (fin.bindS rl1 g1 σ).mono fun w2 S2 H2 d p2 rl2 g2 v rd => by
    unfold dSetF at g2
    split at g2
    · next n =>
      split at g2
      · next nm' ns ds e1 =>
        split at g2
        · next c =>
          obtain ⟨rfl, hf, hn⟩ := c
          obtain ⟨a, ea, q⟩ := rd
          obtain ⟨C, dx, vs, hc, h1, l, r1⟩ := rl2.obj n a _ q e1
          have P : Post w2 H2 w2 (upd H2 a (.ins C dx (putF f u (ns.zip vs)))) := post_set rl2 q
          have rl3 := rel_set (o := .ins C dx (putF f u (ns.zip vs))) (ob := .ins nm' (ns ++ [f]) (ds ++ [y])) rl2 q e1 rfl ⟨C, dx, vs ++ [u], hc, by rw [upd_same, putF_new l hf], by simp [l], r1.append (RDs.one (p2.rd ru))⟩
          refine ⟨a, C, dx, _, ea, h1, (hC C hc).1, (hC C hc).2, by rw [List.length_zip]; omega, ?_⟩
          exact (fin.get g2 P rl3) σ (((re.mono p1).mono p2).mono P)
        · exact g2.elim
      · exact g2.elim
    · exact g2.elim⟩⟩
/-! calls that raise nothing -/
def quiet {α : Type} (r : Res α) : Res α := match r with
  | .ok a S => .ok a S
  | _ => .no
theorem fin.quiet {K : PySem.W.Frag} {EX EX' : EW} {α : Type} {R : W → List O → Hp → α → Prop} {w : W} {H : Hp} {r : Res α} (h : fin K EX R w H (quiet r)) : fin K EX' R w H r := by
  cases r with
  | ok a S => exact h
  | err e S => exact h.elim
  | no => exact h
theorem passN {X : Cx} : Passes (CX X.prog X.w) X (fun _ _ _ => False) := fun _ _ _ _ _ _ _ ⟨_, _, _, _, _, _, _, _, _, _, _, _, z⟩ => z.elim
theorem ClsN.uniq {K : PySem.W.Frag} {nm : Str} {C C' : Addr} (h : ClsN K nm C) (h' : ClsN K nm C') : C = C' := by
  have e := h.symm.trans h'
  cases e
  rfl
def insN (nm : Str) (d : D) (S : List O) : Bool := match insOf d S with
  | some (nm', _) => nm' == nm
  | none => false
/-- e.f, a property -/
def aProp (nm : Str) (F : List D → M D) (A : AE) : AE := fun ρ S => (A ρ S).bind fun d S1 => if insN nm d S1 then quiet (F [d] S1) else .no
theorem q_prop {nm f : Str} {pos : Pos} {C p g : Addr} {fd : FuncData} {ps : List Str} {k : Nat} {F : List D → M D} (hn : ClsN X.K nm C) (c : Cls X.K C) (hp : PropOf X.K C f p g)
    (Fo : FnOk X.prog X.w X.K X.mg X.base (CX X.prog X.w) k g fd ps (spF X.K F 1)) (hr : Room (k + 1) X.A) (hb : Binds X.K fd ps []) (ha : QE X EX e A) (hab : attributeBase e f X.env (eval e X.env) = eval e X.env) :
    QE X EX (.Attribute e f pos) (aProp nm F A) := PE.imp (pe_prop (E := fun _ _ _ => False) ha c hp Fo hr hb .nil (passN (X := X.nox)) hab) fun σ H Q ⟨w, ρ, S, re, rl, g⟩ =>
  ⟨w, ρ, S, re, rl, (fin.bind rl g).mono fun w1 S1 H1 d p1 rl1 g1 v rd => by
    split at g1
    · next hi =>
      unfold insN at hi
      split at hi
      · next nm' r e1 =>
        obtain ⟨ns, ds⟩ := r
        obtain ⟨a, C', dx, vs, ev, hc, h1, l, r1⟩ := ins_rd rl1 rd e1
        have en := beq_iff_eq.mp hi
        subst en
        have := hc.uniq hn
        subst this
        exact ⟨a, dx, _, ev, h1, rfl, w1, S1, [d], rl1, ⟨_, _, rfl, by rw [← ev]; exact rd, rfl⟩, fin.quiet g1⟩
      · cases hi
    · exact g1.elim⟩
/-- C(..), which from then on is as it is -/
def dMade (nm : Str) (n : Nat) (d : D) : M D := fun S => match d with
  | .non => match S[n]? with
    | some (.ins nm' ns vs) => if nm' = nm then .ok (.ins nm ns vs) (S.set n .dead) else .no
    | _ => .no
  | _ => .no
def aMake (nm : Str) (F : List D → M D) (L : AL) : AE := fun ρ S => (L ρ S).bind fun ds S1 => quiet ((F (.loc S1.length :: ds) (S1 ++ [.ins nm [] []])).bind fun d S2 => dMade nm S1.length d S2)
theorem q_make {nm x : Str} {pos p : Pos} {C f : Addr} {fd : FuncData} {ps : List Str} {k m : Nat} {F : List D → M D} {es : List Expr} {L : AL} (hn : ClsN X.K nm C) (Mk' : Mk X.K C f)
    (Fo : FnOk X.prog X.w X.K X.mg X.base (CX X.prog X.w) k f fd ps (spF X.K F (m + 1))) (hr : Room (k + 1) X.A) (hg : Gl X x) (hm : X.mg x = some (.ref C)) (hb : Binds X.K fd ps []) (hL : QL X EX (e :: es) L)
    (hLn : ∀ ρ S ds S1, L ρ S = .ok ds S1 → ds.length = m) (hdb : (x == ("__debug__" : Str)) = false := by decide) (he : starEach (e :: es) X.env = (false, eval e X.env) :: starEach es X.env := by rfl) (hpl : (backTo pos (starEach es X.env)).any (·.1) = false := by rfl) :
    QE X EX (.Call (.Name x p) (e :: es) [] pos) (aMake nm F L) := PE.imp (pe_make (E := fun _ _ _ => False) Mk' Fo hr hg hm hb .nil passN hL hdb he hpl) fun σ H Q ⟨w, ρ, S, re, rl, g⟩ => by
  have g' := fin.bind rl g
  refine ⟨w, ρ, S, re, rl, ?_⟩
  cases hq : L ρ S with
  | err e S1 => rw [hq] at g'; exact g'
  | no => rw [hq] at g'; exact g'
  | ok ds S1 =>
    rw [hq] at g'
    intro w1 H1 p1 rl1 vs rds x dx hx hdx hne
    have g1 := fin.get g' p1 rl1
    have rlA := rel_out (o := .own x) rl1 (rl1.noM hdx) (rl1.noF hdx)
    have pA : Post w1 H1 w1 (upd H1 dx (.own x)) := post_out Post.refl hdx
    have hx2 : upd H1 dx (.own x) x = none := by rw [upd_ne (Ne.symm hne)]; exact hx
    have rlB := rel_addM (o := .ins C dx []) (ob := .ins nm [] []) rlA hx2 ⟨C, dx, [], hn, upd_same, rfl, rfl⟩
    have pB := post_addM (o := .ins C dx []) rlA hx2
    have pAB := pA.trans rl1 rlA pB
    have h := fin.rebase rl1 rlB (fin.quiet (EX' := fun w S H e => XOk X.K w (fun _ _ _ => False) H e) g1) pAB
    have hat : (w1.addM x).m[S1.length]? = some x := by
      show (w1.m ++ [x])[S1.length]? = some x
      rw [← rl1.len, List.getElem?_append_right (Nat.le_refl _), Nat.sub_self]; rfl
    refine ⟨by rw [List.append_nil, List.length_cons, ← rds.length, hLn _ _ _ _ hq], w1.addM x, _, .loc S1.length :: ds, rlB, ⟨_, _, rfl, ⟨x, rfl, hat⟩, by rw [List.append_nil]; exact pAB.rds rds⟩, ?_⟩
    refine (fin.bind rlB h).mono fun w2 S2 H2 d p2 rl2 g2 v rd => ?_
    unfold dMade at g2
    split at g2
    · split at g2
      · next nm' ns ds2 e2 =>
        split at g2
        · next c =>
          subst c
          obtain ⟨kk, ek, _⟩ := p2.m
          have hat2 : w2.m[S1.length]? = some x := by
            rw [ek, List.getElem?_append_left (List.getElem?_eq_some_iff.mp hat).1]
            exact hat
          obtain ⟨C', dx', vs', hc, h1, l, r1⟩ := rl2.obj _ x _ hat2 e2
          obtain ⟨rl3, p3⟩ := rel_freeze rl2 hat2 e2 rfl h1
          exact ⟨rd, fin.get g2 p3 rl3 _ ⟨x, C', dx', vs', rfl, hc, upd_same, l, p3.rds r1⟩⟩
        · exact g2.elim
      · exact g2.elim
    · exact g2.elim
/-! methods -/
def insM (nm m : Str) (d : D) (S : List O) : Bool := match insOf d S with
  | some (nm', ns, _) => nm' == nm && !ns.contains m
  | none => false
theorem lookup_no {m : Str} : ∀ {ns : List Str} {vs : List V}, ns.contains m = false → (ns.zip vs).lookup m = none
  | [], _, _ => rfl
  | _ :: _, [], _ => rfl
  | k :: ks, v :: vs, h => by
    rw [List.contains_cons, Bool.or_eq_false_iff] at h
    rw [List.zip_cons_cons, List.lookup_cons, h.1]
    exact lookup_no h.2
theorem insM_rd {K : PySem.W.Frag} {w : W} {S : List O} {H : Hp} {d : D} {v : V} {nm m : Str} {C : Addr} (hn : ClsN K nm C) (rl : Rel K w S H) (rd : RD K w d v) (h : insM nm m d S = true) :
    ∃ a dx fs, v = .ref a ∧ H a = some (.ins C dx fs) ∧ fs.lookup m = none := by
  unfold insM at h
  split at h
  · next nm' ns ds e1 =>
    rw [Bool.and_eq_true, Bool.not_eq_true', beq_iff_eq] at h
    obtain ⟨rfl, h2⟩ := h
    obtain ⟨a, C', dx, vs, ev, hc, h1, l, r1⟩ := ins_rd rl rd e1
    have := hc.uniq hn
    subst this
    exact ⟨a, dx, _, ev, h1, lookup_no h2⟩
  · cases h
def aMethI (nm m : Str) (F : List D → M D) (A : AE) (L : AL) : AE := fun ρ S => (A ρ S).bind fun d S1 => if insM nm m d S1 then (L ρ S1).bind fun ds S2 => quiet (F (d :: ds) S2) else .no
theorem q_methI {nm m : Str} {t : Expr} {C : Addr} {k j : Nat} {F : List D → M D} {L : AL} (hn : ClsN X.K nm C) (h : PE X t (tMeth C m (spF X.K F (j + 1)) [] (fun _ _ _ => False) (tE X.K EX A) (tL X.K EX L)))
    (hLn : ∀ ρ S ds S1, L ρ S = .ok ds S1 → ds.length = j) : QE X EX t (aMethI nm m F A L) := PE.imp h fun σ H Q ⟨w, ρ, S, re, rl, g⟩ =>
  ⟨w, ρ, S, re, rl, (fin.bind rl g).mono fun w1 S1 H1 d p1 rl1 g1 v rd => by
    split at g1
    · next hi =>
      obtain ⟨a, dx, fs, ev, h1, h2⟩ := insM_rd hn rl1 rd hi
      refine ⟨a, dx, fs, ev, h1, h2, w1, ρ, S1, re.mono p1, rl1, ?_⟩
      have g2 := fin.bind rl1 g1
      cases hq : L ρ S1 with
      | err e S2 => rw [hq] at g2; exact g2
      | no => rw [hq] at g2; exact g2.elim
      | ok ds S2 =>
        rw [hq] at g2
        intro w2 H2 p2 rl2 vs rds
        refine ⟨by rw [List.append_nil, List.length_cons, ← rds.length, hLn _ _ _ _ hq], w2, S2, d :: ds, rl2, ⟨v, vs, by rw [List.append_nil], p2.rd rd, rds⟩, fin.quiet (fin.get g2 p2 rl2)⟩
    · exact g1.elim⟩
end
end E

/-! More operators, more methods of lists. -/
namespace E
open PySem L2
def dExtend : D → List D → M D
  | .loc n, [e] => fun S => match S[n]?, dw e S with
    | some (.lst xs), some ys => if small (xs.length + ys.length) then .ok .non (S.set n (.lst (xs ++ ys))) else .no
    | _, _ => .no
  | _, _ => fun _ => .no
theorem ok_extend {K : PySem.W.Frag} {EY : EW} : MetOK K EY rExtend dExtend := by
  intro w S H x xs d ds Q rl rx rds g
  unfold dExtend at g
  split at g
  · next n e =>
    split at g
    · next ys zs e1 e2 =>
      split at g
      · next c =>
        obtain ⟨p, ep, q⟩ := rx
        obtain ⟨u, rfl, ru⟩ := rds1 rds
        obtain ⟨vs, h1, h2⟩ := rl.obj n p _ q e1
        obtain ⟨b, us, rfl, h3, h4⟩ := dw_rd rl ru e2
        have P : Post w H w (upd H p (.lst (vs ++ us))) := post_set rl q
        have rl2 : Rel K w (S.set n (.lst (ys ++ zs))) (upd H p (.lst (vs ++ us))) := rel_set rl q e1 rfl ⟨_, upd_same, h2.append h4⟩
        refine ⟨p, b, vs, us, ep, rfl, h1, h3, ?_, fin.get g P rl2 _ rfl⟩
        have := small_line c
        rw [h2.length, h4.length] at this
        exact this
      · exact g.elim
    · exact g.elim
  · exact g.elim
/-! shifts, figures out of a great number -/
def aShl : D → D → M D
  | .int i, .int j => fun S => if 0 ≤ j ∧ (Builtin.Int.intBits i : Int) + j ≤ 2 ^ 27 then .ok (.int (i * 2 ^ j.toNat)) S else .no
  | _, _ => fun _ => .no
theorem ok_shl {K : PySem.W.Frag} {EX : EW} : OpOK K EX (rI CShl fun i j => .int (i * 2 ^ j.toNat)) aShl := by
  intro w S H x y dx dy Q rl rx ry g
  unfold aShl at g
  split at g
  · next i j =>
    split at g
    · next c => exact ⟨i, j, rx, ry, c, fin.ok rl g _ rfl⟩
    · exact g.elim
  · exact g.elim
def aShr : D → D → M D
  | .int i, .int j => fun S => if 0 ≤ j then .ok (.int (i / 2 ^ j.toNat)) S else .no
  | _, _ => fun _ => .no
theorem ok_shr {K : PySem.W.Frag} {EX : EW} : OpOK K EX (fun x y H Q => ∃ (i : Int) (k : Nat), x = .int i ∧ y = .int (k : Int) ∧ Q (.int (i / 2 ^ k)) H) aShr := by
  intro w S H x y dx dy Q rl rx ry g
  unfold aShr at g
  split at g
  · next i j =>
    split at g
    · next c => exact ⟨i, j.toNat, rx, by rw [show y = .int j from ry, Int.toNat_of_nonneg c], fin.ok rl g _ rfl⟩
    · exact g.elim
  · exact g.elim
def aAndM : D → D → M D
  | .int i, .int m => fun S => if (2 : Int) ^ (m + 1).toNat.log2 = m + 1 then .ok (.int (i % (m + 1))) S else .no
  | _, _ => fun _ => .no
theorem ok_andM {K : PySem.W.Frag} {EX : EW} : OpOK K EX (fun x y H Q => ∃ (i : Int) (k : Nat), x = .int i ∧ y = .int (2 ^ k - 1) ∧ Q (.int (i % 2 ^ k)) H) aAndM := by
  intro w S H x y dx dy Q rl rx ry g
  unfold aAndM at g
  split at g
  · next i m =>
    split at g
    · next c => exact ⟨i, (m + 1).toNat.log2, rx, by rw [show y = .int m from ry, c]; congr 1; omega, by rw [c]; exact fin.ok rl g _ rfl⟩
    · exact g.elim
  · exact g.elim
/-! x *= y -/
def aMulI : D → D → M D
  | .int i, .int j => fun S => if small64 i || small64 j then .ok (.int (i * j)) S else .no
  | _, _ => fun _ => .no
theorem ip_mul {X : Cx} : PIp X .Mult (rI CMul fun i j => .int (i * j)) := iop_mul
theorem ok_ipMul {K : PySem.W.Frag} {EY : EW} : OpOK K EY (rI CMul fun i j => .int (i * j)) aMulI := by
  intro w S H x y dx dy Q rl rx ry g
  unfold aMulI at g
  split at g
  · next i j =>
    split at g
    · next c =>
      simp only [small64, Bool.or_eq_true, Bool.and_eq_true, decide_eq_true_eq] at c
      exact ⟨i, j, rx, ry, c, fin.ok rl g _ rfl⟩
    · exact g.elim
  · exact g.elim
/-! list(range(n)) -/
def dLRng : D → M D
  | .int n => fun S => if 0 ≤ n ∧ n ≤ 100000 then .ok (.lst ((List.range n.toNat).map fun i => D.int ((i : Nat) : Int))) S else .no
  | _ => fun _ => .no
def aLRng (A : AE) : AE := fun ρ S => (A ρ S).bind dLRng
theorem rds_range {K : PySem.W.Frag} {w : W} : ∀ (l : List Nat), RDs K w (l.map fun i => D.int ((i : Nat) : Int)) (l.map fun i => V.int ((i : Nat) : Int))
  | [] => rfl
  | y :: ys => ⟨_, _, rfl, rfl, rds_range ys⟩
theorem q_lrng {X : Cx} {EX : St → EW} {A : AE} {t : Expr} (h : PE X t (tLstRg (tRg1 (tE X.K EX A)))) : QE X EX t (aLRng A) := PE.imp h fun σ H Q ⟨w, ρ, S, re, rl, g⟩ =>
  ⟨w, ρ, S, re, rl, (fin.bind rl g).mono fun w1 S1 H1 d p1 rl1 g1 v rd => by
    unfold dLRng at g1
    split at g1
    · next n =>
      split at g1
      · next c =>
        refine ⟨n, rd, RgOk.of_le (Int.le_refl _) (by omega) (by omega) c.1, ?_⟩
        have e : rgV 0 n = (List.range n.toNat).map fun i => V.int ((i : Nat) : Int) := by
          unfold rgV
          rw [Int.sub_zero]
          exact List.map_congr_left fun i _ => by rw [Int.zero_add]
        rw [e]
        exact new_lst rl1 (rds_range _) g1
      · exact g1.elim
    · exact g1.elim⟩
/-! math.gcd -/
def bGcd : List D → M D
  | [.int i, .int j] => fun S => .ok (.int ((Nat.gcd i.natAbs j.natAbs : Nat) : Int)) S
  | _ => fun _ => .no
theorem ok_gcd {K : PySem.W.Frag} {EX : EW} : CallOK K EX rGcd bGcd := by
  intro w S H xs ds Q rl rds g
  unfold bGcd at g
  split at g
  · next i j =>
    obtain ⟨v, u, rfl, r1, r2⟩ := rds2 rds
    exact ⟨i, j, by rw [show v = .int i from r1, show u = .int j from r2], fin.ok rl g _ rfl⟩
  · exact g.elim
end E

namespace CM
open PySem L2 E
noncomputable def b_is_integer : AS :=
    (aRet (aBin dEq (aCall bType (aCons (aVar 0) aNil)) (aC (.ty "int"))))
noncomputable def F_is_integer : List D → M D := runF 1 b_is_integer
noncomputable def b_joined : AS :=
    (aRet (aTup (aCons (aBin aAdd (aBin dIx (aVar 0) (aC (.int (0)))) (aBin dIx (aVar 1) (aC (.int (0))))) (aCons (aBin aAdd (aBin dIx (aVar 0) (aC (.int (1)))) (aBin dIx (aVar 1) (aC (.int (1))))) (aCons (aBin aAdd (aBin aAdd (aBin dIx (aVar 0) (aC (.int (2)))) (aBin dIx (aVar 1) (aC (.int (2))))) (aBin aMul (aBin dIx (aVar 0) (aC (.int (0)))) (aBin dIx (aVar 1) (aC (.int (1)))))) aNil)))))
noncomputable def F_joined : List D → M D := runF 2 b_joined
noncomputable def b_well : AS :=
    (aSeq (aSetS 2 (aIf (aB (aBin aLt (aVar 1) (aCall bLen (aCons (aVar 0) aNil)))) (aBin dIx (aVar 0) (aVar 1)) (aBin aAdd (aBin aMul (aC (.int (13))) (aVar 1)) (aC (.int (6))))))
    (aSeq (aSetS 3 (aBin aAdd (aC (.int (50021))) (aBin aMul (aC (.int (6007))) (aVar 1))))
    (aSeq (aFor (aItems (aBin aAdd (aSl (aVar 0) aNoPart (aPart (aC (.int (5))))) (aLst (aCons (aVar 2) aNil)))) (aGName 4)
    (aSetS 3 (aBin aMod (aCall bInt (aCons (aBin aAdd (aBin aAdd (aBin aMul (aVar 3) (aC (.int (24611)))) (aBin aMul (aVar 4) (aC (.int (7))))) (aC (.int (307)))) aNil)) (aC (.int (2147483399))))))
    (aRet (aLstM (aCons (aIf (aOr (aB (aBin aLt (aVar 2) (aC (.int (0))))) (aB (aBin aGe (aVar 2) (aBin aPow (aC (.int (10))) (aC (.int (18))))))) (aCall bAbs (aCons (aVar 2) aNil)) (aC (.int (0)))) (aCons (aVar 3) (aCons (aC (.int (0))) aNil))))))))
noncomputable def F_well : List D → M D := runF 5 b_well
noncomputable def b_dip : AS :=
    (aSeq (aAsg (aBin aAdd (aBin dIx (aVar 0) (aC (.int (2)))) (aC (.int (1)))) (aGSub (aVar 0) (aC (.int (2)))))
    (aSeq (aIf (aB (aBin aGt (aBin dIx (aVar 0) (aC (.int (0)))) (aC (.int (0))))) (aSeq (aAsg (aCall bDivmod (aCons (aBin dIx (aVar 0) (aC (.int (0)))) (aCons (aVar 1) aNil))) (aGTup 2 (aGCons (aGSub (aVar 0) (aC (.int (0)))) (aGCons (aGName 2) aGNil))))
    (aRet (aVar 2)))
    aNext)
    (aSeq (aSetS 3 (aBin aAdd (aC (.int (20011))) (aBin aMul (aC (.int (2))) (aBin dIx (aVar 0) (aC (.int (2)))))))
    (aSeq (aAsg (aBin aMod (aCall bInt (aCons (aBin aAdd (aBin aAdd (aBin aMul (aBin dIx (aVar 0) (aC (.int (1)))) (aVar 3)) (aBin aMul (aC (.int (70001))) (aBin dIx (aVar 0) (aC (.int (2)))))) (aC (.int (1)))) aNil)) (aC (.int (2147483399)))) (aGSub (aVar 0) (aC (.int (1)))))
    (aRet (aBin aMod (aCall bInt (aCons (aBin aDiv (aBin dIx (aVar 0) (aC (.int (1)))) (aC (.int (640)))) aNil)) (aVar 1)))))))
noncomputable def F_dip : List D → M D := runF 4 b_dip
noncomputable def b_is_move : AS :=
    (aRet (aAndV (aBin dEq (aCall bType (aCons (aVar 0) aNil)) (aC (.ty "tuple"))) (aAndV (aBin dEq (aCall bLen (aCons (aVar 0) aNil)) (aC (.int (3)))) (aCall bAll (aCons (aComp (aItems (aVar 0)) (aGName 1) aYes (aCall F_is_integer (aCons (aVar 1) aNil)) [1]) aNil)))))
noncomputable def F_is_move : List D → M D := runF 2 b_is_move
noncomputable def b_number : AS :=
    (aSeq (aSetS 1 (aCall F_dip (aCons (aVar 0) (aCons (aC (.int (6))) aNil))))
    (aSeq (aSetS 2 (aCall F_dip (aCons (aVar 0) (aCons (aBin dIx (aLst (aCons (aC (.int (4))) (aCons (aC (.int (12))) (aCons (aC (.int (1000))) (aCons (aBin aPow (aC (.int (10))) (aC (.int (6)))) (aCons (aBin aPow (aC (.int (10))) (aC (.int (6)))) (aCons (aBin aPow (aC (.int (10))) (aC (.int (6)))) aNil))))))) (aVar 1)) aNil))))
    (aSeq (aFor (aRange1 (aCons (aBin dIx (aLst (aCons (aC (.int (0))) (aCons (aC (.int (0))) (aCons (aC (.int (0))) (aCons (aC (.int (0))) (aCons (aC (.int (2))) (aCons (aC (.int (4))) aNil))))))) (aVar 1)) aNil)) (aGName 3)
    (aSetS 2 (aBin aAdd (aBin aMul (aVar 2) (aBin aPow (aC (.int (10))) (aC (.int (6))))) (aCall F_dip (aCons (aVar 0) (aCons (aBin aPow (aC (.int (10))) (aC (.int (6)))) aNil))))))
    (aRet (aIf (aB (aBin dEq (aCall F_dip (aCons (aVar 0) (aCons (aC (.int (2))) aNil))) (aC (.int (0))))) (aVar 2) (aBin aSub (aC (.int (0))) (aVar 2)))))))
noncomputable def F_number : List D → M D := runF 4 b_number
noncomputable def b_need_move : AS :=
    (aIf (aNot (aB (aCall F_is_move (aCons (aVar 0) aNil)))) (fun _ _ => .no)
    aNext)
noncomputable def F_need_move : List D → M D := runF 1 b_need_move
noncomputable def b_after : AS :=
    (aSeq (aIf (aB (aBin dNe (aCall bType (aCons (aVar 0) aNil)) (aC (.ty "tuple")))) (fun _ _ => .no)
    aNext)
    (aSeq (aFor (aEnum (aCons (aVar 0) aNil)) (aGTup 2 (aGCons (aGName 1) (aGCons (aGName 2) aGNil)))
    (aIf (aNot (aB (aCall F_is_move (aCons (aVar 2) aNil)))) (fun _ _ => .no)
    aNext))
    (aSeq (aSetS 3 (aC (.tup [(.int (0)), (.int (0)), (.int (0))])))
    (aSeq (aFor (aItems (aVar 0)) (aGName 2)
    (aSetS 3 (aCall F_joined (aCons (aVar 3) (aCons (aVar 2) aNil)))))
    (aRet (aVar 3))))))
noncomputable def F_after : List D → M D := runF 4 b_after
noncomputable def b_drawn : AS :=
    (aSeq (aSetS 1 (aCall F_dip (aCons (aVar 0) (aCons (aC (.int (4))) aNil))))
    (aSeq (aIf (aB (aBin dEq (aVar 1) (aC (.int (0))))) (aRet (aTup (aCons (aBin aSub (aCall F_dip (aCons (aVar 0) (aCons (aC (.int (7))) aNil))) (aC (.int (3)))) (aCons (aBin aSub (aCall F_dip (aCons (aVar 0) (aCons (aC (.int (7))) aNil))) (aC (.int (3)))) (aCons (aBin aSub (aCall F_dip (aCons (aVar 0) (aCons (aC (.int (9))) aNil))) (aC (.int (4)))) aNil)))))
    aNext)
    (aSeq (aSetS 2 (aLstM (aCons (aCall F_number (aCons (aVar 0) aNil)) (aCons (aCall F_number (aCons (aVar 0) aNil)) (aCons (aCall F_number (aCons (aVar 0) aNil)) aNil)))))
    (aSeq (aIf (aB (aBin dEq (aVar 1) (aC (.int (1))))) (aAsg (aC (.int (0))) (aGSub (aVar 2) (aCall F_dip (aCons (aVar 0) (aCons (aC (.int (3))) aNil)))))
    aNext)
    (aRet (aTup (aCons (aBin dIx (aVar 2) (aC (.int (0)))) (aCons (aBin dIx (aVar 2) (aC (.int (1)))) (aCons (aBin dIx (aVar 2) (aC (.int (2)))) aNil)))))))))
noncomputable def F_drawn : List D → M D := runF 3 b_drawn
noncomputable def b_then : AS :=
    (aSeq (aDrop (aCall F_need_move (aCons (aVar 0) aNil)))
    (aSeq (aDrop (aCall F_need_move (aCons (aVar 1) aNil)))
    (aRet (aCall F_joined (aCons (aVar 0) (aCons (aVar 1) aNil))))))
noncomputable def F_then : List D → M D := runF 2 b_then

theorem wset0 {n : Nat} {S : List O} {x y z d : D} (e : S[n]? = some (.lst [x, y, z])) : dSet (.loc n) (.int 0) d S = .ok () (S.set n (.lst [d, y, z])) := by
  unfold dSet; simp only [e]; rfl
theorem wset1 {n : Nat} {S : List O} {x y z d : D} (e : S[n]? = some (.lst [x, y, z])) : dSet (.loc n) (.int 1) d S = .ok () (S.set n (.lst [x, d, z])) := by
  unfold dSet; simp only [e]; rfl
theorem wset2 {n : Nat} {S : List O} {x y z d : D} (e : S[n]? = some (.lst [x, y, z])) : dSet (.loc n) (.int 2) d S = .ok () (S.set n (.lst [x, y, d])) := by
  unfold dSet; simp only [e]; rfl
theorem F_joined_ev {a b c d e f : Int} {S : List O} {R : D → List O → Prop} (h : mulOk a e = true) (k : R (.tup [.int (a + d), .int (b + e), .int (c + f + a * e)]) S) : ev (F_joined [.tup [.int a, .int b, .int c], .tup [.int d, .int e, .int f]] S) R := by
  simp only [F_joined, b_joined, runF, aRet, aRetN, aSeq, aNext, aDrop, aSetS, aAsg, aGName, gtup, gcons, gnil, aGSub, aPar, aPar3, aIf, aB, bOf_b, aAnd, aOr, aNot, aAndV, aOrV, aNotV, aChain, aBin, aUn, aCall, aCons, aNil, aTup, aLst, aLstM, aC, aIsN, aNotN, isN_n, isN_i, isN_t, isN_s, isN_l, isN_b, aSl, aNoPart, aPart, iOf_i, aFor, aItems, aRange1, aRange2, ev_methL, aYes, v0, v1, v2, v3, v4, v5, v6, v7, v8, v9, v10, v11, v12, v13, add_ii, add_ss, add_tt, add_ll, sub_ii, mul_ii, div_ii, mod_ii, pow_6, pow_18, pow_30, neg_i, lt_ii, le_ii, gt_ii, ge_ii, eq_ii, ne_ii, eq_ss, ne_ss, eq_tyty, ne_tyty, ix_t0, ix_t1, ix_t2, ix_l0, ix_l1, ix_l2, len_t, len_l, len_f, int_i, abs_i, max_ii, min_ii, divmod_ii, tuple_l, tuple_t, list_l, list_t, type_i, type_t, type_s, items_l, items_t, items_f, items_s, sl_l, sl_f, sl_t, ev_bind, ev_ok, ev_sel, ev_guard, bind_ok, List.map_cons, List.map_nil, List.length_cons, List.length_nil, List.cons_append, List.nil_append, List.set_cons_zero, List.set_cons_succ, List.replicate_succ, List.replicate_zero, Nat.reduceAdd, Nat.reduceSub, br_true, br_false, decide_true, decide_false, Bool.not_true, Bool.not_false, Bool.and_self, Bool.and_true, Bool.true_and, true_and, and_true, small_0, small_1, small_2, small_3, small_4, small_5, small_6, small_7, small_8, mulOk_0, mulOk_1, mulOk_2, mulOk_r0, mulOk_r1, mulOk_r2, k1_eq, k12_eq, k21_eq]
  exact ⟨h, k⟩
theorem F_dip_ev {n : Nat} {k : Int} {S : List O} {R : D → List O → Prop} (hw : Well n S) (h0 : 0 < k) (h1 : k < 1073741824) (q : ∀ (r : Int) S', 0 ≤ r → r < k → Well n S' → Keep n S S' → R (.int r) S') : ev (F_dip [.loc n, .int k] S) R := by
  obtain ⟨a, b, c, e, hb1, hb2⟩ := hw
  simp only [F_dip, b_dip, runF, aRet, aRetN, aSeq, aNext, aDrop, aSetS, aAsg, aGName, gtup, gcons, gnil, aGSub, aPar, aPar3, aIf, aB, bOf_b, aAnd, aOr, aNot, aAndV, aOrV, aNotV, aChain, aBin, aUn, aCall, aCons, aNil, aTup, aLst, aLstM, aC, aIsN, aNotN, isN_n, isN_i, isN_t, isN_s, isN_l, isN_b, aSl, aNoPart, aPart, iOf_i, aFor, aItems, aRange1, aRange2, ev_methL, aYes, v0, v1, v2, v3, v4, v5, v6, v7, v8, v9, v10, v11, v12, v13, add_ii, add_ss, add_tt, add_ll, sub_ii, mul_ii, div_ii, mod_ii, pow_6, pow_18, pow_30, neg_i, lt_ii, le_ii, gt_ii, ge_ii, eq_ii, ne_ii, eq_ss, ne_ss, eq_tyty, ne_tyty, ix_t0, ix_t1, ix_t2, ix_l0, ix_l1, ix_l2, len_t, len_l, len_f, int_i, abs_i, max_ii, min_ii, divmod_ii, tuple_l, tuple_t, list_l, list_t, type_i, type_t, type_s, items_l, items_t, items_f, items_s, sl_l, sl_f, sl_t, ev_bind, ev_ok, ev_sel, ev_guard, bind_ok, List.map_cons, List.map_nil, List.length_cons, List.length_nil, List.cons_append, List.nil_append, List.set_cons_zero, List.set_cons_succ, List.replicate_succ, List.replicate_zero, Nat.reduceAdd, Nat.reduceSub, br_true, br_false, decide_true, decide_false, Bool.not_true, Bool.not_false, Bool.and_self, Bool.and_true, Bool.true_and, true_and, and_true, small_0, small_1, small_2, small_3, small_4, small_5, small_6, small_7, small_8, mulOk_0, mulOk_1, mulOk_2, mulOk_r0, mulOk_r1, mulOk_r2, k1_eq, k12_eq, k21_eq, ix_loc e at_2]
  rw [wset2 e]
  have e1 : (S.set n (.lst [.int a, .int b, .int (c + 1)]))[n]? = some (.lst [.int a, .int b, .int (c + 1)]) := set_get e
  have k1 : Keep n S (S.set n (.lst [.int a, .int b, .int (c + 1)])) := Keep.set
  generalize S.set n (.lst [.int a, .int b, .int (c + 1)]) = S1 at e1 k1
  simp only [aRet, aRetN, aSeq, aNext, aDrop, aSetS, aAsg, aGName, gtup, gcons, gnil, aGSub, aPar, aPar3, aIf, aB, bOf_b, aAnd, aOr, aNot, aAndV, aOrV, aNotV, aChain, aBin, aUn, aCall, aCons, aNil, aTup, aLst, aLstM, aC, aIsN, aNotN, isN_n, isN_i, isN_t, isN_s, isN_l, isN_b, aSl, aNoPart, aPart, iOf_i, aFor, aItems, aRange1, aRange2, ev_methL, aYes, v0, v1, v2, v3, v4, v5, v6, v7, v8, v9, v10, v11, v12, v13, add_ii, add_ss, add_tt, add_ll, sub_ii, mul_ii, div_ii, mod_ii, pow_6, pow_18, pow_30, neg_i, lt_ii, le_ii, gt_ii, ge_ii, eq_ii, ne_ii, eq_ss, ne_ss, eq_tyty, ne_tyty, ix_t0, ix_t1, ix_t2, ix_l0, ix_l1, ix_l2, len_t, len_l, len_f, int_i, abs_i, max_ii, min_ii, divmod_ii, tuple_l, tuple_t, list_l, list_t, type_i, type_t, type_s, items_l, items_t, items_f, items_s, sl_l, sl_f, sl_t, ev_bind, ev_ok, ev_sel, ev_guard, bind_ok, List.map_cons, List.map_nil, List.length_cons, List.length_nil, List.cons_append, List.nil_append, List.set_cons_zero, List.set_cons_succ, List.replicate_succ, List.replicate_zero, Nat.reduceAdd, Nat.reduceSub, br_true, br_false, decide_true, decide_false, Bool.not_true, Bool.not_false, Bool.and_self, Bool.and_true, Bool.true_and, true_and, and_true, small_0, small_1, small_2, small_3, small_4, small_5, small_6, small_7, small_8, mulOk_0, mulOk_1, mulOk_2, mulOk_r0, mulOk_r1, mulOk_r2, k1_eq, k12_eq, k21_eq, ix_loc e1 at_0, ix_loc e1 at_1, ix_loc e1 at_2]
  refine Z.brD (fun h => ?_) fun h => ?_
  try simp only [aRet, aRetN, aSeq, aNext, aDrop, aSetS, aAsg, aGName, gtup, gcons, gnil, aGSub, aPar, aPar3, aIf, aB, bOf_b, aAnd, aOr, aNot, aAndV, aOrV, aNotV, aChain, aBin, aUn, aCall, aCons, aNil, aTup, aLst, aLstM, aC, aIsN, aNotN, isN_n, isN_i, isN_t, isN_s, isN_l, isN_b, aSl, aNoPart, aPart, iOf_i, aFor, aItems, aRange1, aRange2, ev_methL, aYes, v0, v1, v2, v3, v4, v5, v6, v7, v8, v9, v10, v11, v12, v13, add_ii, add_ss, add_tt, add_ll, sub_ii, mul_ii, div_ii, mod_ii, pow_6, pow_18, pow_30, neg_i, lt_ii, le_ii, gt_ii, ge_ii, eq_ii, ne_ii, eq_ss, ne_ss, eq_tyty, ne_tyty, ix_t0, ix_t1, ix_t2, ix_l0, ix_l1, ix_l2, len_t, len_l, len_f, int_i, abs_i, max_ii, min_ii, divmod_ii, tuple_l, tuple_t, list_l, list_t, type_i, type_t, type_s, items_l, items_t, items_f, items_s, sl_l, sl_f, sl_t, ev_bind, ev_ok, ev_sel, ev_guard, bind_ok, List.map_cons, List.map_nil, List.length_cons, List.length_nil, List.cons_append, List.nil_append, List.set_cons_zero, List.set_cons_succ, List.replicate_succ, List.replicate_zero, Nat.reduceAdd, Nat.reduceSub, br_true, br_false, decide_true, decide_false, Bool.not_true, Bool.not_false, Bool.and_self, Bool.and_true, Bool.true_and, true_and, and_true, small_0, small_1, small_2, small_3, small_4, small_5, small_6, small_7, small_8, mulOk_0, mulOk_1, mulOk_2, mulOk_r0, mulOk_r1, mulOk_r2, k1_eq, k12_eq, k21_eq]
  · refine ⟨by simp only [divOk2, h0, h1, decide_true, Bool.and_self], ?_⟩
    rw [wset0 e1]
    try simp only [aRet, aRetN, aSeq, aNext, aDrop, aSetS, aAsg, aGName, gtup, gcons, gnil, aGSub, aPar, aPar3, aIf, aB, bOf_b, aAnd, aOr, aNot, aAndV, aOrV, aNotV, aChain, aBin, aUn, aCall, aCons, aNil, aTup, aLst, aLstM, aC, aIsN, aNotN, isN_n, isN_i, isN_t, isN_s, isN_l, isN_b, aSl, aNoPart, aPart, iOf_i, aFor, aItems, aRange1, aRange2, ev_methL, aYes, v0, v1, v2, v3, v4, v5, v6, v7, v8, v9, v10, v11, v12, v13, add_ii, add_ss, add_tt, add_ll, sub_ii, mul_ii, div_ii, mod_ii, pow_6, pow_18, pow_30, neg_i, lt_ii, le_ii, gt_ii, ge_ii, eq_ii, ne_ii, eq_ss, ne_ss, eq_tyty, ne_tyty, ix_t0, ix_t1, ix_t2, ix_l0, ix_l1, ix_l2, len_t, len_l, len_f, int_i, abs_i, max_ii, min_ii, divmod_ii, tuple_l, tuple_t, list_l, list_t, type_i, type_t, type_s, items_l, items_t, items_f, items_s, sl_l, sl_f, sl_t, ev_bind, ev_ok, ev_sel, ev_guard, bind_ok, List.map_cons, List.map_nil, List.length_cons, List.length_nil, List.cons_append, List.nil_append, List.set_cons_zero, List.set_cons_succ, List.replicate_succ, List.replicate_zero, Nat.reduceAdd, Nat.reduceSub, br_true, br_false, decide_true, decide_false, Bool.not_true, Bool.not_false, Bool.and_self, Bool.and_true, Bool.true_and, true_and, and_true, small_0, small_1, small_2, small_3, small_4, small_5, small_6, small_7, small_8, mulOk_0, mulOk_1, mulOk_2, mulOk_r0, mulOk_r1, mulOk_r2, k1_eq, k12_eq, k21_eq]
    exact q _ _ (Int.emod_nonneg _ (by omega)) (Int.emod_lt_of_pos _ h0) ⟨_, _, _, set_get e1, hb1, hb2⟩ (k1.trans .set)
  · refine ⟨mulOkL hb1 hb2, mulOkL (by decide) (by decide), rfl, ?_⟩
    have hm : ∀ x : Int, 0 ≤ rm x 2147483399 ∧ rm x 2147483399 < 2147483399 := fun x => by
      rw [rm_pos (by decide)]
      exact ⟨Int.emod_nonneg _ (by decide), Int.emod_lt_of_pos _ (by decide)⟩
    obtain ⟨g1, g2⟩ := hm (b * (20011 + 2 * (c + 1)) + 70001 * (c + 1) + 1)
    generalize rm (b * (20011 + 2 * (c + 1)) + 70001 * (c + 1) + 1) 2147483399 = m at g1 g2
    rw [wset1 e1]
    have e2 : (S1.set n (.lst [.int a, .int m, .int (c + 1)]))[n]? = some (.lst [.int a, .int m, .int (c + 1)]) := set_get e1
    simp only [aRet, aRetN, aSeq, aNext, aDrop, aSetS, aAsg, aGName, gtup, gcons, gnil, aGSub, aPar, aPar3, aIf, aB, bOf_b, aAnd, aOr, aNot, aAndV, aOrV, aNotV, aChain, aBin, aUn, aCall, aCons, aNil, aTup, aLst, aLstM, aC, aIsN, aNotN, isN_n, isN_i, isN_t, isN_s, isN_l, isN_b, aSl, aNoPart, aPart, iOf_i, aFor, aItems, aRange1, aRange2, ev_methL, aYes, v0, v1, v2, v3, v4, v5, v6, v7, v8, v9, v10, v11, v12, v13, add_ii, add_ss, add_tt, add_ll, sub_ii, mul_ii, div_ii, mod_ii, pow_6, pow_18, pow_30, neg_i, lt_ii, le_ii, gt_ii, ge_ii, eq_ii, ne_ii, eq_ss, ne_ss, eq_tyty, ne_tyty, ix_t0, ix_t1, ix_t2, ix_l0, ix_l1, ix_l2, len_t, len_l, len_f, int_i, abs_i, max_ii, min_ii, divmod_ii, tuple_l, tuple_t, list_l, list_t, type_i, type_t, type_s, items_l, items_t, items_f, items_s, sl_l, sl_f, sl_t, ev_bind, ev_ok, ev_sel, ev_guard, bind_ok, List.map_cons, List.map_nil, List.length_cons, List.length_nil, List.cons_append, List.nil_append, List.set_cons_zero, List.set_cons_succ, List.replicate_succ, List.replicate_zero, Nat.reduceAdd, Nat.reduceSub, br_true, br_false, decide_true, decide_false, Bool.not_true, Bool.not_false, Bool.and_self, Bool.and_true, Bool.true_and, true_and, and_true, small_0, small_1, small_2, small_3, small_4, small_5, small_6, small_7, small_8, mulOk_0, mulOk_1, mulOk_2, mulOk_r0, mulOk_r1, mulOk_r2, k1_eq, k12_eq, k21_eq, ix_loc e2 at_1]
    refine ⟨rfl, decide_eq_true (by omega), ?_⟩
    rw [rm_pos h0]
    exact q _ _ (Int.emod_nonneg _ (by omega)) (Int.emod_lt_of_pos _ h0) ⟨_, _, _, e2, by omega, by omega⟩ (k1.trans .set)
theorem ix_menu {ns : List Int} {i : Int} {S : List O} {R : D → List O → Prop} (h0 : 0 ≤ i) (h1 : i < ns.length) (q : ∀ m ∈ ns, R (.int m) S) : ev (dIx (.lst (ns.map D.int)) (.int i) S) R := by
  have hj : i.toNat < ns.length := by omega
  have e : i = (i.toNat : Int) := by omega
  have h2 : atI (ns.map D.int) i = some (.int ns[i.toNat]) := by
    have h3 : (ns.map D.int)[i.toNat]? = some (.int ns[i.toNat]) := by rw [List.getElem?_map, List.getElem?_eq_getElem hj]; rfl
    have h4 := at_nat h3
    rw [← e] at h4
    exact h4
  exact ev_of (ix_lst h2) (q _ (List.getElem_mem hj))
theorem F_number_ev {n : Nat} {S : List O} {R : D → List O → Prop} (hw : Well n S) (q : ∀ (r : Int) S', Z.bd 100 r → Well n S' → Keep n S S' → R (.int r) S') : ev (F_number [.loc n] S) R := by
  simp only [F_number, b_number, runF, aRet, aRetN, aSeq, aNext, aDrop, aSetS, aAsg, aGName, gtup, gcons, gnil, aGSub, aPar, aPar3, aIf, aB, bOf_b, aAnd, aOr, aNot, aAndV, aOrV, aNotV, aChain, aBin, aUn, aCall, aCons, aNil, aTup, aLst, aLstM, aC, aIsN, aNotN, isN_n, isN_i, isN_t, isN_s, isN_l, isN_b, aSl, aNoPart, aPart, iOf_i, aFor, aItems, aRange1, aRange2, ev_methL, aYes, v0, v1, v2, v3, v4, v5, v6, v7, v8, v9, v10, v11, v12, v13, add_ii, add_ss, add_tt, add_ll, sub_ii, mul_ii, div_ii, mod_ii, pow_6, pow_18, pow_30, neg_i, lt_ii, le_ii, gt_ii, ge_ii, eq_ii, ne_ii, eq_ss, ne_ss, eq_tyty, ne_tyty, ix_t0, ix_t1, ix_t2, ix_l0, ix_l1, ix_l2, len_t, len_l, len_f, int_i, abs_i, max_ii, min_ii, divmod_ii, tuple_l, tuple_t, list_l, list_t, type_i, type_t, type_s, items_l, items_t, items_f, items_s, sl_l, sl_f, sl_t, ev_bind, ev_ok, ev_sel, ev_guard, bind_ok, List.map_cons, List.map_nil, List.length_cons, List.length_nil, List.cons_append, List.nil_append, List.set_cons_zero, List.set_cons_succ, List.replicate_succ, List.replicate_zero, Nat.reduceAdd, Nat.reduceSub, br_true, br_false, decide_true, decide_false, Bool.not_true, Bool.not_false, Bool.and_self, Bool.and_true, Bool.true_and, true_and, and_true, small_0, small_1, small_2, small_3, small_4, small_5, small_6, small_7, small_8, mulOk_0, mulOk_1, mulOk_2, mulOk_r0, mulOk_r1, mulOk_r2, k1_eq, k12_eq, k21_eq]
  refine F_dip_ev hw (by decide) (by decide) fun way S1 hw0 hw1 W1 K1 => ?_
  try simp only [aRet, aRetN, aSeq, aNext, aDrop, aSetS, aAsg, aGName, gtup, gcons, gnil, aGSub, aPar, aPar3, aIf, aB, bOf_b, aAnd, aOr, aNot, aAndV, aOrV, aNotV, aChain, aBin, aUn, aCall, aCons, aNil, aTup, aLst, aLstM, aC, aIsN, aNotN, isN_n, isN_i, isN_t, isN_s, isN_l, isN_b, aSl, aNoPart, aPart, iOf_i, aFor, aItems, aRange1, aRange2, ev_methL, aYes, v0, v1, v2, v3, v4, v5, v6, v7, v8, v9, v10, v11, v12, v13, add_ii, add_ss, add_tt, add_ll, sub_ii, mul_ii, div_ii, mod_ii, pow_6, pow_18, pow_30, neg_i, lt_ii, le_ii, gt_ii, ge_ii, eq_ii, ne_ii, eq_ss, ne_ss, eq_tyty, ne_tyty, ix_t0, ix_t1, ix_t2, ix_l0, ix_l1, ix_l2, len_t, len_l, len_f, int_i, abs_i, max_ii, min_ii, divmod_ii, tuple_l, tuple_t, list_l, list_t, type_i, type_t, type_s, items_l, items_t, items_f, items_s, sl_l, sl_f, sl_t, ev_bind, ev_ok, ev_sel, ev_guard, bind_ok, List.map_cons, List.map_nil, List.length_cons, List.length_nil, List.cons_append, List.nil_append, List.set_cons_zero, List.set_cons_succ, List.replicate_succ, List.replicate_zero, Nat.reduceAdd, Nat.reduceSub, br_true, br_false, decide_true, decide_false, Bool.not_true, Bool.not_false, Bool.and_self, Bool.and_true, Bool.true_and, true_and, and_true, small_0, small_1, small_2, small_3, small_4, small_5, small_6, small_7, small_8, mulOk_0, mulOk_1, mulOk_2, mulOk_r0, mulOk_r1, mulOk_r2, k1_eq, k12_eq, k21_eq]
  refine ix_menu (ns := [4, 12, 1000, 1000000, 1000000, 1000000]) hw0 hw1 fun m hm => ?_
  try simp only [aRet, aRetN, aSeq, aNext, aDrop, aSetS, aAsg, aGName, gtup, gcons, gnil, aGSub, aPar, aPar3, aIf, aB, bOf_b, aAnd, aOr, aNot, aAndV, aOrV, aNotV, aChain, aBin, aUn, aCall, aCons, aNil, aTup, aLst, aLstM, aC, aIsN, aNotN, isN_n, isN_i, isN_t, isN_s, isN_l, isN_b, aSl, aNoPart, aPart, iOf_i, aFor, aItems, aRange1, aRange2, ev_methL, aYes, v0, v1, v2, v3, v4, v5, v6, v7, v8, v9, v10, v11, v12, v13, add_ii, add_ss, add_tt, add_ll, sub_ii, mul_ii, div_ii, mod_ii, pow_6, pow_18, pow_30, neg_i, lt_ii, le_ii, gt_ii, ge_ii, eq_ii, ne_ii, eq_ss, ne_ss, eq_tyty, ne_tyty, ix_t0, ix_t1, ix_t2, ix_l0, ix_l1, ix_l2, len_t, len_l, len_f, int_i, abs_i, max_ii, min_ii, divmod_ii, tuple_l, tuple_t, list_l, list_t, type_i, type_t, type_s, items_l, items_t, items_f, items_s, sl_l, sl_f, sl_t, ev_bind, ev_ok, ev_sel, ev_guard, bind_ok, List.map_cons, List.map_nil, List.length_cons, List.length_nil, List.cons_append, List.nil_append, List.set_cons_zero, List.set_cons_succ, List.replicate_succ, List.replicate_zero, Nat.reduceAdd, Nat.reduceSub, br_true, br_false, decide_true, decide_false, Bool.not_true, Bool.not_false, Bool.and_self, Bool.and_true, Bool.true_and, true_and, and_true, small_0, small_1, small_2, small_3, small_4, small_5, small_6, small_7, small_8, mulOk_0, mulOk_1, mulOk_2, mulOk_r0, mulOk_r1, mulOk_r2, k1_eq, k12_eq, k21_eq]
  have hm1 : 0 < m ∧ m ≤ 1000000 := by
    simp only [List.mem_cons, List.not_mem_nil, or_false] at hm
    omega
  refine F_dip_ev W1 hm1.1 (by omega) fun f0 S2 hf0 hf1 W2 K2 => ?_
  try simp only [aRet, aRetN, aSeq, aNext, aDrop, aSetS, aAsg, aGName, gtup, gcons, gnil, aGSub, aPar, aPar3, aIf, aB, bOf_b, aAnd, aOr, aNot, aAndV, aOrV, aNotV, aChain, aBin, aUn, aCall, aCons, aNil, aTup, aLst, aLstM, aC, aIsN, aNotN, isN_n, isN_i, isN_t, isN_s, isN_l, isN_b, aSl, aNoPart, aPart, iOf_i, aFor, aItems, aRange1, aRange2, ev_methL, aYes, v0, v1, v2, v3, v4, v5, v6, v7, v8, v9, v10, v11, v12, v13, add_ii, add_ss, add_tt, add_ll, sub_ii, mul_ii, div_ii, mod_ii, pow_6, pow_18, pow_30, neg_i, lt_ii, le_ii, gt_ii, ge_ii, eq_ii, ne_ii, eq_ss, ne_ss, eq_tyty, ne_tyty, ix_t0, ix_t1, ix_t2, ix_l0, ix_l1, ix_l2, len_t, len_l, len_f, int_i, abs_i, max_ii, min_ii, divmod_ii, tuple_l, tuple_t, list_l, list_t, type_i, type_t, type_s, items_l, items_t, items_f, items_s, sl_l, sl_f, sl_t, ev_bind, ev_ok, ev_sel, ev_guard, bind_ok, List.map_cons, List.map_nil, List.length_cons, List.length_nil, List.cons_append, List.nil_append, List.set_cons_zero, List.set_cons_succ, List.replicate_succ, List.replicate_zero, Nat.reduceAdd, Nat.reduceSub, br_true, br_false, decide_true, decide_false, Bool.not_true, Bool.not_false, Bool.and_self, Bool.and_true, Bool.true_and, true_and, and_true, small_0, small_1, small_2, small_3, small_4, small_5, small_6, small_7, small_8, mulOk_0, mulOk_1, mulOk_2, mulOk_r0, mulOk_r1, mulOk_r2, k1_eq, k12_eq, k21_eq]
  refine ix_menu (ns := [0, 0, 0, 0, 2, 4]) hw0 hw1 fun m2 hm2 => ?_
  try simp only [aRet, aRetN, aSeq, aNext, aDrop, aSetS, aAsg, aGName, gtup, gcons, gnil, aGSub, aPar, aPar3, aIf, aB, bOf_b, aAnd, aOr, aNot, aAndV, aOrV, aNotV, aChain, aBin, aUn, aCall, aCons, aNil, aTup, aLst, aLstM, aC, aIsN, aNotN, isN_n, isN_i, isN_t, isN_s, isN_l, isN_b, aSl, aNoPart, aPart, iOf_i, aFor, aItems, aRange1, aRange2, ev_methL, aYes, v0, v1, v2, v3, v4, v5, v6, v7, v8, v9, v10, v11, v12, v13, add_ii, add_ss, add_tt, add_ll, sub_ii, mul_ii, div_ii, mod_ii, pow_6, pow_18, pow_30, neg_i, lt_ii, le_ii, gt_ii, ge_ii, eq_ii, ne_ii, eq_ss, ne_ss, eq_tyty, ne_tyty, ix_t0, ix_t1, ix_t2, ix_l0, ix_l1, ix_l2, len_t, len_l, len_f, int_i, abs_i, max_ii, min_ii, divmod_ii, tuple_l, tuple_t, list_l, list_t, type_i, type_t, type_s, items_l, items_t, items_f, items_s, sl_l, sl_f, sl_t, ev_bind, ev_ok, ev_sel, ev_guard, bind_ok, List.map_cons, List.map_nil, List.length_cons, List.length_nil, List.cons_append, List.nil_append, List.set_cons_zero, List.set_cons_succ, List.replicate_succ, List.replicate_zero, Nat.reduceAdd, Nat.reduceSub, br_true, br_false, decide_true, decide_false, Bool.not_true, Bool.not_false, Bool.and_self, Bool.and_true, Bool.true_and, true_and, and_true, small_0, small_1, small_2, small_3, small_4, small_5, small_6, small_7, small_8, mulOk_0, mulOk_1, mulOk_2, mulOk_r0, mulOk_r1, mulOk_r2, k1_eq, k12_eq, k21_eq]
  have hm3 : m2.toNat ≤ 4 ∧ 0 ≤ m2 ∧ m2 ≤ 4 := by
    simp only [List.mem_cons, List.not_mem_nil, or_false] at hm2
    omega
  try rw [ev_guard]
  refine ⟨⟨by omega, by omega⟩, ?_⟩
  try rw [ev_ok]
  refine ev_loop (fun i ρ S' => ∃ (f : Int) (c : Option D), ρ = [some (.loc n), some (.int way), some (.int f), c] ∧ 0 ≤ f ∧ f < 1000000 ^ (i + 1) ∧ Well n S' ∧ Keep n S S') _ 0 _ _ ⟨f0, none, rfl, hf0, by omega, W2, K1.trans K2⟩ ?_ ?_
  · rintro j d ρ S' hd ⟨f, c, rfl, h0, h1, W, K⟩
    try simp only [aRet, aRetN, aSeq, aNext, aDrop, aSetS, aAsg, aGName, gtup, gcons, gnil, aGSub, aPar, aPar3, aIf, aB, bOf_b, aAnd, aOr, aNot, aAndV, aOrV, aNotV, aChain, aBin, aUn, aCall, aCons, aNil, aTup, aLst, aLstM, aC, aIsN, aNotN, isN_n, isN_i, isN_t, isN_s, isN_l, isN_b, aSl, aNoPart, aPart, iOf_i, aFor, aItems, aRange1, aRange2, ev_methL, aYes, v0, v1, v2, v3, v4, v5, v6, v7, v8, v9, v10, v11, v12, v13, add_ii, add_ss, add_tt, add_ll, sub_ii, mul_ii, div_ii, mod_ii, pow_6, pow_18, pow_30, neg_i, lt_ii, le_ii, gt_ii, ge_ii, eq_ii, ne_ii, eq_ss, ne_ss, eq_tyty, ne_tyty, ix_t0, ix_t1, ix_t2, ix_l0, ix_l1, ix_l2, len_t, len_l, len_f, int_i, abs_i, max_ii, min_ii, divmod_ii, tuple_l, tuple_t, list_l, list_t, type_i, type_t, type_s, items_l, items_t, items_f, items_s, sl_l, sl_f, sl_t, ev_bind, ev_ok, ev_sel, ev_guard, bind_ok, List.map_cons, List.map_nil, List.length_cons, List.length_nil, List.cons_append, List.nil_append, List.set_cons_zero, List.set_cons_succ, List.replicate_succ, List.replicate_zero, Nat.reduceAdd, Nat.reduceSub, br_true, br_false, decide_true, decide_false, Bool.not_true, Bool.not_false, Bool.and_self, Bool.and_true, Bool.true_and, true_and, and_true, small_0, small_1, small_2, small_3, small_4, small_5, small_6, small_7, small_8, mulOk_0, mulOk_1, mulOk_2, mulOk_r0, mulOk_r1, mulOk_r2, k1_eq, k12_eq, k21_eq]
    refine ⟨mulOkR (by decide) (by decide), F_dip_ev W (by decide) (by decide) fun g S3 hg0 hg1 W3 K3 => ?_⟩
    try simp only [aRet, aRetN, aSeq, aNext, aDrop, aSetS, aAsg, aGName, gtup, gcons, gnil, aGSub, aPar, aPar3, aIf, aB, bOf_b, aAnd, aOr, aNot, aAndV, aOrV, aNotV, aChain, aBin, aUn, aCall, aCons, aNil, aTup, aLst, aLstM, aC, aIsN, aNotN, isN_n, isN_i, isN_t, isN_s, isN_l, isN_b, aSl, aNoPart, aPart, iOf_i, aFor, aItems, aRange1, aRange2, ev_methL, aYes, v0, v1, v2, v3, v4, v5, v6, v7, v8, v9, v10, v11, v12, v13, add_ii, add_ss, add_tt, add_ll, sub_ii, mul_ii, div_ii, mod_ii, pow_6, pow_18, pow_30, neg_i, lt_ii, le_ii, gt_ii, ge_ii, eq_ii, ne_ii, eq_ss, ne_ss, eq_tyty, ne_tyty, ix_t0, ix_t1, ix_t2, ix_l0, ix_l1, ix_l2, len_t, len_l, len_f, int_i, abs_i, max_ii, min_ii, divmod_ii, tuple_l, tuple_t, list_l, list_t, type_i, type_t, type_s, items_l, items_t, items_f, items_s, sl_l, sl_f, sl_t, ev_bind, ev_ok, ev_sel, ev_guard, bind_ok, List.map_cons, List.map_nil, List.length_cons, List.length_nil, List.cons_append, List.nil_append, List.set_cons_zero, List.set_cons_succ, List.replicate_succ, List.replicate_zero, Nat.reduceAdd, Nat.reduceSub, br_true, br_false, decide_true, decide_false, Bool.not_true, Bool.not_false, Bool.and_self, Bool.and_true, Bool.true_and, true_and, and_true, small_0, small_1, small_2, small_3, small_4, small_5, small_6, small_7, small_8, mulOk_0, mulOk_1, mulOk_2, mulOk_r0, mulOk_r1, mulOk_r2, k1_eq, k12_eq, k21_eq]
    refine ⟨_, _, rfl, by omega, ?_, W3, K.trans K3⟩
    have e : (1000000 : Int) ^ (0 + j + 1 + 1) = 1000000 ^ (0 + j + 1) * 1000000 := by rw [Int.pow_succ]
    rw [e]
    generalize (1000000 : Int) ^ (0 + j + 1) = w at h1
    omega
  · rintro ρ S' ⟨f, c, rfl, h0, h1, W, K⟩
    have hl : (rangeD 0 m2.toNat).length = m2.toNat := by simp [rangeD]
    rw [hl] at h1
    have hb := Z.bd_pow6 h0 (0 + m2.toNat) (by omega) h1
    try simp only [aRet, aRetN, aSeq, aNext, aDrop, aSetS, aAsg, aGName, gtup, gcons, gnil, aGSub, aPar, aPar3, aIf, aB, bOf_b, aAnd, aOr, aNot, aAndV, aOrV, aNotV, aChain, aBin, aUn, aCall, aCons, aNil, aTup, aLst, aLstM, aC, aIsN, aNotN, isN_n, isN_i, isN_t, isN_s, isN_l, isN_b, aSl, aNoPart, aPart, iOf_i, aFor, aItems, aRange1, aRange2, ev_methL, aYes, v0, v1, v2, v3, v4, v5, v6, v7, v8, v9, v10, v11, v12, v13, add_ii, add_ss, add_tt, add_ll, sub_ii, mul_ii, div_ii, mod_ii, pow_6, pow_18, pow_30, neg_i, lt_ii, le_ii, gt_ii, ge_ii, eq_ii, ne_ii, eq_ss, ne_ss, eq_tyty, ne_tyty, ix_t0, ix_t1, ix_t2, ix_l0, ix_l1, ix_l2, len_t, len_l, len_f, int_i, abs_i, max_ii, min_ii, divmod_ii, tuple_l, tuple_t, list_l, list_t, type_i, type_t, type_s, items_l, items_t, items_f, items_s, sl_l, sl_f, sl_t, ev_bind, ev_ok, ev_sel, ev_guard, bind_ok, List.map_cons, List.map_nil, List.length_cons, List.length_nil, List.cons_append, List.nil_append, List.set_cons_zero, List.set_cons_succ, List.replicate_succ, List.replicate_zero, Nat.reduceAdd, Nat.reduceSub, br_true, br_false, decide_true, decide_false, Bool.not_true, Bool.not_false, Bool.and_self, Bool.and_true, Bool.true_and, true_and, and_true, small_0, small_1, small_2, small_3, small_4, small_5, small_6, small_7, small_8, mulOk_0, mulOk_1, mulOk_2, mulOk_r0, mulOk_r1, mulOk_r2, k1_eq, k12_eq, k21_eq]
    refine F_dip_ev W (by decide) (by decide) fun g S3 hg0 hg1 W3 K3 => ?_
    try simp only [aRet, aRetN, aSeq, aNext, aDrop, aSetS, aAsg, aGName, gtup, gcons, gnil, aGSub, aPar, aPar3, aIf, aB, bOf_b, aAnd, aOr, aNot, aAndV, aOrV, aNotV, aChain, aBin, aUn, aCall, aCons, aNil, aTup, aLst, aLstM, aC, aIsN, aNotN, isN_n, isN_i, isN_t, isN_s, isN_l, isN_b, aSl, aNoPart, aPart, iOf_i, aFor, aItems, aRange1, aRange2, ev_methL, aYes, v0, v1, v2, v3, v4, v5, v6, v7, v8, v9, v10, v11, v12, v13, add_ii, add_ss, add_tt, add_ll, sub_ii, mul_ii, div_ii, mod_ii, pow_6, pow_18, pow_30, neg_i, lt_ii, le_ii, gt_ii, ge_ii, eq_ii, ne_ii, eq_ss, ne_ss, eq_tyty, ne_tyty, ix_t0, ix_t1, ix_t2, ix_l0, ix_l1, ix_l2, len_t, len_l, len_f, int_i, abs_i, max_ii, min_ii, divmod_ii, tuple_l, tuple_t, list_l, list_t, type_i, type_t, type_s, items_l, items_t, items_f, items_s, sl_l, sl_f, sl_t, ev_bind, ev_ok, ev_sel, ev_guard, bind_ok, List.map_cons, List.map_nil, List.length_cons, List.length_nil, List.cons_append, List.nil_append, List.set_cons_zero, List.set_cons_succ, List.replicate_succ, List.replicate_zero, Nat.reduceAdd, Nat.reduceSub, br_true, br_false, decide_true, decide_false, Bool.not_true, Bool.not_false, Bool.and_self, Bool.and_true, Bool.true_and, true_and, and_true, small_0, small_1, small_2, small_3, small_4, small_5, small_6, small_7, small_8, mulOk_0, mulOk_1, mulOk_2, mulOk_r0, mulOk_r1, mulOk_r2, k1_eq, k12_eq, k21_eq]
    try simp only [aRet, aRetN, aSeq, aNext, aDrop, aSetS, aAsg, aGName, gtup, gcons, gnil, aGSub, aPar, aPar3, aIf, aB, bOf_b, aAnd, aOr, aNot, aAndV, aOrV, aNotV, aChain, aBin, aUn, aCall, aCons, aNil, aTup, aLst, aLstM, aC, aIsN, aNotN, isN_n, isN_i, isN_t, isN_s, isN_l, isN_b, aSl, aNoPart, aPart, iOf_i, aFor, aItems, aRange1, aRange2, ev_methL, aYes, v0, v1, v2, v3, v4, v5, v6, v7, v8, v9, v10, v11, v12, v13, add_ii, add_ss, add_tt, add_ll, sub_ii, mul_ii, div_ii, mod_ii, pow_6, pow_18, pow_30, neg_i, lt_ii, le_ii, gt_ii, ge_ii, eq_ii, ne_ii, eq_ss, ne_ss, eq_tyty, ne_tyty, ix_t0, ix_t1, ix_t2, ix_l0, ix_l1, ix_l2, len_t, len_l, len_f, int_i, abs_i, max_ii, min_ii, divmod_ii, tuple_l, tuple_t, list_l, list_t, type_i, type_t, type_s, items_l, items_t, items_f, items_s, sl_l, sl_f, sl_t, ev_bind, ev_ok, ev_sel, ev_guard, bind_ok, List.map_cons, List.map_nil, List.length_cons, List.length_nil, List.cons_append, List.nil_append, List.set_cons_zero, List.set_cons_succ, List.replicate_succ, List.replicate_zero, Nat.reduceAdd, Nat.reduceSub, br_true, br_false, decide_true, decide_false, Bool.not_true, Bool.not_false, Bool.and_self, Bool.and_true, Bool.true_and, true_and, and_true, small_0, small_1, small_2, small_3, small_4, small_5, small_6, small_7, small_8, mulOk_0, mulOk_1, mulOk_2, mulOk_r0, mulOk_r1, mulOk_r2, k1_eq, k12_eq, k21_eq]
    cases hc : (g == 0) with
    | true => rw [br_true]; exact q _ _ hb W3 (K.trans K3)
    | false =>
      rw [br_false, show (0 : Int) - f = -f by omega]
      exact q _ _ (Z.bd_neg hb) W3 (K.trans K3)
theorem F_drawn_ev {n : Nat} {S : List O} {R : D → List O → Prop} (hw : Well n S) (q : ∀ (x y s : Int) S', Z.bd 100 x → Z.bd 100 y → Z.bd 100 s → Well n S' → Keep n S S' → R (mv x y s) S') : ev (F_drawn [.loc n] S) R := by
  simp only [F_drawn, b_drawn, runF, aRet, aRetN, aSeq, aNext, aDrop, aSetS, aAsg, aGName, gtup, gcons, gnil, aGSub, aPar, aPar3, aIf, aB, bOf_b, aAnd, aOr, aNot, aAndV, aOrV, aNotV, aChain, aBin, aUn, aCall, aCons, aNil, aTup, aLst, aLstM, aC, aIsN, aNotN, isN_n, isN_i, isN_t, isN_s, isN_l, isN_b, aSl, aNoPart, aPart, iOf_i, aFor, aItems, aRange1, aRange2, ev_methL, aYes, v0, v1, v2, v3, v4, v5, v6, v7, v8, v9, v10, v11, v12, v13, add_ii, add_ss, add_tt, add_ll, sub_ii, mul_ii, div_ii, mod_ii, pow_6, pow_18, pow_30, neg_i, lt_ii, le_ii, gt_ii, ge_ii, eq_ii, ne_ii, eq_ss, ne_ss, eq_tyty, ne_tyty, ix_t0, ix_t1, ix_t2, ix_l0, ix_l1, ix_l2, len_t, len_l, len_f, int_i, abs_i, max_ii, min_ii, divmod_ii, tuple_l, tuple_t, list_l, list_t, type_i, type_t, type_s, items_l, items_t, items_f, items_s, sl_l, sl_f, sl_t, ev_bind, ev_ok, ev_sel, ev_guard, bind_ok, List.map_cons, List.map_nil, List.length_cons, List.length_nil, List.cons_append, List.nil_append, List.set_cons_zero, List.set_cons_succ, List.replicate_succ, List.replicate_zero, Nat.reduceAdd, Nat.reduceSub, br_true, br_false, decide_true, decide_false, Bool.not_true, Bool.not_false, Bool.and_self, Bool.and_true, Bool.true_and, true_and, and_true, small_0, small_1, small_2, small_3, small_4, small_5, small_6, small_7, small_8, mulOk_0, mulOk_1, mulOk_2, mulOk_r0, mulOk_r1, mulOk_r2, k1_eq, k12_eq, k21_eq]
  refine F_dip_ev hw (by decide) (by decide) fun way S1 hw0 hw1 W1 K1 => ?_
  try simp only [aRet, aRetN, aSeq, aNext, aDrop, aSetS, aAsg, aGName, gtup, gcons, gnil, aGSub, aPar, aPar3, aIf, aB, bOf_b, aAnd, aOr, aNot, aAndV, aOrV, aNotV, aChain, aBin, aUn, aCall, aCons, aNil, aTup, aLst, aLstM, aC, aIsN, aNotN, isN_n, isN_i, isN_t, isN_s, isN_l, isN_b, aSl, aNoPart, aPart, iOf_i, aFor, aItems, aRange1, aRange2, ev_methL, aYes, v0, v1, v2, v3, v4, v5, v6, v7, v8, v9, v10, v11, v12, v13, add_ii, add_ss, add_tt, add_ll, sub_ii, mul_ii, div_ii, mod_ii, pow_6, pow_18, pow_30, neg_i, lt_ii, le_ii, gt_ii, ge_ii, eq_ii, ne_ii, eq_ss, ne_ss, eq_tyty, ne_tyty, ix_t0, ix_t1, ix_t2, ix_l0, ix_l1, ix_l2, len_t, len_l, len_f, int_i, abs_i, max_ii, min_ii, divmod_ii, tuple_l, tuple_t, list_l, list_t, type_i, type_t, type_s, items_l, items_t, items_f, items_s, sl_l, sl_f, sl_t, ev_bind, ev_ok, ev_sel, ev_guard, bind_ok, List.map_cons, List.map_nil, List.length_cons, List.length_nil, List.cons_append, List.nil_append, List.set_cons_zero, List.set_cons_succ, List.replicate_succ, List.replicate_zero, Nat.reduceAdd, Nat.reduceSub, br_true, br_false, decide_true, decide_false, Bool.not_true, Bool.not_false, Bool.and_self, Bool.and_true, Bool.true_and, true_and, and_true, small_0, small_1, small_2, small_3, small_4, small_5, small_6, small_7, small_8, mulOk_0, mulOk_1, mulOk_2, mulOk_r0, mulOk_r1, mulOk_r2, k1_eq, k12_eq, k21_eq]
  try simp only [aRet, aRetN, aSeq, aNext, aDrop, aSetS, aAsg, aGName, gtup, gcons, gnil, aGSub, aPar, aPar3, aIf, aB, bOf_b, aAnd, aOr, aNot, aAndV, aOrV, aNotV, aChain, aBin, aUn, aCall, aCons, aNil, aTup, aLst, aLstM, aC, aIsN, aNotN, isN_n, isN_i, isN_t, isN_s, isN_l, isN_b, aSl, aNoPart, aPart, iOf_i, aFor, aItems, aRange1, aRange2, ev_methL, aYes, v0, v1, v2, v3, v4, v5, v6, v7, v8, v9, v10, v11, v12, v13, add_ii, add_ss, add_tt, add_ll, sub_ii, mul_ii, div_ii, mod_ii, pow_6, pow_18, pow_30, neg_i, lt_ii, le_ii, gt_ii, ge_ii, eq_ii, ne_ii, eq_ss, ne_ss, eq_tyty, ne_tyty, ix_t0, ix_t1, ix_t2, ix_l0, ix_l1, ix_l2, len_t, len_l, len_f, int_i, abs_i, max_ii, min_ii, divmod_ii, tuple_l, tuple_t, list_l, list_t, type_i, type_t, type_s, items_l, items_t, items_f, items_s, sl_l, sl_f, sl_t, ev_bind, ev_ok, ev_sel, ev_guard, bind_ok, List.map_cons, List.map_nil, List.length_cons, List.length_nil, List.cons_append, List.nil_append, List.set_cons_zero, List.set_cons_succ, List.replicate_succ, List.replicate_zero, Nat.reduceAdd, Nat.reduceSub, br_true, br_false, decide_true, decide_false, Bool.not_true, Bool.not_false, Bool.and_self, Bool.and_true, Bool.true_and, true_and, and_true, small_0, small_1, small_2, small_3, small_4, small_5, small_6, small_7, small_8, mulOk_0, mulOk_1, mulOk_2, mulOk_r0, mulOk_r1, mulOk_r2, k1_eq, k12_eq, k21_eq]
  cases hc : (way == 0) with
  | true =>
    rw [br_true]
    refine F_dip_ev W1 (by decide) (by decide) fun x S2 hx0 hx1 W2 K2 => ?_
    try simp only [aRet, aRetN, aSeq, aNext, aDrop, aSetS, aAsg, aGName, gtup, gcons, gnil, aGSub, aPar, aPar3, aIf, aB, bOf_b, aAnd, aOr, aNot, aAndV, aOrV, aNotV, aChain, aBin, aUn, aCall, aCons, aNil, aTup, aLst, aLstM, aC, aIsN, aNotN, isN_n, isN_i, isN_t, isN_s, isN_l, isN_b, aSl, aNoPart, aPart, iOf_i, aFor, aItems, aRange1, aRange2, ev_methL, aYes, v0, v1, v2, v3, v4, v5, v6, v7, v8, v9, v10, v11, v12, v13, add_ii, add_ss, add_tt, add_ll, sub_ii, mul_ii, div_ii, mod_ii, pow_6, pow_18, pow_30, neg_i, lt_ii, le_ii, gt_ii, ge_ii, eq_ii, ne_ii, eq_ss, ne_ss, eq_tyty, ne_tyty, ix_t0, ix_t1, ix_t2, ix_l0, ix_l1, ix_l2, len_t, len_l, len_f, int_i, abs_i, max_ii, min_ii, divmod_ii, tuple_l, tuple_t, list_l, list_t, type_i, type_t, type_s, items_l, items_t, items_f, items_s, sl_l, sl_f, sl_t, ev_bind, ev_ok, ev_sel, ev_guard, bind_ok, List.map_cons, List.map_nil, List.length_cons, List.length_nil, List.cons_append, List.nil_append, List.set_cons_zero, List.set_cons_succ, List.replicate_succ, List.replicate_zero, Nat.reduceAdd, Nat.reduceSub, br_true, br_false, decide_true, decide_false, Bool.not_true, Bool.not_false, Bool.and_self, Bool.and_true, Bool.true_and, true_and, and_true, small_0, small_1, small_2, small_3, small_4, small_5, small_6, small_7, small_8, mulOk_0, mulOk_1, mulOk_2, mulOk_r0, mulOk_r1, mulOk_r2, k1_eq, k12_eq, k21_eq]
    try simp only [aRet, aRetN, aSeq, aNext, aDrop, aSetS, aAsg, aGName, gtup, gcons, gnil, aGSub, aPar, aPar3, aIf, aB, bOf_b, aAnd, aOr, aNot, aAndV, aOrV, aNotV, aChain, aBin, aUn, aCall, aCons, aNil, aTup, aLst, aLstM, aC, aIsN, aNotN, isN_n, isN_i, isN_t, isN_s, isN_l, isN_b, aSl, aNoPart, aPart, iOf_i, aFor, aItems, aRange1, aRange2, ev_methL, aYes, v0, v1, v2, v3, v4, v5, v6, v7, v8, v9, v10, v11, v12, v13, add_ii, add_ss, add_tt, add_ll, sub_ii, mul_ii, div_ii, mod_ii, pow_6, pow_18, pow_30, neg_i, lt_ii, le_ii, gt_ii, ge_ii, eq_ii, ne_ii, eq_ss, ne_ss, eq_tyty, ne_tyty, ix_t0, ix_t1, ix_t2, ix_l0, ix_l1, ix_l2, len_t, len_l, len_f, int_i, abs_i, max_ii, min_ii, divmod_ii, tuple_l, tuple_t, list_l, list_t, type_i, type_t, type_s, items_l, items_t, items_f, items_s, sl_l, sl_f, sl_t, ev_bind, ev_ok, ev_sel, ev_guard, bind_ok, List.map_cons, List.map_nil, List.length_cons, List.length_nil, List.cons_append, List.nil_append, List.set_cons_zero, List.set_cons_succ, List.replicate_succ, List.replicate_zero, Nat.reduceAdd, Nat.reduceSub, br_true, br_false, decide_true, decide_false, Bool.not_true, Bool.not_false, Bool.and_self, Bool.and_true, Bool.true_and, true_and, and_true, small_0, small_1, small_2, small_3, small_4, small_5, small_6, small_7, small_8, mulOk_0, mulOk_1, mulOk_2, mulOk_r0, mulOk_r1, mulOk_r2, k1_eq, k12_eq, k21_eq]
    refine F_dip_ev W2 (by decide) (by decide) fun y S3 hy0 hy1 W3 K3 => ?_
    try simp only [aRet, aRetN, aSeq, aNext, aDrop, aSetS, aAsg, aGName, gtup, gcons, gnil, aGSub, aPar, aPar3, aIf, aB, bOf_b, aAnd, aOr, aNot, aAndV, aOrV, aNotV, aChain, aBin, aUn, aCall, aCons, aNil, aTup, aLst, aLstM, aC, aIsN, aNotN, isN_n, isN_i, isN_t, isN_s, isN_l, isN_b, aSl, aNoPart, aPart, iOf_i, aFor, aItems, aRange1, aRange2, ev_methL, aYes, v0, v1, v2, v3, v4, v5, v6, v7, v8, v9, v10, v11, v12, v13, add_ii, add_ss, add_tt, add_ll, sub_ii, mul_ii, div_ii, mod_ii, pow_6, pow_18, pow_30, neg_i, lt_ii, le_ii, gt_ii, ge_ii, eq_ii, ne_ii, eq_ss, ne_ss, eq_tyty, ne_tyty, ix_t0, ix_t1, ix_t2, ix_l0, ix_l1, ix_l2, len_t, len_l, len_f, int_i, abs_i, max_ii, min_ii, divmod_ii, tuple_l, tuple_t, list_l, list_t, type_i, type_t, type_s, items_l, items_t, items_f, items_s, sl_l, sl_f, sl_t, ev_bind, ev_ok, ev_sel, ev_guard, bind_ok, List.map_cons, List.map_nil, List.length_cons, List.length_nil, List.cons_append, List.nil_append, List.set_cons_zero, List.set_cons_succ, List.replicate_succ, List.replicate_zero, Nat.reduceAdd, Nat.reduceSub, br_true, br_false, decide_true, decide_false, Bool.not_true, Bool.not_false, Bool.and_self, Bool.and_true, Bool.true_and, true_and, and_true, small_0, small_1, small_2, small_3, small_4, small_5, small_6, small_7, small_8, mulOk_0, mulOk_1, mulOk_2, mulOk_r0, mulOk_r1, mulOk_r2, k1_eq, k12_eq, k21_eq]
    try simp only [aRet, aRetN, aSeq, aNext, aDrop, aSetS, aAsg, aGName, gtup, gcons, gnil, aGSub, aPar, aPar3, aIf, aB, bOf_b, aAnd, aOr, aNot, aAndV, aOrV, aNotV, aChain, aBin, aUn, aCall, aCons, aNil, aTup, aLst, aLstM, aC, aIsN, aNotN, isN_n, isN_i, isN_t, isN_s, isN_l, isN_b, aSl, aNoPart, aPart, iOf_i, aFor, aItems, aRange1, aRange2, ev_methL, aYes, v0, v1, v2, v3, v4, v5, v6, v7, v8, v9, v10, v11, v12, v13, add_ii, add_ss, add_tt, add_ll, sub_ii, mul_ii, div_ii, mod_ii, pow_6, pow_18, pow_30, neg_i, lt_ii, le_ii, gt_ii, ge_ii, eq_ii, ne_ii, eq_ss, ne_ss, eq_tyty, ne_tyty, ix_t0, ix_t1, ix_t2, ix_l0, ix_l1, ix_l2, len_t, len_l, len_f, int_i, abs_i, max_ii, min_ii, divmod_ii, tuple_l, tuple_t, list_l, list_t, type_i, type_t, type_s, items_l, items_t, items_f, items_s, sl_l, sl_f, sl_t, ev_bind, ev_ok, ev_sel, ev_guard, bind_ok, List.map_cons, List.map_nil, List.length_cons, List.length_nil, List.cons_append, List.nil_append, List.set_cons_zero, List.set_cons_succ, List.replicate_succ, List.replicate_zero, Nat.reduceAdd, Nat.reduceSub, br_true, br_false, decide_true, decide_false, Bool.not_true, Bool.not_false, Bool.and_self, Bool.and_true, Bool.true_and, true_and, and_true, small_0, small_1, small_2, small_3, small_4, small_5, small_6, small_7, small_8, mulOk_0, mulOk_1, mulOk_2, mulOk_r0, mulOk_r1, mulOk_r2, k1_eq, k12_eq, k21_eq]
    refine F_dip_ev W3 (by decide) (by decide) fun s S4 hs0 hs1 W4 K4 => ?_
    try simp only [aRet, aRetN, aSeq, aNext, aDrop, aSetS, aAsg, aGName, gtup, gcons, gnil, aGSub, aPar, aPar3, aIf, aB, bOf_b, aAnd, aOr, aNot, aAndV, aOrV, aNotV, aChain, aBin, aUn, aCall, aCons, aNil, aTup, aLst, aLstM, aC, aIsN, aNotN, isN_n, isN_i, isN_t, isN_s, isN_l, isN_b, aSl, aNoPart, aPart, iOf_i, aFor, aItems, aRange1, aRange2, ev_methL, aYes, v0, v1, v2, v3, v4, v5, v6, v7, v8, v9, v10, v11, v12, v13, add_ii, add_ss, add_tt, add_ll, sub_ii, mul_ii, div_ii, mod_ii, pow_6, pow_18, pow_30, neg_i, lt_ii, le_ii, gt_ii, ge_ii, eq_ii, ne_ii, eq_ss, ne_ss, eq_tyty, ne_tyty, ix_t0, ix_t1, ix_t2, ix_l0, ix_l1, ix_l2, len_t, len_l, len_f, int_i, abs_i, max_ii, min_ii, divmod_ii, tuple_l, tuple_t, list_l, list_t, type_i, type_t, type_s, items_l, items_t, items_f, items_s, sl_l, sl_f, sl_t, ev_bind, ev_ok, ev_sel, ev_guard, bind_ok, List.map_cons, List.map_nil, List.length_cons, List.length_nil, List.cons_append, List.nil_append, List.set_cons_zero, List.set_cons_succ, List.replicate_succ, List.replicate_zero, Nat.reduceAdd, Nat.reduceSub, br_true, br_false, decide_true, decide_false, Bool.not_true, Bool.not_false, Bool.and_self, Bool.and_true, Bool.true_and, true_and, and_true, small_0, small_1, small_2, small_3, small_4, small_5, small_6, small_7, small_8, mulOk_0, mulOk_1, mulOk_2, mulOk_r0, mulOk_r1, mulOk_r2, k1_eq, k12_eq, k21_eq]
    try simp only [aRet, aRetN, aSeq, aNext, aDrop, aSetS, aAsg, aGName, gtup, gcons, gnil, aGSub, aPar, aPar3, aIf, aB, bOf_b, aAnd, aOr, aNot, aAndV, aOrV, aNotV, aChain, aBin, aUn, aCall, aCons, aNil, aTup, aLst, aLstM, aC, aIsN, aNotN, isN_n, isN_i, isN_t, isN_s, isN_l, isN_b, aSl, aNoPart, aPart, iOf_i, aFor, aItems, aRange1, aRange2, ev_methL, aYes, v0, v1, v2, v3, v4, v5, v6, v7, v8, v9, v10, v11, v12, v13, add_ii, add_ss, add_tt, add_ll, sub_ii, mul_ii, div_ii, mod_ii, pow_6, pow_18, pow_30, neg_i, lt_ii, le_ii, gt_ii, ge_ii, eq_ii, ne_ii, eq_ss, ne_ss, eq_tyty, ne_tyty, ix_t0, ix_t1, ix_t2, ix_l0, ix_l1, ix_l2, len_t, len_l, len_f, int_i, abs_i, max_ii, min_ii, divmod_ii, tuple_l, tuple_t, list_l, list_t, type_i, type_t, type_s, items_l, items_t, items_f, items_s, sl_l, sl_f, sl_t, ev_bind, ev_ok, ev_sel, ev_guard, bind_ok, List.map_cons, List.map_nil, List.length_cons, List.length_nil, List.cons_append, List.nil_append, List.set_cons_zero, List.set_cons_succ, List.replicate_succ, List.replicate_zero, Nat.reduceAdd, Nat.reduceSub, br_true, br_false, decide_true, decide_false, Bool.not_true, Bool.not_false, Bool.and_self, Bool.and_true, Bool.true_and, true_and, and_true, small_0, small_1, small_2, small_3, small_4, small_5, small_6, small_7, small_8, mulOk_0, mulOk_1, mulOk_2, mulOk_r0, mulOk_r1, mulOk_r2, k1_eq, k12_eq, k21_eq]
    exact q _ _ _ _ (Z.bd_100 (by omega) (by omega)) (Z.bd_100 (by omega) (by omega)) (Z.bd_100 (by omega) (by omega)) W4 (((K1.trans K2).trans K3).trans K4)
  | false =>
    rw [br_false]
    refine F_number_ev W1 fun x S2 bx W2 K2 => ?_
    try simp only [aRet, aRetN, aSeq, aNext, aDrop, aSetS, aAsg, aGName, gtup, gcons, gnil, aGSub, aPar, aPar3, aIf, aB, bOf_b, aAnd, aOr, aNot, aAndV, aOrV, aNotV, aChain, aBin, aUn, aCall, aCons, aNil, aTup, aLst, aLstM, aC, aIsN, aNotN, isN_n, isN_i, isN_t, isN_s, isN_l, isN_b, aSl, aNoPart, aPart, iOf_i, aFor, aItems, aRange1, aRange2, ev_methL, aYes, v0, v1, v2, v3, v4, v5, v6, v7, v8, v9, v10, v11, v12, v13, add_ii, add_ss, add_tt, add_ll, sub_ii, mul_ii, div_ii, mod_ii, pow_6, pow_18, pow_30, neg_i, lt_ii, le_ii, gt_ii, ge_ii, eq_ii, ne_ii, eq_ss, ne_ss, eq_tyty, ne_tyty, ix_t0, ix_t1, ix_t2, ix_l0, ix_l1, ix_l2, len_t, len_l, len_f, int_i, abs_i, max_ii, min_ii, divmod_ii, tuple_l, tuple_t, list_l, list_t, type_i, type_t, type_s, items_l, items_t, items_f, items_s, sl_l, sl_f, sl_t, ev_bind, ev_ok, ev_sel, ev_guard, bind_ok, List.map_cons, List.map_nil, List.length_cons, List.length_nil, List.cons_append, List.nil_append, List.set_cons_zero, List.set_cons_succ, List.replicate_succ, List.replicate_zero, Nat.reduceAdd, Nat.reduceSub, br_true, br_false, decide_true, decide_false, Bool.not_true, Bool.not_false, Bool.and_self, Bool.and_true, Bool.true_and, true_and, and_true, small_0, small_1, small_2, small_3, small_4, small_5, small_6, small_7, small_8, mulOk_0, mulOk_1, mulOk_2, mulOk_r0, mulOk_r1, mulOk_r2, k1_eq, k12_eq, k21_eq]
    refine F_number_ev W2 fun y S3 b_y W3 K3 => ?_
    try simp only [aRet, aRetN, aSeq, aNext, aDrop, aSetS, aAsg, aGName, gtup, gcons, gnil, aGSub, aPar, aPar3, aIf, aB, bOf_b, aAnd, aOr, aNot, aAndV, aOrV, aNotV, aChain, aBin, aUn, aCall, aCons, aNil, aTup, aLst, aLstM, aC, aIsN, aNotN, isN_n, isN_i, isN_t, isN_s, isN_l, isN_b, aSl, aNoPart, aPart, iOf_i, aFor, aItems, aRange1, aRange2, ev_methL, aYes, v0, v1, v2, v3, v4, v5, v6, v7, v8, v9, v10, v11, v12, v13, add_ii, add_ss, add_tt, add_ll, sub_ii, mul_ii, div_ii, mod_ii, pow_6, pow_18, pow_30, neg_i, lt_ii, le_ii, gt_ii, ge_ii, eq_ii, ne_ii, eq_ss, ne_ss, eq_tyty, ne_tyty, ix_t0, ix_t1, ix_t2, ix_l0, ix_l1, ix_l2, len_t, len_l, len_f, int_i, abs_i, max_ii, min_ii, divmod_ii, tuple_l, tuple_t, list_l, list_t, type_i, type_t, type_s, items_l, items_t, items_f, items_s, sl_l, sl_f, sl_t, ev_bind, ev_ok, ev_sel, ev_guard, bind_ok, List.map_cons, List.map_nil, List.length_cons, List.length_nil, List.cons_append, List.nil_append, List.set_cons_zero, List.set_cons_succ, List.replicate_succ, List.replicate_zero, Nat.reduceAdd, Nat.reduceSub, br_true, br_false, decide_true, decide_false, Bool.not_true, Bool.not_false, Bool.and_self, Bool.and_true, Bool.true_and, true_and, and_true, small_0, small_1, small_2, small_3, small_4, small_5, small_6, small_7, small_8, mulOk_0, mulOk_1, mulOk_2, mulOk_r0, mulOk_r1, mulOk_r2, k1_eq, k12_eq, k21_eq]
    refine F_number_ev W3 fun s S4 bs W4 K4 => ?_
    try simp only [aRet, aRetN, aSeq, aNext, aDrop, aSetS, aAsg, aGName, gtup, gcons, gnil, aGSub, aPar, aPar3, aIf, aB, bOf_b, aAnd, aOr, aNot, aAndV, aOrV, aNotV, aChain, aBin, aUn, aCall, aCons, aNil, aTup, aLst, aLstM, aC, aIsN, aNotN, isN_n, isN_i, isN_t, isN_s, isN_l, isN_b, aSl, aNoPart, aPart, iOf_i, aFor, aItems, aRange1, aRange2, ev_methL, aYes, v0, v1, v2, v3, v4, v5, v6, v7, v8, v9, v10, v11, v12, v13, add_ii, add_ss, add_tt, add_ll, sub_ii, mul_ii, div_ii, mod_ii, pow_6, pow_18, pow_30, neg_i, lt_ii, le_ii, gt_ii, ge_ii, eq_ii, ne_ii, eq_ss, ne_ss, eq_tyty, ne_tyty, ix_t0, ix_t1, ix_t2, ix_l0, ix_l1, ix_l2, len_t, len_l, len_f, int_i, abs_i, max_ii, min_ii, divmod_ii, tuple_l, tuple_t, list_l, list_t, type_i, type_t, type_s, items_l, items_t, items_f, items_s, sl_l, sl_f, sl_t, ev_bind, ev_ok, ev_sel, ev_guard, bind_ok, List.map_cons, List.map_nil, List.length_cons, List.length_nil, List.cons_append, List.nil_append, List.set_cons_zero, List.set_cons_succ, List.replicate_succ, List.replicate_zero, Nat.reduceAdd, Nat.reduceSub, br_true, br_false, decide_true, decide_false, Bool.not_true, Bool.not_false, Bool.and_self, Bool.and_true, Bool.true_and, true_and, and_true, small_0, small_1, small_2, small_3, small_4, small_5, small_6, small_7, small_8, mulOk_0, mulOk_1, mulOk_2, mulOk_r0, mulOk_r1, mulOk_r2, k1_eq, k12_eq, k21_eq]
    have ln : S4.length ≠ n := fun e => by have := W4.lt; omega
    have W5 : Well n (S4 ++ [.lst [.int x, .int y, .int s]]) := W4.keep (m := S4.length) .push (Ne.symm ln)
    have K5 : Keep n S (S4 ++ [.lst [.int x, .int y, .int s]]) := (((K1.trans K2).trans K3).trans K4).trans .push
    have e5 : (S4 ++ [O.lst [.int x, .int y, .int s]])[S4.length]? = some (.lst [.int x, .int y, .int s]) := push_last
    have lp : S.length ≤ S4.length := (((K1.trans K2).trans K3).trans K4).1
    generalize S4 ++ [O.lst [.int x, .int y, .int s]] = S5 at W5 K5 e5
    generalize S4.length = p at ln e5 lp
    have e0 : Z.bd 100 0 := Z.bd_100 (by decide) (by decide)
    cases hc : (way == 1) with
    | true =>
      rw [br_true]
      refine F_dip_ev W5 (by decide) (by decide) fun j S6 hj0 hj1 W6 K6 => ?_
      try simp only [aRet, aRetN, aSeq, aNext, aDrop, aSetS, aAsg, aGName, gtup, gcons, gnil, aGSub, aPar, aPar3, aIf, aB, bOf_b, aAnd, aOr, aNot, aAndV, aOrV, aNotV, aChain, aBin, aUn, aCall, aCons, aNil, aTup, aLst, aLstM, aC, aIsN, aNotN, isN_n, isN_i, isN_t, isN_s, isN_l, isN_b, aSl, aNoPart, aPart, iOf_i, aFor, aItems, aRange1, aRange2, ev_methL, aYes, v0, v1, v2, v3, v4, v5, v6, v7, v8, v9, v10, v11, v12, v13, add_ii, add_ss, add_tt, add_ll, sub_ii, mul_ii, div_ii, mod_ii, pow_6, pow_18, pow_30, neg_i, lt_ii, le_ii, gt_ii, ge_ii, eq_ii, ne_ii, eq_ss, ne_ss, eq_tyty, ne_tyty, ix_t0, ix_t1, ix_t2, ix_l0, ix_l1, ix_l2, len_t, len_l, len_f, int_i, abs_i, max_ii, min_ii, divmod_ii, tuple_l, tuple_t, list_l, list_t, type_i, type_t, type_s, items_l, items_t, items_f, items_s, sl_l, sl_f, sl_t, ev_bind, ev_ok, ev_sel, ev_guard, bind_ok, List.map_cons, List.map_nil, List.length_cons, List.length_nil, List.cons_append, List.nil_append, List.set_cons_zero, List.set_cons_succ, List.replicate_succ, List.replicate_zero, Nat.reduceAdd, Nat.reduceSub, br_true, br_false, decide_true, decide_false, Bool.not_true, Bool.not_false, Bool.and_self, Bool.and_true, Bool.true_and, true_and, and_true, small_0, small_1, small_2, small_3, small_4, small_5, small_6, small_7, small_8, mulOk_0, mulOk_1, mulOk_2, mulOk_r0, mulOk_r1, mulOk_r2, k1_eq, k12_eq, k21_eq]
      have e6 := K6.get e5 ln
      have c : j = 0 ∨ j = 1 ∨ j = 2 := by omega
      have kk : ∀ o : O, Keep n S (S6.set p o) := fun o => by
        have k7 := K5.trans K6
        refine ⟨by rw [List.length_set]; exact k7.1, fun m hm hl => ?_⟩
        by_cases hp : m = p
        · subst hp
          omega
        · rw [List.getElem?_set_ne (Ne.symm hp)]
          exact k7.2 m hm hl
      rcases c with rfl | rfl | rfl
      · refine ev_of (wset0 e6) ?_
        have e7 : (S6.set p (.lst [.int 0, .int y, .int s]))[p]? = some (.lst [.int 0, .int y, .int s]) := set_get e6
        simp only [aRet, aRetN, aSeq, aNext, aDrop, aSetS, aAsg, aGName, gtup, gcons, gnil, aGSub, aPar, aPar3, aIf, aB, bOf_b, aAnd, aOr, aNot, aAndV, aOrV, aNotV, aChain, aBin, aUn, aCall, aCons, aNil, aTup, aLst, aLstM, aC, aIsN, aNotN, isN_n, isN_i, isN_t, isN_s, isN_l, isN_b, aSl, aNoPart, aPart, iOf_i, aFor, aItems, aRange1, aRange2, ev_methL, aYes, v0, v1, v2, v3, v4, v5, v6, v7, v8, v9, v10, v11, v12, v13, add_ii, add_ss, add_tt, add_ll, sub_ii, mul_ii, div_ii, mod_ii, pow_6, pow_18, pow_30, neg_i, lt_ii, le_ii, gt_ii, ge_ii, eq_ii, ne_ii, eq_ss, ne_ss, eq_tyty, ne_tyty, ix_t0, ix_t1, ix_t2, ix_l0, ix_l1, ix_l2, len_t, len_l, len_f, int_i, abs_i, max_ii, min_ii, divmod_ii, tuple_l, tuple_t, list_l, list_t, type_i, type_t, type_s, items_l, items_t, items_f, items_s, sl_l, sl_f, sl_t, ev_bind, ev_ok, ev_sel, ev_guard, bind_ok, List.map_cons, List.map_nil, List.length_cons, List.length_nil, List.cons_append, List.nil_append, List.set_cons_zero, List.set_cons_succ, List.replicate_succ, List.replicate_zero, Nat.reduceAdd, Nat.reduceSub, br_true, br_false, decide_true, decide_false, Bool.not_true, Bool.not_false, Bool.and_self, Bool.and_true, Bool.true_and, true_and, and_true, small_0, small_1, small_2, small_3, small_4, small_5, small_6, small_7, small_8, mulOk_0, mulOk_1, mulOk_2, mulOk_r0, mulOk_r1, mulOk_r2, k1_eq, k12_eq, k21_eq, ix_loc e7 at_0, ix_loc e7 at_1, ix_loc e7 at_2]
        exact q _ _ _ _ e0 b_y bs (W6.keep (m := p) .set (Ne.symm ln)) (kk _)
      · refine ev_of (wset1 e6) ?_
        have e7 : (S6.set p (.lst [.int x, .int 0, .int s]))[p]? = some (.lst [.int x, .int 0, .int s]) := set_get e6
        simp only [aRet, aRetN, aSeq, aNext, aDrop, aSetS, aAsg, aGName, gtup, gcons, gnil, aGSub, aPar, aPar3, aIf, aB, bOf_b, aAnd, aOr, aNot, aAndV, aOrV, aNotV, aChain, aBin, aUn, aCall, aCons, aNil, aTup, aLst, aLstM, aC, aIsN, aNotN, isN_n, isN_i, isN_t, isN_s, isN_l, isN_b, aSl, aNoPart, aPart, iOf_i, aFor, aItems, aRange1, aRange2, ev_methL, aYes, v0, v1, v2, v3, v4, v5, v6, v7, v8, v9, v10, v11, v12, v13, add_ii, add_ss, add_tt, add_ll, sub_ii, mul_ii, div_ii, mod_ii, pow_6, pow_18, pow_30, neg_i, lt_ii, le_ii, gt_ii, ge_ii, eq_ii, ne_ii, eq_ss, ne_ss, eq_tyty, ne_tyty, ix_t0, ix_t1, ix_t2, ix_l0, ix_l1, ix_l2, len_t, len_l, len_f, int_i, abs_i, max_ii, min_ii, divmod_ii, tuple_l, tuple_t, list_l, list_t, type_i, type_t, type_s, items_l, items_t, items_f, items_s, sl_l, sl_f, sl_t, ev_bind, ev_ok, ev_sel, ev_guard, bind_ok, List.map_cons, List.map_nil, List.length_cons, List.length_nil, List.cons_append, List.nil_append, List.set_cons_zero, List.set_cons_succ, List.replicate_succ, List.replicate_zero, Nat.reduceAdd, Nat.reduceSub, br_true, br_false, decide_true, decide_false, Bool.not_true, Bool.not_false, Bool.and_self, Bool.and_true, Bool.true_and, true_and, and_true, small_0, small_1, small_2, small_3, small_4, small_5, small_6, small_7, small_8, mulOk_0, mulOk_1, mulOk_2, mulOk_r0, mulOk_r1, mulOk_r2, k1_eq, k12_eq, k21_eq, ix_loc e7 at_0, ix_loc e7 at_1, ix_loc e7 at_2]
        exact q _ _ _ _ bx e0 bs (W6.keep (m := p) .set (Ne.symm ln)) (kk _)
      · refine ev_of (wset2 e6) ?_
        have e7 : (S6.set p (.lst [.int x, .int y, .int 0]))[p]? = some (.lst [.int x, .int y, .int 0]) := set_get e6
        simp only [aRet, aRetN, aSeq, aNext, aDrop, aSetS, aAsg, aGName, gtup, gcons, gnil, aGSub, aPar, aPar3, aIf, aB, bOf_b, aAnd, aOr, aNot, aAndV, aOrV, aNotV, aChain, aBin, aUn, aCall, aCons, aNil, aTup, aLst, aLstM, aC, aIsN, aNotN, isN_n, isN_i, isN_t, isN_s, isN_l, isN_b, aSl, aNoPart, aPart, iOf_i, aFor, aItems, aRange1, aRange2, ev_methL, aYes, v0, v1, v2, v3, v4, v5, v6, v7, v8, v9, v10, v11, v12, v13, add_ii, add_ss, add_tt, add_ll, sub_ii, mul_ii, div_ii, mod_ii, pow_6, pow_18, pow_30, neg_i, lt_ii, le_ii, gt_ii, ge_ii, eq_ii, ne_ii, eq_ss, ne_ss, eq_tyty, ne_tyty, ix_t0, ix_t1, ix_t2, ix_l0, ix_l1, ix_l2, len_t, len_l, len_f, int_i, abs_i, max_ii, min_ii, divmod_ii, tuple_l, tuple_t, list_l, list_t, type_i, type_t, type_s, items_l, items_t, items_f, items_s, sl_l, sl_f, sl_t, ev_bind, ev_ok, ev_sel, ev_guard, bind_ok, List.map_cons, List.map_nil, List.length_cons, List.length_nil, List.cons_append, List.nil_append, List.set_cons_zero, List.set_cons_succ, List.replicate_succ, List.replicate_zero, Nat.reduceAdd, Nat.reduceSub, br_true, br_false, decide_true, decide_false, Bool.not_true, Bool.not_false, Bool.and_self, Bool.and_true, Bool.true_and, true_and, and_true, small_0, small_1, small_2, small_3, small_4, small_5, small_6, small_7, small_8, mulOk_0, mulOk_1, mulOk_2, mulOk_r0, mulOk_r1, mulOk_r2, k1_eq, k12_eq, k21_eq, ix_loc e7 at_0, ix_loc e7 at_1, ix_loc e7 at_2]
        exact q _ _ _ _ bx b_y e0 (W6.keep (m := p) .set (Ne.symm ln)) (kk _)
    | false =>
      rw [br_false]
      simp only [aRet, aRetN, aSeq, aNext, aDrop, aSetS, aAsg, aGName, gtup, gcons, gnil, aGSub, aPar, aPar3, aIf, aB, bOf_b, aAnd, aOr, aNot, aAndV, aOrV, aNotV, aChain, aBin, aUn, aCall, aCons, aNil, aTup, aLst, aLstM, aC, aIsN, aNotN, isN_n, isN_i, isN_t, isN_s, isN_l, isN_b, aSl, aNoPart, aPart, iOf_i, aFor, aItems, aRange1, aRange2, ev_methL, aYes, v0, v1, v2, v3, v4, v5, v6, v7, v8, v9, v10, v11, v12, v13, add_ii, add_ss, add_tt, add_ll, sub_ii, mul_ii, div_ii, mod_ii, pow_6, pow_18, pow_30, neg_i, lt_ii, le_ii, gt_ii, ge_ii, eq_ii, ne_ii, eq_ss, ne_ss, eq_tyty, ne_tyty, ix_t0, ix_t1, ix_t2, ix_l0, ix_l1, ix_l2, len_t, len_l, len_f, int_i, abs_i, max_ii, min_ii, divmod_ii, tuple_l, tuple_t, list_l, list_t, type_i, type_t, type_s, items_l, items_t, items_f, items_s, sl_l, sl_f, sl_t, ev_bind, ev_ok, ev_sel, ev_guard, bind_ok, List.map_cons, List.map_nil, List.length_cons, List.length_nil, List.cons_append, List.nil_append, List.set_cons_zero, List.set_cons_succ, List.replicate_succ, List.replicate_zero, Nat.reduceAdd, Nat.reduceSub, br_true, br_false, decide_true, decide_false, Bool.not_true, Bool.not_false, Bool.and_self, Bool.and_true, Bool.true_and, true_and, and_true, small_0, small_1, small_2, small_3, small_4, small_5, small_6, small_7, small_8, mulOk_0, mulOk_1, mulOk_2, mulOk_r0, mulOk_r1, mulOk_r2, k1_eq, k12_eq, k21_eq, ix_loc e5 at_0, ix_loc e5 at_1, ix_loc e5 at_2]
      exact q _ _ _ _ bx b_y bs W5 K5
theorem F_is_move_ev {a b c : Int} {S : List O} {R : D → List O → Prop} (k : R (.bl true) S) : ev (F_is_move [mv a b c] S) R := by
  simp only [F_is_move, b_is_move, runF, mv, aRet, aRetN, aSeq, aNext, aDrop, aSetS, aAsg, aGName, gtup, gcons, gnil, aGSub, aPar, aPar3, aIf, aB, bOf_b, aAnd, aOr, aNot, aAndV, aOrV, aNotV, aChain, aBin, aUn, aCall, aCons, aNil, aTup, aLst, aLstM, aC, aIsN, aNotN, isN_n, isN_i, isN_t, isN_s, isN_l, isN_b, aSl, aNoPart, aPart, iOf_i, aFor, aItems, aRange1, aRange2, ev_methL, aYes, v0, v1, v2, v3, v4, v5, v6, v7, v8, v9, v10, v11, v12, v13, add_ii, add_ss, add_tt, add_ll, sub_ii, mul_ii, div_ii, mod_ii, pow_6, pow_18, pow_30, neg_i, lt_ii, le_ii, gt_ii, ge_ii, eq_ii, ne_ii, eq_ss, ne_ss, eq_tyty, ne_tyty, ix_t0, ix_t1, ix_t2, ix_l0, ix_l1, ix_l2, len_t, len_l, len_f, int_i, abs_i, max_ii, min_ii, divmod_ii, tuple_l, tuple_t, list_l, list_t, type_i, type_t, type_s, items_l, items_t, items_f, items_s, sl_l, sl_f, sl_t, ev_bind, ev_ok, ev_sel, ev_guard, bind_ok, List.map_cons, List.map_nil, List.length_cons, List.length_nil, List.cons_append, List.nil_append, List.set_cons_zero, List.set_cons_succ, List.replicate_succ, List.replicate_zero, Nat.reduceAdd, Nat.reduceSub, br_true, br_false, decide_true, decide_false, Bool.not_true, Bool.not_false, Bool.and_self, Bool.and_true, Bool.true_and, true_and, and_true, small_0, small_1, small_2, small_3, small_4, small_5, small_6, small_7, small_8, mulOk_0, mulOk_1, mulOk_2, mulOk_r0, mulOk_r1, mulOk_r2, k1_eq, k12_eq, k21_eq]
  refine ⟨rfl, ?_⟩
  rw [show (((3 : Nat) : Int) == 3) = true from rfl, br_true]
  unfold aComp
  try simp only [aRet, aRetN, aSeq, aNext, aDrop, aSetS, aAsg, aGName, gtup, gcons, gnil, aGSub, aPar, aPar3, aIf, aB, bOf_b, aAnd, aOr, aNot, aAndV, aOrV, aNotV, aChain, aBin, aUn, aCall, aCons, aNil, aTup, aLst, aLstM, aC, aIsN, aNotN, isN_n, isN_i, isN_t, isN_s, isN_l, isN_b, aSl, aNoPart, aPart, iOf_i, aFor, aItems, aRange1, aRange2, ev_methL, aYes, v0, v1, v2, v3, v4, v5, v6, v7, v8, v9, v10, v11, v12, v13, add_ii, add_ss, add_tt, add_ll, sub_ii, mul_ii, div_ii, mod_ii, pow_6, pow_18, pow_30, neg_i, lt_ii, le_ii, gt_ii, ge_ii, eq_ii, ne_ii, eq_ss, ne_ss, eq_tyty, ne_tyty, ix_t0, ix_t1, ix_t2, ix_l0, ix_l1, ix_l2, len_t, len_l, len_f, int_i, abs_i, max_ii, min_ii, divmod_ii, tuple_l, tuple_t, list_l, list_t, type_i, type_t, type_s, items_l, items_t, items_f, items_s, sl_l, sl_f, sl_t, ev_bind, ev_ok, ev_sel, ev_guard, bind_ok, List.map_cons, List.map_nil, List.length_cons, List.length_nil, List.cons_append, List.nil_append, List.set_cons_zero, List.set_cons_succ, List.replicate_succ, List.replicate_zero, Nat.reduceAdd, Nat.reduceSub, br_true, br_false, decide_true, decide_false, Bool.not_true, Bool.not_false, Bool.and_self, Bool.and_true, Bool.true_and, true_and, and_true, small_0, small_1, small_2, small_3, small_4, small_5, small_6, small_7, small_8, mulOk_0, mulOk_1, mulOk_2, mulOk_r0, mulOk_r1, mulOk_r2, k1_eq, k12_eq, k21_eq]
  rw [ev_lstOf, cloop_map (fun _ => .bl true) _ _ (Nat.le_of_ble_eq_true rfl) (fun d hd => ?_)]
  · rw [ev_ok, List.nil_append]
    exact ev_of (all_l (bs := [true, true, true])) k
  · simp only [List.mem_cons, List.not_mem_nil, or_false] at hd
    rcases hd with rfl | rfl | rfl <;> exact ⟨_, rfl, rfl⟩
theorem F_need_move_ev {a b c : Int} {S : List O} {R : D → List O → Prop} (k : R .non S) : ev (F_need_move [mv a b c] S) R := by
  simp only [F_need_move, b_need_move, runF, aRet, aRetN, aSeq, aNext, aDrop, aSetS, aAsg, aGName, gtup, gcons, gnil, aGSub, aPar, aPar3, aIf, aB, bOf_b, aAnd, aOr, aNot, aAndV, aOrV, aNotV, aChain, aBin, aUn, aCall, aCons, aNil, aTup, aLst, aLstM, aC, aIsN, aNotN, isN_n, isN_i, isN_t, isN_s, isN_l, isN_b, aSl, aNoPart, aPart, iOf_i, aFor, aItems, aRange1, aRange2, ev_methL, aYes, v0, v1, v2, v3, v4, v5, v6, v7, v8, v9, v10, v11, v12, v13, add_ii, add_ss, add_tt, add_ll, sub_ii, mul_ii, div_ii, mod_ii, pow_6, pow_18, pow_30, neg_i, lt_ii, le_ii, gt_ii, ge_ii, eq_ii, ne_ii, eq_ss, ne_ss, eq_tyty, ne_tyty, ix_t0, ix_t1, ix_t2, ix_l0, ix_l1, ix_l2, len_t, len_l, len_f, int_i, abs_i, max_ii, min_ii, divmod_ii, tuple_l, tuple_t, list_l, list_t, type_i, type_t, type_s, items_l, items_t, items_f, items_s, sl_l, sl_f, sl_t, ev_bind, ev_ok, ev_sel, ev_guard, bind_ok, List.map_cons, List.map_nil, List.length_cons, List.length_nil, List.cons_append, List.nil_append, List.set_cons_zero, List.set_cons_succ, List.replicate_succ, List.replicate_zero, Nat.reduceAdd, Nat.reduceSub, br_true, br_false, decide_true, decide_false, Bool.not_true, Bool.not_false, Bool.and_self, Bool.and_true, Bool.true_and, true_and, and_true, small_0, small_1, small_2, small_3, small_4, small_5, small_6, small_7, small_8, mulOk_0, mulOk_1, mulOk_2, mulOk_r0, mulOk_r1, mulOk_r2, k1_eq, k12_eq, k21_eq]
  refine F_is_move_ev ?_
  try simp only [aRet, aRetN, aSeq, aNext, aDrop, aSetS, aAsg, aGName, gtup, gcons, gnil, aGSub, aPar, aPar3, aIf, aB, bOf_b, aAnd, aOr, aNot, aAndV, aOrV, aNotV, aChain, aBin, aUn, aCall, aCons, aNil, aTup, aLst, aLstM, aC, aIsN, aNotN, isN_n, isN_i, isN_t, isN_s, isN_l, isN_b, aSl, aNoPart, aPart, iOf_i, aFor, aItems, aRange1, aRange2, ev_methL, aYes, v0, v1, v2, v3, v4, v5, v6, v7, v8, v9, v10, v11, v12, v13, add_ii, add_ss, add_tt, add_ll, sub_ii, mul_ii, div_ii, mod_ii, pow_6, pow_18, pow_30, neg_i, lt_ii, le_ii, gt_ii, ge_ii, eq_ii, ne_ii, eq_ss, ne_ss, eq_tyty, ne_tyty, ix_t0, ix_t1, ix_t2, ix_l0, ix_l1, ix_l2, len_t, len_l, len_f, int_i, abs_i, max_ii, min_ii, divmod_ii, tuple_l, tuple_t, list_l, list_t, type_i, type_t, type_s, items_l, items_t, items_f, items_s, sl_l, sl_f, sl_t, ev_bind, ev_ok, ev_sel, ev_guard, bind_ok, List.map_cons, List.map_nil, List.length_cons, List.length_nil, List.cons_append, List.nil_append, List.set_cons_zero, List.set_cons_succ, List.replicate_succ, List.replicate_zero, Nat.reduceAdd, Nat.reduceSub, br_true, br_false, decide_true, decide_false, Bool.not_true, Bool.not_false, Bool.and_self, Bool.and_true, Bool.true_and, true_and, and_true, small_0, small_1, small_2, small_3, small_4, small_5, small_6, small_7, small_8, mulOk_0, mulOk_1, mulOk_2, mulOk_r0, mulOk_r1, mulOk_r2, k1_eq, k12_eq, k21_eq]
  try simp only [aRet, aRetN, aSeq, aNext, aDrop, aSetS, aAsg, aGName, gtup, gcons, gnil, aGSub, aPar, aPar3, aIf, aB, bOf_b, aAnd, aOr, aNot, aAndV, aOrV, aNotV, aChain, aBin, aUn, aCall, aCons, aNil, aTup, aLst, aLstM, aC, aIsN, aNotN, isN_n, isN_i, isN_t, isN_s, isN_l, isN_b, aSl, aNoPart, aPart, iOf_i, aFor, aItems, aRange1, aRange2, ev_methL, aYes, v0, v1, v2, v3, v4, v5, v6, v7, v8, v9, v10, v11, v12, v13, add_ii, add_ss, add_tt, add_ll, sub_ii, mul_ii, div_ii, mod_ii, pow_6, pow_18, pow_30, neg_i, lt_ii, le_ii, gt_ii, ge_ii, eq_ii, ne_ii, eq_ss, ne_ss, eq_tyty, ne_tyty, ix_t0, ix_t1, ix_t2, ix_l0, ix_l1, ix_l2, len_t, len_l, len_f, int_i, abs_i, max_ii, min_ii, divmod_ii, tuple_l, tuple_t, list_l, list_t, type_i, type_t, type_s, items_l, items_t, items_f, items_s, sl_l, sl_f, sl_t, ev_bind, ev_ok, ev_sel, ev_guard, bind_ok, List.map_cons, List.map_nil, List.length_cons, List.length_nil, List.cons_append, List.nil_append, List.set_cons_zero, List.set_cons_succ, List.replicate_succ, List.replicate_zero, Nat.reduceAdd, Nat.reduceSub, br_true, br_false, decide_true, decide_false, Bool.not_true, Bool.not_false, Bool.and_self, Bool.and_true, Bool.true_and, true_and, and_true, small_0, small_1, small_2, small_3, small_4, small_5, small_6, small_7, small_8, mulOk_0, mulOk_1, mulOk_2, mulOk_r0, mulOk_r1, mulOk_r2, k1_eq, k12_eq, k21_eq]
  exact k
theorem F_then_ev {a b c d e f : Int} {S : List O} {R : D → List O → Prop} (h : mulOk a e = true) (k : R (mv (a + d) (b + e) (c + f + a * e)) S) : ev (F_then [mv a b c, mv d e f] S) R := by
  simp only [F_then, b_then, runF, aRet, aRetN, aSeq, aNext, aDrop, aSetS, aAsg, aGName, gtup, gcons, gnil, aGSub, aPar, aPar3, aIf, aB, bOf_b, aAnd, aOr, aNot, aAndV, aOrV, aNotV, aChain, aBin, aUn, aCall, aCons, aNil, aTup, aLst, aLstM, aC, aIsN, aNotN, isN_n, isN_i, isN_t, isN_s, isN_l, isN_b, aSl, aNoPart, aPart, iOf_i, aFor, aItems, aRange1, aRange2, ev_methL, aYes, v0, v1, v2, v3, v4, v5, v6, v7, v8, v9, v10, v11, v12, v13, add_ii, add_ss, add_tt, add_ll, sub_ii, mul_ii, div_ii, mod_ii, pow_6, pow_18, pow_30, neg_i, lt_ii, le_ii, gt_ii, ge_ii, eq_ii, ne_ii, eq_ss, ne_ss, eq_tyty, ne_tyty, ix_t0, ix_t1, ix_t2, ix_l0, ix_l1, ix_l2, len_t, len_l, len_f, int_i, abs_i, max_ii, min_ii, divmod_ii, tuple_l, tuple_t, list_l, list_t, type_i, type_t, type_s, items_l, items_t, items_f, items_s, sl_l, sl_f, sl_t, ev_bind, ev_ok, ev_sel, ev_guard, bind_ok, List.map_cons, List.map_nil, List.length_cons, List.length_nil, List.cons_append, List.nil_append, List.set_cons_zero, List.set_cons_succ, List.replicate_succ, List.replicate_zero, Nat.reduceAdd, Nat.reduceSub, br_true, br_false, decide_true, decide_false, Bool.not_true, Bool.not_false, Bool.and_self, Bool.and_true, Bool.true_and, true_and, and_true, small_0, small_1, small_2, small_3, small_4, small_5, small_6, small_7, small_8, mulOk_0, mulOk_1, mulOk_2, mulOk_r0, mulOk_r1, mulOk_r2, k1_eq, k12_eq, k21_eq]
  refine F_need_move_ev ?_
  try simp only [aRet, aRetN, aSeq, aNext, aDrop, aSetS, aAsg, aGName, gtup, gcons, gnil, aGSub, aPar, aPar3, aIf, aB, bOf_b, aAnd, aOr, aNot, aAndV, aOrV, aNotV, aChain, aBin, aUn, aCall, aCons, aNil, aTup, aLst, aLstM, aC, aIsN, aNotN, isN_n, isN_i, isN_t, isN_s, isN_l, isN_b, aSl, aNoPart, aPart, iOf_i, aFor, aItems, aRange1, aRange2, ev_methL, aYes, v0, v1, v2, v3, v4, v5, v6, v7, v8, v9, v10, v11, v12, v13, add_ii, add_ss, add_tt, add_ll, sub_ii, mul_ii, div_ii, mod_ii, pow_6, pow_18, pow_30, neg_i, lt_ii, le_ii, gt_ii, ge_ii, eq_ii, ne_ii, eq_ss, ne_ss, eq_tyty, ne_tyty, ix_t0, ix_t1, ix_t2, ix_l0, ix_l1, ix_l2, len_t, len_l, len_f, int_i, abs_i, max_ii, min_ii, divmod_ii, tuple_l, tuple_t, list_l, list_t, type_i, type_t, type_s, items_l, items_t, items_f, items_s, sl_l, sl_f, sl_t, ev_bind, ev_ok, ev_sel, ev_guard, bind_ok, List.map_cons, List.map_nil, List.length_cons, List.length_nil, List.cons_append, List.nil_append, List.set_cons_zero, List.set_cons_succ, List.replicate_succ, List.replicate_zero, Nat.reduceAdd, Nat.reduceSub, br_true, br_false, decide_true, decide_false, Bool.not_true, Bool.not_false, Bool.and_self, Bool.and_true, Bool.true_and, true_and, and_true, small_0, small_1, small_2, small_3, small_4, small_5, small_6, small_7, small_8, mulOk_0, mulOk_1, mulOk_2, mulOk_r0, mulOk_r1, mulOk_r2, k1_eq, k12_eq, k21_eq]
  try simp only [aRet, aRetN, aSeq, aNext, aDrop, aSetS, aAsg, aGName, gtup, gcons, gnil, aGSub, aPar, aPar3, aIf, aB, bOf_b, aAnd, aOr, aNot, aAndV, aOrV, aNotV, aChain, aBin, aUn, aCall, aCons, aNil, aTup, aLst, aLstM, aC, aIsN, aNotN, isN_n, isN_i, isN_t, isN_s, isN_l, isN_b, aSl, aNoPart, aPart, iOf_i, aFor, aItems, aRange1, aRange2, ev_methL, aYes, v0, v1, v2, v3, v4, v5, v6, v7, v8, v9, v10, v11, v12, v13, add_ii, add_ss, add_tt, add_ll, sub_ii, mul_ii, div_ii, mod_ii, pow_6, pow_18, pow_30, neg_i, lt_ii, le_ii, gt_ii, ge_ii, eq_ii, ne_ii, eq_ss, ne_ss, eq_tyty, ne_tyty, ix_t0, ix_t1, ix_t2, ix_l0, ix_l1, ix_l2, len_t, len_l, len_f, int_i, abs_i, max_ii, min_ii, divmod_ii, tuple_l, tuple_t, list_l, list_t, type_i, type_t, type_s, items_l, items_t, items_f, items_s, sl_l, sl_f, sl_t, ev_bind, ev_ok, ev_sel, ev_guard, bind_ok, List.map_cons, List.map_nil, List.length_cons, List.length_nil, List.cons_append, List.nil_append, List.set_cons_zero, List.set_cons_succ, List.replicate_succ, List.replicate_zero, Nat.reduceAdd, Nat.reduceSub, br_true, br_false, decide_true, decide_false, Bool.not_true, Bool.not_false, Bool.and_self, Bool.and_true, Bool.true_and, true_and, and_true, small_0, small_1, small_2, small_3, small_4, small_5, small_6, small_7, small_8, mulOk_0, mulOk_1, mulOk_2, mulOk_r0, mulOk_r1, mulOk_r2, k1_eq, k12_eq, k21_eq]
  refine F_need_move_ev ?_
  try simp only [aRet, aRetN, aSeq, aNext, aDrop, aSetS, aAsg, aGName, gtup, gcons, gnil, aGSub, aPar, aPar3, aIf, aB, bOf_b, aAnd, aOr, aNot, aAndV, aOrV, aNotV, aChain, aBin, aUn, aCall, aCons, aNil, aTup, aLst, aLstM, aC, aIsN, aNotN, isN_n, isN_i, isN_t, isN_s, isN_l, isN_b, aSl, aNoPart, aPart, iOf_i, aFor, aItems, aRange1, aRange2, ev_methL, aYes, v0, v1, v2, v3, v4, v5, v6, v7, v8, v9, v10, v11, v12, v13, add_ii, add_ss, add_tt, add_ll, sub_ii, mul_ii, div_ii, mod_ii, pow_6, pow_18, pow_30, neg_i, lt_ii, le_ii, gt_ii, ge_ii, eq_ii, ne_ii, eq_ss, ne_ss, eq_tyty, ne_tyty, ix_t0, ix_t1, ix_t2, ix_l0, ix_l1, ix_l2, len_t, len_l, len_f, int_i, abs_i, max_ii, min_ii, divmod_ii, tuple_l, tuple_t, list_l, list_t, type_i, type_t, type_s, items_l, items_t, items_f, items_s, sl_l, sl_f, sl_t, ev_bind, ev_ok, ev_sel, ev_guard, bind_ok, List.map_cons, List.map_nil, List.length_cons, List.length_nil, List.cons_append, List.nil_append, List.set_cons_zero, List.set_cons_succ, List.replicate_succ, List.replicate_zero, Nat.reduceAdd, Nat.reduceSub, br_true, br_false, decide_true, decide_false, Bool.not_true, Bool.not_false, Bool.and_self, Bool.and_true, Bool.true_and, true_and, and_true, small_0, small_1, small_2, small_3, small_4, small_5, small_6, small_7, small_8, mulOk_0, mulOk_1, mulOk_2, mulOk_r0, mulOk_r1, mulOk_r2, k1_eq, k12_eq, k21_eq]
  try simp only [aRet, aRetN, aSeq, aNext, aDrop, aSetS, aAsg, aGName, gtup, gcons, gnil, aGSub, aPar, aPar3, aIf, aB, bOf_b, aAnd, aOr, aNot, aAndV, aOrV, aNotV, aChain, aBin, aUn, aCall, aCons, aNil, aTup, aLst, aLstM, aC, aIsN, aNotN, isN_n, isN_i, isN_t, isN_s, isN_l, isN_b, aSl, aNoPart, aPart, iOf_i, aFor, aItems, aRange1, aRange2, ev_methL, aYes, v0, v1, v2, v3, v4, v5, v6, v7, v8, v9, v10, v11, v12, v13, add_ii, add_ss, add_tt, add_ll, sub_ii, mul_ii, div_ii, mod_ii, pow_6, pow_18, pow_30, neg_i, lt_ii, le_ii, gt_ii, ge_ii, eq_ii, ne_ii, eq_ss, ne_ss, eq_tyty, ne_tyty, ix_t0, ix_t1, ix_t2, ix_l0, ix_l1, ix_l2, len_t, len_l, len_f, int_i, abs_i, max_ii, min_ii, divmod_ii, tuple_l, tuple_t, list_l, list_t, type_i, type_t, type_s, items_l, items_t, items_f, items_s, sl_l, sl_f, sl_t, ev_bind, ev_ok, ev_sel, ev_guard, bind_ok, List.map_cons, List.map_nil, List.length_cons, List.length_nil, List.cons_append, List.nil_append, List.set_cons_zero, List.set_cons_succ, List.replicate_succ, List.replicate_zero, Nat.reduceAdd, Nat.reduceSub, br_true, br_false, decide_true, decide_false, Bool.not_true, Bool.not_false, Bool.and_self, Bool.and_true, Bool.true_and, true_and, and_true, small_0, small_1, small_2, small_3, small_4, small_5, small_6, small_7, small_8, mulOk_0, mulOk_1, mulOk_2, mulOk_r0, mulOk_r1, mulOk_r2, k1_eq, k12_eq, k21_eq]
  exact F_joined_ev h k
/-! moves as triples -/
abbrev Mv := Int × Int × Int
def md (m : Mv) : D := mv m.1 m.2.1 m.2.2
def jn (a b : Mv) : Mv := (a.1 + b.1, a.2.1 + b.2.1, a.2.2 + b.2.2 + a.1 * b.2.1)
def un (a : Mv) : Mv := (-a.1, -a.2.1, a.1 * a.2.1 - a.2.2)
def aft (ms : List Mv) : Mv := ms.foldl jn (0, 0, 0)
theorem jn_assoc (a b c : Mv) : jn (jn a b) c = jn a (jn b c) := by
  unfold jn
  refine Prod.ext ?_ (Prod.ext ?_ ?_)
  · show a.1 + b.1 + c.1 = a.1 + (b.1 + c.1); omega
  · show a.2.1 + b.2.1 + c.2.1 = a.2.1 + (b.2.1 + c.2.1); omega
  · show a.2.2 + b.2.2 + a.1 * b.2.1 + c.2.2 + (a.1 + b.1) * c.2.1 = a.2.2 + (b.2.2 + c.2.2 + b.1 * c.2.1) + a.1 * (b.2.1 + c.2.1)
    grind
theorem jn_zero (a : Mv) : jn a (0, 0, 0) = a := by
  obtain ⟨a, b, c⟩ := a
  simp [jn]
theorem zero_jn (a : Mv) : jn (0, 0, 0) a = a := by
  obtain ⟨a, b, c⟩ := a
  simp [jn]
theorem foldl_jn (ms : List Mv) (a : Mv) : ms.foldl jn a = jn a (aft ms) := by
  unfold aft
  induction ms generalizing a with
  | nil => rw [List.foldl_nil, List.foldl_nil, jn_zero]
  | cons m ms ih => rw [List.foldl_cons, List.foldl_cons, ih (jn a m), ih (jn (0, 0, 0) m), zero_jn, jn_assoc]
theorem aft_append (xs ys : List Mv) : aft (xs ++ ys) = jn (aft xs) (aft ys) := by
  show (xs ++ ys).foldl jn (0, 0, 0) = _
  rw [List.foldl_append, foldl_jn]; rfl
theorem aft_three (a b c : Mv) : aft [a, b, c] = jn (jn a b) c := by
  simp [aft, zero_jn]
/-- the steps' sizes -/
def sm (n : Nat) (m : Mv) : Prop := Z.bd n m.1 ∧ Z.bd n m.2.1
theorem sm_le {n k : Nat} {m : Mv} (h : sm n m) (l : n ≤ k) : sm k m := ⟨Z.bd_le h.1 l, Z.bd_le h.2 l⟩
theorem sm_jn {n : Nat} {a b : Mv} (ha : sm n a) (hb : sm n b) : sm (n + 1) (jn a b) := ⟨Z.bd_add ha.1 hb.1, Z.bd_add ha.2 hb.2⟩
theorem sm_zero {n : Nat} : sm n (0, 0, 0) := by
  have h : Z.bd n 0 := by unfold Z.bd; exact Nat.two_pow_pos _
  exact ⟨h, h⟩
theorem sm_fold {n : Nat} : ∀ (ms : List Mv) (a : Mv) (k : Nat), n ≤ k → sm k a → (∀ m ∈ ms, sm n m) → sm (k + ms.length) (ms.foldl jn a)
  | [], a, k, _, h, _ => h
  | m :: ms, a, k, l, h, q => by
    rw [List.foldl_cons, List.length_cons, show k + (ms.length + 1) = k + 1 + ms.length by omega]
    exact sm_fold ms _ (k + 1) (by omega) (sm_jn h (sm_le (q m List.mem_cons_self) l)) fun x hx => q x (List.mem_cons_of_mem _ hx)
theorem sm_aft {n : Nat} {ms : List Mv} (q : ∀ m ∈ ms, sm n m) : sm (n + ms.length) (aft ms) := sm_fold ms _ n (Nat.le_refl _) sm_zero q
theorem mulOk_sm {n k : Nat} {a b : Mv} (ha : sm n a) (hb : sm k b) (h : n + k + 2 ≤ 1000000) : mulOk a.1 b.2.1 = true := mulOk_of ha.1 hb.2 h
theorem md_joined {a b : Mv} {S : List O} {R : D → List O → Prop} (h : mulOk a.1 b.2.1 = true) (k : R (md (jn a b)) S) : ev (F_joined [md a, md b] S) R := F_joined_ev h k
theorem md_then {a b : Mv} {S : List O} {R : D → List O → Prop} (h : mulOk a.1 b.2.1 = true) (k : R (md (jn a b)) S) : ev (F_then [md a, md b] S) R := F_then_ev h k
theorem F_after_ev {ms : List Mv} {n : Nat} {S : List O} {R : D → List O → Prop} (q : ∀ m ∈ ms, sm n m) (hn : n + n + ms.length ≤ 900000) (k : R (md (aft ms)) S) : ev (F_after [.tup (ms.map md)] S) R := by
  simp only [F_after, b_after, runF, aRet, aRetN, aSeq, aNext, aDrop, aSetS, aAsg, aGName, gtup, gcons, gnil, aGSub, aPar, aPar3, aIf, aB, bOf_b, aAnd, aOr, aNot, aAndV, aOrV, aNotV, aChain, aBin, aUn, aCall, aCons, aNil, aTup, aLst, aLstM, aC, aIsN, aNotN, isN_n, isN_i, isN_t, isN_s, isN_l, isN_b, aSl, aNoPart, aPart, iOf_i, aFor, aItems, aRange1, aRange2, ev_methL, aYes, v0, v1, v2, v3, v4, v5, v6, v7, v8, v9, v10, v11, v12, v13, add_ii, add_ss, add_tt, add_ll, sub_ii, mul_ii, div_ii, mod_ii, pow_6, pow_18, pow_30, neg_i, lt_ii, le_ii, gt_ii, ge_ii, eq_ii, ne_ii, eq_ss, ne_ss, eq_tyty, ne_tyty, ix_t0, ix_t1, ix_t2, ix_l0, ix_l1, ix_l2, len_t, len_l, len_f, int_i, abs_i, max_ii, min_ii, divmod_ii, tuple_l, tuple_t, list_l, list_t, type_i, type_t, type_s, items_l, items_t, items_f, items_s, sl_l, sl_f, sl_t, ev_bind, ev_ok, ev_sel, ev_guard, bind_ok, List.map_cons, List.map_nil, List.length_cons, List.length_nil, List.cons_append, List.nil_append, List.set_cons_zero, List.set_cons_succ, List.replicate_succ, List.replicate_zero, Nat.reduceAdd, Nat.reduceSub, br_true, br_false, decide_true, decide_false, Bool.not_true, Bool.not_false, Bool.and_self, Bool.and_true, Bool.true_and, true_and, and_true, small_0, small_1, small_2, small_3, small_4, small_5, small_6, small_7, small_8, mulOk_0, mulOk_1, mulOk_2, mulOk_r0, mulOk_r1, mulOk_r2, k1_eq, k12_eq, k21_eq, aEnum]
  refine ⟨rfl, ?_⟩
  refine ev_loop (fun i ρ S' => S' = S ∧ ∃ c1 c2, ρ = [some (.tup (ms.map md)), c1, c2, none]) _ 0 _ _ ⟨rfl, _, _, rfl⟩ ?_ ?_
  · rintro j d ρ S' hd ⟨rfl, c1, c2, rfl⟩
    obtain ⟨x, e1, rfl⟩ := enumD_get hd
    rw [List.getElem?_map] at e1
    cases hm : ms[j]? with
    | none => rw [hm] at e1; cases e1
    | some m =>
      rw [hm] at e1
      cases e1
      try simp only [aRet, aRetN, aSeq, aNext, aDrop, aSetS, aAsg, aGName, gtup, gcons, gnil, aGSub, aPar, aPar3, aIf, aB, bOf_b, aAnd, aOr, aNot, aAndV, aOrV, aNotV, aChain, aBin, aUn, aCall, aCons, aNil, aTup, aLst, aLstM, aC, aIsN, aNotN, isN_n, isN_i, isN_t, isN_s, isN_l, isN_b, aSl, aNoPart, aPart, iOf_i, aFor, aItems, aRange1, aRange2, ev_methL, aYes, v0, v1, v2, v3, v4, v5, v6, v7, v8, v9, v10, v11, v12, v13, add_ii, add_ss, add_tt, add_ll, sub_ii, mul_ii, div_ii, mod_ii, pow_6, pow_18, pow_30, neg_i, lt_ii, le_ii, gt_ii, ge_ii, eq_ii, ne_ii, eq_ss, ne_ss, eq_tyty, ne_tyty, ix_t0, ix_t1, ix_t2, ix_l0, ix_l1, ix_l2, len_t, len_l, len_f, int_i, abs_i, max_ii, min_ii, divmod_ii, tuple_l, tuple_t, list_l, list_t, type_i, type_t, type_s, items_l, items_t, items_f, items_s, sl_l, sl_f, sl_t, ev_bind, ev_ok, ev_sel, ev_guard, bind_ok, List.map_cons, List.map_nil, List.length_cons, List.length_nil, List.cons_append, List.nil_append, List.set_cons_zero, List.set_cons_succ, List.replicate_succ, List.replicate_zero, Nat.reduceAdd, Nat.reduceSub, br_true, br_false, decide_true, decide_false, Bool.not_true, Bool.not_false, Bool.and_self, Bool.and_true, Bool.true_and, true_and, and_true, small_0, small_1, small_2, small_3, small_4, small_5, small_6, small_7, small_8, mulOk_0, mulOk_1, mulOk_2, mulOk_r0, mulOk_r1, mulOk_r2, k1_eq, k12_eq, k21_eq]
      refine F_is_move_ev ?_
      try simp only [aRet, aRetN, aSeq, aNext, aDrop, aSetS, aAsg, aGName, gtup, gcons, gnil, aGSub, aPar, aPar3, aIf, aB, bOf_b, aAnd, aOr, aNot, aAndV, aOrV, aNotV, aChain, aBin, aUn, aCall, aCons, aNil, aTup, aLst, aLstM, aC, aIsN, aNotN, isN_n, isN_i, isN_t, isN_s, isN_l, isN_b, aSl, aNoPart, aPart, iOf_i, aFor, aItems, aRange1, aRange2, ev_methL, aYes, v0, v1, v2, v3, v4, v5, v6, v7, v8, v9, v10, v11, v12, v13, add_ii, add_ss, add_tt, add_ll, sub_ii, mul_ii, div_ii, mod_ii, pow_6, pow_18, pow_30, neg_i, lt_ii, le_ii, gt_ii, ge_ii, eq_ii, ne_ii, eq_ss, ne_ss, eq_tyty, ne_tyty, ix_t0, ix_t1, ix_t2, ix_l0, ix_l1, ix_l2, len_t, len_l, len_f, int_i, abs_i, max_ii, min_ii, divmod_ii, tuple_l, tuple_t, list_l, list_t, type_i, type_t, type_s, items_l, items_t, items_f, items_s, sl_l, sl_f, sl_t, ev_bind, ev_ok, ev_sel, ev_guard, bind_ok, List.map_cons, List.map_nil, List.length_cons, List.length_nil, List.cons_append, List.nil_append, List.set_cons_zero, List.set_cons_succ, List.replicate_succ, List.replicate_zero, Nat.reduceAdd, Nat.reduceSub, br_true, br_false, decide_true, decide_false, Bool.not_true, Bool.not_false, Bool.and_self, Bool.and_true, Bool.true_and, true_and, and_true, small_0, small_1, small_2, small_3, small_4, small_5, small_6, small_7, small_8, mulOk_0, mulOk_1, mulOk_2, mulOk_r0, mulOk_r1, mulOk_r2, k1_eq, k12_eq, k21_eq]
      try simp only [aRet, aRetN, aSeq, aNext, aDrop, aSetS, aAsg, aGName, gtup, gcons, gnil, aGSub, aPar, aPar3, aIf, aB, bOf_b, aAnd, aOr, aNot, aAndV, aOrV, aNotV, aChain, aBin, aUn, aCall, aCons, aNil, aTup, aLst, aLstM, aC, aIsN, aNotN, isN_n, isN_i, isN_t, isN_s, isN_l, isN_b, aSl, aNoPart, aPart, iOf_i, aFor, aItems, aRange1, aRange2, ev_methL, aYes, v0, v1, v2, v3, v4, v5, v6, v7, v8, v9, v10, v11, v12, v13, add_ii, add_ss, add_tt, add_ll, sub_ii, mul_ii, div_ii, mod_ii, pow_6, pow_18, pow_30, neg_i, lt_ii, le_ii, gt_ii, ge_ii, eq_ii, ne_ii, eq_ss, ne_ss, eq_tyty, ne_tyty, ix_t0, ix_t1, ix_t2, ix_l0, ix_l1, ix_l2, len_t, len_l, len_f, int_i, abs_i, max_ii, min_ii, divmod_ii, tuple_l, tuple_t, list_l, list_t, type_i, type_t, type_s, items_l, items_t, items_f, items_s, sl_l, sl_f, sl_t, ev_bind, ev_ok, ev_sel, ev_guard, bind_ok, List.map_cons, List.map_nil, List.length_cons, List.length_nil, List.cons_append, List.nil_append, List.set_cons_zero, List.set_cons_succ, List.replicate_succ, List.replicate_zero, Nat.reduceAdd, Nat.reduceSub, br_true, br_false, decide_true, decide_false, Bool.not_true, Bool.not_false, Bool.and_self, Bool.and_true, Bool.true_and, true_and, and_true, small_0, small_1, small_2, small_3, small_4, small_5, small_6, small_7, small_8, mulOk_0, mulOk_1, mulOk_2, mulOk_r0, mulOk_r1, mulOk_r2, k1_eq, k12_eq, k21_eq]
      exact ⟨_, _, rfl⟩
  · rintro ρ S' ⟨rfl, c1, c2, rfl⟩
    try simp only [aRet, aRetN, aSeq, aNext, aDrop, aSetS, aAsg, aGName, gtup, gcons, gnil, aGSub, aPar, aPar3, aIf, aB, bOf_b, aAnd, aOr, aNot, aAndV, aOrV, aNotV, aChain, aBin, aUn, aCall, aCons, aNil, aTup, aLst, aLstM, aC, aIsN, aNotN, isN_n, isN_i, isN_t, isN_s, isN_l, isN_b, aSl, aNoPart, aPart, iOf_i, aFor, aItems, aRange1, aRange2, ev_methL, aYes, v0, v1, v2, v3, v4, v5, v6, v7, v8, v9, v10, v11, v12, v13, add_ii, add_ss, add_tt, add_ll, sub_ii, mul_ii, div_ii, mod_ii, pow_6, pow_18, pow_30, neg_i, lt_ii, le_ii, gt_ii, ge_ii, eq_ii, ne_ii, eq_ss, ne_ss, eq_tyty, ne_tyty, ix_t0, ix_t1, ix_t2, ix_l0, ix_l1, ix_l2, len_t, len_l, len_f, int_i, abs_i, max_ii, min_ii, divmod_ii, tuple_l, tuple_t, list_l, list_t, type_i, type_t, type_s, items_l, items_t, items_f, items_s, sl_l, sl_f, sl_t, ev_bind, ev_ok, ev_sel, ev_guard, bind_ok, List.map_cons, List.map_nil, List.length_cons, List.length_nil, List.cons_append, List.nil_append, List.set_cons_zero, List.set_cons_succ, List.replicate_succ, List.replicate_zero, Nat.reduceAdd, Nat.reduceSub, br_true, br_false, decide_true, decide_false, Bool.not_true, Bool.not_false, Bool.and_self, Bool.and_true, Bool.true_and, true_and, and_true, small_0, small_1, small_2, small_3, small_4, small_5, small_6, small_7, small_8, mulOk_0, mulOk_1, mulOk_2, mulOk_r0, mulOk_r1, mulOk_r2, k1_eq, k12_eq, k21_eq]
    refine ev_loop (fun i ρ S'' => S'' = S' ∧ ∃ c2, ρ = [some (.tup (ms.map md)), c1, c2, some (md (aft (ms.take i)))]) _ 0 _ _ ⟨rfl, _, rfl⟩ ?_ ?_
    · rintro j d ρ S'' hd ⟨rfl, c2, rfl⟩
      rw [List.getElem?_map] at hd
      cases hm : ms[j]? with
      | none => rw [hm] at hd; cases hd
      | some m =>
        rw [hm] at hd
        cases hd
        have hj : j < ms.length := (List.getElem?_eq_some_iff.mp hm).1
        try simp only [aRet, aRetN, aSeq, aNext, aDrop, aSetS, aAsg, aGName, gtup, gcons, gnil, aGSub, aPar, aPar3, aIf, aB, bOf_b, aAnd, aOr, aNot, aAndV, aOrV, aNotV, aChain, aBin, aUn, aCall, aCons, aNil, aTup, aLst, aLstM, aC, aIsN, aNotN, isN_n, isN_i, isN_t, isN_s, isN_l, isN_b, aSl, aNoPart, aPart, iOf_i, aFor, aItems, aRange1, aRange2, ev_methL, aYes, v0, v1, v2, v3, v4, v5, v6, v7, v8, v9, v10, v11, v12, v13, add_ii, add_ss, add_tt, add_ll, sub_ii, mul_ii, div_ii, mod_ii, pow_6, pow_18, pow_30, neg_i, lt_ii, le_ii, gt_ii, ge_ii, eq_ii, ne_ii, eq_ss, ne_ss, eq_tyty, ne_tyty, ix_t0, ix_t1, ix_t2, ix_l0, ix_l1, ix_l2, len_t, len_l, len_f, int_i, abs_i, max_ii, min_ii, divmod_ii, tuple_l, tuple_t, list_l, list_t, type_i, type_t, type_s, items_l, items_t, items_f, items_s, sl_l, sl_f, sl_t, ev_bind, ev_ok, ev_sel, ev_guard, bind_ok, List.map_cons, List.map_nil, List.length_cons, List.length_nil, List.cons_append, List.nil_append, List.set_cons_zero, List.set_cons_succ, List.replicate_succ, List.replicate_zero, Nat.reduceAdd, Nat.reduceSub, br_true, br_false, decide_true, decide_false, Bool.not_true, Bool.not_false, Bool.and_self, Bool.and_true, Bool.true_and, true_and, and_true, small_0, small_1, small_2, small_3, small_4, small_5, small_6, small_7, small_8, mulOk_0, mulOk_1, mulOk_2, mulOk_r0, mulOk_r1, mulOk_r2, k1_eq, k12_eq, k21_eq]
        have h1 : sm (n + j) (aft (ms.take j)) := by
          have := sm_aft (n := n) (ms := ms.take j) fun x hx => q x (List.mem_of_mem_take hx)
          rw [List.length_take, Nat.min_eq_left (by omega)] at this
          exact this
        have h2 : sm n m := q m (List.mem_of_getElem? hm)
        rw [Nat.zero_add]
        refine md_joined (mulOk_sm h1 h2 (by omega)) ?_
        try simp only [aRet, aRetN, aSeq, aNext, aDrop, aSetS, aAsg, aGName, gtup, gcons, gnil, aGSub, aPar, aPar3, aIf, aB, bOf_b, aAnd, aOr, aNot, aAndV, aOrV, aNotV, aChain, aBin, aUn, aCall, aCons, aNil, aTup, aLst, aLstM, aC, aIsN, aNotN, isN_n, isN_i, isN_t, isN_s, isN_l, isN_b, aSl, aNoPart, aPart, iOf_i, aFor, aItems, aRange1, aRange2, ev_methL, aYes, v0, v1, v2, v3, v4, v5, v6, v7, v8, v9, v10, v11, v12, v13, add_ii, add_ss, add_tt, add_ll, sub_ii, mul_ii, div_ii, mod_ii, pow_6, pow_18, pow_30, neg_i, lt_ii, le_ii, gt_ii, ge_ii, eq_ii, ne_ii, eq_ss, ne_ss, eq_tyty, ne_tyty, ix_t0, ix_t1, ix_t2, ix_l0, ix_l1, ix_l2, len_t, len_l, len_f, int_i, abs_i, max_ii, min_ii, divmod_ii, tuple_l, tuple_t, list_l, list_t, type_i, type_t, type_s, items_l, items_t, items_f, items_s, sl_l, sl_f, sl_t, ev_bind, ev_ok, ev_sel, ev_guard, bind_ok, List.map_cons, List.map_nil, List.length_cons, List.length_nil, List.cons_append, List.nil_append, List.set_cons_zero, List.set_cons_succ, List.replicate_succ, List.replicate_zero, Nat.reduceAdd, Nat.reduceSub, br_true, br_false, decide_true, decide_false, Bool.not_true, Bool.not_false, Bool.and_self, Bool.and_true, Bool.true_and, true_and, and_true, small_0, small_1, small_2, small_3, small_4, small_5, small_6, small_7, small_8, mulOk_0, mulOk_1, mulOk_2, mulOk_r0, mulOk_r1, mulOk_r2, k1_eq, k12_eq, k21_eq]
        try simp only [aRet, aRetN, aSeq, aNext, aDrop, aSetS, aAsg, aGName, gtup, gcons, gnil, aGSub, aPar, aPar3, aIf, aB, bOf_b, aAnd, aOr, aNot, aAndV, aOrV, aNotV, aChain, aBin, aUn, aCall, aCons, aNil, aTup, aLst, aLstM, aC, aIsN, aNotN, isN_n, isN_i, isN_t, isN_s, isN_l, isN_b, aSl, aNoPart, aPart, iOf_i, aFor, aItems, aRange1, aRange2, ev_methL, aYes, v0, v1, v2, v3, v4, v5, v6, v7, v8, v9, v10, v11, v12, v13, add_ii, add_ss, add_tt, add_ll, sub_ii, mul_ii, div_ii, mod_ii, pow_6, pow_18, pow_30, neg_i, lt_ii, le_ii, gt_ii, ge_ii, eq_ii, ne_ii, eq_ss, ne_ss, eq_tyty, ne_tyty, ix_t0, ix_t1, ix_t2, ix_l0, ix_l1, ix_l2, len_t, len_l, len_f, int_i, abs_i, max_ii, min_ii, divmod_ii, tuple_l, tuple_t, list_l, list_t, type_i, type_t, type_s, items_l, items_t, items_f, items_s, sl_l, sl_f, sl_t, ev_bind, ev_ok, ev_sel, ev_guard, bind_ok, List.map_cons, List.map_nil, List.length_cons, List.length_nil, List.cons_append, List.nil_append, List.set_cons_zero, List.set_cons_succ, List.replicate_succ, List.replicate_zero, Nat.reduceAdd, Nat.reduceSub, br_true, br_false, decide_true, decide_false, Bool.not_true, Bool.not_false, Bool.and_self, Bool.and_true, Bool.true_and, true_and, and_true, small_0, small_1, small_2, small_3, small_4, small_5, small_6, small_7, small_8, mulOk_0, mulOk_1, mulOk_2, mulOk_r0, mulOk_r1, mulOk_r2, k1_eq, k12_eq, k21_eq]
        have e : jn (aft (ms.take j)) m = aft (ms.take (j + 1)) := by
          rw [List.take_add_one, hm, aft_append]
          show _ = jn _ (aft [m])
          simp [aft, zero_jn]
        rw [e]
        exact ⟨_, rfl⟩
    · rintro ρ S'' ⟨rfl, c2, rfl⟩
      rw [List.length_map, Nat.zero_add, List.take_length]
      try simp only [aRet, aRetN, aSeq, aNext, aDrop, aSetS, aAsg, aGName, gtup, gcons, gnil, aGSub, aPar, aPar3, aIf, aB, bOf_b, aAnd, aOr, aNot, aAndV, aOrV, aNotV, aChain, aBin, aUn, aCall, aCons, aNil, aTup, aLst, aLstM, aC, aIsN, aNotN, isN_n, isN_i, isN_t, isN_s, isN_l, isN_b, aSl, aNoPart, aPart, iOf_i, aFor, aItems, aRange1, aRange2, ev_methL, aYes, v0, v1, v2, v3, v4, v5, v6, v7, v8, v9, v10, v11, v12, v13, add_ii, add_ss, add_tt, add_ll, sub_ii, mul_ii, div_ii, mod_ii, pow_6, pow_18, pow_30, neg_i, lt_ii, le_ii, gt_ii, ge_ii, eq_ii, ne_ii, eq_ss, ne_ss, eq_tyty, ne_tyty, ix_t0, ix_t1, ix_t2, ix_l0, ix_l1, ix_l2, len_t, len_l, len_f, int_i, abs_i, max_ii, min_ii, divmod_ii, tuple_l, tuple_t, list_l, list_t, type_i, type_t, type_s, items_l, items_t, items_f, items_s, sl_l, sl_f, sl_t, ev_bind, ev_ok, ev_sel, ev_guard, bind_ok, List.map_cons, List.map_nil, List.length_cons, List.length_nil, List.cons_append, List.nil_append, List.set_cons_zero, List.set_cons_succ, List.replicate_succ, List.replicate_zero, Nat.reduceAdd, Nat.reduceSub, br_true, br_false, decide_true, decide_false, Bool.not_true, Bool.not_false, Bool.and_self, Bool.and_true, Bool.true_and, true_and, and_true, small_0, small_1, small_2, small_3, small_4, small_5, small_6, small_7, small_8, mulOk_0, mulOk_1, mulOk_2, mulOk_r0, mulOk_r1, mulOk_r2, k1_eq, k12_eq, k21_eq]
      exact k
theorem cut_map {ns : List Int} {lo hi : Option Int} : cutD (ns.map D.int) lo hi = ((ns.drop (HT.sIx ns.length 0 lo)).take (HT.sIx ns.length ns.length hi - HT.sIx ns.length 0 lo)).map D.int := by
  unfold cutD
  rw [List.length_map, List.map_take, List.map_drop]
theorem rm_m (x : Int) : 0 ≤ rm x 2147483399 ∧ rm x 2147483399 < 2147483399 := by
  rw [rm_pos (by decide)]
  exact ⟨Int.emod_nonneg _ (by decide), Int.emod_lt_of_pos _ (by decide)⟩
def wellTail : AS := (aSeq (aSetS 3 (aBin aAdd (aC (.int (50021))) (aBin aMul (aC (.int (6007))) (aVar 1))))
    (aSeq (aFor (aItems (aBin aAdd (aSl (aVar 0) aNoPart (aPart (aC (.int (5))))) (aLst (aCons (aVar 2) aNil)))) (aGName 4)
    (aSetS 3 (aBin aMod (aCall bInt (aCons (aBin aAdd (aBin aAdd (aBin aMul (aVar 3) (aC (.int (24611)))) (aBin aMul (aVar 4) (aC (.int (7))))) (aC (.int (307)))) aNil)) (aC (.int (2147483399))))))
    (aRet (aLstM (aCons (aIf (aOr (aB (aBin aLt (aVar 2) (aC (.int (0))))) (aB (aBin aGe (aVar 2) (aBin aPow (aC (.int (10))) (aC (.int (18))))))) (aCall bAbs (aCons (aVar 2) aNil)) (aC (.int (0)))) (aCons (aVar 3) (aCons (aC (.int (0))) aNil)))))))
theorem well_tail {ns : List Int} {t cell : Int} {S : List O} {R : Fl × Rho → List O → Prop} (hn : ns.length ≤ 63) (h0 : 0 ≤ t) (h1 : t ≤ 1000) (q : ∀ S' ρ', Well S.length S' → Keep S.length S S' → S'.length = S.length + 1 → R (.rt (.loc S.length), ρ') S') :
    ev (wellTail [some (.frz (ns.map D.int)), some (.int t), some (.int cell), none, none] S) R := by
  simp only [wellTail, aRet, aRetN, aSeq, aNext, aDrop, aSetS, aAsg, aGName, gtup, gcons, gnil, aGSub, aPar, aPar3, aIf, aB, bOf_b, aAnd, aOr, aNot, aAndV, aOrV, aNotV, aChain, aBin, aUn, aCall, aCons, aNil, aTup, aLst, aLstM, aC, aIsN, aNotN, isN_n, isN_i, isN_t, isN_s, isN_l, isN_b, aSl, aNoPart, aPart, iOf_i, aFor, aItems, aRange1, aRange2, ev_methL, aYes, v0, v1, v2, v3, v4, v5, v6, v7, v8, v9, v10, v11, v12, v13, add_ii, add_ss, add_tt, add_ll, sub_ii, mul_ii, div_ii, mod_ii, pow_6, pow_18, pow_30, neg_i, lt_ii, le_ii, gt_ii, ge_ii, eq_ii, ne_ii, eq_ss, ne_ss, eq_tyty, ne_tyty, ix_t0, ix_t1, ix_t2, ix_l0, ix_l1, ix_l2, len_t, len_l, len_f, int_i, abs_i, max_ii, min_ii, divmod_ii, tuple_l, tuple_t, list_l, list_t, type_i, type_t, type_s, items_l, items_t, items_f, items_s, sl_l, sl_f, sl_t, ev_bind, ev_ok, ev_sel, ev_guard, bind_ok, List.map_cons, List.map_nil, List.length_cons, List.length_nil, List.cons_append, List.nil_append, List.set_cons_zero, List.set_cons_succ, List.replicate_succ, List.replicate_zero, Nat.reduceAdd, Nat.reduceSub, br_true, br_false, decide_true, decide_false, Bool.not_true, Bool.not_false, Bool.and_self, Bool.and_true, Bool.true_and, true_and, and_true, small_0, small_1, small_2, small_3, small_4, small_5, small_6, small_7, small_8, mulOk_0, mulOk_1, mulOk_2, mulOk_r0, mulOk_r1, mulOk_r2, k1_eq, k12_eq, k21_eq]
  have hlen : small ((cutD (ns.map D.int) none (some 5)).length + 1) = true := by
    refine decide_eq_true ?_
    unfold cutD
    rw [List.length_take, List.length_drop, List.length_map]
    omega
  refine ⟨mulOkL (by decide) (by decide), hlen, ?_⟩
  have el : cutD (ns.map D.int) none (some 5) ++ [.int cell] = (((ns.drop (HT.sIx ns.length 0 none)).take (HT.sIx ns.length ns.length (some 5) - HT.sIx ns.length 0 none)) ++ [cell]).map D.int := by rw [cut_map, List.map_append]; rfl
  rw [el]
  generalize ((ns.drop (HT.sIx ns.length 0 none)).take (HT.sIx ns.length ns.length (some 5) - HT.sIx ns.length 0 none)) ++ [cell] = ms
  refine ev_loop (fun i ρ S' => S' = S ∧ ∃ (m : Int) (c : Option D), -10000000000 < m ∧ m < 10000000000 ∧ ρ = [some (.frz (ns.map D.int)), some (.int t), some (.int cell), some (.int m), c]) _ 0 _ _ ⟨rfl, _, _, by omega, by omega, rfl⟩ ?_ ?_
  · rintro j d ρ S' hd ⟨rfl, m, c, hm0, hm1, rfl⟩
    rw [List.getElem?_map] at hd
    cases hx : ms[j]? with
    | none => rw [hx] at hd; cases hd
    | some x =>
      rw [hx] at hd
      cases hd
      try simp only [aRet, aRetN, aSeq, aNext, aDrop, aSetS, aAsg, aGName, gtup, gcons, gnil, aGSub, aPar, aPar3, aIf, aB, bOf_b, aAnd, aOr, aNot, aAndV, aOrV, aNotV, aChain, aBin, aUn, aCall, aCons, aNil, aTup, aLst, aLstM, aC, aIsN, aNotN, isN_n, isN_i, isN_t, isN_s, isN_l, isN_b, aSl, aNoPart, aPart, iOf_i, aFor, aItems, aRange1, aRange2, ev_methL, aYes, v0, v1, v2, v3, v4, v5, v6, v7, v8, v9, v10, v11, v12, v13, add_ii, add_ss, add_tt, add_ll, sub_ii, mul_ii, div_ii, mod_ii, pow_6, pow_18, pow_30, neg_i, lt_ii, le_ii, gt_ii, ge_ii, eq_ii, ne_ii, eq_ss, ne_ss, eq_tyty, ne_tyty, ix_t0, ix_t1, ix_t2, ix_l0, ix_l1, ix_l2, len_t, len_l, len_f, int_i, abs_i, max_ii, min_ii, divmod_ii, tuple_l, tuple_t, list_l, list_t, type_i, type_t, type_s, items_l, items_t, items_f, items_s, sl_l, sl_f, sl_t, ev_bind, ev_ok, ev_sel, ev_guard, bind_ok, List.map_cons, List.map_nil, List.length_cons, List.length_nil, List.cons_append, List.nil_append, List.set_cons_zero, List.set_cons_succ, List.replicate_succ, List.replicate_zero, Nat.reduceAdd, Nat.reduceSub, br_true, br_false, decide_true, decide_false, Bool.not_true, Bool.not_false, Bool.and_self, Bool.and_true, Bool.true_and, true_and, and_true, small_0, small_1, small_2, small_3, small_4, small_5, small_6, small_7, small_8, mulOk_0, mulOk_1, mulOk_2, mulOk_r0, mulOk_r1, mulOk_r2, k1_eq, k12_eq, k21_eq]
      have g := rm_m (m * 24611 + x * 7 + 307)
      exact ⟨mulOkR (by decide) (by decide), mulOkR (by decide) (by decide), decide_eq_true (by decide), _, _, by omega, by omega, rfl⟩
  · rintro ρ S' ⟨rfl, m, c, hm0, hm1, rfl⟩
    try simp only [aRet, aRetN, aSeq, aNext, aDrop, aSetS, aAsg, aGName, gtup, gcons, gnil, aGSub, aPar, aPar3, aIf, aB, bOf_b, aAnd, aOr, aNot, aAndV, aOrV, aNotV, aChain, aBin, aUn, aCall, aCons, aNil, aTup, aLst, aLstM, aC, aIsN, aNotN, isN_n, isN_i, isN_t, isN_s, isN_l, isN_b, aSl, aNoPart, aPart, iOf_i, aFor, aItems, aRange1, aRange2, ev_methL, aYes, v0, v1, v2, v3, v4, v5, v6, v7, v8, v9, v10, v11, v12, v13, add_ii, add_ss, add_tt, add_ll, sub_ii, mul_ii, div_ii, mod_ii, pow_6, pow_18, pow_30, neg_i, lt_ii, le_ii, gt_ii, ge_ii, eq_ii, ne_ii, eq_ss, ne_ss, eq_tyty, ne_tyty, ix_t0, ix_t1, ix_t2, ix_l0, ix_l1, ix_l2, len_t, len_l, len_f, int_i, abs_i, max_ii, min_ii, divmod_ii, tuple_l, tuple_t, list_l, list_t, type_i, type_t, type_s, items_l, items_t, items_f, items_s, sl_l, sl_f, sl_t, ev_bind, ev_ok, ev_sel, ev_guard, bind_ok, List.map_cons, List.map_nil, List.length_cons, List.length_nil, List.cons_append, List.nil_append, List.set_cons_zero, List.set_cons_succ, List.replicate_succ, List.replicate_zero, Nat.reduceAdd, Nat.reduceSub, br_true, br_false, decide_true, decide_false, Bool.not_true, Bool.not_false, Bool.and_self, Bool.and_true, Bool.true_and, true_and, and_true, small_0, small_1, small_2, small_3, small_4, small_5, small_6, small_7, small_8, mulOk_0, mulOk_1, mulOk_2, mulOk_r0, mulOk_r1, mulOk_r2, k1_eq, k12_eq, k21_eq]
    have fin : ∀ a : Int, R (.rt (.loc S'.length), [some (.frz (ns.map D.int)), some (.int t), some (.int cell), some (.int m), c]) (S' ++ [.lst [.int a, .int m, .int 0]]) := fun a =>
      q _ _ ⟨a, m, 0, push_last, by omega, by omega⟩ .push (by simp)
    refine Z.brD (fun h => ?_) fun h => ?_
    try simp only [aRet, aRetN, aSeq, aNext, aDrop, aSetS, aAsg, aGName, gtup, gcons, gnil, aGSub, aPar, aPar3, aIf, aB, bOf_b, aAnd, aOr, aNot, aAndV, aOrV, aNotV, aChain, aBin, aUn, aCall, aCons, aNil, aTup, aLst, aLstM, aC, aIsN, aNotN, isN_n, isN_i, isN_t, isN_s, isN_l, isN_b, aSl, aNoPart, aPart, iOf_i, aFor, aItems, aRange1, aRange2, ev_methL, aYes, v0, v1, v2, v3, v4, v5, v6, v7, v8, v9, v10, v11, v12, v13, add_ii, add_ss, add_tt, add_ll, sub_ii, mul_ii, div_ii, mod_ii, pow_6, pow_18, pow_30, neg_i, lt_ii, le_ii, gt_ii, ge_ii, eq_ii, ne_ii, eq_ss, ne_ss, eq_tyty, ne_tyty, ix_t0, ix_t1, ix_t2, ix_l0, ix_l1, ix_l2, len_t, len_l, len_f, int_i, abs_i, max_ii, min_ii, divmod_ii, tuple_l, tuple_t, list_l, list_t, type_i, type_t, type_s, items_l, items_t, items_f, items_s, sl_l, sl_f, sl_t, ev_bind, ev_ok, ev_sel, ev_guard, bind_ok, List.map_cons, List.map_nil, List.length_cons, List.length_nil, List.cons_append, List.nil_append, List.set_cons_zero, List.set_cons_succ, List.replicate_succ, List.replicate_zero, Nat.reduceAdd, Nat.reduceSub, br_true, br_false, decide_true, decide_false, Bool.not_true, Bool.not_false, Bool.and_self, Bool.and_true, Bool.true_and, true_and, and_true, small_0, small_1, small_2, small_3, small_4, small_5, small_6, small_7, small_8, mulOk_0, mulOk_1, mulOk_2, mulOk_r0, mulOk_r1, mulOk_r2, k1_eq, k12_eq, k21_eq]
    · exact fin _
    · refine Z.brD (fun h => ?_) fun h => ?_
      try simp only [aRet, aRetN, aSeq, aNext, aDrop, aSetS, aAsg, aGName, gtup, gcons, gnil, aGSub, aPar, aPar3, aIf, aB, bOf_b, aAnd, aOr, aNot, aAndV, aOrV, aNotV, aChain, aBin, aUn, aCall, aCons, aNil, aTup, aLst, aLstM, aC, aIsN, aNotN, isN_n, isN_i, isN_t, isN_s, isN_l, isN_b, aSl, aNoPart, aPart, iOf_i, aFor, aItems, aRange1, aRange2, ev_methL, aYes, v0, v1, v2, v3, v4, v5, v6, v7, v8, v9, v10, v11, v12, v13, add_ii, add_ss, add_tt, add_ll, sub_ii, mul_ii, div_ii, mod_ii, pow_6, pow_18, pow_30, neg_i, lt_ii, le_ii, gt_ii, ge_ii, eq_ii, ne_ii, eq_ss, ne_ss, eq_tyty, ne_tyty, ix_t0, ix_t1, ix_t2, ix_l0, ix_l1, ix_l2, len_t, len_l, len_f, int_i, abs_i, max_ii, min_ii, divmod_ii, tuple_l, tuple_t, list_l, list_t, type_i, type_t, type_s, items_l, items_t, items_f, items_s, sl_l, sl_f, sl_t, ev_bind, ev_ok, ev_sel, ev_guard, bind_ok, List.map_cons, List.map_nil, List.length_cons, List.length_nil, List.cons_append, List.nil_append, List.set_cons_zero, List.set_cons_succ, List.replicate_succ, List.replicate_zero, Nat.reduceAdd, Nat.reduceSub, br_true, br_false, decide_true, decide_false, Bool.not_true, Bool.not_false, Bool.and_self, Bool.and_true, Bool.true_and, true_and, and_true, small_0, small_1, small_2, small_3, small_4, small_5, small_6, small_7, small_8, mulOk_0, mulOk_1, mulOk_2, mulOk_r0, mulOk_r1, mulOk_r2, k1_eq, k12_eq, k21_eq]
      · exact fin _
      · exact fin _
theorem F_well_ev {ns : List Int} {t : Int} {S : List O} {R : D → List O → Prop} (hn : ns.length ≤ 63) (h0 : 0 ≤ t) (h1 : t ≤ 1000) (q : ∀ S', Well S.length S' → Keep S.length S S' → S'.length = S.length + 1 → R (.loc S.length) S') : ev (F_well [.frz (ns.map D.int), .int t] S) R := by
  show ev (runF 5 (aSeq (aSetS 2 (aIf (aB (aBin aLt (aVar 1) (aCall bLen (aCons (aVar 0) aNil)))) (aBin dIx (aVar 0) (aVar 1)) (aBin aAdd (aBin aMul (aC (.int (13))) (aVar 1)) (aC (.int (6)))))) wellTail) [.frz (ns.map D.int), .int t] S) R
  simp only [runF, aRet, aRetN, aSeq, aNext, aDrop, aSetS, aAsg, aGName, gtup, gcons, gnil, aGSub, aPar, aPar3, aIf, aB, bOf_b, aAnd, aOr, aNot, aAndV, aOrV, aNotV, aChain, aBin, aUn, aCall, aCons, aNil, aTup, aLst, aLstM, aC, aIsN, aNotN, isN_n, isN_i, isN_t, isN_s, isN_l, isN_b, aSl, aNoPart, aPart, iOf_i, aFor, aItems, aRange1, aRange2, ev_methL, aYes, v0, v1, v2, v3, v4, v5, v6, v7, v8, v9, v10, v11, v12, v13, add_ii, add_ss, add_tt, add_ll, sub_ii, mul_ii, div_ii, mod_ii, pow_6, pow_18, pow_30, neg_i, lt_ii, le_ii, gt_ii, ge_ii, eq_ii, ne_ii, eq_ss, ne_ss, eq_tyty, ne_tyty, ix_t0, ix_t1, ix_t2, ix_l0, ix_l1, ix_l2, len_t, len_l, len_f, int_i, abs_i, max_ii, min_ii, divmod_ii, tuple_l, tuple_t, list_l, list_t, type_i, type_t, type_s, items_l, items_t, items_f, items_s, sl_l, sl_f, sl_t, ev_bind, ev_ok, ev_sel, ev_guard, bind_ok, List.map_cons, List.map_nil, List.length_cons, List.length_nil, List.cons_append, List.nil_append, List.set_cons_zero, List.set_cons_succ, List.replicate_succ, List.replicate_zero, Nat.reduceAdd, Nat.reduceSub, br_true, br_false, decide_true, decide_false, Bool.not_true, Bool.not_false, Bool.and_self, Bool.and_true, Bool.true_and, true_and, and_true, small_0, small_1, small_2, small_3, small_4, small_5, small_6, small_7, small_8, mulOk_0, mulOk_1, mulOk_2, mulOk_r0, mulOk_r1, mulOk_r2, k1_eq, k12_eq, k21_eq, List.length_map]
  refine Z.brD (fun h => ?_) (fun h => ?_)
  · have hj : t.toNat < ns.length := by omega
    have e : t = (t.toNat : Int) := by omega
    have h2 : atI (ns.map D.int) t = some (.int ns[t.toNat]) := by
      have h3 : (ns.map D.int)[t.toNat]? = some (.int ns[t.toNat]) := by rw [List.getElem?_map, List.getElem?_eq_getElem hj]; rfl
      have h4 := at_nat h3
      rw [← e] at h4
      exact h4
    refine ev_of (ix_frz h2) ?_
    exact well_tail hn h0 h1 fun S' ρ' a b c => q S' a b c
  · refine ⟨mulOkL (by decide) (by decide), ?_⟩
    exact well_tail hn h0 h1 fun S' ρ' a b c => q S' a b c
/-- the law's own last def: all of its turns -/
def lawB (m : Int) (FR FW : List D → M D) : AS :=
    (aRet (aCall bAll (aCons (aComp (aRange1 (aCons (aCall bMax2 (aCons (aC (.int (2))) (aCons (aCall bMin2 (aCons (aCall bLen (aCons (aVar 0) aNil)) (aCons (aC (.int m)) aNil))) aNil))) aNil)) (aGName 1) aYes (aCall FR (aCons (aCall FW (aCons (aVar 0) (aCons (aVar 1) aNil))) aNil)) [1]) aNil)))
theorem law_true_of {m : Int} {FR : List D → M D} (h2 : 2 ≤ m) (h5 : m ≤ 100) (hR : ∀ n S, Well n S → ev (FR [.loc n] S) fun d _ => d = .bl true) : LawTrue (runF 2 (lawB m FR F_well)) := by
  intro ns hn
  have key : ev (runF 2 (lawB m FR F_well) [.frz (ns.map D.int)] []) fun d _ => d = .bl true := by
    simp only [runF, lawB, aRet, aRetN, aSeq, aNext, aDrop, aSetS, aAsg, aGName, gtup, gcons, gnil, aGSub, aPar, aPar3, aIf, aB, bOf_b, aAnd, aOr, aNot, aAndV, aOrV, aNotV, aChain, aBin, aUn, aCall, aCons, aNil, aTup, aLst, aLstM, aC, aIsN, aNotN, isN_n, isN_i, isN_t, isN_s, isN_l, isN_b, aSl, aNoPart, aPart, iOf_i, aFor, aItems, aRange1, aRange2, ev_methL, aYes, v0, v1, v2, v3, v4, v5, v6, v7, v8, v9, v10, v11, v12, v13, add_ii, add_ss, add_tt, add_ll, sub_ii, mul_ii, div_ii, mod_ii, pow_6, pow_18, pow_30, neg_i, lt_ii, le_ii, gt_ii, ge_ii, eq_ii, ne_ii, eq_ss, ne_ss, eq_tyty, ne_tyty, ix_t0, ix_t1, ix_t2, ix_l0, ix_l1, ix_l2, len_t, len_l, len_f, int_i, abs_i, max_ii, min_ii, divmod_ii, tuple_l, tuple_t, list_l, list_t, type_i, type_t, type_s, items_l, items_t, items_f, items_s, sl_l, sl_f, sl_t, ev_bind, ev_ok, ev_sel, ev_guard, bind_ok, List.map_cons, List.map_nil, List.length_cons, List.length_nil, List.cons_append, List.nil_append, List.set_cons_zero, List.set_cons_succ, List.replicate_succ, List.replicate_zero, Nat.reduceAdd, Nat.reduceSub, br_true, br_false, decide_true, decide_false, Bool.not_true, Bool.not_false, Bool.and_self, Bool.and_true, Bool.true_and, true_and, and_true, small_0, small_1, small_2, small_3, small_4, small_5, small_6, small_7, small_8, mulOk_0, mulOk_1, mulOk_2, mulOk_r0, mulOk_r1, mulOk_r2, k1_eq, k12_eq, k21_eq, aComp, List.length_map, ev_lstOf]
    have hm : ∃ k : Nat, k ≤ 100 ∧ (if (if m < (ns.length : Int) then m else (ns.length : Int)) > 2 then (if m < (ns.length : Int) then m else (ns.length : Int)) else 2) = (k : Int) := by
      by_cases c : m < (ns.length : Int)
      · rw [if_pos c]
        by_cases c2 : m > 2
        · rw [if_pos c2]; exact ⟨m.toNat, by omega, by omega⟩
        · rw [if_neg c2]; exact ⟨2, by omega, rfl⟩
      · rw [if_neg c]
        by_cases c2 : (ns.length : Int) > 2
        · rw [if_pos c2]; exact ⟨ns.length, by omega, rfl⟩
        · rw [if_neg c2]; exact ⟨2, by omega, rfl⟩
    obtain ⟨k, hk, e⟩ := hm
    rw [e]
    refine ⟨⟨by omega, by omega⟩, ?_⟩
    rw [Int.toNat_natCast]
    refine ev_cloop (fun i acc S => ∃ bs : List Bool, acc = bs.map D.bl ∧ bs.all id = true) _ 0 _ _ (by simp [rangeD]; omega) ⟨[], rfl, rfl⟩ ?_ ?_
    · rintro j d acc S hd ⟨bs, rfl, hb⟩
      have hj : j < k := by have := (List.getElem?_eq_some_iff.mp hd).1; simpa [rangeD] using this
      unfold rangeD at hd
      rw [List.getElem?_map, List.getElem?_range hj] at hd
      cases hd
      simp only [aRet, aRetN, aSeq, aNext, aDrop, aSetS, aAsg, aGName, gtup, gcons, gnil, aGSub, aPar, aPar3, aIf, aB, bOf_b, aAnd, aOr, aNot, aAndV, aOrV, aNotV, aChain, aBin, aUn, aCall, aCons, aNil, aTup, aLst, aLstM, aC, aIsN, aNotN, isN_n, isN_i, isN_t, isN_s, isN_l, isN_b, aSl, aNoPart, aPart, iOf_i, aFor, aItems, aRange1, aRange2, ev_methL, aYes, v0, v1, v2, v3, v4, v5, v6, v7, v8, v9, v10, v11, v12, v13, add_ii, add_ss, add_tt, add_ll, sub_ii, mul_ii, div_ii, mod_ii, pow_6, pow_18, pow_30, neg_i, lt_ii, le_ii, gt_ii, ge_ii, eq_ii, ne_ii, eq_ss, ne_ss, eq_tyty, ne_tyty, ix_t0, ix_t1, ix_t2, ix_l0, ix_l1, ix_l2, len_t, len_l, len_f, int_i, abs_i, max_ii, min_ii, divmod_ii, tuple_l, tuple_t, list_l, list_t, type_i, type_t, type_s, items_l, items_t, items_f, items_s, sl_l, sl_f, sl_t, ev_bind, ev_ok, ev_sel, ev_guard, bind_ok, List.map_cons, List.map_nil, List.length_cons, List.length_nil, List.cons_append, List.nil_append, List.set_cons_zero, List.set_cons_succ, List.replicate_succ, List.replicate_zero, Nat.reduceAdd, Nat.reduceSub, br_true, br_false, decide_true, decide_false, Bool.not_true, Bool.not_false, Bool.and_self, Bool.and_true, Bool.true_and, true_and, and_true, small_0, small_1, small_2, small_3, small_4, small_5, small_6, small_7, small_8, mulOk_0, mulOk_1, mulOk_2, mulOk_r0, mulOk_r1, mulOk_r2, k1_eq, k12_eq, k21_eq, wipeR]
      refine F_well_ev hn (by omega) (by omega) fun S' W K L => ?_
      try simp only [aRet, aRetN, aSeq, aNext, aDrop, aSetS, aAsg, aGName, gtup, gcons, gnil, aGSub, aPar, aPar3, aIf, aB, bOf_b, aAnd, aOr, aNot, aAndV, aOrV, aNotV, aChain, aBin, aUn, aCall, aCons, aNil, aTup, aLst, aLstM, aC, aIsN, aNotN, isN_n, isN_i, isN_t, isN_s, isN_l, isN_b, aSl, aNoPart, aPart, iOf_i, aFor, aItems, aRange1, aRange2, ev_methL, aYes, v0, v1, v2, v3, v4, v5, v6, v7, v8, v9, v10, v11, v12, v13, add_ii, add_ss, add_tt, add_ll, sub_ii, mul_ii, div_ii, mod_ii, pow_6, pow_18, pow_30, neg_i, lt_ii, le_ii, gt_ii, ge_ii, eq_ii, ne_ii, eq_ss, ne_ss, eq_tyty, ne_tyty, ix_t0, ix_t1, ix_t2, ix_l0, ix_l1, ix_l2, len_t, len_l, len_f, int_i, abs_i, max_ii, min_ii, divmod_ii, tuple_l, tuple_t, list_l, list_t, type_i, type_t, type_s, items_l, items_t, items_f, items_s, sl_l, sl_f, sl_t, ev_bind, ev_ok, ev_sel, ev_guard, bind_ok, List.map_cons, List.map_nil, List.length_cons, List.length_nil, List.cons_append, List.nil_append, List.set_cons_zero, List.set_cons_succ, List.replicate_succ, List.replicate_zero, Nat.reduceAdd, Nat.reduceSub, br_true, br_false, decide_true, decide_false, Bool.not_true, Bool.not_false, Bool.and_self, Bool.and_true, Bool.true_and, true_and, and_true, small_0, small_1, small_2, small_3, small_4, small_5, small_6, small_7, small_8, mulOk_0, mulOk_1, mulOk_2, mulOk_r0, mulOk_r1, mulOk_r2, k1_eq, k12_eq, k21_eq]
      refine (hR _ _ W).mono fun d S2 hd => ?_
      try simp only [aRet, aRetN, aSeq, aNext, aDrop, aSetS, aAsg, aGName, gtup, gcons, gnil, aGSub, aPar, aPar3, aIf, aB, bOf_b, aAnd, aOr, aNot, aAndV, aOrV, aNotV, aChain, aBin, aUn, aCall, aCons, aNil, aTup, aLst, aLstM, aC, aIsN, aNotN, isN_n, isN_i, isN_t, isN_s, isN_l, isN_b, aSl, aNoPart, aPart, iOf_i, aFor, aItems, aRange1, aRange2, ev_methL, aYes, v0, v1, v2, v3, v4, v5, v6, v7, v8, v9, v10, v11, v12, v13, add_ii, add_ss, add_tt, add_ll, sub_ii, mul_ii, div_ii, mod_ii, pow_6, pow_18, pow_30, neg_i, lt_ii, le_ii, gt_ii, ge_ii, eq_ii, ne_ii, eq_ss, ne_ss, eq_tyty, ne_tyty, ix_t0, ix_t1, ix_t2, ix_l0, ix_l1, ix_l2, len_t, len_l, len_f, int_i, abs_i, max_ii, min_ii, divmod_ii, tuple_l, tuple_t, list_l, list_t, type_i, type_t, type_s, items_l, items_t, items_f, items_s, sl_l, sl_f, sl_t, ev_bind, ev_ok, ev_sel, ev_guard, bind_ok, List.map_cons, List.map_nil, List.length_cons, List.length_nil, List.cons_append, List.nil_append, List.set_cons_zero, List.set_cons_succ, List.replicate_succ, List.replicate_zero, Nat.reduceAdd, Nat.reduceSub, br_true, br_false, decide_true, decide_false, Bool.not_true, Bool.not_false, Bool.and_self, Bool.and_true, Bool.true_and, true_and, and_true, small_0, small_1, small_2, small_3, small_4, small_5, small_6, small_7, small_8, mulOk_0, mulOk_1, mulOk_2, mulOk_r0, mulOk_r1, mulOk_r2, k1_eq, k12_eq, k21_eq]
      subst hd
      exact ⟨bs ++ [true], by simp, by simp [hb]⟩
    · rintro acc S ⟨bs, rfl, hb⟩
      refine ev_of all_l ?_
      rw [hb]
  obtain ⟨d, S, e, rfl⟩ := key.eq
  exact ⟨S, e⟩
end CM

namespace My
open PySem L2 E CM
def top (i : Nat) : Stmt := PySem.Challenge.pw_arealots_k04_whole_gaps_and_what_commute.main.body.getD i (.Pass ⟨0, 0, 0, 0⟩)
abbrev s_is_integer : Stmt := top 5
abbrev s_is_move : Stmt := top 7
abbrev s_need_move : Stmt := top 8
abbrev s_need_integer : Stmt := top 9
abbrev s_joined : Stmt := top 10
abbrev s_repeated : Stmt := top 11
abbrev s_then : Stmt := top 12
abbrev s_undone : Stmt := top 13
abbrev s_often : Stmt := top 14
abbrev s_gap : Stmt := top 15
abbrev s_commute : Stmt := top 16
abbrev s_well : Stmt := top 18
abbrev s_dip : Stmt := top 19
abbrev s_number : Stmt := top 20
abbrev s_drawn : Stmt := top 21
abbrev s_join : Stmt := top 22
abbrev s_right : Stmt := top 23
abbrev s_law : Stmt := top 24
theorem sc_is_integer : FnScope ["value"] ["value"] (defScope s_is_integer) := ⟨rfl, rfl, rfl, by decide +kernel, rfl, by decide +kernel, by decide +kernel⟩
theorem sc_is_move : FnScope ["value", "number"] ["value"] (defScope s_is_move) := ⟨rfl, rfl, rfl, by decide +kernel, rfl, by decide +kernel, by decide +kernel⟩
theorem sc_need_move : FnScope ["value"] ["value"] (defScope s_need_move) := ⟨rfl, rfl, rfl, by decide +kernel, rfl, by decide +kernel, by decide +kernel⟩
theorem sc_need_integer : FnScope ["value"] ["value"] (defScope s_need_integer) := ⟨rfl, rfl, rfl, by decide +kernel, rfl, by decide +kernel, by decide +kernel⟩
theorem sc_joined : FnScope ["move", "second"] ["move", "second"] (defScope s_joined) := ⟨rfl, rfl, rfl, by decide +kernel, rfl, by decide +kernel, by decide +kernel⟩
theorem sc_repeated : FnScope ["move", "times", "east", "north", "area"] ["move", "times"] (defScope s_repeated) := ⟨rfl, rfl, rfl, by decide +kernel, rfl, by decide +kernel, by decide +kernel⟩
theorem sc_then : FnScope ["move", "second"] ["move", "second"] (defScope s_then) := ⟨rfl, rfl, rfl, by decide +kernel, rfl, by decide +kernel, by decide +kernel⟩
theorem sc_undone : FnScope ["move", "east", "north", "area"] ["move"] (defScope s_undone) := ⟨rfl, rfl, rfl, by decide +kernel, rfl, by decide +kernel, by decide +kernel⟩
theorem sc_often : FnScope ["move", "times"] ["move", "times"] (defScope s_often) := ⟨rfl, rfl, rfl, by decide +kernel, rfl, by decide +kernel, by decide +kernel⟩
theorem sc_gap : FnScope ["move", "second"] ["move", "second"] (defScope s_gap) := ⟨rfl, rfl, rfl, by decide +kernel, rfl, by decide +kernel, by decide +kernel⟩
theorem sc_commute : FnScope ["move", "second"] ["move", "second"] (defScope s_commute) := ⟨rfl, rfl, rfl, by decide +kernel, rfl, by decide +kernel, by decide +kernel⟩
theorem sc_well : FnScope ["cells", "turn", "cell", "stirred", "each"] ["cells", "turn"] (defScope s_well) := ⟨rfl, rfl, rfl, by decide +kernel, rfl, by decide +kernel, by decide +kernel⟩
theorem sc_dip : FnScope ["well", "sides", "digit", "by"] ["well", "sides"] (defScope s_dip) := ⟨rfl, rfl, rfl, by decide +kernel, rfl, by decide +kernel, by decide +kernel⟩
theorem sc_number : FnScope ["well", "way", "found", "turn"] ["well"] (defScope s_number) := ⟨rfl, rfl, rfl, by decide +kernel, rfl, by decide +kernel, by decide +kernel⟩
theorem sc_drawn : FnScope ["well", "way", "found"] ["well"] (defScope s_drawn) := ⟨rfl, rfl, rfl, by decide +kernel, rfl, by decide +kernel, by decide +kernel⟩
theorem sc_join : FnScope ["one", "two"] ["one", "two"] (defScope s_join) := ⟨rfl, rfl, rfl, by decide +kernel, rfl, by decide +kernel, by decide +kernel⟩
theorem sc_right : FnScope ["well", "one", "two", "way", "by", "first", "last", "due", "told", "round_here", "three"] ["well"] (defScope s_right) := ⟨rfl, rfl, rfl, by decide +kernel, rfl, by decide +kernel, by decide +kernel⟩
theorem sc_law : FnScope ["cells", "turn"] ["cells"] (defScope s_law) := ⟨rfl, rfl, rfl, by decide +kernel, rfl, by decide +kernel, by decide +kernel⟩
structure Txt (K : PySem.W.Frag) (mg : Str → Option Value) : Prop where
  f_is_integer : ∃ a fd, Z.Def K mg "is_integer" s_is_integer ["value"] a fd
  f_is_move : ∃ a fd, Z.Def K mg "is_move" s_is_move ["value"] a fd
  f_need_move : ∃ a fd, Z.Def K mg "need_move" s_need_move ["value"] a fd
  f_need_integer : ∃ a fd, Z.Def K mg "need_integer" s_need_integer ["value"] a fd
  f_joined : ∃ a fd, Z.Def K mg "joined" s_joined ["move", "second"] a fd
  f_repeated : ∃ a fd, Z.Def K mg "repeated" s_repeated ["move", "times"] a fd
  f_then : ∃ a fd, Z.Def K mg "then" s_then ["move", "second"] a fd
  f_undone : ∃ a fd, Z.Def K mg "undone" s_undone ["move"] a fd
  f_often : ∃ a fd, Z.Def K mg "often" s_often ["move", "times"] a fd
  f_gap : ∃ a fd, Z.Def K mg "gap" s_gap ["move", "second"] a fd
  f_commute : ∃ a fd, Z.Def K mg "commute" s_commute ["move", "second"] a fd
  f_well : ∃ a fd, Z.Def K mg "_law_well" s_well ["cells", "turn"] a fd
  f_dip : ∃ a fd, Z.Def K mg "_law_dip" s_dip ["well", "sides"] a fd
  f_number : ∃ a fd, Z.Def K mg "_law_number" s_number ["well"] a fd
  f_drawn : ∃ a fd, Z.Def K mg "_law_drawn" s_drawn ["well"] a fd
  f_join : ∃ a fd, Z.Def K mg "_law_join" s_join ["one", "two"] a fd
  f_right : ∃ a fd, Z.Def K mg "_law_right" s_right ["well"] a fd
  f_law : ∃ a fd, Z.Def K mg "law" s_law ["cells"] a fd
  b_abs : mg "abs" = none
  b_all : mg "all" = none
  b_divmod : mg "divmod" = none
  b_int : mg "int" = none
  b_len : mg "len" = none
  b_max : mg "max" = none
  b_min : mg "min" = none
  b_range : mg "range" = none
  b_repr : mg "repr" = none
  b_tuple : mg "tuple" = none
  b_type : mg "type" = none
section
variable {P : Program} {w : World} {K : PySem.W.Frag} {mg : Str → Option Value} {base : Heap}
theorem K21_commute {f : Addr} {fd : FuncData} (D : Z.Def K mg "commute" s_commute ["move", "second"] f fd) : KBinds K fd ["move", "second"] ["second", "move"] Z.k21 Z.k21 := by
  obtain ⟨oc, od, kV, doc, pm, an, cdv, ct, osl, rfl, lk, hcd⟩ := D.F.ex
  exact ⟨fun s us ws _ hl => .of_eq (match us, ws, hl with | [], [_, _], _ => rfl), Z.k21_rel⟩
theorem K21_gap {f : Addr} {fd : FuncData} (D : Z.Def K mg "gap" s_gap ["move", "second"] f fd) : KBinds K fd ["move", "second"] ["second", "move"] Z.k21 Z.k21 := by
  obtain ⟨oc, od, kV, doc, pm, an, cdv, ct, osl, rfl, lk, hcd⟩ := D.F.ex
  exact ⟨fun s us ws _ hl => .of_eq (match us, ws, hl with | [], [_, _], _ => rfl), Z.k21_rel⟩
end
/-! the defs as functions -/
noncomputable def b_repeated : AS :=
    (aSeq (aAsg (aVar 0) (aGTup 3 (aGCons (aGName 2) (aGCons (aGName 3) (aGCons (aGName 4) aGNil)))))
    (aRet (aTup (aCons (aBin aMul (aVar 1) (aVar 2)) (aCons (aBin aMul (aVar 1) (aVar 3)) (aCons (aBin aAdd (aBin aMul (aVar 1) (aVar 4)) (aBin aMul (aBin aMul (aBin aDiv (aBin aMul (aVar 1) (aBin aSub (aVar 1) (aC (.int (1))))) (aC (.int (2)))) (aVar 2)) (aVar 3))) aNil))))))
noncomputable def F_repeated : List D → M D := runF 5 b_repeated
noncomputable def b_join : AS :=
    (aRet (aTup (aCons (aBin aAdd (aBin dIx (aVar 0) (aC (.int (0)))) (aBin dIx (aVar 1) (aC (.int (0))))) (aCons (aBin aAdd (aBin dIx (aVar 0) (aC (.int (1)))) (aBin dIx (aVar 1) (aC (.int (1))))) (aCons (aBin aAdd (aBin aAdd (aBin dIx (aVar 0) (aC (.int (2)))) (aBin dIx (aVar 1) (aC (.int (2))))) (aBin aMul (aBin dIx (aVar 0) (aC (.int (0)))) (aBin dIx (aVar 1) (aC (.int (1)))))) aNil)))))
noncomputable def F_join : List D → M D := runF 2 b_join
noncomputable def b_need_integer : AS :=
    (aIf (aNot (aB (aCall F_is_integer (aCons (aVar 0) aNil)))) (fun _ _ => .no)
    aNext)
noncomputable def F_need_integer : List D → M D := runF 1 b_need_integer
noncomputable def b_undone : AS :=
    (aSeq (aDrop (aCall F_need_move (aCons (aVar 0) aNil)))
    (aSeq (aAsg (aVar 0) (aGTup 3 (aGCons (aGName 1) (aGCons (aGName 2) (aGCons (aGName 3) aGNil)))))
    (aRet (aTup (aCons (aUn aNeg (aVar 1)) (aCons (aUn aNeg (aVar 2)) (aCons (aBin aSub (aBin aMul (aVar 1) (aVar 2)) (aVar 3)) aNil)))))))
noncomputable def F_undone : List D → M D := runF 4 b_undone
noncomputable def b_often : AS :=
    (aSeq (aDrop (aCall F_need_move (aCons (aVar 0) aNil)))
    (aSeq (aDrop (aCall F_need_integer (aCons (aVar 1) aNil)))
    (aRet (aCall F_repeated (aCons (aVar 0) (aCons (aVar 1) aNil))))))
noncomputable def F_often : List D → M D := runF 2 b_often
noncomputable def b_gap : AS :=
    (aSeq (aDrop (aCall F_need_move (aCons (aVar 0) aNil)))
    (aSeq (aDrop (aCall F_need_move (aCons (aVar 1) aNil)))
    (aRet (aBin aSub (aBin aMul (aBin dIx (aVar 0) (aC (.int (0)))) (aBin dIx (aVar 1) (aC (.int (1))))) (aBin aMul (aBin dIx (aVar 0) (aC (.int (1)))) (aBin dIx (aVar 1) (aC (.int (0)))))))))
noncomputable def F_gap : List D → M D := runF 2 b_gap
noncomputable def b_commute : AS :=
    (aRet (aBin dEq (aCall F_gap (aCons (aVar 0) (aCons (aVar 1) aNil))) (aC (.int (0)))))
noncomputable def F_commute : List D → M D := runF 2 b_commute
noncomputable def b_right : AS :=
    (aSeq (aPar 1 2 (aCons (aCall F_drawn (aCons (aVar 0) aNil)) (aCons (aCall F_drawn (aCons (aVar 0) aNil)) aNil)))
    (aSeq (aSetS 3 (aCall F_dip (aCons (aVar 0) (aCons (aC (.int (4))) aNil))))
    (aSeq (aIf (aB (aBin dEq (aVar 3) (aC (.int (0))))) (aSeq (aSetS 4 (aCall F_number (aCons (aVar 0) aNil)))
    (aSetS 2 (aTup (aCons (aBin aMul (aVar 4) (aBin dIx (aVar 1) (aC (.int (0))))) (aCons (aBin aMul (aVar 4) (aBin dIx (aVar 1) (aC (.int (1))))) (aCons (aCall F_number (aCons (aVar 0) aNil)) aNil))))))
    aNext)
    (aSeq (aIf (aB (aBin dEq (aVar 3) (aC (.int (1))))) (aSetS 2 (aTup (aCons (aC (.int (0))) (aCons (aC (.int (0))) (aCons (aCall F_number (aCons (aVar 0) aNil)) aNil)))))
    aNext)
    (aSeq (aPar 5 6 (aCons (aCall F_join (aCons (aVar 1) (aCons (aVar 2) aNil))) (aCons (aCall F_join (aCons (aVar 2) (aCons (aVar 1) aNil))) aNil)))
    (aSeq (aSetS 7 (aBin aSub (aBin dIx (aVar 5) (aC (.int (2)))) (aBin dIx (aVar 6) (aC (.int (2))))))
    (aSeq (aSetS 8 (aLst (aCons (aCall F_gap (aCons (aVar 1) (aCons (aVar 2) aNil))) (aCons (aCall (fun ds => F_gap (Z.k21 [] ds)) (aCons (aVar 2) (aCons (aVar 1) aNil))) (aCons (aBin aSub (aC (.int (0))) (aCall F_gap (aCons (aVar 2) (aCons (aVar 1) aNil)))) (aCons (aCall F_gap (aCons (aVar 1) (aCons (aCall F_then (aCons (aVar 2) (aCons (aVar 1) aNil))) aNil))) aNil))))))
    (aSeq (aIf (aOr (aB (aBin dNe (aVar 8) (aBin aMul (aLst (aCons (aVar 7) aNil)) (aC (.int (4)))))) (aB (aBin dNe (aSl (aVar 5) aNoPart (aPart (aC (.int (2))))) (aSl (aVar 6) aNoPart (aPart (aC (.int (2)))))))) (aRet (aC (.bl false)))
    aNext)
    (aSeq (aIf (aB (aBin dNe (aCall bRepr (aCons (aLst (aCons (aCall F_commute (aCons (aVar 1) (aCons (aVar 2) aNil))) (aCons (aCall (fun ds => F_commute (Z.k21 [] ds)) (aCons (aVar 2) (aCons (aVar 1) aNil))) (aCons (aCall F_commute (aCons (aVar 2) (aCons (aVar 1) aNil))) aNil)))) aNil)) (aCall bRepr (aCons (aBin aMul (aLst (aCons (aBin dEq (aVar 7) (aC (.int (0)))) aNil)) (aC (.int (3)))) aNil)))) (aRet (aC (.bl false)))
    aNext)
    (aSeq (aSetS 9 (aCall F_then (aCons (aCall F_then (aCons (aVar 1) (aCons (aVar 2) aNil))) (aCons (aCall F_then (aCons (aCall F_undone (aCons (aVar 1) aNil)) (aCons (aCall F_undone (aCons (aVar 2) aNil)) aNil))) aNil))))
    (aSeq (aIf (aOr (aB (aBin dNe (aVar 9) (aTup (aCons (aC (.int (0))) (aCons (aC (.int (0))) (aCons (aVar 7) aNil)))))) (aOr (aB (aBin dNe (aCall bRepr (aCons (aCall F_commute (aCons (aVar 1) (aCons (aVar 1) aNil))) aNil)) (aC (.str (Str.ofString "True"))))) (aB (aBin dNe (aCall F_gap (aCons (aVar 1) (aCons (aTup (aCons (aC (.int (0))) (aCons (aC (.int (0))) (aCons (aC (.int (7))) aNil)))) aNil))) (aC (.int (0))))))) (aRet (aC (.bl false)))
    aNext)
    (aSeq (aPar 10 4 (aCons (aCall F_drawn (aCons (aVar 0) aNil)) (aCons (aCall F_number (aCons (aVar 0) aNil)) aNil)))
    (aSeq (aIf (aOr (aB (aBin dNe (aCall F_gap (aCons (aVar 1) (aCons (aCall F_then (aCons (aVar 2) (aCons (aVar 10) aNil))) aNil))) (aBin aAdd (aVar 7) (aCall F_gap (aCons (aVar 1) (aCons (aVar 10) aNil)))))) (aB (aBin dNe (aCall F_gap (aCons (aVar 1) (aCons (aCall F_often (aCons (aVar 2) (aCons (aVar 4) aNil))) aNil))) (aBin aMul (aVar 4) (aVar 7))))) (aRet (aC (.bl false)))
    aNext)
    (aRet (aOrV (aBin aGt (aVar 3) (aC (.int (1)))) (aBin dEq (aVar 7) (aC (.int (0)))))))))))))))))))
noncomputable def F_right : List D → M D := runF 11 b_right
noncomputable def b_law : AS :=
    (aRet (aCall bAll (aCons (aComp (aRange1 (aCons (aCall bMax2 (aCons (aC (.int (2))) (aCons (aCall bMin2 (aCons (aCall bLen (aCons (aVar 0) aNil)) (aCons (aC (.int (5))) aNil))) aNil))) aNil)) (aGName 1) aYes (aCall F_right (aCons (aCall F_well (aCons (aVar 0) (aCons (aVar 1) aNil))) aNil)) [1]) aNil)))
noncomputable def F_law : List D → M D := runF 2 b_law
section
variable {P : Program} {w : World} {K : PySem.W.Frag} {mg : Str → Option Value} {base : Heap}
theorem ok_is_integer (T : Txt K mg) {f : Addr} {fd : FuncData} (D : Z.Def K mg "is_integer" s_is_integer ["value"] f fd) : FnOk P w K mg base (CX P w) 1 f fd ["value"] (spF K F_is_integer 1) := by
  refine fn_ok (A := b_is_integer) D.F sc_is_integer rfl (fun cdv A0 outer s H E C => ?_)
  exact (qs_one (qs_ret (ps_ret (q_cmp (or_eq C.hr.units) (fun _ => ok_eq) (q_cb (pe_callTy Z.z_type (by rfl) T.b_type (by decide +kernel) (ql_cons (q_var (pv 0)) ql_nil)) (fun _ => ok_type)) (q_glob (pe_bltn (v := .ty "int") (by rfl) T.b_int (by decide +kernel) rfl) (fun _ => rfl)) (nomark _)))))
theorem ok_joined (T : Txt K mg) {f : Addr} {fd : FuncData} (D : Z.Def K mg "joined" s_joined ["move", "second"] f fd) : FnOk P w K mg base (CX P w) 1 f fd ["move", "second"] (spF K F_joined 2) := by
  refine fn_ok (A := b_joined) D.F sc_joined rfl (fun cdv A0 outer s H E C => ?_)
  exact (qs_one (qs_ret (ps_ret (q_tup (ql_cons (q_op or_add (fun _ => ok_add) (q_ix (q_var (pv 0)) q_int (fun _ _ => rfl)) (q_ix (q_var (pv 1)) q_int (fun _ _ => rfl))) (ql_cons (q_op or_add (fun _ => ok_add) (q_ix (q_var (pv 0)) q_int (fun _ _ => rfl)) (q_ix (q_var (pv 1)) q_int (fun _ _ => rfl))) (ql_cons (q_op or_add (fun _ => ok_add) (q_op or_add (fun _ => ok_add) (q_ix (q_var (pv 0)) q_int (fun _ _ => rfl)) (q_ix (q_var (pv 1)) q_int (fun _ _ => rfl))) (q_op or_mul (fun _ => ok_mul) (q_ix (q_var (pv 0)) q_int (fun _ _ => rfl)) (q_ix (q_var (pv 1)) q_int (fun _ _ => rfl)))) ql_nil)))))))
theorem ok_repeated (T : Txt K mg) {f : Addr} {fd : FuncData} (D : Z.Def K mg "repeated" s_repeated ["move", "times"] f fd) : FnOk P w K mg base (CX P w) 1 f fd ["move", "times"] (spF K F_repeated 2) := by
  refine fn_ok (A := b_repeated) D.F sc_repeated rfl (fun cdv A0 outer s H E C => ?_)
  exact (qs_cons (qs_asg (ps_asg (q_var (pv 0)) (qg_tup (pg_tup C.calm (qg_cons (qg_name (pg_name (i := 2) sc_repeated.nd rfl (Or.inl rfl))) (qg_cons (qg_name (pg_name (i := 3) sc_repeated.nd rfl (Or.inl rfl))) (qg_cons (qg_name (pg_name (i := 4) sc_repeated.nd rfl (Or.inl rfl))) qg_nil)))))))
    (qs_one (qs_ret (ps_ret (q_tup (ql_cons (q_op or_mul (fun _ => ok_mul) (q_var (pv 1)) (q_var (pv 2))) (ql_cons (q_op or_mul (fun _ => ok_mul) (q_var (pv 1)) (q_var (pv 3))) (ql_cons (q_op or_add (fun _ => ok_add) (q_op or_mul (fun _ => ok_mul) (q_var (pv 1)) (q_var (pv 4))) (q_op or_mul (fun _ => ok_mul) (q_op or_mul (fun _ => ok_mul) (q_op Z.op_fdivX (fun _ => ok_div) (q_op or_mul (fun _ => ok_mul) (q_var (pv 1)) (q_op op_sub (fun _ => ok_sub) (q_var (pv 1)) q_int)) q_int) (q_var (pv 2))) (q_var (pv 3)))) ql_nil))))))))
theorem ok_well (T : Txt K mg) {f : Addr} {fd : FuncData} (D : Z.Def K mg "_law_well" s_well ["cells", "turn"] f fd) : FnOk P w K mg base (CX P w) 1 f fd ["cells", "turn"] (spF K F_well 2) := by
  refine fn_ok (A := b_well) D.F sc_well rfl (fun cdv A0 outer s H E C => ?_)
  exact (qs_cons (qs_set (ps_set (i := 2) sc_well.nd rfl (Or.inl rfl) (q_if (q_tcmp or_lt (fun _ => ok_lt) (q_var (pv 1)) (q_cb (pe_callB cr_len (by rfl) T.b_len (by decide +kernel) (ql_cons (q_var (pv 0)) ql_nil)) (fun _ => ok_len)) (nomark _)) (q_ix (q_var (pv 0)) (q_var (pv 1)) (fun _ _ => rfl)) (q_op or_add (fun _ => ok_add) (q_op or_mul (fun _ => ok_mul) q_int (q_var (pv 1))) q_int))))
    (qs_cons (qs_set (ps_set (i := 3) sc_well.nd rfl (Or.inl rfl) (q_op or_add (fun _ => ok_add) q_int (q_op or_mul (fun _ => ok_mul) q_int (q_var (pv 1))))))
    (qs_cons (qs_for (ps_for C.po C.calm (qi_items (q_op or_add (fun _ => ok_add) (q_sl (q_var (pv 0)) q_noPart (q_part q_int)) (q_lst (ql_cons (q_var (pv 2)) ql_nil)))) (qg_name (pg_name (i := 4) sc_well.nd rfl (Or.inl rfl)))
    (qs_one (qs_set (ps_set (i := 3) sc_well.nd rfl (Or.inl rfl) (q_op op_modN (fun _ => ok_mod) (q_cb (pe_callTy Z.z_int (by rfl) T.b_int (by decide +kernel) (ql_cons (q_op or_add (fun _ => ok_add) (q_op or_add (fun _ => ok_add) (q_op or_mul (fun _ => ok_mul) (q_var (pv 3)) q_int) (q_op or_mul (fun _ => ok_mul) (q_var (pv 4)) q_int)) q_int) ql_nil)) (fun _ => ok_int)) q_int))))))
    (qs_one (qs_ret (ps_ret (q_lstM (ql_cons (q_if (PW.pt (q_or (q_tcmp or_lt (fun _ => ok_lt) (q_var (pv 2)) q_int (nomark _)) (q_or1 (q_tcmp op_ge (fun _ => ok_ge) (q_var (pv 2)) (q_op op_pow (fun _ => ok_pow) q_int q_int) (nomark _))))) (q_cb (pe_callB Z.z_abs (by rfl) T.b_abs (by decide +kernel) (ql_cons (q_var (pv 2)) ql_nil)) (fun _ => ok_abs)) q_int) (ql_cons (q_var (pv 3)) (ql_cons q_int ql_nil))))))))))
theorem ok_dip (T : Txt K mg) {f : Addr} {fd : FuncData} (D : Z.Def K mg "_law_dip" s_dip ["well", "sides"] f fd) : FnOk P w K mg base (CX P w) 1 f fd ["well", "sides"] (spF K F_dip 2) := by
  refine fn_ok (A := b_dip) D.F sc_dip rfl (fun cdv A0 outer s H E C => ?_)
  exact (qs_cons (qs_asg (ps_asg (q_op or_add (fun _ => ok_add) (q_ix (q_var (pv 0)) q_int (fun _ _ => rfl)) q_int) (qg_sub (pg_sub (q_var (pv 0)) q_int set_list))))
    (qs_cons (qs_if (q_tcmp op_gt (fun _ => ok_gt) (q_ix (q_var (pv 0)) q_int (fun _ _ => rfl)) q_int (nomark _)) (qs_cons (qs_asg (ps_asg (q_cb (pe_callB Z.z_divmod (by rfl) T.b_divmod (by decide +kernel) (ql_cons (q_ix (q_var (pv 0)) q_int (fun _ _ => rfl)) (ql_cons (q_var (pv 1)) ql_nil))) (fun _ => ok_divmod)) (qg_tup (pg_tup C.calm (qg_cons (qg_sub (pg_sub (q_var (pv 0)) q_int set_list)) (qg_cons (qg_name (pg_name (i := 2) sc_dip.nd rfl (Or.inl rfl))) qg_nil))))))
    (qs_one (qs_ret (ps_ret (q_var (pv 2))))))
    qs_nil)
    (qs_cons (qs_set (ps_set (i := 3) sc_dip.nd rfl (Or.inl rfl) (q_op or_add (fun _ => ok_add) q_int (q_op or_mul (fun _ => ok_mul) q_int (q_ix (q_var (pv 0)) q_int (fun _ _ => rfl))))))
    (qs_cons (qs_asg (ps_asg (q_op op_modN (fun _ => ok_mod) (q_cb (pe_callTy Z.z_int (by rfl) T.b_int (by decide +kernel) (ql_cons (q_op or_add (fun _ => ok_add) (q_op or_add (fun _ => ok_add) (q_op or_mul (fun _ => ok_mul) (q_ix (q_var (pv 0)) q_int (fun _ _ => rfl)) (q_var (pv 3))) (q_op or_mul (fun _ => ok_mul) q_int (q_ix (q_var (pv 0)) q_int (fun _ _ => rfl)))) q_int) ql_nil)) (fun _ => ok_int)) q_int) (qg_sub (pg_sub (q_var (pv 0)) q_int set_list))))
    (qs_one (qs_ret (ps_ret (q_op op_modN (fun _ => ok_mod) (q_cb (pe_callTy Z.z_int (by rfl) T.b_int (by decide +kernel) (ql_cons (q_op Z.op_fdivX (fun _ => ok_div) (q_ix (q_var (pv 0)) q_int (fun _ _ => rfl)) q_int) ql_nil)) (fun _ => ok_int)) (q_var (pv 1))))))))))
theorem ok_join (T : Txt K mg) {f : Addr} {fd : FuncData} (D : Z.Def K mg "_law_join" s_join ["one", "two"] f fd) : FnOk P w K mg base (CX P w) 1 f fd ["one", "two"] (spF K F_join 2) := by
  refine fn_ok (A := b_join) D.F sc_join rfl (fun cdv A0 outer s H E C => ?_)
  exact (qs_one (qs_ret (ps_ret (q_tup (ql_cons (q_op or_add (fun _ => ok_add) (q_ix (q_var (pv 0)) q_int (fun _ _ => rfl)) (q_ix (q_var (pv 1)) q_int (fun _ _ => rfl))) (ql_cons (q_op or_add (fun _ => ok_add) (q_ix (q_var (pv 0)) q_int (fun _ _ => rfl)) (q_ix (q_var (pv 1)) q_int (fun _ _ => rfl))) (ql_cons (q_op or_add (fun _ => ok_add) (q_op or_add (fun _ => ok_add) (q_ix (q_var (pv 0)) q_int (fun _ _ => rfl)) (q_ix (q_var (pv 1)) q_int (fun _ _ => rfl))) (q_op or_mul (fun _ => ok_mul) (q_ix (q_var (pv 0)) q_int (fun _ _ => rfl)) (q_ix (q_var (pv 1)) q_int (fun _ _ => rfl)))) ql_nil)))))))
theorem ok_is_move (T : Txt K mg) {f : Addr} {fd : FuncData} (D : Z.Def K mg "is_move" s_is_move ["value"] f fd) : FnOk P w K mg base (CX P w) 2 f fd ["value"] (spF K F_is_move 1) := by
  obtain ⟨a_is_integer, fd_is_integer, D_is_integer⟩ := T.f_is_integer
  have G_is_integer := ok_is_integer (P := P) (w := w) (base := base) T D_is_integer
  refine fn_ok (A := b_is_move) D.F sc_is_move rfl (fun cdv A0 outer s H E C => ?_)
  exact (qs_one (qs_ret (ps_ret (q_andV (q_cmp (or_eq C.hr.units) (fun _ => ok_eq) (q_cb (pe_callTy Z.z_type (by rfl) T.b_type (by decide +kernel) (ql_cons (q_var (pv 0)) ql_nil)) (fun _ => ok_type)) (q_glob (pe_bltn (v := .ty "tuple") (by rfl) T.b_tuple (by decide +kernel) rfl) (fun _ => rfl)) (nomark _)) (q_andV (q_cmp (or_eq C.hr.units) (fun _ => ok_eq) (q_cb (pe_callB cr_len (by rfl) T.b_len (by decide +kernel) (ql_cons (q_var (pv 0)) ql_nil)) (fun _ => ok_len)) q_int (nomark _)) (q_one (q_cb (pe_callB (cr_all C.calm) (by rfl) T.b_all (by decide +kernel) (ql_cons (q_comp (tg_name (by decide)) (pe_lc (own := [("number", 1)]) (g := gName 1) C.calm C.nd (qi_items (q_var (pv 0))) (blkOk_by (own := [("number", 1)]) (N := ["value", "number"]) (sc := defScope s_is_move) (by first | decide +kernel | with_unfolding_all rfl)) (fun s1 H1 _ _ fp1 => (pg_name (i := 1) sc_is_move.nd rfl (by first | exact Or.inl rfl | exact Or.inr rfl))) (fun s1 H1 _ _ fp1 => qts_nil) (fun s1 H1 _ _ fp1 => (q_call (C.blk s1 H1 _ _ fp1) G_is_integer (by decide) (by rfl) D_is_integer.m D_is_integer.F.kp D_is_integer.b rfl (ql_cons (q_var (pv 1)) ql_nil) (len_cons len_nil))))) ql_nil)) (fun _ => ok_all))))))))
theorem ok_need_integer (T : Txt K mg) {f : Addr} {fd : FuncData} (D : Z.Def K mg "need_integer" s_need_integer ["value"] f fd) : FnOk P w K mg base (CX P w) 2 f fd ["value"] (spF K F_need_integer 1) := by
  obtain ⟨a_is_integer, fd_is_integer, D_is_integer⟩ := T.f_is_integer
  have G_is_integer := ok_is_integer (P := P) (w := w) (base := base) T D_is_integer
  refine fn_ok (A := b_need_integer) D.F sc_need_integer rfl (fun cdv A0 outer s H E C => ?_)
  exact (qs_one (qs_if (q_not (q_tval (pt_val (q_call C G_is_integer (by decide) (by rfl) D_is_integer.m D_is_integer.F.kp D_is_integer.b rfl (ql_cons (q_var (pv 0)) ql_nil) (len_cons len_nil))))) (qs_one qs_never)
    qs_nil))
theorem ok_number (T : Txt K mg) {f : Addr} {fd : FuncData} (D : Z.Def K mg "_law_number" s_number ["well"] f fd) : FnOk P w K mg base (CX P w) 2 f fd ["well"] (spF K F_number 1) := by
  obtain ⟨a_dip, fd_dip, D_dip⟩ := T.f_dip
  have G_dip := ok_dip (P := P) (w := w) (base := base) T D_dip
  refine fn_ok (A := b_number) D.F sc_number rfl (fun cdv A0 outer s H E C => ?_)
  exact (qs_cons (qs_set (ps_set (i := 1) sc_number.nd rfl (Or.inl rfl) (q_call C G_dip (by decide) (by rfl) D_dip.m D_dip.F.kp D_dip.b rfl (ql_cons (q_var (pv 0)) (ql_cons q_int ql_nil)) (len_cons (len_cons len_nil)))))
    (qs_cons (qs_set (ps_set (i := 2) sc_number.nd rfl (Or.inl rfl) (q_call C G_dip (by decide) (by rfl) D_dip.m D_dip.F.kp D_dip.b rfl (ql_cons (q_var (pv 0)) (ql_cons (q_ix (q_lst (ql_cons q_int (ql_cons q_int (ql_cons q_int (ql_cons (q_op op_pow (fun _ => ok_pow) q_int q_int) (ql_cons (q_op op_pow (fun _ => ok_pow) q_int q_int) (ql_cons (q_op op_pow (fun _ => ok_pow) q_int q_int) ql_nil))))))) (q_var (pv 1)) (fun _ _ => rfl)) ql_nil)) (len_cons (len_cons len_nil)))))
    (qs_cons (qs_for (ps_for C.po C.calm (qi_range1 (pi_range1 (by rfl) T.b_range (ql_cons (q_ix (q_lst (ql_cons q_int (ql_cons q_int (ql_cons q_int (ql_cons q_int (ql_cons q_int (ql_cons q_int ql_nil))))))) (q_var (pv 1)) (fun _ _ => rfl)) ql_nil))) (qg_name (pg_name (i := 3) sc_number.nd rfl (Or.inl rfl)))
    (qs_one (qs_set (ps_set (i := 2) sc_number.nd rfl (Or.inl rfl) (q_op or_add (fun _ => ok_add) (q_op or_mul (fun _ => ok_mul) (q_var (pv 2)) (q_op op_pow (fun _ => ok_pow) q_int q_int)) (q_call C G_dip (by decide) (by rfl) D_dip.m D_dip.F.kp D_dip.b rfl (ql_cons (q_var (pv 0)) (ql_cons (q_op op_pow (fun _ => ok_pow) q_int q_int) ql_nil)) (len_cons (len_cons len_nil)))))))))
    (qs_one (qs_ret (ps_ret (q_if (q_tcmp (or_eq C.hr.units) (fun _ => ok_eq) (q_call C G_dip (by decide) (by rfl) D_dip.m D_dip.F.kp D_dip.b rfl (ql_cons (q_var (pv 0)) (ql_cons q_int ql_nil)) (len_cons (len_cons len_nil))) q_int (nomark _)) (q_var (pv 2)) (q_op op_sub (fun _ => ok_sub) q_int (q_var (pv 2))))))))))
theorem ok_need_move (T : Txt K mg) {f : Addr} {fd : FuncData} (D : Z.Def K mg "need_move" s_need_move ["value"] f fd) : FnOk P w K mg base (CX P w) 3 f fd ["value"] (spF K F_need_move 1) := by
  obtain ⟨a_is_move, fd_is_move, D_is_move⟩ := T.f_is_move
  have G_is_move := ok_is_move (P := P) (w := w) (base := base) T D_is_move
  refine fn_ok (A := b_need_move) D.F sc_need_move rfl (fun cdv A0 outer s H E C => ?_)
  exact (qs_one (qs_if (q_not (q_tval (pt_val (q_call C G_is_move (by decide) (by rfl) D_is_move.m D_is_move.F.kp D_is_move.b rfl (ql_cons (q_var (pv 0)) ql_nil) (len_cons len_nil))))) (qs_one qs_never)
    qs_nil))
theorem ok_drawn (T : Txt K mg) {f : Addr} {fd : FuncData} (D : Z.Def K mg "_law_drawn" s_drawn ["well"] f fd) : FnOk P w K mg base (CX P w) 3 f fd ["well"] (spF K F_drawn 1) := by
  obtain ⟨a_dip, fd_dip, D_dip⟩ := T.f_dip
  have G_dip := ok_dip (P := P) (w := w) (base := base) T D_dip
  obtain ⟨a_number, fd_number, D_number⟩ := T.f_number
  have G_number := ok_number (P := P) (w := w) (base := base) T D_number
  refine fn_ok (A := b_drawn) D.F sc_drawn rfl (fun cdv A0 outer s H E C => ?_)
  exact (qs_cons (qs_set (ps_set (i := 1) sc_drawn.nd rfl (Or.inl rfl) (q_call C G_dip (by decide) (by rfl) D_dip.m D_dip.F.kp D_dip.b rfl (ql_cons (q_var (pv 0)) (ql_cons q_int ql_nil)) (len_cons (len_cons len_nil)))))
    (qs_cons (qs_if (q_tcmp (or_eq C.hr.units) (fun _ => ok_eq) (q_var (pv 1)) q_int (nomark _)) (qs_one (qs_ret (ps_ret (q_tup (ql_cons (q_op op_sub (fun _ => ok_sub) (q_call C G_dip (by decide) (by rfl) D_dip.m D_dip.F.kp D_dip.b rfl (ql_cons (q_var (pv 0)) (ql_cons q_int ql_nil)) (len_cons (len_cons len_nil))) q_int) (ql_cons (q_op op_sub (fun _ => ok_sub) (q_call C G_dip (by decide) (by rfl) D_dip.m D_dip.F.kp D_dip.b rfl (ql_cons (q_var (pv 0)) (ql_cons q_int ql_nil)) (len_cons (len_cons len_nil))) q_int) (ql_cons (q_op op_sub (fun _ => ok_sub) (q_call C G_dip (by decide) (by rfl) D_dip.m D_dip.F.kp D_dip.b rfl (ql_cons (q_var (pv 0)) (ql_cons q_int ql_nil)) (len_cons (len_cons len_nil))) q_int) ql_nil)))))))
    qs_nil)
    (qs_cons (qs_set (ps_set (i := 2) sc_drawn.nd rfl (Or.inl rfl) (q_lstM (ql_cons (q_call C G_number (by decide) (by rfl) D_number.m D_number.F.kp D_number.b rfl (ql_cons (q_var (pv 0)) ql_nil) (len_cons len_nil)) (ql_cons (q_call C G_number (by decide) (by rfl) D_number.m D_number.F.kp D_number.b rfl (ql_cons (q_var (pv 0)) ql_nil) (len_cons len_nil)) (ql_cons (q_call C G_number (by decide) (by rfl) D_number.m D_number.F.kp D_number.b rfl (ql_cons (q_var (pv 0)) ql_nil) (len_cons len_nil)) ql_nil))))))
    (qs_cons (qs_if (q_tcmp (or_eq C.hr.units) (fun _ => ok_eq) (q_var (pv 1)) q_int (nomark _)) (qs_one (qs_asg (ps_asg q_int (qg_sub (pg_sub (q_var (pv 2)) (q_call C G_dip (by decide) (by rfl) D_dip.m D_dip.F.kp D_dip.b rfl (ql_cons (q_var (pv 0)) (ql_cons q_int ql_nil)) (len_cons (len_cons len_nil))) set_list)))))
    qs_nil)
    (qs_one (qs_ret (ps_ret (q_tup (ql_cons (q_ix (q_var (pv 2)) q_int (fun _ _ => rfl)) (ql_cons (q_ix (q_var (pv 2)) q_int (fun _ _ => rfl)) (ql_cons (q_ix (q_var (pv 2)) q_int (fun _ _ => rfl)) ql_nil)))))))))))
theorem ok_then (T : Txt K mg) {f : Addr} {fd : FuncData} (D : Z.Def K mg "then" s_then ["move", "second"] f fd) : FnOk P w K mg base (CX P w) 4 f fd ["move", "second"] (spF K F_then 2) := by
  obtain ⟨a_need_move, fd_need_move, D_need_move⟩ := T.f_need_move
  have G_need_move := ok_need_move (P := P) (w := w) (base := base) T D_need_move
  obtain ⟨a_joined, fd_joined, D_joined⟩ := T.f_joined
  have G_joined := ok_joined (P := P) (w := w) (base := base) T D_joined
  refine fn_ok (A := b_then) D.F sc_then rfl (fun cdv A0 outer s H E C => ?_)
  exact (qs_cons (qs_expr (ps_expr (q_call C G_need_move (by decide) (by rfl) D_need_move.m D_need_move.F.kp D_need_move.b rfl (ql_cons (q_var (pv 0)) ql_nil) (len_cons len_nil))))
    (qs_cons (qs_expr (ps_expr (q_call C G_need_move (by decide) (by rfl) D_need_move.m D_need_move.F.kp D_need_move.b rfl (ql_cons (q_var (pv 1)) ql_nil) (len_cons len_nil))))
    (qs_one (qs_ret (ps_ret (q_call C G_joined (by decide) (by rfl) D_joined.m D_joined.F.kp D_joined.b rfl (ql_cons (q_var (pv 0)) (ql_cons (q_var (pv 1)) ql_nil)) (len_cons (len_cons len_nil))))))))
theorem ok_undone (T : Txt K mg) {f : Addr} {fd : FuncData} (D : Z.Def K mg "undone" s_undone ["move"] f fd) : FnOk P w K mg base (CX P w) 4 f fd ["move"] (spF K F_undone 1) := by
  obtain ⟨a_need_move, fd_need_move, D_need_move⟩ := T.f_need_move
  have G_need_move := ok_need_move (P := P) (w := w) (base := base) T D_need_move
  refine fn_ok (A := b_undone) D.F sc_undone rfl (fun cdv A0 outer s H E C => ?_)
  exact (qs_cons (qs_expr (ps_expr (q_call C G_need_move (by decide) (by rfl) D_need_move.m D_need_move.F.kp D_need_move.b rfl (ql_cons (q_var (pv 0)) ql_nil) (len_cons len_nil))))
    (qs_cons (qs_asg (ps_asg (q_var (pv 0)) (qg_tup (pg_tup C.calm (qg_cons (qg_name (pg_name (i := 1) sc_undone.nd rfl (Or.inl rfl))) (qg_cons (qg_name (pg_name (i := 2) sc_undone.nd rfl (Or.inl rfl))) (qg_cons (qg_name (pg_name (i := 3) sc_undone.nd rfl (Or.inl rfl))) qg_nil)))))))
    (qs_one (qs_ret (ps_ret (q_tup (ql_cons (q_un un_neg (fun _ => ok_neg) (q_var (pv 1))) (ql_cons (q_un un_neg (fun _ => ok_neg) (q_var (pv 2))) (ql_cons (q_op op_sub (fun _ => ok_sub) (q_op or_mul (fun _ => ok_mul) (q_var (pv 1)) (q_var (pv 2))) (q_var (pv 3))) ql_nil)))))))))
theorem ok_often (T : Txt K mg) {f : Addr} {fd : FuncData} (D : Z.Def K mg "often" s_often ["move", "times"] f fd) : FnOk P w K mg base (CX P w) 4 f fd ["move", "times"] (spF K F_often 2) := by
  obtain ⟨a_need_move, fd_need_move, D_need_move⟩ := T.f_need_move
  have G_need_move := ok_need_move (P := P) (w := w) (base := base) T D_need_move
  obtain ⟨a_need_integer, fd_need_integer, D_need_integer⟩ := T.f_need_integer
  have G_need_integer := ok_need_integer (P := P) (w := w) (base := base) T D_need_integer
  obtain ⟨a_repeated, fd_repeated, D_repeated⟩ := T.f_repeated
  have G_repeated := ok_repeated (P := P) (w := w) (base := base) T D_repeated
  refine fn_ok (A := b_often) D.F sc_often rfl (fun cdv A0 outer s H E C => ?_)
  exact (qs_cons (qs_expr (ps_expr (q_call C G_need_move (by decide) (by rfl) D_need_move.m D_need_move.F.kp D_need_move.b rfl (ql_cons (q_var (pv 0)) ql_nil) (len_cons len_nil))))
    (qs_cons (qs_expr (ps_expr (q_call C G_need_integer (by decide) (by rfl) D_need_integer.m D_need_integer.F.kp D_need_integer.b rfl (ql_cons (q_var (pv 1)) ql_nil) (len_cons len_nil))))
    (qs_one (qs_ret (ps_ret (q_call C G_repeated (by decide) (by rfl) D_repeated.m D_repeated.F.kp D_repeated.b rfl (ql_cons (q_var (pv 0)) (ql_cons (q_var (pv 1)) ql_nil)) (len_cons (len_cons len_nil))))))))
theorem ok_gap (T : Txt K mg) {f : Addr} {fd : FuncData} (D : Z.Def K mg "gap" s_gap ["move", "second"] f fd) : FnOk P w K mg base (CX P w) 4 f fd ["move", "second"] (spF K F_gap 2) := by
  obtain ⟨a_need_move, fd_need_move, D_need_move⟩ := T.f_need_move
  have G_need_move := ok_need_move (P := P) (w := w) (base := base) T D_need_move
  refine fn_ok (A := b_gap) D.F sc_gap rfl (fun cdv A0 outer s H E C => ?_)
  exact (qs_cons (qs_expr (ps_expr (q_call C G_need_move (by decide) (by rfl) D_need_move.m D_need_move.F.kp D_need_move.b rfl (ql_cons (q_var (pv 0)) ql_nil) (len_cons len_nil))))
    (qs_cons (qs_expr (ps_expr (q_call C G_need_move (by decide) (by rfl) D_need_move.m D_need_move.F.kp D_need_move.b rfl (ql_cons (q_var (pv 1)) ql_nil) (len_cons len_nil))))
    (qs_one (qs_ret (ps_ret (q_op op_sub (fun _ => ok_sub) (q_op or_mul (fun _ => ok_mul) (q_ix (q_var (pv 0)) q_int (fun _ _ => rfl)) (q_ix (q_var (pv 1)) q_int (fun _ _ => rfl))) (q_op or_mul (fun _ => ok_mul) (q_ix (q_var (pv 0)) q_int (fun _ _ => rfl)) (q_ix (q_var (pv 1)) q_int (fun _ _ => rfl)))))))))
theorem ok_commute (T : Txt K mg) {f : Addr} {fd : FuncData} (D : Z.Def K mg "commute" s_commute ["move", "second"] f fd) : FnOk P w K mg base (CX P w) 5 f fd ["move", "second"] (spF K F_commute 2) := by
  obtain ⟨a_gap, fd_gap, D_gap⟩ := T.f_gap
  have G_gap := ok_gap (P := P) (w := w) (base := base) T D_gap
  refine fn_ok (A := b_commute) D.F sc_commute rfl (fun cdv A0 outer s H E C => ?_)
  exact (qs_one (qs_ret (ps_ret (q_cmp (or_eq C.hr.units) (fun _ => ok_eq) (q_call C G_gap (by decide) (by rfl) D_gap.m D_gap.F.kp D_gap.b rfl (ql_cons (q_var (pv 0)) (ql_cons (q_var (pv 1)) ql_nil)) (len_cons (len_cons len_nil))) q_int (nomark _)))))
theorem ok_right (T : Txt K mg) {f : Addr} {fd : FuncData} (D : Z.Def K mg "_law_right" s_right ["well"] f fd) : FOk P w K mg base 6 f fd ["well"] (spF K F_right 1) := by
  obtain ⟨a_then, fd_then, D_then⟩ := T.f_then
  have G_then := ok_then (P := P) (w := w) (base := base) T D_then
  obtain ⟨a_undone, fd_undone, D_undone⟩ := T.f_undone
  have G_undone := ok_undone (P := P) (w := w) (base := base) T D_undone
  obtain ⟨a_often, fd_often, D_often⟩ := T.f_often
  have G_often := ok_often (P := P) (w := w) (base := base) T D_often
  obtain ⟨a_gap, fd_gap, D_gap⟩ := T.f_gap
  have G_gap := ok_gap (P := P) (w := w) (base := base) T D_gap
  obtain ⟨a_commute, fd_commute, D_commute⟩ := T.f_commute
  have G_commute := ok_commute (P := P) (w := w) (base := base) T D_commute
  obtain ⟨a_dip, fd_dip, D_dip⟩ := T.f_dip
  have G_dip := ok_dip (P := P) (w := w) (base := base) T D_dip
  obtain ⟨a_number, fd_number, D_number⟩ := T.f_number
  have G_number := ok_number (P := P) (w := w) (base := base) T D_number
  obtain ⟨a_drawn, fd_drawn, D_drawn⟩ := T.f_drawn
  have G_drawn := ok_drawn (P := P) (w := w) (base := base) T D_drawn
  obtain ⟨a_join, fd_join, D_join⟩ := T.f_join
  have G_join := ok_join (P := P) (w := w) (base := base) T D_join
  refine fn_okG (A := b_right) D.F sc_right rfl (fun cdv A0 outer s H E gd C => ?_)
  exact (qs_cons (qs_par (ps_par (i := 1) (j := 2) C.calm sc_right.nd rfl rfl (by decide) rfl rfl (ql_cons (q_call C G_drawn (by decide) (by rfl) D_drawn.m D_drawn.F.kp D_drawn.b rfl (ql_cons (q_var (pv 0)) ql_nil) (len_cons len_nil)) (ql_cons (q_call C G_drawn (by decide) (by rfl) D_drawn.m D_drawn.F.kp D_drawn.b rfl (ql_cons (q_var (pv 0)) ql_nil) (len_cons len_nil)) ql_nil)) (by rfl)))
    (qs_cons (qs_set (ps_set (i := 3) sc_right.nd rfl (Or.inl rfl) (q_call C G_dip (by decide) (by rfl) D_dip.m D_dip.F.kp D_dip.b rfl (ql_cons (q_var (pv 0)) (ql_cons q_int ql_nil)) (len_cons (len_cons len_nil)))))
    (qs_cons (qs_if (q_tcmp (or_eq C.hr.units) (fun _ => ok_eq) (q_var (pv 3)) q_int (nomark _)) (qs_cons (qs_set (ps_set (i := 4) sc_right.nd rfl (Or.inl rfl) (q_call C G_number (by decide) (by rfl) D_number.m D_number.F.kp D_number.b rfl (ql_cons (q_var (pv 0)) ql_nil) (len_cons len_nil))))
    (qs_one (qs_set (ps_set (i := 2) sc_right.nd rfl (Or.inl rfl) (q_tup (ql_cons (q_op or_mul (fun _ => ok_mul) (q_var (pv 4)) (q_ix (q_var (pv 1)) q_int (fun _ _ => rfl))) (ql_cons (q_op or_mul (fun _ => ok_mul) (q_var (pv 4)) (q_ix (q_var (pv 1)) q_int (fun _ _ => rfl))) (ql_cons (q_call C G_number (by decide) (by rfl) D_number.m D_number.F.kp D_number.b rfl (ql_cons (q_var (pv 0)) ql_nil) (len_cons len_nil)) ql_nil))))))))
    qs_nil)
    (qs_cons (qs_if (q_tcmp (or_eq C.hr.units) (fun _ => ok_eq) (q_var (pv 3)) q_int (nomark _)) (qs_one (qs_set (ps_set (i := 2) sc_right.nd rfl (Or.inl rfl) (q_tup (ql_cons q_int (ql_cons q_int (ql_cons (q_call C G_number (by decide) (by rfl) D_number.m D_number.F.kp D_number.b rfl (ql_cons (q_var (pv 0)) ql_nil) (len_cons len_nil)) ql_nil)))))))
    qs_nil)
    (qs_cons (qs_par (ps_par (i := 5) (j := 6) C.calm sc_right.nd rfl rfl (by decide) rfl rfl (ql_cons (q_call C G_join (by decide) (by rfl) D_join.m D_join.F.kp D_join.b rfl (ql_cons (q_var (pv 1)) (ql_cons (q_var (pv 2)) ql_nil)) (len_cons (len_cons len_nil))) (ql_cons (q_call C G_join (by decide) (by rfl) D_join.m D_join.F.kp D_join.b rfl (ql_cons (q_var (pv 2)) (ql_cons (q_var (pv 1)) ql_nil)) (len_cons (len_cons len_nil))) ql_nil)) (by rfl)))
    (qs_cons (qs_set (ps_set (i := 7) sc_right.nd rfl (Or.inl rfl) (q_op op_sub (fun _ => ok_sub) (q_ix (q_var (pv 5)) q_int (fun _ _ => rfl)) (q_ix (q_var (pv 6)) q_int (fun _ _ => rfl)))))
    (qs_cons (qs_set (ps_set (i := 8) sc_right.nd rfl (Or.inl rfl) (q_lst (ql_cons (q_call C G_gap (by decide) (by rfl) D_gap.m D_gap.F.kp D_gap.b rfl (ql_cons (q_var (pv 1)) (ql_cons (q_var (pv 2)) ql_nil)) (len_cons (len_cons len_nil))) (ql_cons (q_callK (perm := Z.k21 []) C G_gap (by decide) (by rfl) D_gap.m D_gap.F.kp (K21_gap D_gap) (qk_cons (q_var (pv 2)) (qk_cons (q_var (pv 1)) qk_nil)) (len_cons (len_cons len_nil)) (fun _ _ ds vs h r => k_len21 ds vs h r)) (ql_cons (q_op op_sub (fun _ => ok_sub) q_int (q_call C G_gap (by decide) (by rfl) D_gap.m D_gap.F.kp D_gap.b rfl (ql_cons (q_var (pv 2)) (ql_cons (q_var (pv 1)) ql_nil)) (len_cons (len_cons len_nil)))) (ql_cons (q_call C G_gap (by decide) (by rfl) D_gap.m D_gap.F.kp D_gap.b rfl (ql_cons (q_var (pv 1)) (ql_cons (q_call C G_then (by decide) (by rfl) D_then.m D_then.F.kp D_then.b rfl (ql_cons (q_var (pv 2)) (ql_cons (q_var (pv 1)) ql_nil)) (len_cons (len_cons len_nil))) ql_nil)) (len_cons (len_cons len_nil))) ql_nil)))))))
    (qs_cons (qs_if (PW.pt (q_or (q_tcmp (or_ne C.hr.units) (fun _ => ok_ne) (q_var (pv 8)) (q_op or_mul (fun _ => ok_mul) (q_lst (ql_cons (q_var (pv 7)) ql_nil)) q_int) (nomark _)) (q_or1 (q_tcmp (or_ne C.hr.units) (fun _ => ok_ne) (q_sl (q_var (pv 5)) q_noPart (q_part q_int)) (q_sl (q_var (pv 6)) q_noPart (q_part q_int)) (nomark _))))) (qs_one (qs_ret (ps_ret q_bl)))
    qs_nil)
    (qs_cons (qs_if (q_tcmp (or_ne C.hr.units) (fun _ => ok_ne) (q_cb (pe_callB (Z.z_repr gd C.hr.units) (by rfl) T.b_repr (by decide +kernel) (ql_cons (q_lst (ql_cons (q_call C G_commute (by decide) (by rfl) D_commute.m D_commute.F.kp D_commute.b rfl (ql_cons (q_var (pv 1)) (ql_cons (q_var (pv 2)) ql_nil)) (len_cons (len_cons len_nil))) (ql_cons (q_callK (perm := Z.k21 []) C G_commute (by decide) (by rfl) D_commute.m D_commute.F.kp (K21_commute D_commute) (qk_cons (q_var (pv 2)) (qk_cons (q_var (pv 1)) qk_nil)) (len_cons (len_cons len_nil)) (fun _ _ ds vs h r => k_len21 ds vs h r)) (ql_cons (q_call C G_commute (by decide) (by rfl) D_commute.m D_commute.F.kp D_commute.b rfl (ql_cons (q_var (pv 2)) (ql_cons (q_var (pv 1)) ql_nil)) (len_cons (len_cons len_nil))) ql_nil)))) ql_nil)) (fun _ => ok_repr)) (q_cb (pe_callB (Z.z_repr gd C.hr.units) (by rfl) T.b_repr (by decide +kernel) (ql_cons (q_op or_mul (fun _ => ok_mul) (q_lst (ql_cons (q_cmp (or_eq C.hr.units) (fun _ => ok_eq) (q_var (pv 7)) q_int (nomark _)) ql_nil)) q_int) ql_nil)) (fun _ => ok_repr)) (nomark _)) (qs_one (qs_ret (ps_ret q_bl)))
    qs_nil)
    (qs_cons (qs_set (ps_set (i := 9) sc_right.nd rfl (Or.inl rfl) (q_call C G_then (by decide) (by rfl) D_then.m D_then.F.kp D_then.b rfl (ql_cons (q_call C G_then (by decide) (by rfl) D_then.m D_then.F.kp D_then.b rfl (ql_cons (q_var (pv 1)) (ql_cons (q_var (pv 2)) ql_nil)) (len_cons (len_cons len_nil))) (ql_cons (q_call C G_then (by decide) (by rfl) D_then.m D_then.F.kp D_then.b rfl (ql_cons (q_call C G_undone (by decide) (by rfl) D_undone.m D_undone.F.kp D_undone.b rfl (ql_cons (q_var (pv 1)) ql_nil) (len_cons len_nil)) (ql_cons (q_call C G_undone (by decide) (by rfl) D_undone.m D_undone.F.kp D_undone.b rfl (ql_cons (q_var (pv 2)) ql_nil) (len_cons len_nil)) ql_nil)) (len_cons (len_cons len_nil))) ql_nil)) (len_cons (len_cons len_nil)))))
    (qs_cons (qs_if (PW.pt (q_or (q_tcmp (or_ne C.hr.units) (fun _ => ok_ne) (q_var (pv 9)) (q_tup (ql_cons q_int (ql_cons q_int (ql_cons (q_var (pv 7)) ql_nil)))) (nomark _)) (q_or (q_tcmp (or_ne C.hr.units) (fun _ => ok_ne) (q_cb (pe_callB (Z.z_repr gd C.hr.units) (by rfl) T.b_repr (by decide +kernel) (ql_cons (q_call C G_commute (by decide) (by rfl) D_commute.m D_commute.F.kp D_commute.b rfl (ql_cons (q_var (pv 1)) (ql_cons (q_var (pv 1)) ql_nil)) (len_cons (len_cons len_nil))) ql_nil)) (fun _ => ok_repr)) q_str (nomark _)) (q_or1 (q_tcmp (or_ne C.hr.units) (fun _ => ok_ne) (q_call C G_gap (by decide) (by rfl) D_gap.m D_gap.F.kp D_gap.b rfl (ql_cons (q_var (pv 1)) (ql_cons (q_tup (ql_cons q_int (ql_cons q_int (ql_cons q_int ql_nil)))) ql_nil)) (len_cons (len_cons len_nil))) q_int (nomark _)))))) (qs_one (qs_ret (ps_ret q_bl)))
    qs_nil)
    (qs_cons (qs_par (ps_par (i := 10) (j := 4) C.calm sc_right.nd rfl rfl (by decide) rfl rfl (ql_cons (q_call C G_drawn (by decide) (by rfl) D_drawn.m D_drawn.F.kp D_drawn.b rfl (ql_cons (q_var (pv 0)) ql_nil) (len_cons len_nil)) (ql_cons (q_call C G_number (by decide) (by rfl) D_number.m D_number.F.kp D_number.b rfl (ql_cons (q_var (pv 0)) ql_nil) (len_cons len_nil)) ql_nil)) (by rfl)))
    (qs_cons (qs_if (PW.pt (q_or (q_tcmp (or_ne C.hr.units) (fun _ => ok_ne) (q_call C G_gap (by decide) (by rfl) D_gap.m D_gap.F.kp D_gap.b rfl (ql_cons (q_var (pv 1)) (ql_cons (q_call C G_then (by decide) (by rfl) D_then.m D_then.F.kp D_then.b rfl (ql_cons (q_var (pv 2)) (ql_cons (q_var (pv 10)) ql_nil)) (len_cons (len_cons len_nil))) ql_nil)) (len_cons (len_cons len_nil))) (q_op or_add (fun _ => ok_add) (q_var (pv 7)) (q_call C G_gap (by decide) (by rfl) D_gap.m D_gap.F.kp D_gap.b rfl (ql_cons (q_var (pv 1)) (ql_cons (q_var (pv 10)) ql_nil)) (len_cons (len_cons len_nil)))) (nomark _)) (q_or1 (q_tcmp (or_ne C.hr.units) (fun _ => ok_ne) (q_call C G_gap (by decide) (by rfl) D_gap.m D_gap.F.kp D_gap.b rfl (ql_cons (q_var (pv 1)) (ql_cons (q_call C G_often (by decide) (by rfl) D_often.m D_often.F.kp D_often.b rfl (ql_cons (q_var (pv 2)) (ql_cons (q_var (pv 4)) ql_nil)) (len_cons (len_cons len_nil))) ql_nil)) (len_cons (len_cons len_nil))) (q_op or_mul (fun _ => ok_mul) (q_var (pv 4)) (q_var (pv 7))) (nomark _))))) (qs_one (qs_ret (ps_ret q_bl)))
    qs_nil)
    (qs_one (qs_ret (ps_ret (q_orV (q_cmp op_gt (fun _ => ok_gt) (q_var (pv 3)) q_int (nomark _)) (q_one (q_cmp (or_eq C.hr.units) (fun _ => ok_eq) (q_var (pv 7)) q_int (nomark _))))))))))))))))))))
theorem ok_law (T : Txt K mg) {f : Addr} {fd : FuncData} (D : Z.Def K mg "law" s_law ["cells"] f fd) : FOk P w K mg base 7 f fd ["cells"] (spF K F_law 1) := by
  obtain ⟨a_well, fd_well, D_well⟩ := T.f_well
  have G_well := ok_well (P := P) (w := w) (base := base) T D_well
  obtain ⟨a_right, fd_right, D_right⟩ := T.f_right
  have G_right := ok_right (P := P) (w := w) (base := base) T D_right
  refine fn_okG (A := b_law) D.F sc_law rfl (fun cdv A0 outer s H E gd C => ?_)
  exact (qs_one (qs_ret (ps_ret (q_cb (pe_callB (cr_all C.calm) (by rfl) T.b_all (by decide +kernel) (ql_cons (q_comp (tg_name (by decide)) (pe_lc (own := [("turn", 1)]) (g := gName 1) C.calm C.nd (qi_range1 (pi_range1 (by rfl) T.b_range (ql_cons (q_cb (pe_callB (Z.z_max2 C.calm) (by rfl) T.b_max (by decide +kernel) (ql_cons q_int (ql_cons (q_cb (pe_callB (Z.z_min2 C.calm) (by rfl) T.b_min (by decide +kernel) (ql_cons (q_cb (pe_callB cr_len (by rfl) T.b_len (by decide +kernel) (ql_cons (q_var (pv 0)) ql_nil)) (fun _ => ok_len)) (ql_cons q_int ql_nil))) (fun _ => ok_min2)) ql_nil))) (fun _ => ok_max2)) ql_nil))) (blkOk_by (own := [("turn", 1)]) (N := ["cells", "turn"]) (sc := defScope s_law) (by first | decide +kernel | with_unfolding_all rfl)) (fun s1 H1 _ _ fp1 => (pg_name (i := 1) sc_law.nd rfl (by first | exact Or.inl rfl | exact Or.inr rfl))) (fun s1 H1 _ _ fp1 => qts_nil) (fun s1 H1 _ _ fp1 => (q_callG (C.blk s1 H1 _ _ fp1) gd G_right (by decide) (by rfl) D_right.m D_right.F.kp D_right.b rfl (ql_cons (q_call (C.blk s1 H1 _ _ fp1) G_well (by decide) (by rfl) D_well.m D_well.F.kp D_well.b rfl (ql_cons (q_var (pv 0)) (ql_cons (q_var (pv 1)) ql_nil)) (len_cons (len_cons len_nil))) ql_nil) (len_cons len_nil))))) ql_nil)) (fun _ => ok_all)))))
end
end My

namespace My
open PySem L2 E CM
def gp (a b : Mv) : Int := a.1 * b.2.1 - a.2.1 * b.1
theorem F_gap_ev {a b : Mv} {S : List O} {R : D → List O → Prop} (h1 : mulOk a.1 b.2.1 = true) (h2 : mulOk a.2.1 b.1 = true) (k : R (.int (gp a b)) S) : ev (F_gap [md a, md b] S) R := by
  simp only [F_gap, b_gap, runF, aRet, aRetN, aSeq, aNext, aDrop, aSetS, aAsg, aGName, gtup, gcons, gnil, aGSub, aPar, aPar3, aIf, aB, bOf_b, aAnd, aOr, aNot, aAndV, aOrV, aNotV, aChain, aBin, aUn, aCall, aCons, aNil, aTup, aLst, aLstM, aC, aIsN, aNotN, isN_n, isN_i, isN_t, isN_s, isN_l, isN_b, aSl, aNoPart, aPart, iOf_i, aFor, aItems, aRange1, aRange2, ev_methL, aYes, v0, v1, v2, v3, v4, v5, v6, v7, v8, v9, v10, v11, v12, v13, add_ii, add_ss, add_tt, add_ll, sub_ii, mul_ii, div_ii, mod_ii, pow_6, pow_18, pow_30, neg_i, lt_ii, le_ii, gt_ii, ge_ii, eq_ii, ne_ii, eq_ss, ne_ss, eq_tyty, ne_tyty, ix_t0, ix_t1, ix_t2, ix_l0, ix_l1, ix_l2, len_t, len_l, len_f, int_i, abs_i, max_ii, min_ii, divmod_ii, tuple_l, tuple_t, list_l, list_t, type_i, type_t, type_s, items_l, items_t, items_f, items_s, sl_l, sl_f, sl_t, ev_bind, ev_ok, ev_sel, ev_guard, bind_ok, List.map_cons, List.map_nil, List.length_cons, List.length_nil, List.cons_append, List.nil_append, List.set_cons_zero, List.set_cons_succ, List.replicate_succ, List.replicate_zero, Nat.reduceAdd, Nat.reduceSub, br_true, br_false, decide_true, decide_false, Bool.not_true, Bool.not_false, Bool.and_self, Bool.and_true, Bool.true_and, true_and, and_true, small_0, small_1, small_2, small_3, small_4, small_5, small_6, small_7, small_8, mulOk_0, mulOk_1, mulOk_2, mulOk_r0, mulOk_r1, mulOk_r2, k1_eq, k12_eq, k21_eq]
  refine F_need_move_ev ?_
  try simp only [aRet, aRetN, aSeq, aNext, aDrop, aSetS, aAsg, aGName, gtup, gcons, gnil, aGSub, aPar, aPar3, aIf, aB, bOf_b, aAnd, aOr, aNot, aAndV, aOrV, aNotV, aChain, aBin, aUn, aCall, aCons, aNil, aTup, aLst, aLstM, aC, aIsN, aNotN, isN_n, isN_i, isN_t, isN_s, isN_l, isN_b, aSl, aNoPart, aPart, iOf_i, aFor, aItems, aRange1, aRange2, ev_methL, aYes, v0, v1, v2, v3, v4, v5, v6, v7, v8, v9, v10, v11, v12, v13, add_ii, add_ss, add_tt, add_ll, sub_ii, mul_ii, div_ii, mod_ii, pow_6, pow_18, pow_30, neg_i, lt_ii, le_ii, gt_ii, ge_ii, eq_ii, ne_ii, eq_ss, ne_ss, eq_tyty, ne_tyty, ix_t0, ix_t1, ix_t2, ix_l0, ix_l1, ix_l2, len_t, len_l, len_f, int_i, abs_i, max_ii, min_ii, divmod_ii, tuple_l, tuple_t, list_l, list_t, type_i, type_t, type_s, items_l, items_t, items_f, items_s, sl_l, sl_f, sl_t, ev_bind, ev_ok, ev_sel, ev_guard, bind_ok, List.map_cons, List.map_nil, List.length_cons, List.length_nil, List.cons_append, List.nil_append, List.set_cons_zero, List.set_cons_succ, List.replicate_succ, List.replicate_zero, Nat.reduceAdd, Nat.reduceSub, br_true, br_false, decide_true, decide_false, Bool.not_true, Bool.not_false, Bool.and_self, Bool.and_true, Bool.true_and, true_and, and_true, small_0, small_1, small_2, small_3, small_4, small_5, small_6, small_7, small_8, mulOk_0, mulOk_1, mulOk_2, mulOk_r0, mulOk_r1, mulOk_r2, k1_eq, k12_eq, k21_eq]
  refine F_need_move_ev ?_
  try simp only [aRet, aRetN, aSeq, aNext, aDrop, aSetS, aAsg, aGName, gtup, gcons, gnil, aGSub, aPar, aPar3, aIf, aB, bOf_b, aAnd, aOr, aNot, aAndV, aOrV, aNotV, aChain, aBin, aUn, aCall, aCons, aNil, aTup, aLst, aLstM, aC, aIsN, aNotN, isN_n, isN_i, isN_t, isN_s, isN_l, isN_b, aSl, aNoPart, aPart, iOf_i, aFor, aItems, aRange1, aRange2, ev_methL, aYes, v0, v1, v2, v3, v4, v5, v6, v7, v8, v9, v10, v11, v12, v13, add_ii, add_ss, add_tt, add_ll, sub_ii, mul_ii, div_ii, mod_ii, pow_6, pow_18, pow_30, neg_i, lt_ii, le_ii, gt_ii, ge_ii, eq_ii, ne_ii, eq_ss, ne_ss, eq_tyty, ne_tyty, ix_t0, ix_t1, ix_t2, ix_l0, ix_l1, ix_l2, len_t, len_l, len_f, int_i, abs_i, max_ii, min_ii, divmod_ii, tuple_l, tuple_t, list_l, list_t, type_i, type_t, type_s, items_l, items_t, items_f, items_s, sl_l, sl_f, sl_t, ev_bind, ev_ok, ev_sel, ev_guard, bind_ok, List.map_cons, List.map_nil, List.length_cons, List.length_nil, List.cons_append, List.nil_append, List.set_cons_zero, List.set_cons_succ, List.replicate_succ, List.replicate_zero, Nat.reduceAdd, Nat.reduceSub, br_true, br_false, decide_true, decide_false, Bool.not_true, Bool.not_false, Bool.and_self, Bool.and_true, Bool.true_and, true_and, and_true, small_0, small_1, small_2, small_3, small_4, small_5, small_6, small_7, small_8, mulOk_0, mulOk_1, mulOk_2, mulOk_r0, mulOk_r1, mulOk_r2, k1_eq, k12_eq, k21_eq]
  simp only [md, mv, aRet, aRetN, aSeq, aNext, aDrop, aSetS, aAsg, aGName, gtup, gcons, gnil, aGSub, aPar, aPar3, aIf, aB, bOf_b, aAnd, aOr, aNot, aAndV, aOrV, aNotV, aChain, aBin, aUn, aCall, aCons, aNil, aTup, aLst, aLstM, aC, aIsN, aNotN, isN_n, isN_i, isN_t, isN_s, isN_l, isN_b, aSl, aNoPart, aPart, iOf_i, aFor, aItems, aRange1, aRange2, ev_methL, aYes, v0, v1, v2, v3, v4, v5, v6, v7, v8, v9, v10, v11, v12, v13, add_ii, add_ss, add_tt, add_ll, sub_ii, mul_ii, div_ii, mod_ii, pow_6, pow_18, pow_30, neg_i, lt_ii, le_ii, gt_ii, ge_ii, eq_ii, ne_ii, eq_ss, ne_ss, eq_tyty, ne_tyty, ix_t0, ix_t1, ix_t2, ix_l0, ix_l1, ix_l2, len_t, len_l, len_f, int_i, abs_i, max_ii, min_ii, divmod_ii, tuple_l, tuple_t, list_l, list_t, type_i, type_t, type_s, items_l, items_t, items_f, items_s, sl_l, sl_f, sl_t, ev_bind, ev_ok, ev_sel, ev_guard, bind_ok, List.map_cons, List.map_nil, List.length_cons, List.length_nil, List.cons_append, List.nil_append, List.set_cons_zero, List.set_cons_succ, List.replicate_succ, List.replicate_zero, Nat.reduceAdd, Nat.reduceSub, br_true, br_false, decide_true, decide_false, Bool.not_true, Bool.not_false, Bool.and_self, Bool.and_true, Bool.true_and, true_and, and_true, small_0, small_1, small_2, small_3, small_4, small_5, small_6, small_7, small_8, mulOk_0, mulOk_1, mulOk_2, mulOk_r0, mulOk_r1, mulOk_r2, k1_eq, k12_eq, k21_eq]
  simp only [h1, h2, if_true, aRet, aRetN, aSeq, aNext, aDrop, aSetS, aAsg, aGName, gtup, gcons, gnil, aGSub, aPar, aPar3, aIf, aB, bOf_b, aAnd, aOr, aNot, aAndV, aOrV, aNotV, aChain, aBin, aUn, aCall, aCons, aNil, aTup, aLst, aLstM, aC, aIsN, aNotN, isN_n, isN_i, isN_t, isN_s, isN_l, isN_b, aSl, aNoPart, aPart, iOf_i, aFor, aItems, aRange1, aRange2, ev_methL, aYes, v0, v1, v2, v3, v4, v5, v6, v7, v8, v9, v10, v11, v12, v13, add_ii, add_ss, add_tt, add_ll, sub_ii, mul_ii, div_ii, mod_ii, pow_6, pow_18, pow_30, neg_i, lt_ii, le_ii, gt_ii, ge_ii, eq_ii, ne_ii, eq_ss, ne_ss, eq_tyty, ne_tyty, ix_t0, ix_t1, ix_t2, ix_l0, ix_l1, ix_l2, len_t, len_l, len_f, int_i, abs_i, max_ii, min_ii, divmod_ii, tuple_l, tuple_t, list_l, list_t, type_i, type_t, type_s, items_l, items_t, items_f, items_s, sl_l, sl_f, sl_t, ev_bind, ev_ok, ev_sel, ev_guard, bind_ok, List.map_cons, List.map_nil, List.length_cons, List.length_nil, List.cons_append, List.nil_append, List.set_cons_zero, List.set_cons_succ, List.replicate_succ, List.replicate_zero, Nat.reduceAdd, Nat.reduceSub, br_true, br_false, decide_true, decide_false, Bool.not_true, Bool.not_false, Bool.and_self, Bool.and_true, Bool.true_and, true_and, and_true, small_0, small_1, small_2, small_3, small_4, small_5, small_6, small_7, small_8, mulOk_0, mulOk_1, mulOk_2, mulOk_r0, mulOk_r1, mulOk_r2, k1_eq, k12_eq, k21_eq, true_and]
  exact k
theorem F_commute_ev {a b : Mv} {S : List O} {R : D → List O → Prop} (h1 : mulOk a.1 b.2.1 = true) (h2 : mulOk a.2.1 b.1 = true) (k : R (.bl (gp a b == 0)) S) : ev (F_commute [md a, md b] S) R := by
  simp only [F_commute, b_commute, runF, aRet, aRetN, aSeq, aNext, aDrop, aSetS, aAsg, aGName, gtup, gcons, gnil, aGSub, aPar, aPar3, aIf, aB, bOf_b, aAnd, aOr, aNot, aAndV, aOrV, aNotV, aChain, aBin, aUn, aCall, aCons, aNil, aTup, aLst, aLstM, aC, aIsN, aNotN, isN_n, isN_i, isN_t, isN_s, isN_l, isN_b, aSl, aNoPart, aPart, iOf_i, aFor, aItems, aRange1, aRange2, ev_methL, aYes, v0, v1, v2, v3, v4, v5, v6, v7, v8, v9, v10, v11, v12, v13, add_ii, add_ss, add_tt, add_ll, sub_ii, mul_ii, div_ii, mod_ii, pow_6, pow_18, pow_30, neg_i, lt_ii, le_ii, gt_ii, ge_ii, eq_ii, ne_ii, eq_ss, ne_ss, eq_tyty, ne_tyty, ix_t0, ix_t1, ix_t2, ix_l0, ix_l1, ix_l2, len_t, len_l, len_f, int_i, abs_i, max_ii, min_ii, divmod_ii, tuple_l, tuple_t, list_l, list_t, type_i, type_t, type_s, items_l, items_t, items_f, items_s, sl_l, sl_f, sl_t, ev_bind, ev_ok, ev_sel, ev_guard, bind_ok, List.map_cons, List.map_nil, List.length_cons, List.length_nil, List.cons_append, List.nil_append, List.set_cons_zero, List.set_cons_succ, List.replicate_succ, List.replicate_zero, Nat.reduceAdd, Nat.reduceSub, br_true, br_false, decide_true, decide_false, Bool.not_true, Bool.not_false, Bool.and_self, Bool.and_true, Bool.true_and, true_and, and_true, small_0, small_1, small_2, small_3, small_4, small_5, small_6, small_7, small_8, mulOk_0, mulOk_1, mulOk_2, mulOk_r0, mulOk_r1, mulOk_r2, k1_eq, k12_eq, k21_eq]
  refine F_gap_ev h1 h2 ?_
  try simp only [aRet, aRetN, aSeq, aNext, aDrop, aSetS, aAsg, aGName, gtup, gcons, gnil, aGSub, aPar, aPar3, aIf, aB, bOf_b, aAnd, aOr, aNot, aAndV, aOrV, aNotV, aChain, aBin, aUn, aCall, aCons, aNil, aTup, aLst, aLstM, aC, aIsN, aNotN, isN_n, isN_i, isN_t, isN_s, isN_l, isN_b, aSl, aNoPart, aPart, iOf_i, aFor, aItems, aRange1, aRange2, ev_methL, aYes, v0, v1, v2, v3, v4, v5, v6, v7, v8, v9, v10, v11, v12, v13, add_ii, add_ss, add_tt, add_ll, sub_ii, mul_ii, div_ii, mod_ii, pow_6, pow_18, pow_30, neg_i, lt_ii, le_ii, gt_ii, ge_ii, eq_ii, ne_ii, eq_ss, ne_ss, eq_tyty, ne_tyty, ix_t0, ix_t1, ix_t2, ix_l0, ix_l1, ix_l2, len_t, len_l, len_f, int_i, abs_i, max_ii, min_ii, divmod_ii, tuple_l, tuple_t, list_l, list_t, type_i, type_t, type_s, items_l, items_t, items_f, items_s, sl_l, sl_f, sl_t, ev_bind, ev_ok, ev_sel, ev_guard, bind_ok, List.map_cons, List.map_nil, List.length_cons, List.length_nil, List.cons_append, List.nil_append, List.set_cons_zero, List.set_cons_succ, List.replicate_succ, List.replicate_zero, Nat.reduceAdd, Nat.reduceSub, br_true, br_false, decide_true, decide_false, Bool.not_true, Bool.not_false, Bool.and_self, Bool.and_true, Bool.true_and, true_and, and_true, small_0, small_1, small_2, small_3, small_4, small_5, small_6, small_7, small_8, mulOk_0, mulOk_1, mulOk_2, mulOk_r0, mulOk_r1, mulOk_r2, k1_eq, k12_eq, k21_eq]
  exact k
theorem F_join_ev {a b : Mv} {S : List O} {R : D → List O → Prop} (h : mulOk a.1 b.2.1 = true) (k : R (md (jn a b)) S) : ev (F_join [md a, md b] S) R := by
  simp only [F_join, b_join, runF, md, mv, aRet, aRetN, aSeq, aNext, aDrop, aSetS, aAsg, aGName, gtup, gcons, gnil, aGSub, aPar, aPar3, aIf, aB, bOf_b, aAnd, aOr, aNot, aAndV, aOrV, aNotV, aChain, aBin, aUn, aCall, aCons, aNil, aTup, aLst, aLstM, aC, aIsN, aNotN, isN_n, isN_i, isN_t, isN_s, isN_l, isN_b, aSl, aNoPart, aPart, iOf_i, aFor, aItems, aRange1, aRange2, ev_methL, aYes, v0, v1, v2, v3, v4, v5, v6, v7, v8, v9, v10, v11, v12, v13, add_ii, add_ss, add_tt, add_ll, sub_ii, mul_ii, div_ii, mod_ii, pow_6, pow_18, pow_30, neg_i, lt_ii, le_ii, gt_ii, ge_ii, eq_ii, ne_ii, eq_ss, ne_ss, eq_tyty, ne_tyty, ix_t0, ix_t1, ix_t2, ix_l0, ix_l1, ix_l2, len_t, len_l, len_f, int_i, abs_i, max_ii, min_ii, divmod_ii, tuple_l, tuple_t, list_l, list_t, type_i, type_t, type_s, items_l, items_t, items_f, items_s, sl_l, sl_f, sl_t, ev_bind, ev_ok, ev_sel, ev_guard, bind_ok, List.map_cons, List.map_nil, List.length_cons, List.length_nil, List.cons_append, List.nil_append, List.set_cons_zero, List.set_cons_succ, List.replicate_succ, List.replicate_zero, Nat.reduceAdd, Nat.reduceSub, br_true, br_false, decide_true, decide_false, Bool.not_true, Bool.not_false, Bool.and_self, Bool.and_true, Bool.true_and, true_and, and_true, small_0, small_1, small_2, small_3, small_4, small_5, small_6, small_7, small_8, mulOk_0, mulOk_1, mulOk_2, mulOk_r0, mulOk_r1, mulOk_r2, k1_eq, k12_eq, k21_eq]
  simp only [h, if_true, aRet, aRetN, aSeq, aNext, aDrop, aSetS, aAsg, aGName, gtup, gcons, gnil, aGSub, aPar, aPar3, aIf, aB, bOf_b, aAnd, aOr, aNot, aAndV, aOrV, aNotV, aChain, aBin, aUn, aCall, aCons, aNil, aTup, aLst, aLstM, aC, aIsN, aNotN, isN_n, isN_i, isN_t, isN_s, isN_l, isN_b, aSl, aNoPart, aPart, iOf_i, aFor, aItems, aRange1, aRange2, ev_methL, aYes, v0, v1, v2, v3, v4, v5, v6, v7, v8, v9, v10, v11, v12, v13, add_ii, add_ss, add_tt, add_ll, sub_ii, mul_ii, div_ii, mod_ii, pow_6, pow_18, pow_30, neg_i, lt_ii, le_ii, gt_ii, ge_ii, eq_ii, ne_ii, eq_ss, ne_ss, eq_tyty, ne_tyty, ix_t0, ix_t1, ix_t2, ix_l0, ix_l1, ix_l2, len_t, len_l, len_f, int_i, abs_i, max_ii, min_ii, divmod_ii, tuple_l, tuple_t, list_l, list_t, type_i, type_t, type_s, items_l, items_t, items_f, items_s, sl_l, sl_f, sl_t, ev_bind, ev_ok, ev_sel, ev_guard, bind_ok, List.map_cons, List.map_nil, List.length_cons, List.length_nil, List.cons_append, List.nil_append, List.set_cons_zero, List.set_cons_succ, List.replicate_succ, List.replicate_zero, Nat.reduceAdd, Nat.reduceSub, br_true, br_false, decide_true, decide_false, Bool.not_true, Bool.not_false, Bool.and_self, Bool.and_true, Bool.true_and, true_and, and_true, small_0, small_1, small_2, small_3, small_4, small_5, small_6, small_7, small_8, mulOk_0, mulOk_1, mulOk_2, mulOk_r0, mulOk_r1, mulOk_r2, k1_eq, k12_eq, k21_eq, true_and]
  exact k
theorem F_undone_ev {a : Mv} {S : List O} {R : D → List O → Prop} (h : mulOk a.1 a.2.1 = true) (k : R (md (un a)) S) : ev (F_undone [md a] S) R := by
  simp only [F_undone, b_undone, runF, aRet, aRetN, aSeq, aNext, aDrop, aSetS, aAsg, aGName, gtup, gcons, gnil, aGSub, aPar, aPar3, aIf, aB, bOf_b, aAnd, aOr, aNot, aAndV, aOrV, aNotV, aChain, aBin, aUn, aCall, aCons, aNil, aTup, aLst, aLstM, aC, aIsN, aNotN, isN_n, isN_i, isN_t, isN_s, isN_l, isN_b, aSl, aNoPart, aPart, iOf_i, aFor, aItems, aRange1, aRange2, ev_methL, aYes, v0, v1, v2, v3, v4, v5, v6, v7, v8, v9, v10, v11, v12, v13, add_ii, add_ss, add_tt, add_ll, sub_ii, mul_ii, div_ii, mod_ii, pow_6, pow_18, pow_30, neg_i, lt_ii, le_ii, gt_ii, ge_ii, eq_ii, ne_ii, eq_ss, ne_ss, eq_tyty, ne_tyty, ix_t0, ix_t1, ix_t2, ix_l0, ix_l1, ix_l2, len_t, len_l, len_f, int_i, abs_i, max_ii, min_ii, divmod_ii, tuple_l, tuple_t, list_l, list_t, type_i, type_t, type_s, items_l, items_t, items_f, items_s, sl_l, sl_f, sl_t, ev_bind, ev_ok, ev_sel, ev_guard, bind_ok, List.map_cons, List.map_nil, List.length_cons, List.length_nil, List.cons_append, List.nil_append, List.set_cons_zero, List.set_cons_succ, List.replicate_succ, List.replicate_zero, Nat.reduceAdd, Nat.reduceSub, br_true, br_false, decide_true, decide_false, Bool.not_true, Bool.not_false, Bool.and_self, Bool.and_true, Bool.true_and, true_and, and_true, small_0, small_1, small_2, small_3, small_4, small_5, small_6, small_7, small_8, mulOk_0, mulOk_1, mulOk_2, mulOk_r0, mulOk_r1, mulOk_r2, k1_eq, k12_eq, k21_eq]
  refine F_need_move_ev ?_
  try simp only [aRet, aRetN, aSeq, aNext, aDrop, aSetS, aAsg, aGName, gtup, gcons, gnil, aGSub, aPar, aPar3, aIf, aB, bOf_b, aAnd, aOr, aNot, aAndV, aOrV, aNotV, aChain, aBin, aUn, aCall, aCons, aNil, aTup, aLst, aLstM, aC, aIsN, aNotN, isN_n, isN_i, isN_t, isN_s, isN_l, isN_b, aSl, aNoPart, aPart, iOf_i, aFor, aItems, aRange1, aRange2, ev_methL, aYes, v0, v1, v2, v3, v4, v5, v6, v7, v8, v9, v10, v11, v12, v13, add_ii, add_ss, add_tt, add_ll, sub_ii, mul_ii, div_ii, mod_ii, pow_6, pow_18, pow_30, neg_i, lt_ii, le_ii, gt_ii, ge_ii, eq_ii, ne_ii, eq_ss, ne_ss, eq_tyty, ne_tyty, ix_t0, ix_t1, ix_t2, ix_l0, ix_l1, ix_l2, len_t, len_l, len_f, int_i, abs_i, max_ii, min_ii, divmod_ii, tuple_l, tuple_t, list_l, list_t, type_i, type_t, type_s, items_l, items_t, items_f, items_s, sl_l, sl_f, sl_t, ev_bind, ev_ok, ev_sel, ev_guard, bind_ok, List.map_cons, List.map_nil, List.length_cons, List.length_nil, List.cons_append, List.nil_append, List.set_cons_zero, List.set_cons_succ, List.replicate_succ, List.replicate_zero, Nat.reduceAdd, Nat.reduceSub, br_true, br_false, decide_true, decide_false, Bool.not_true, Bool.not_false, Bool.and_self, Bool.and_true, Bool.true_and, true_and, and_true, small_0, small_1, small_2, small_3, small_4, small_5, small_6, small_7, small_8, mulOk_0, mulOk_1, mulOk_2, mulOk_r0, mulOk_r1, mulOk_r2, k1_eq, k12_eq, k21_eq]
  simp only [md, mv, aRet, aRetN, aSeq, aNext, aDrop, aSetS, aAsg, aGName, gtup, gcons, gnil, aGSub, aPar, aPar3, aIf, aB, bOf_b, aAnd, aOr, aNot, aAndV, aOrV, aNotV, aChain, aBin, aUn, aCall, aCons, aNil, aTup, aLst, aLstM, aC, aIsN, aNotN, isN_n, isN_i, isN_t, isN_s, isN_l, isN_b, aSl, aNoPart, aPart, iOf_i, aFor, aItems, aRange1, aRange2, ev_methL, aYes, v0, v1, v2, v3, v4, v5, v6, v7, v8, v9, v10, v11, v12, v13, add_ii, add_ss, add_tt, add_ll, sub_ii, mul_ii, div_ii, mod_ii, pow_6, pow_18, pow_30, neg_i, lt_ii, le_ii, gt_ii, ge_ii, eq_ii, ne_ii, eq_ss, ne_ss, eq_tyty, ne_tyty, ix_t0, ix_t1, ix_t2, ix_l0, ix_l1, ix_l2, len_t, len_l, len_f, int_i, abs_i, max_ii, min_ii, divmod_ii, tuple_l, tuple_t, list_l, list_t, type_i, type_t, type_s, items_l, items_t, items_f, items_s, sl_l, sl_f, sl_t, ev_bind, ev_ok, ev_sel, ev_guard, bind_ok, List.map_cons, List.map_nil, List.length_cons, List.length_nil, List.cons_append, List.nil_append, List.set_cons_zero, List.set_cons_succ, List.replicate_succ, List.replicate_zero, Nat.reduceAdd, Nat.reduceSub, br_true, br_false, decide_true, decide_false, Bool.not_true, Bool.not_false, Bool.and_self, Bool.and_true, Bool.true_and, true_and, and_true, small_0, small_1, small_2, small_3, small_4, small_5, small_6, small_7, small_8, mulOk_0, mulOk_1, mulOk_2, mulOk_r0, mulOk_r1, mulOk_r2, k1_eq, k12_eq, k21_eq]
  simp only [h, if_true, aRet, aRetN, aSeq, aNext, aDrop, aSetS, aAsg, aGName, gtup, gcons, gnil, aGSub, aPar, aPar3, aIf, aB, bOf_b, aAnd, aOr, aNot, aAndV, aOrV, aNotV, aChain, aBin, aUn, aCall, aCons, aNil, aTup, aLst, aLstM, aC, aIsN, aNotN, isN_n, isN_i, isN_t, isN_s, isN_l, isN_b, aSl, aNoPart, aPart, iOf_i, aFor, aItems, aRange1, aRange2, ev_methL, aYes, v0, v1, v2, v3, v4, v5, v6, v7, v8, v9, v10, v11, v12, v13, add_ii, add_ss, add_tt, add_ll, sub_ii, mul_ii, div_ii, mod_ii, pow_6, pow_18, pow_30, neg_i, lt_ii, le_ii, gt_ii, ge_ii, eq_ii, ne_ii, eq_ss, ne_ss, eq_tyty, ne_tyty, ix_t0, ix_t1, ix_t2, ix_l0, ix_l1, ix_l2, len_t, len_l, len_f, int_i, abs_i, max_ii, min_ii, divmod_ii, tuple_l, tuple_t, list_l, list_t, type_i, type_t, type_s, items_l, items_t, items_f, items_s, sl_l, sl_f, sl_t, ev_bind, ev_ok, ev_sel, ev_guard, bind_ok, List.map_cons, List.map_nil, List.length_cons, List.length_nil, List.cons_append, List.nil_append, List.set_cons_zero, List.set_cons_succ, List.replicate_succ, List.replicate_zero, Nat.reduceAdd, Nat.reduceSub, br_true, br_false, decide_true, decide_false, Bool.not_true, Bool.not_false, Bool.and_self, Bool.and_true, Bool.true_and, true_and, and_true, small_0, small_1, small_2, small_3, small_4, small_5, small_6, small_7, small_8, mulOk_0, mulOk_1, mulOk_2, mulOk_r0, mulOk_r1, mulOk_r2, k1_eq, k12_eq, k21_eq, true_and]
  exact k
def rp (a : Mv) (t : Int) : Mv := (t * a.1, t * a.2.1, t * a.2.2 + t * (t - 1) / 2 * a.1 * a.2.1)
theorem F_often_ev {a : Mv} {t : Int} {n : Nat} {S : List O} {R : D → List O → Prop} (hn0 : 1 ≤ n) (hn : n ≤ 1000) (ht : Z.bd n t) (h : sm n a) (h3 : Z.bd n a.2.2) (k : R (md (rp a t)) S) : ev (F_often [md a, .int t] S) R := by
  have m1 : mulOk t a.1 = true := mulOk_of ht h.1 (by omega)
  have m2 : mulOk t a.2.1 = true := mulOk_of ht h.2 (by omega)
  have m3 : mulOk t a.2.2 = true := mulOk_of ht h3 (by omega)
  have b1 : Z.bd (n + 1) (t - 1) := Z.bd_sub ht (by unfold Z.bd; exact Nat.one_lt_two_pow (by omega))
  have m4 : mulOk t (t - 1) = true := mulOk_of ht b1 (by omega)
  have b2 := Z.bd_div (y := 2) (Z.bd_mulN ht b1)
  have m5 : mulOk (t * (t - 1) / 2) a.1 = true := mulOk_of b2 h.1 (by omega)
  have m6 : mulOk (t * (t - 1) / 2 * a.1) a.2.1 = true := mulOk_of (Z.bd_mulN b2 h.1) h.2 (by omega)
  simp only [F_often, b_often, runF, aRet, aRetN, aSeq, aNext, aDrop, aSetS, aAsg, aGName, gtup, gcons, gnil, aGSub, aPar, aPar3, aIf, aB, bOf_b, aAnd, aOr, aNot, aAndV, aOrV, aNotV, aChain, aBin, aUn, aCall, aCons, aNil, aTup, aLst, aLstM, aC, aIsN, aNotN, isN_n, isN_i, isN_t, isN_s, isN_l, isN_b, aSl, aNoPart, aPart, iOf_i, aFor, aItems, aRange1, aRange2, ev_methL, aYes, v0, v1, v2, v3, v4, v5, v6, v7, v8, v9, v10, v11, v12, v13, add_ii, add_ss, add_tt, add_ll, sub_ii, mul_ii, div_ii, mod_ii, pow_6, pow_18, pow_30, neg_i, lt_ii, le_ii, gt_ii, ge_ii, eq_ii, ne_ii, eq_ss, ne_ss, eq_tyty, ne_tyty, ix_t0, ix_t1, ix_t2, ix_l0, ix_l1, ix_l2, len_t, len_l, len_f, int_i, abs_i, max_ii, min_ii, divmod_ii, tuple_l, tuple_t, list_l, list_t, type_i, type_t, type_s, items_l, items_t, items_f, items_s, sl_l, sl_f, sl_t, ev_bind, ev_ok, ev_sel, ev_guard, bind_ok, List.map_cons, List.map_nil, List.length_cons, List.length_nil, List.cons_append, List.nil_append, List.set_cons_zero, List.set_cons_succ, List.replicate_succ, List.replicate_zero, Nat.reduceAdd, Nat.reduceSub, br_true, br_false, decide_true, decide_false, Bool.not_true, Bool.not_false, Bool.and_self, Bool.and_true, Bool.true_and, true_and, and_true, small_0, small_1, small_2, small_3, small_4, small_5, small_6, small_7, small_8, mulOk_0, mulOk_1, mulOk_2, mulOk_r0, mulOk_r1, mulOk_r2, k1_eq, k12_eq, k21_eq]
  refine F_need_move_ev ?_
  try simp only [aRet, aRetN, aSeq, aNext, aDrop, aSetS, aAsg, aGName, gtup, gcons, gnil, aGSub, aPar, aPar3, aIf, aB, bOf_b, aAnd, aOr, aNot, aAndV, aOrV, aNotV, aChain, aBin, aUn, aCall, aCons, aNil, aTup, aLst, aLstM, aC, aIsN, aNotN, isN_n, isN_i, isN_t, isN_s, isN_l, isN_b, aSl, aNoPart, aPart, iOf_i, aFor, aItems, aRange1, aRange2, ev_methL, aYes, v0, v1, v2, v3, v4, v5, v6, v7, v8, v9, v10, v11, v12, v13, add_ii, add_ss, add_tt, add_ll, sub_ii, mul_ii, div_ii, mod_ii, pow_6, pow_18, pow_30, neg_i, lt_ii, le_ii, gt_ii, ge_ii, eq_ii, ne_ii, eq_ss, ne_ss, eq_tyty, ne_tyty, ix_t0, ix_t1, ix_t2, ix_l0, ix_l1, ix_l2, len_t, len_l, len_f, int_i, abs_i, max_ii, min_ii, divmod_ii, tuple_l, tuple_t, list_l, list_t, type_i, type_t, type_s, items_l, items_t, items_f, items_s, sl_l, sl_f, sl_t, ev_bind, ev_ok, ev_sel, ev_guard, bind_ok, List.map_cons, List.map_nil, List.length_cons, List.length_nil, List.cons_append, List.nil_append, List.set_cons_zero, List.set_cons_succ, List.replicate_succ, List.replicate_zero, Nat.reduceAdd, Nat.reduceSub, br_true, br_false, decide_true, decide_false, Bool.not_true, Bool.not_false, Bool.and_self, Bool.and_true, Bool.true_and, true_and, and_true, small_0, small_1, small_2, small_3, small_4, small_5, small_6, small_7, small_8, mulOk_0, mulOk_1, mulOk_2, mulOk_r0, mulOk_r1, mulOk_r2, k1_eq, k12_eq, k21_eq]
  simp only [F_need_integer, b_need_integer, F_is_integer, b_is_integer, F_repeated, b_repeated, runF, md, mv, aRet, aRetN, aSeq, aNext, aDrop, aSetS, aAsg, aGName, gtup, gcons, gnil, aGSub, aPar, aPar3, aIf, aB, bOf_b, aAnd, aOr, aNot, aAndV, aOrV, aNotV, aChain, aBin, aUn, aCall, aCons, aNil, aTup, aLst, aLstM, aC, aIsN, aNotN, isN_n, isN_i, isN_t, isN_s, isN_l, isN_b, aSl, aNoPart, aPart, iOf_i, aFor, aItems, aRange1, aRange2, ev_methL, aYes, v0, v1, v2, v3, v4, v5, v6, v7, v8, v9, v10, v11, v12, v13, add_ii, add_ss, add_tt, add_ll, sub_ii, mul_ii, div_ii, mod_ii, pow_6, pow_18, pow_30, neg_i, lt_ii, le_ii, gt_ii, ge_ii, eq_ii, ne_ii, eq_ss, ne_ss, eq_tyty, ne_tyty, ix_t0, ix_t1, ix_t2, ix_l0, ix_l1, ix_l2, len_t, len_l, len_f, int_i, abs_i, max_ii, min_ii, divmod_ii, tuple_l, tuple_t, list_l, list_t, type_i, type_t, type_s, items_l, items_t, items_f, items_s, sl_l, sl_f, sl_t, ev_bind, ev_ok, ev_sel, ev_guard, bind_ok, List.map_cons, List.map_nil, List.length_cons, List.length_nil, List.cons_append, List.nil_append, List.set_cons_zero, List.set_cons_succ, List.replicate_succ, List.replicate_zero, Nat.reduceAdd, Nat.reduceSub, br_true, br_false, decide_true, decide_false, Bool.not_true, Bool.not_false, Bool.and_self, Bool.and_true, Bool.true_and, true_and, and_true, small_0, small_1, small_2, small_3, small_4, small_5, small_6, small_7, small_8, mulOk_0, mulOk_1, mulOk_2, mulOk_r0, mulOk_r1, mulOk_r2, k1_eq, k12_eq, k21_eq]
  simp only [qu_pos (show (0 : Int) < 2 by decide)]
  exact ⟨rfl, m1, m2, m3, m4, by decide, m5, m6, k⟩
theorem sl2 {a : Mv} {S : List O} : dSl (md a) none (some 2) S = .ok (.tup [.int a.1, .int a.2.1]) S := by
  simp only [md, mv, sl_t, cutD_take (show (0 : Int) ≤ 2 by decide)]
  rfl
theorem repr3 (x : Bool) {S : List O} : bRepr [.lst [.bl x, .bl x, .bl x]] S = .ok (.str (PyData.shown (.list [.bool x, .bool x, .bool x]))) S := by
  have h : ((PyData.list [.bool x, .bool x, .bool x]).showable && !(PyData.list [.bool x, .bool x, .bool x]).hasDict && decide ((PyData.list [.bool x, .bool x, .bool x]).depth ≤ 30) && small (PyData.list [.bool x, .bool x, .bool x]).shown.length) = true := by cases x <;> decide +kernel
  show (if ((PyData.list [.bool x, .bool x, .bool x]).showable && !(PyData.list [.bool x, .bool x, .bool x]).hasDict && decide ((PyData.list [.bool x, .bool x, .bool x]).depth ≤ 30) && small (PyData.list [.bool x, .bool x, .bool x]).shown.length) = true then Res.ok (D.str (PyData.list [.bool x, .bool x, .bool x]).shown) S else Res.no) = _
  rw [if_pos h]
theorem sm_un {n : Nat} {a : Mv} (h : sm n a) : sm n (un a) := ⟨Z.bd_neg h.1, Z.bd_neg h.2⟩
theorem repr_T {S : List O} : bRepr [.bl true] S = .ok (.str (Str.ofString "True")) S := by
  have h : ((PyData.bool true).showable && !(PyData.bool true).hasDict && decide ((PyData.bool true).depth ≤ 30) && small (PyData.bool true).shown.length) = true := by decide +kernel
  show (if ((PyData.bool true).showable && !(PyData.bool true).hasDict && decide ((PyData.bool true).depth ≤ 30) && small (PyData.bool true).shown.length) = true then Res.ok (D.str (PyData.bool true).shown) S else Res.no) = _
  rw [if_pos h, show (PyData.bool true).shown = Str.ofString "True" by decide +kernel]
theorem ne_md {a b : Mv} {S : List O} {R : D → List O → Prop} (h : a = b) (k : R (.bl false) S) : ev (dNe (md a) (md b) S) R := by
  subst h
  exact ev_of (ne_mv ⟨rfl, rfl, rfl⟩) k
theorem F_right_ev (n : Nat) (S : List O) (W : Well n S) : ev (F_right [.loc n] S) fun d _ => d = .bl true := by
  unfold F_right runF
  rw [ev_bind]
  show ev (b_right [some (.loc n), none, none, none, none, none, none, none, none, none, none] S) _
  unfold b_right
  refine ev_aSeq (fun ρ S1 => Well n S1 ∧ ∃ a b : Mv, sm 100 a ∧ sm 100 b ∧ Z.bd 100 a.2.2 ∧ Z.bd 100 b.2.2 ∧ ρ = [some (.loc n), some (md a), some (md b), none, none, none, none, none, none, none, none]) ?_ ?_
  · simp only [aRet, aRetN, aSeq, aNext, aDrop, aSetS, aAsg, aGName, gtup, gcons, gnil, aGSub, aPar, aPar3, aIf, aB, bOf_b, aAnd, aOr, aNot, aAndV, aOrV, aNotV, aChain, aBin, aUn, aCall, aCons, aNil, aTup, aLst, aLstM, aC, aIsN, aNotN, isN_n, isN_i, isN_t, isN_s, isN_l, isN_b, aSl, aNoPart, aPart, iOf_i, aFor, aItems, aRange1, aRange2, ev_methL, aYes, v0, v1, v2, v3, v4, v5, v6, v7, v8, v9, v10, v11, v12, v13, add_ii, add_ss, add_tt, add_ll, sub_ii, mul_ii, div_ii, mod_ii, pow_6, pow_18, pow_30, neg_i, lt_ii, le_ii, gt_ii, ge_ii, eq_ii, ne_ii, eq_ss, ne_ss, eq_tyty, ne_tyty, ix_t0, ix_t1, ix_t2, ix_l0, ix_l1, ix_l2, len_t, len_l, len_f, int_i, abs_i, max_ii, min_ii, divmod_ii, tuple_l, tuple_t, list_l, list_t, type_i, type_t, type_s, items_l, items_t, items_f, items_s, sl_l, sl_f, sl_t, ev_bind, ev_ok, ev_sel, ev_guard, bind_ok, List.map_cons, List.map_nil, List.length_cons, List.length_nil, List.cons_append, List.nil_append, List.set_cons_zero, List.set_cons_succ, List.replicate_succ, List.replicate_zero, Nat.reduceAdd, Nat.reduceSub, br_true, br_false, decide_true, decide_false, Bool.not_true, Bool.not_false, Bool.and_self, Bool.and_true, Bool.true_and, true_and, and_true, small_0, small_1, small_2, small_3, small_4, small_5, small_6, small_7, small_8, mulOk_0, mulOk_1, mulOk_2, mulOk_r0, mulOk_r1, mulOk_r2, k1_eq, k12_eq, k21_eq]
    refine F_drawn_ev W fun x y s S1 h1 h2 h3 W1 K1 => ?_
    try simp only [aRet, aRetN, aSeq, aNext, aDrop, aSetS, aAsg, aGName, gtup, gcons, gnil, aGSub, aPar, aPar3, aIf, aB, bOf_b, aAnd, aOr, aNot, aAndV, aOrV, aNotV, aChain, aBin, aUn, aCall, aCons, aNil, aTup, aLst, aLstM, aC, aIsN, aNotN, isN_n, isN_i, isN_t, isN_s, isN_l, isN_b, aSl, aNoPart, aPart, iOf_i, aFor, aItems, aRange1, aRange2, ev_methL, aYes, v0, v1, v2, v3, v4, v5, v6, v7, v8, v9, v10, v11, v12, v13, add_ii, add_ss, add_tt, add_ll, sub_ii, mul_ii, div_ii, mod_ii, pow_6, pow_18, pow_30, neg_i, lt_ii, le_ii, gt_ii, ge_ii, eq_ii, ne_ii, eq_ss, ne_ss, eq_tyty, ne_tyty, ix_t0, ix_t1, ix_t2, ix_l0, ix_l1, ix_l2, len_t, len_l, len_f, int_i, abs_i, max_ii, min_ii, divmod_ii, tuple_l, tuple_t, list_l, list_t, type_i, type_t, type_s, items_l, items_t, items_f, items_s, sl_l, sl_f, sl_t, ev_bind, ev_ok, ev_sel, ev_guard, bind_ok, List.map_cons, List.map_nil, List.length_cons, List.length_nil, List.cons_append, List.nil_append, List.set_cons_zero, List.set_cons_succ, List.replicate_succ, List.replicate_zero, Nat.reduceAdd, Nat.reduceSub, br_true, br_false, decide_true, decide_false, Bool.not_true, Bool.not_false, Bool.and_self, Bool.and_true, Bool.true_and, true_and, and_true, small_0, small_1, small_2, small_3, small_4, small_5, small_6, small_7, small_8, mulOk_0, mulOk_1, mulOk_2, mulOk_r0, mulOk_r1, mulOk_r2, k1_eq, k12_eq, k21_eq]
    refine F_drawn_ev W1 fun x' y' s' S2 h1' h2' h3' W2 K2 => ?_
    try simp only [aRet, aRetN, aSeq, aNext, aDrop, aSetS, aAsg, aGName, gtup, gcons, gnil, aGSub, aPar, aPar3, aIf, aB, bOf_b, aAnd, aOr, aNot, aAndV, aOrV, aNotV, aChain, aBin, aUn, aCall, aCons, aNil, aTup, aLst, aLstM, aC, aIsN, aNotN, isN_n, isN_i, isN_t, isN_s, isN_l, isN_b, aSl, aNoPart, aPart, iOf_i, aFor, aItems, aRange1, aRange2, ev_methL, aYes, v0, v1, v2, v3, v4, v5, v6, v7, v8, v9, v10, v11, v12, v13, add_ii, add_ss, add_tt, add_ll, sub_ii, mul_ii, div_ii, mod_ii, pow_6, pow_18, pow_30, neg_i, lt_ii, le_ii, gt_ii, ge_ii, eq_ii, ne_ii, eq_ss, ne_ss, eq_tyty, ne_tyty, ix_t0, ix_t1, ix_t2, ix_l0, ix_l1, ix_l2, len_t, len_l, len_f, int_i, abs_i, max_ii, min_ii, divmod_ii, tuple_l, tuple_t, list_l, list_t, type_i, type_t, type_s, items_l, items_t, items_f, items_s, sl_l, sl_f, sl_t, ev_bind, ev_ok, ev_sel, ev_guard, bind_ok, List.map_cons, List.map_nil, List.length_cons, List.length_nil, List.cons_append, List.nil_append, List.set_cons_zero, List.set_cons_succ, List.replicate_succ, List.replicate_zero, Nat.reduceAdd, Nat.reduceSub, br_true, br_false, decide_true, decide_false, Bool.not_true, Bool.not_false, Bool.and_self, Bool.and_true, Bool.true_and, true_and, and_true, small_0, small_1, small_2, small_3, small_4, small_5, small_6, small_7, small_8, mulOk_0, mulOk_1, mulOk_2, mulOk_r0, mulOk_r1, mulOk_r2, k1_eq, k12_eq, k21_eq]
    exact ⟨W2, (x, y, s), (x', y', s'), ⟨h1, h2⟩, ⟨h1', h2'⟩, h3, h3', rfl⟩
  rintro ρ S1 ⟨W1, a, b, ha, hb, ha3, hb3, rfl⟩
  refine ev_aSeq (fun ρ S2 => Well n S2 ∧ ∃ w : Int, 0 ≤ w ∧ w < 4 ∧ ρ = [some (.loc n), some (md a), some (md b), some (.int w), none, none, none, none, none, none, none]) ?_ ?_
  · simp only [aRet, aRetN, aSeq, aNext, aDrop, aSetS, aAsg, aGName, gtup, gcons, gnil, aGSub, aPar, aPar3, aIf, aB, bOf_b, aAnd, aOr, aNot, aAndV, aOrV, aNotV, aChain, aBin, aUn, aCall, aCons, aNil, aTup, aLst, aLstM, aC, aIsN, aNotN, isN_n, isN_i, isN_t, isN_s, isN_l, isN_b, aSl, aNoPart, aPart, iOf_i, aFor, aItems, aRange1, aRange2, ev_methL, aYes, v0, v1, v2, v3, v4, v5, v6, v7, v8, v9, v10, v11, v12, v13, add_ii, add_ss, add_tt, add_ll, sub_ii, mul_ii, div_ii, mod_ii, pow_6, pow_18, pow_30, neg_i, lt_ii, le_ii, gt_ii, ge_ii, eq_ii, ne_ii, eq_ss, ne_ss, eq_tyty, ne_tyty, ix_t0, ix_t1, ix_t2, ix_l0, ix_l1, ix_l2, len_t, len_l, len_f, int_i, abs_i, max_ii, min_ii, divmod_ii, tuple_l, tuple_t, list_l, list_t, type_i, type_t, type_s, items_l, items_t, items_f, items_s, sl_l, sl_f, sl_t, ev_bind, ev_ok, ev_sel, ev_guard, bind_ok, List.map_cons, List.map_nil, List.length_cons, List.length_nil, List.cons_append, List.nil_append, List.set_cons_zero, List.set_cons_succ, List.replicate_succ, List.replicate_zero, Nat.reduceAdd, Nat.reduceSub, br_true, br_false, decide_true, decide_false, Bool.not_true, Bool.not_false, Bool.and_self, Bool.and_true, Bool.true_and, true_and, and_true, small_0, small_1, small_2, small_3, small_4, small_5, small_6, small_7, small_8, mulOk_0, mulOk_1, mulOk_2, mulOk_r0, mulOk_r1, mulOk_r2, k1_eq, k12_eq, k21_eq]
    refine F_dip_ev W1 (by decide) (by decide) fun w S2 h0 h1 W2 K2 => ?_
    try simp only [aRet, aRetN, aSeq, aNext, aDrop, aSetS, aAsg, aGName, gtup, gcons, gnil, aGSub, aPar, aPar3, aIf, aB, bOf_b, aAnd, aOr, aNot, aAndV, aOrV, aNotV, aChain, aBin, aUn, aCall, aCons, aNil, aTup, aLst, aLstM, aC, aIsN, aNotN, isN_n, isN_i, isN_t, isN_s, isN_l, isN_b, aSl, aNoPart, aPart, iOf_i, aFor, aItems, aRange1, aRange2, ev_methL, aYes, v0, v1, v2, v3, v4, v5, v6, v7, v8, v9, v10, v11, v12, v13, add_ii, add_ss, add_tt, add_ll, sub_ii, mul_ii, div_ii, mod_ii, pow_6, pow_18, pow_30, neg_i, lt_ii, le_ii, gt_ii, ge_ii, eq_ii, ne_ii, eq_ss, ne_ss, eq_tyty, ne_tyty, ix_t0, ix_t1, ix_t2, ix_l0, ix_l1, ix_l2, len_t, len_l, len_f, int_i, abs_i, max_ii, min_ii, divmod_ii, tuple_l, tuple_t, list_l, list_t, type_i, type_t, type_s, items_l, items_t, items_f, items_s, sl_l, sl_f, sl_t, ev_bind, ev_ok, ev_sel, ev_guard, bind_ok, List.map_cons, List.map_nil, List.length_cons, List.length_nil, List.cons_append, List.nil_append, List.set_cons_zero, List.set_cons_succ, List.replicate_succ, List.replicate_zero, Nat.reduceAdd, Nat.reduceSub, br_true, br_false, decide_true, decide_false, Bool.not_true, Bool.not_false, Bool.and_self, Bool.and_true, Bool.true_and, true_and, and_true, small_0, small_1, small_2, small_3, small_4, small_5, small_6, small_7, small_8, mulOk_0, mulOk_1, mulOk_2, mulOk_r0, mulOk_r1, mulOk_r2, k1_eq, k12_eq, k21_eq]
    exact ⟨W2, w, h0, h1, rfl⟩
  rintro ρ S2 ⟨W2, w, hw0, hw1, rfl⟩
  refine ev_aSeq (fun ρ S3 => Well n S3 ∧ ∃ (b : Mv) (c : Option D), sm 201 b ∧ Z.bd 100 b.2.2 ∧ (w = 0 → gp a b = 0) ∧ ρ = [some (.loc n), some (md a), some (md b), some (.int w), c, none, none, none, none, none, none]) ?_ ?_
  · simp only [aRet, aRetN, aSeq, aNext, aDrop, aSetS, aAsg, aGName, gtup, gcons, gnil, aGSub, aPar, aPar3, aIf, aB, bOf_b, aAnd, aOr, aNot, aAndV, aOrV, aNotV, aChain, aBin, aUn, aCall, aCons, aNil, aTup, aLst, aLstM, aC, aIsN, aNotN, isN_n, isN_i, isN_t, isN_s, isN_l, isN_b, aSl, aNoPart, aPart, iOf_i, aFor, aItems, aRange1, aRange2, ev_methL, aYes, v0, v1, v2, v3, v4, v5, v6, v7, v8, v9, v10, v11, v12, v13, add_ii, add_ss, add_tt, add_ll, sub_ii, mul_ii, div_ii, mod_ii, pow_6, pow_18, pow_30, neg_i, lt_ii, le_ii, gt_ii, ge_ii, eq_ii, ne_ii, eq_ss, ne_ss, eq_tyty, ne_tyty, ix_t0, ix_t1, ix_t2, ix_l0, ix_l1, ix_l2, len_t, len_l, len_f, int_i, abs_i, max_ii, min_ii, divmod_ii, tuple_l, tuple_t, list_l, list_t, type_i, type_t, type_s, items_l, items_t, items_f, items_s, sl_l, sl_f, sl_t, ev_bind, ev_ok, ev_sel, ev_guard, bind_ok, List.map_cons, List.map_nil, List.length_cons, List.length_nil, List.cons_append, List.nil_append, List.set_cons_zero, List.set_cons_succ, List.replicate_succ, List.replicate_zero, Nat.reduceAdd, Nat.reduceSub, br_true, br_false, decide_true, decide_false, Bool.not_true, Bool.not_false, Bool.and_self, Bool.and_true, Bool.true_and, true_and, and_true, small_0, small_1, small_2, small_3, small_4, small_5, small_6, small_7, small_8, mulOk_0, mulOk_1, mulOk_2, mulOk_r0, mulOk_r1, mulOk_r2, k1_eq, k12_eq, k21_eq]
    by_cases hw : w = 0
    · subst hw
      rw [show ((0 : Int) == 0) = true from rfl, br_true]
      refine F_number_ev W2 fun t S3 ht W3 K3 => ?_
      try simp only [aRet, aRetN, aSeq, aNext, aDrop, aSetS, aAsg, aGName, gtup, gcons, gnil, aGSub, aPar, aPar3, aIf, aB, bOf_b, aAnd, aOr, aNot, aAndV, aOrV, aNotV, aChain, aBin, aUn, aCall, aCons, aNil, aTup, aLst, aLstM, aC, aIsN, aNotN, isN_n, isN_i, isN_t, isN_s, isN_l, isN_b, aSl, aNoPart, aPart, iOf_i, aFor, aItems, aRange1, aRange2, ev_methL, aYes, v0, v1, v2, v3, v4, v5, v6, v7, v8, v9, v10, v11, v12, v13, add_ii, add_ss, add_tt, add_ll, sub_ii, mul_ii, div_ii, mod_ii, pow_6, pow_18, pow_30, neg_i, lt_ii, le_ii, gt_ii, ge_ii, eq_ii, ne_ii, eq_ss, ne_ss, eq_tyty, ne_tyty, ix_t0, ix_t1, ix_t2, ix_l0, ix_l1, ix_l2, len_t, len_l, len_f, int_i, abs_i, max_ii, min_ii, divmod_ii, tuple_l, tuple_t, list_l, list_t, type_i, type_t, type_s, items_l, items_t, items_f, items_s, sl_l, sl_f, sl_t, ev_bind, ev_ok, ev_sel, ev_guard, bind_ok, List.map_cons, List.map_nil, List.length_cons, List.length_nil, List.cons_append, List.nil_append, List.set_cons_zero, List.set_cons_succ, List.replicate_succ, List.replicate_zero, Nat.reduceAdd, Nat.reduceSub, br_true, br_false, decide_true, decide_false, Bool.not_true, Bool.not_false, Bool.and_self, Bool.and_true, Bool.true_and, true_and, and_true, small_0, small_1, small_2, small_3, small_4, small_5, small_6, small_7, small_8, mulOk_0, mulOk_1, mulOk_2, mulOk_r0, mulOk_r1, mulOk_r2, k1_eq, k12_eq, k21_eq]
      simp only [md, mv, aRet, aRetN, aSeq, aNext, aDrop, aSetS, aAsg, aGName, gtup, gcons, gnil, aGSub, aPar, aPar3, aIf, aB, bOf_b, aAnd, aOr, aNot, aAndV, aOrV, aNotV, aChain, aBin, aUn, aCall, aCons, aNil, aTup, aLst, aLstM, aC, aIsN, aNotN, isN_n, isN_i, isN_t, isN_s, isN_l, isN_b, aSl, aNoPart, aPart, iOf_i, aFor, aItems, aRange1, aRange2, ev_methL, aYes, v0, v1, v2, v3, v4, v5, v6, v7, v8, v9, v10, v11, v12, v13, add_ii, add_ss, add_tt, add_ll, sub_ii, mul_ii, div_ii, mod_ii, pow_6, pow_18, pow_30, neg_i, lt_ii, le_ii, gt_ii, ge_ii, eq_ii, ne_ii, eq_ss, ne_ss, eq_tyty, ne_tyty, ix_t0, ix_t1, ix_t2, ix_l0, ix_l1, ix_l2, len_t, len_l, len_f, int_i, abs_i, max_ii, min_ii, divmod_ii, tuple_l, tuple_t, list_l, list_t, type_i, type_t, type_s, items_l, items_t, items_f, items_s, sl_l, sl_f, sl_t, ev_bind, ev_ok, ev_sel, ev_guard, bind_ok, List.map_cons, List.map_nil, List.length_cons, List.length_nil, List.cons_append, List.nil_append, List.set_cons_zero, List.set_cons_succ, List.replicate_succ, List.replicate_zero, Nat.reduceAdd, Nat.reduceSub, br_true, br_false, decide_true, decide_false, Bool.not_true, Bool.not_false, Bool.and_self, Bool.and_true, Bool.true_and, true_and, and_true, small_0, small_1, small_2, small_3, small_4, small_5, small_6, small_7, small_8, mulOk_0, mulOk_1, mulOk_2, mulOk_r0, mulOk_r1, mulOk_r2, k1_eq, k12_eq, k21_eq]
      refine ⟨mulOk_of ht ha.1 (by decide), mulOk_of ht ha.2 (by decide), ?_⟩
      refine F_number_ev W3 fun u S4 hu W4 K4 => ?_
      try simp only [aRet, aRetN, aSeq, aNext, aDrop, aSetS, aAsg, aGName, gtup, gcons, gnil, aGSub, aPar, aPar3, aIf, aB, bOf_b, aAnd, aOr, aNot, aAndV, aOrV, aNotV, aChain, aBin, aUn, aCall, aCons, aNil, aTup, aLst, aLstM, aC, aIsN, aNotN, isN_n, isN_i, isN_t, isN_s, isN_l, isN_b, aSl, aNoPart, aPart, iOf_i, aFor, aItems, aRange1, aRange2, ev_methL, aYes, v0, v1, v2, v3, v4, v5, v6, v7, v8, v9, v10, v11, v12, v13, add_ii, add_ss, add_tt, add_ll, sub_ii, mul_ii, div_ii, mod_ii, pow_6, pow_18, pow_30, neg_i, lt_ii, le_ii, gt_ii, ge_ii, eq_ii, ne_ii, eq_ss, ne_ss, eq_tyty, ne_tyty, ix_t0, ix_t1, ix_t2, ix_l0, ix_l1, ix_l2, len_t, len_l, len_f, int_i, abs_i, max_ii, min_ii, divmod_ii, tuple_l, tuple_t, list_l, list_t, type_i, type_t, type_s, items_l, items_t, items_f, items_s, sl_l, sl_f, sl_t, ev_bind, ev_ok, ev_sel, ev_guard, bind_ok, List.map_cons, List.map_nil, List.length_cons, List.length_nil, List.cons_append, List.nil_append, List.set_cons_zero, List.set_cons_succ, List.replicate_succ, List.replicate_zero, Nat.reduceAdd, Nat.reduceSub, br_true, br_false, decide_true, decide_false, Bool.not_true, Bool.not_false, Bool.and_self, Bool.and_true, Bool.true_and, true_and, and_true, small_0, small_1, small_2, small_3, small_4, small_5, small_6, small_7, small_8, mulOk_0, mulOk_1, mulOk_2, mulOk_r0, mulOk_r1, mulOk_r2, k1_eq, k12_eq, k21_eq]
      exact ⟨W4, (t * a.1, t * a.2.1, u), some (.int t), ⟨Z.bd_le (Z.bd_mulN ht ha.1) (by decide), Z.bd_le (Z.bd_mulN ht ha.2) (by decide)⟩, hu, fun _ => by simp only [gp]; grind, rfl⟩
    · rw [show (w == 0) = false from beq_eq_false_iff_ne.mpr hw, br_false]
      exact ⟨W2, b, none, sm_le hb (by decide), hb3, fun c => absurd c hw, rfl⟩
  clear hb hb3 b
  rintro ρ S3 ⟨W3, b, c4, hb, hb3, hg, rfl⟩
  refine ev_aSeq (fun ρ S3 => Well n S3 ∧ ∃ (b : Mv), sm 201 b ∧ Z.bd 100 b.2.2 ∧ (w ≤ 1 → gp a b = 0) ∧ ρ = [some (.loc n), some (md a), some (md b), some (.int w), c4, none, none, none, none, none, none]) ?_ ?_
  · simp only [aRet, aRetN, aSeq, aNext, aDrop, aSetS, aAsg, aGName, gtup, gcons, gnil, aGSub, aPar, aPar3, aIf, aB, bOf_b, aAnd, aOr, aNot, aAndV, aOrV, aNotV, aChain, aBin, aUn, aCall, aCons, aNil, aTup, aLst, aLstM, aC, aIsN, aNotN, isN_n, isN_i, isN_t, isN_s, isN_l, isN_b, aSl, aNoPart, aPart, iOf_i, aFor, aItems, aRange1, aRange2, ev_methL, aYes, v0, v1, v2, v3, v4, v5, v6, v7, v8, v9, v10, v11, v12, v13, add_ii, add_ss, add_tt, add_ll, sub_ii, mul_ii, div_ii, mod_ii, pow_6, pow_18, pow_30, neg_i, lt_ii, le_ii, gt_ii, ge_ii, eq_ii, ne_ii, eq_ss, ne_ss, eq_tyty, ne_tyty, ix_t0, ix_t1, ix_t2, ix_l0, ix_l1, ix_l2, len_t, len_l, len_f, int_i, abs_i, max_ii, min_ii, divmod_ii, tuple_l, tuple_t, list_l, list_t, type_i, type_t, type_s, items_l, items_t, items_f, items_s, sl_l, sl_f, sl_t, ev_bind, ev_ok, ev_sel, ev_guard, bind_ok, List.map_cons, List.map_nil, List.length_cons, List.length_nil, List.cons_append, List.nil_append, List.set_cons_zero, List.set_cons_succ, List.replicate_succ, List.replicate_zero, Nat.reduceAdd, Nat.reduceSub, br_true, br_false, decide_true, decide_false, Bool.not_true, Bool.not_false, Bool.and_self, Bool.and_true, Bool.true_and, true_and, and_true, small_0, small_1, small_2, small_3, small_4, small_5, small_6, small_7, small_8, mulOk_0, mulOk_1, mulOk_2, mulOk_r0, mulOk_r1, mulOk_r2, k1_eq, k12_eq, k21_eq]
    by_cases hw : w = 1
    · subst hw
      rw [show ((1 : Int) == 1) = true from rfl, br_true]
      refine F_number_ev W3 fun u S4 hu W4 K4 => ?_
      try simp only [aRet, aRetN, aSeq, aNext, aDrop, aSetS, aAsg, aGName, gtup, gcons, gnil, aGSub, aPar, aPar3, aIf, aB, bOf_b, aAnd, aOr, aNot, aAndV, aOrV, aNotV, aChain, aBin, aUn, aCall, aCons, aNil, aTup, aLst, aLstM, aC, aIsN, aNotN, isN_n, isN_i, isN_t, isN_s, isN_l, isN_b, aSl, aNoPart, aPart, iOf_i, aFor, aItems, aRange1, aRange2, ev_methL, aYes, v0, v1, v2, v3, v4, v5, v6, v7, v8, v9, v10, v11, v12, v13, add_ii, add_ss, add_tt, add_ll, sub_ii, mul_ii, div_ii, mod_ii, pow_6, pow_18, pow_30, neg_i, lt_ii, le_ii, gt_ii, ge_ii, eq_ii, ne_ii, eq_ss, ne_ss, eq_tyty, ne_tyty, ix_t0, ix_t1, ix_t2, ix_l0, ix_l1, ix_l2, len_t, len_l, len_f, int_i, abs_i, max_ii, min_ii, divmod_ii, tuple_l, tuple_t, list_l, list_t, type_i, type_t, type_s, items_l, items_t, items_f, items_s, sl_l, sl_f, sl_t, ev_bind, ev_ok, ev_sel, ev_guard, bind_ok, List.map_cons, List.map_nil, List.length_cons, List.length_nil, List.cons_append, List.nil_append, List.set_cons_zero, List.set_cons_succ, List.replicate_succ, List.replicate_zero, Nat.reduceAdd, Nat.reduceSub, br_true, br_false, decide_true, decide_false, Bool.not_true, Bool.not_false, Bool.and_self, Bool.and_true, Bool.true_and, true_and, and_true, small_0, small_1, small_2, small_3, small_4, small_5, small_6, small_7, small_8, mulOk_0, mulOk_1, mulOk_2, mulOk_r0, mulOk_r1, mulOk_r2, k1_eq, k12_eq, k21_eq]
      exact ⟨W4, (0, 0, u), sm_zero, hu, fun _ => by simp [gp], rfl⟩
    · rw [show (w == 1) = false from beq_eq_false_iff_ne.mpr hw, br_false]
      exact ⟨W3, b, hb, hb3, fun c => hg (by omega), rfl⟩
  clear hb hb3 hg b
  rintro ρ S4 ⟨W4, b, hb, hb3, hg, rfl⟩
  have ha2 := sm_le (k := 201) ha (by decide)
  have k1 := mulOk_sm ha hb (by decide)
  have k2 := mulOk_sm hb ha (by decide)
  have k3 : mulOk a.2.1 b.1 = true := mulOk_of ha.2 hb.1 (by decide)
  have k4 : mulOk b.2.1 a.1 = true := mulOk_of hb.2 ha.1 (by decide)
  have sj := sm_jn hb ha2
  have sj2 := sm_jn ha2 hb
  try simp only [aRet, aRetN, aSeq, aNext, aDrop, aSetS, aAsg, aGName, gtup, gcons, gnil, aGSub, aPar, aPar3, aIf, aB, bOf_b, aAnd, aOr, aNot, aAndV, aOrV, aNotV, aChain, aBin, aUn, aCall, aCons, aNil, aTup, aLst, aLstM, aC, aIsN, aNotN, isN_n, isN_i, isN_t, isN_s, isN_l, isN_b, aSl, aNoPart, aPart, iOf_i, aFor, aItems, aRange1, aRange2, ev_methL, aYes, v0, v1, v2, v3, v4, v5, v6, v7, v8, v9, v10, v11, v12, v13, add_ii, add_ss, add_tt, add_ll, sub_ii, mul_ii, div_ii, mod_ii, pow_6, pow_18, pow_30, neg_i, lt_ii, le_ii, gt_ii, ge_ii, eq_ii, ne_ii, eq_ss, ne_ss, eq_tyty, ne_tyty, ix_t0, ix_t1, ix_t2, ix_l0, ix_l1, ix_l2, len_t, len_l, len_f, int_i, abs_i, max_ii, min_ii, divmod_ii, tuple_l, tuple_t, list_l, list_t, type_i, type_t, type_s, items_l, items_t, items_f, items_s, sl_l, sl_f, sl_t, ev_bind, ev_ok, ev_sel, ev_guard, bind_ok, List.map_cons, List.map_nil, List.length_cons, List.length_nil, List.cons_append, List.nil_append, List.set_cons_zero, List.set_cons_succ, List.replicate_succ, List.replicate_zero, Nat.reduceAdd, Nat.reduceSub, br_true, br_false, decide_true, decide_false, Bool.not_true, Bool.not_false, Bool.and_self, Bool.and_true, Bool.true_and, true_and, and_true, small_0, small_1, small_2, small_3, small_4, small_5, small_6, small_7, small_8, mulOk_0, mulOk_1, mulOk_2, mulOk_r0, mulOk_r1, mulOk_r2, k1_eq, k12_eq, k21_eq]
  refine F_join_ev k1 ?_
  try simp only [aRet, aRetN, aSeq, aNext, aDrop, aSetS, aAsg, aGName, gtup, gcons, gnil, aGSub, aPar, aPar3, aIf, aB, bOf_b, aAnd, aOr, aNot, aAndV, aOrV, aNotV, aChain, aBin, aUn, aCall, aCons, aNil, aTup, aLst, aLstM, aC, aIsN, aNotN, isN_n, isN_i, isN_t, isN_s, isN_l, isN_b, aSl, aNoPart, aPart, iOf_i, aFor, aItems, aRange1, aRange2, ev_methL, aYes, v0, v1, v2, v3, v4, v5, v6, v7, v8, v9, v10, v11, v12, v13, add_ii, add_ss, add_tt, add_ll, sub_ii, mul_ii, div_ii, mod_ii, pow_6, pow_18, pow_30, neg_i, lt_ii, le_ii, gt_ii, ge_ii, eq_ii, ne_ii, eq_ss, ne_ss, eq_tyty, ne_tyty, ix_t0, ix_t1, ix_t2, ix_l0, ix_l1, ix_l2, len_t, len_l, len_f, int_i, abs_i, max_ii, min_ii, divmod_ii, tuple_l, tuple_t, list_l, list_t, type_i, type_t, type_s, items_l, items_t, items_f, items_s, sl_l, sl_f, sl_t, ev_bind, ev_ok, ev_sel, ev_guard, bind_ok, List.map_cons, List.map_nil, List.length_cons, List.length_nil, List.cons_append, List.nil_append, List.set_cons_zero, List.set_cons_succ, List.replicate_succ, List.replicate_zero, Nat.reduceAdd, Nat.reduceSub, br_true, br_false, decide_true, decide_false, Bool.not_true, Bool.not_false, Bool.and_self, Bool.and_true, Bool.true_and, true_and, and_true, small_0, small_1, small_2, small_3, small_4, small_5, small_6, small_7, small_8, mulOk_0, mulOk_1, mulOk_2, mulOk_r0, mulOk_r1, mulOk_r2, k1_eq, k12_eq, k21_eq]
  refine F_join_ev k2 ?_
  try simp only [aRet, aRetN, aSeq, aNext, aDrop, aSetS, aAsg, aGName, gtup, gcons, gnil, aGSub, aPar, aPar3, aIf, aB, bOf_b, aAnd, aOr, aNot, aAndV, aOrV, aNotV, aChain, aBin, aUn, aCall, aCons, aNil, aTup, aLst, aLstM, aC, aIsN, aNotN, isN_n, isN_i, isN_t, isN_s, isN_l, isN_b, aSl, aNoPart, aPart, iOf_i, aFor, aItems, aRange1, aRange2, ev_methL, aYes, v0, v1, v2, v3, v4, v5, v6, v7, v8, v9, v10, v11, v12, v13, add_ii, add_ss, add_tt, add_ll, sub_ii, mul_ii, div_ii, mod_ii, pow_6, pow_18, pow_30, neg_i, lt_ii, le_ii, gt_ii, ge_ii, eq_ii, ne_ii, eq_ss, ne_ss, eq_tyty, ne_tyty, ix_t0, ix_t1, ix_t2, ix_l0, ix_l1, ix_l2, len_t, len_l, len_f, int_i, abs_i, max_ii, min_ii, divmod_ii, tuple_l, tuple_t, list_l, list_t, type_i, type_t, type_s, items_l, items_t, items_f, items_s, sl_l, sl_f, sl_t, ev_bind, ev_ok, ev_sel, ev_guard, bind_ok, List.map_cons, List.map_nil, List.length_cons, List.length_nil, List.cons_append, List.nil_append, List.set_cons_zero, List.set_cons_succ, List.replicate_succ, List.replicate_zero, Nat.reduceAdd, Nat.reduceSub, br_true, br_false, decide_true, decide_false, Bool.not_true, Bool.not_false, Bool.and_self, Bool.and_true, Bool.true_and, true_and, and_true, small_0, small_1, small_2, small_3, small_4, small_5, small_6, small_7, small_8, mulOk_0, mulOk_1, mulOk_2, mulOk_r0, mulOk_r1, mulOk_r2, k1_eq, k12_eq, k21_eq]
  have hdue : (jn a b).2.2 - (jn b a).2.2 = gp a b := by simp only [jn, gp]; grind
  have h12 : (jn a b).1 = (jn b a).1 := by simp only [jn]; omega
  have h22 : (jn a b).2.1 = (jn b a).2.1 := by simp only [jn]; omega
  have x5 : ∀ S, dIx (md (jn a b)) (.int 2) S = .ok (.int (jn a b).2.2) S := fun S => by simp only [md, mv, ix_t2]
  have x6 : ∀ S, dIx (md (jn b a)) (.int 2) S = .ok (.int (jn b a).2.2) S := fun S => by simp only [md, mv, ix_t2]
  simp only [aRet, aRetN, aSeq, aNext, aDrop, aSetS, aAsg, aGName, gtup, gcons, gnil, aGSub, aPar, aPar3, aIf, aB, bOf_b, aAnd, aOr, aNot, aAndV, aOrV, aNotV, aChain, aBin, aUn, aCall, aCons, aNil, aTup, aLst, aLstM, aC, aIsN, aNotN, isN_n, isN_i, isN_t, isN_s, isN_l, isN_b, aSl, aNoPart, aPart, iOf_i, aFor, aItems, aRange1, aRange2, ev_methL, aYes, v0, v1, v2, v3, v4, v5, v6, v7, v8, v9, v10, v11, v12, v13, add_ii, add_ss, add_tt, add_ll, sub_ii, mul_ii, div_ii, mod_ii, pow_6, pow_18, pow_30, neg_i, lt_ii, le_ii, gt_ii, ge_ii, eq_ii, ne_ii, eq_ss, ne_ss, eq_tyty, ne_tyty, ix_t0, ix_t1, ix_t2, ix_l0, ix_l1, ix_l2, len_t, len_l, len_f, int_i, abs_i, max_ii, min_ii, divmod_ii, tuple_l, tuple_t, list_l, list_t, type_i, type_t, type_s, items_l, items_t, items_f, items_s, sl_l, sl_f, sl_t, ev_bind, ev_ok, ev_sel, ev_guard, bind_ok, List.map_cons, List.map_nil, List.length_cons, List.length_nil, List.cons_append, List.nil_append, List.set_cons_zero, List.set_cons_succ, List.replicate_succ, List.replicate_zero, Nat.reduceAdd, Nat.reduceSub, br_true, br_false, decide_true, decide_false, Bool.not_true, Bool.not_false, Bool.and_self, Bool.and_true, Bool.true_and, true_and, and_true, small_0, small_1, small_2, small_3, small_4, small_5, small_6, small_7, small_8, mulOk_0, mulOk_1, mulOk_2, mulOk_r0, mulOk_r1, mulOk_r2, k1_eq, k12_eq, k21_eq, x5, x6, hdue]
  refine F_gap_ev k1 k3 ?_
  try simp only [aRet, aRetN, aSeq, aNext, aDrop, aSetS, aAsg, aGName, gtup, gcons, gnil, aGSub, aPar, aPar3, aIf, aB, bOf_b, aAnd, aOr, aNot, aAndV, aOrV, aNotV, aChain, aBin, aUn, aCall, aCons, aNil, aTup, aLst, aLstM, aC, aIsN, aNotN, isN_n, isN_i, isN_t, isN_s, isN_l, isN_b, aSl, aNoPart, aPart, iOf_i, aFor, aItems, aRange1, aRange2, ev_methL, aYes, v0, v1, v2, v3, v4, v5, v6, v7, v8, v9, v10, v11, v12, v13, add_ii, add_ss, add_tt, add_ll, sub_ii, mul_ii, div_ii, mod_ii, pow_6, pow_18, pow_30, neg_i, lt_ii, le_ii, gt_ii, ge_ii, eq_ii, ne_ii, eq_ss, ne_ss, eq_tyty, ne_tyty, ix_t0, ix_t1, ix_t2, ix_l0, ix_l1, ix_l2, len_t, len_l, len_f, int_i, abs_i, max_ii, min_ii, divmod_ii, tuple_l, tuple_t, list_l, list_t, type_i, type_t, type_s, items_l, items_t, items_f, items_s, sl_l, sl_f, sl_t, ev_bind, ev_ok, ev_sel, ev_guard, bind_ok, List.map_cons, List.map_nil, List.length_cons, List.length_nil, List.cons_append, List.nil_append, List.set_cons_zero, List.set_cons_succ, List.replicate_succ, List.replicate_zero, Nat.reduceAdd, Nat.reduceSub, br_true, br_false, decide_true, decide_false, Bool.not_true, Bool.not_false, Bool.and_self, Bool.and_true, Bool.true_and, true_and, and_true, small_0, small_1, small_2, small_3, small_4, small_5, small_6, small_7, small_8, mulOk_0, mulOk_1, mulOk_2, mulOk_r0, mulOk_r1, mulOk_r2, k1_eq, k12_eq, k21_eq]
  refine F_gap_ev k1 k3 ?_
  try simp only [aRet, aRetN, aSeq, aNext, aDrop, aSetS, aAsg, aGName, gtup, gcons, gnil, aGSub, aPar, aPar3, aIf, aB, bOf_b, aAnd, aOr, aNot, aAndV, aOrV, aNotV, aChain, aBin, aUn, aCall, aCons, aNil, aTup, aLst, aLstM, aC, aIsN, aNotN, isN_n, isN_i, isN_t, isN_s, isN_l, isN_b, aSl, aNoPart, aPart, iOf_i, aFor, aItems, aRange1, aRange2, ev_methL, aYes, v0, v1, v2, v3, v4, v5, v6, v7, v8, v9, v10, v11, v12, v13, add_ii, add_ss, add_tt, add_ll, sub_ii, mul_ii, div_ii, mod_ii, pow_6, pow_18, pow_30, neg_i, lt_ii, le_ii, gt_ii, ge_ii, eq_ii, ne_ii, eq_ss, ne_ss, eq_tyty, ne_tyty, ix_t0, ix_t1, ix_t2, ix_l0, ix_l1, ix_l2, len_t, len_l, len_f, int_i, abs_i, max_ii, min_ii, divmod_ii, tuple_l, tuple_t, list_l, list_t, type_i, type_t, type_s, items_l, items_t, items_f, items_s, sl_l, sl_f, sl_t, ev_bind, ev_ok, ev_sel, ev_guard, bind_ok, List.map_cons, List.map_nil, List.length_cons, List.length_nil, List.cons_append, List.nil_append, List.set_cons_zero, List.set_cons_succ, List.replicate_succ, List.replicate_zero, Nat.reduceAdd, Nat.reduceSub, br_true, br_false, decide_true, decide_false, Bool.not_true, Bool.not_false, Bool.and_self, Bool.and_true, Bool.true_and, true_and, and_true, small_0, small_1, small_2, small_3, small_4, small_5, small_6, small_7, small_8, mulOk_0, mulOk_1, mulOk_2, mulOk_r0, mulOk_r1, mulOk_r2, k1_eq, k12_eq, k21_eq]
  refine F_gap_ev k2 k4 ?_
  try simp only [aRet, aRetN, aSeq, aNext, aDrop, aSetS, aAsg, aGName, gtup, gcons, gnil, aGSub, aPar, aPar3, aIf, aB, bOf_b, aAnd, aOr, aNot, aAndV, aOrV, aNotV, aChain, aBin, aUn, aCall, aCons, aNil, aTup, aLst, aLstM, aC, aIsN, aNotN, isN_n, isN_i, isN_t, isN_s, isN_l, isN_b, aSl, aNoPart, aPart, iOf_i, aFor, aItems, aRange1, aRange2, ev_methL, aYes, v0, v1, v2, v3, v4, v5, v6, v7, v8, v9, v10, v11, v12, v13, add_ii, add_ss, add_tt, add_ll, sub_ii, mul_ii, div_ii, mod_ii, pow_6, pow_18, pow_30, neg_i, lt_ii, le_ii, gt_ii, ge_ii, eq_ii, ne_ii, eq_ss, ne_ss, eq_tyty, ne_tyty, ix_t0, ix_t1, ix_t2, ix_l0, ix_l1, ix_l2, len_t, len_l, len_f, int_i, abs_i, max_ii, min_ii, divmod_ii, tuple_l, tuple_t, list_l, list_t, type_i, type_t, type_s, items_l, items_t, items_f, items_s, sl_l, sl_f, sl_t, ev_bind, ev_ok, ev_sel, ev_guard, bind_ok, List.map_cons, List.map_nil, List.length_cons, List.length_nil, List.cons_append, List.nil_append, List.set_cons_zero, List.set_cons_succ, List.replicate_succ, List.replicate_zero, Nat.reduceAdd, Nat.reduceSub, br_true, br_false, decide_true, decide_false, Bool.not_true, Bool.not_false, Bool.and_self, Bool.and_true, Bool.true_and, true_and, and_true, small_0, small_1, small_2, small_3, small_4, small_5, small_6, small_7, small_8, mulOk_0, mulOk_1, mulOk_2, mulOk_r0, mulOk_r1, mulOk_r2, k1_eq, k12_eq, k21_eq]
  refine md_then k2 ?_
  try simp only [aRet, aRetN, aSeq, aNext, aDrop, aSetS, aAsg, aGName, gtup, gcons, gnil, aGSub, aPar, aPar3, aIf, aB, bOf_b, aAnd, aOr, aNot, aAndV, aOrV, aNotV, aChain, aBin, aUn, aCall, aCons, aNil, aTup, aLst, aLstM, aC, aIsN, aNotN, isN_n, isN_i, isN_t, isN_s, isN_l, isN_b, aSl, aNoPart, aPart, iOf_i, aFor, aItems, aRange1, aRange2, ev_methL, aYes, v0, v1, v2, v3, v4, v5, v6, v7, v8, v9, v10, v11, v12, v13, add_ii, add_ss, add_tt, add_ll, sub_ii, mul_ii, div_ii, mod_ii, pow_6, pow_18, pow_30, neg_i, lt_ii, le_ii, gt_ii, ge_ii, eq_ii, ne_ii, eq_ss, ne_ss, eq_tyty, ne_tyty, ix_t0, ix_t1, ix_t2, ix_l0, ix_l1, ix_l2, len_t, len_l, len_f, int_i, abs_i, max_ii, min_ii, divmod_ii, tuple_l, tuple_t, list_l, list_t, type_i, type_t, type_s, items_l, items_t, items_f, items_s, sl_l, sl_f, sl_t, ev_bind, ev_ok, ev_sel, ev_guard, bind_ok, List.map_cons, List.map_nil, List.length_cons, List.length_nil, List.cons_append, List.nil_append, List.set_cons_zero, List.set_cons_succ, List.replicate_succ, List.replicate_zero, Nat.reduceAdd, Nat.reduceSub, br_true, br_false, decide_true, decide_false, Bool.not_true, Bool.not_false, Bool.and_self, Bool.and_true, Bool.true_and, true_and, and_true, small_0, small_1, small_2, small_3, small_4, small_5, small_6, small_7, small_8, mulOk_0, mulOk_1, mulOk_2, mulOk_r0, mulOk_r1, mulOk_r2, k1_eq, k12_eq, k21_eq]
  refine F_gap_ev (mulOk_sm ha sj (by decide)) (mulOk_of ha.2 sj.1 (by decide)) ?_
  try simp only [aRet, aRetN, aSeq, aNext, aDrop, aSetS, aAsg, aGName, gtup, gcons, gnil, aGSub, aPar, aPar3, aIf, aB, bOf_b, aAnd, aOr, aNot, aAndV, aOrV, aNotV, aChain, aBin, aUn, aCall, aCons, aNil, aTup, aLst, aLstM, aC, aIsN, aNotN, isN_n, isN_i, isN_t, isN_s, isN_l, isN_b, aSl, aNoPart, aPart, iOf_i, aFor, aItems, aRange1, aRange2, ev_methL, aYes, v0, v1, v2, v3, v4, v5, v6, v7, v8, v9, v10, v11, v12, v13, add_ii, add_ss, add_tt, add_ll, sub_ii, mul_ii, div_ii, mod_ii, pow_6, pow_18, pow_30, neg_i, lt_ii, le_ii, gt_ii, ge_ii, eq_ii, ne_ii, eq_ss, ne_ss, eq_tyty, ne_tyty, ix_t0, ix_t1, ix_t2, ix_l0, ix_l1, ix_l2, len_t, len_l, len_f, int_i, abs_i, max_ii, min_ii, divmod_ii, tuple_l, tuple_t, list_l, list_t, type_i, type_t, type_s, items_l, items_t, items_f, items_s, sl_l, sl_f, sl_t, ev_bind, ev_ok, ev_sel, ev_guard, bind_ok, List.map_cons, List.map_nil, List.length_cons, List.length_nil, List.cons_append, List.nil_append, List.set_cons_zero, List.set_cons_succ, List.replicate_succ, List.replicate_zero, Nat.reduceAdd, Nat.reduceSub, br_true, br_false, decide_true, decide_false, Bool.not_true, Bool.not_false, Bool.and_self, Bool.and_true, Bool.true_and, true_and, and_true, small_0, small_1, small_2, small_3, small_4, small_5, small_6, small_7, small_8, mulOk_0, mulOk_1, mulOk_2, mulOk_r0, mulOk_r1, mulOk_r2, k1_eq, k12_eq, k21_eq]
  have e1 : 0 - gp b a = gp a b := by simp only [gp]; grind
  have e2 : gp a (jn b a) = gp a b := by simp only [gp, jn]; grind
  have e3 : (gp b a == 0) = (gp a b == 0) := by
    rw [show gp b a = -gp a b by omega]
    rw [Bool.eq_iff_iff, beq_iff_eq, beq_iff_eq]
    omega
  have e4 : jn (jn a b) (jn (un a) (un b)) = (0, 0, gp a b) := by
    simp only [jn, un, gp]
    refine Prod.ext ?_ (Prod.ext ?_ ?_)
    · show a.1 + b.1 + (-a.1 + -b.1) = 0; omega
    · show a.2.1 + b.2.1 + (-a.2.1 + -b.2.1) = 0; omega
    · simp only []; grind
  rw [e1, e2]
  generalize hd : gp a b = due at *
  refine ev_of (show aMul (.lst [.int due]) (.int 4) S4 = .ok (.lst [.int due, .int due, .int due, .int due]) S4 from rfl) ?_
  refine ev_of (dNe_self (p := .list [.int due, .int due, .int due, .int due]) rfl (Nat.le_of_ble_eq_true rfl)) ?_
  simp only [aRet, aRetN, aSeq, aNext, aDrop, aSetS, aAsg, aGName, gtup, gcons, gnil, aGSub, aPar, aPar3, aIf, aB, bOf_b, aAnd, aOr, aNot, aAndV, aOrV, aNotV, aChain, aBin, aUn, aCall, aCons, aNil, aTup, aLst, aLstM, aC, aIsN, aNotN, isN_n, isN_i, isN_t, isN_s, isN_l, isN_b, aSl, aNoPart, aPart, iOf_i, aFor, aItems, aRange1, aRange2, ev_methL, aYes, v0, v1, v2, v3, v4, v5, v6, v7, v8, v9, v10, v11, v12, v13, add_ii, add_ss, add_tt, add_ll, sub_ii, mul_ii, div_ii, mod_ii, pow_6, pow_18, pow_30, neg_i, lt_ii, le_ii, gt_ii, ge_ii, eq_ii, ne_ii, eq_ss, ne_ss, eq_tyty, ne_tyty, ix_t0, ix_t1, ix_t2, ix_l0, ix_l1, ix_l2, len_t, len_l, len_f, int_i, abs_i, max_ii, min_ii, divmod_ii, tuple_l, tuple_t, list_l, list_t, type_i, type_t, type_s, items_l, items_t, items_f, items_s, sl_l, sl_f, sl_t, ev_bind, ev_ok, ev_sel, ev_guard, bind_ok, List.map_cons, List.map_nil, List.length_cons, List.length_nil, List.cons_append, List.nil_append, List.set_cons_zero, List.set_cons_succ, List.replicate_succ, List.replicate_zero, Nat.reduceAdd, Nat.reduceSub, br_true, br_false, decide_true, decide_false, Bool.not_true, Bool.not_false, Bool.and_self, Bool.and_true, Bool.true_and, true_and, and_true, small_0, small_1, small_2, small_3, small_4, small_5, small_6, small_7, small_8, mulOk_0, mulOk_1, mulOk_2, mulOk_r0, mulOk_r1, mulOk_r2, k1_eq, k12_eq, k21_eq, sl2, h12, h22]
  refine ev_of (dNe_self (p := .tuple [.int (jn b a).1, .int (jn b a).2.1]) rfl (Nat.le_of_ble_eq_true rfl)) ?_
  try simp only [aRet, aRetN, aSeq, aNext, aDrop, aSetS, aAsg, aGName, gtup, gcons, gnil, aGSub, aPar, aPar3, aIf, aB, bOf_b, aAnd, aOr, aNot, aAndV, aOrV, aNotV, aChain, aBin, aUn, aCall, aCons, aNil, aTup, aLst, aLstM, aC, aIsN, aNotN, isN_n, isN_i, isN_t, isN_s, isN_l, isN_b, aSl, aNoPart, aPart, iOf_i, aFor, aItems, aRange1, aRange2, ev_methL, aYes, v0, v1, v2, v3, v4, v5, v6, v7, v8, v9, v10, v11, v12, v13, add_ii, add_ss, add_tt, add_ll, sub_ii, mul_ii, div_ii, mod_ii, pow_6, pow_18, pow_30, neg_i, lt_ii, le_ii, gt_ii, ge_ii, eq_ii, ne_ii, eq_ss, ne_ss, eq_tyty, ne_tyty, ix_t0, ix_t1, ix_t2, ix_l0, ix_l1, ix_l2, len_t, len_l, len_f, int_i, abs_i, max_ii, min_ii, divmod_ii, tuple_l, tuple_t, list_l, list_t, type_i, type_t, type_s, items_l, items_t, items_f, items_s, sl_l, sl_f, sl_t, ev_bind, ev_ok, ev_sel, ev_guard, bind_ok, List.map_cons, List.map_nil, List.length_cons, List.length_nil, List.cons_append, List.nil_append, List.set_cons_zero, List.set_cons_succ, List.replicate_succ, List.replicate_zero, Nat.reduceAdd, Nat.reduceSub, br_true, br_false, decide_true, decide_false, Bool.not_true, Bool.not_false, Bool.and_self, Bool.and_true, Bool.true_and, true_and, and_true, small_0, small_1, small_2, small_3, small_4, small_5, small_6, small_7, small_8, mulOk_0, mulOk_1, mulOk_2, mulOk_r0, mulOk_r1, mulOk_r2, k1_eq, k12_eq, k21_eq]
  refine F_commute_ev k1 k3 ?_
  try simp only [aRet, aRetN, aSeq, aNext, aDrop, aSetS, aAsg, aGName, gtup, gcons, gnil, aGSub, aPar, aPar3, aIf, aB, bOf_b, aAnd, aOr, aNot, aAndV, aOrV, aNotV, aChain, aBin, aUn, aCall, aCons, aNil, aTup, aLst, aLstM, aC, aIsN, aNotN, isN_n, isN_i, isN_t, isN_s, isN_l, isN_b, aSl, aNoPart, aPart, iOf_i, aFor, aItems, aRange1, aRange2, ev_methL, aYes, v0, v1, v2, v3, v4, v5, v6, v7, v8, v9, v10, v11, v12, v13, add_ii, add_ss, add_tt, add_ll, sub_ii, mul_ii, div_ii, mod_ii, pow_6, pow_18, pow_30, neg_i, lt_ii, le_ii, gt_ii, ge_ii, eq_ii, ne_ii, eq_ss, ne_ss, eq_tyty, ne_tyty, ix_t0, ix_t1, ix_t2, ix_l0, ix_l1, ix_l2, len_t, len_l, len_f, int_i, abs_i, max_ii, min_ii, divmod_ii, tuple_l, tuple_t, list_l, list_t, type_i, type_t, type_s, items_l, items_t, items_f, items_s, sl_l, sl_f, sl_t, ev_bind, ev_ok, ev_sel, ev_guard, bind_ok, List.map_cons, List.map_nil, List.length_cons, List.length_nil, List.cons_append, List.nil_append, List.set_cons_zero, List.set_cons_succ, List.replicate_succ, List.replicate_zero, Nat.reduceAdd, Nat.reduceSub, br_true, br_false, decide_true, decide_false, Bool.not_true, Bool.not_false, Bool.and_self, Bool.and_true, Bool.true_and, true_and, and_true, small_0, small_1, small_2, small_3, small_4, small_5, small_6, small_7, small_8, mulOk_0, mulOk_1, mulOk_2, mulOk_r0, mulOk_r1, mulOk_r2, k1_eq, k12_eq, k21_eq]
  refine F_commute_ev k1 k3 ?_
  try simp only [aRet, aRetN, aSeq, aNext, aDrop, aSetS, aAsg, aGName, gtup, gcons, gnil, aGSub, aPar, aPar3, aIf, aB, bOf_b, aAnd, aOr, aNot, aAndV, aOrV, aNotV, aChain, aBin, aUn, aCall, aCons, aNil, aTup, aLst, aLstM, aC, aIsN, aNotN, isN_n, isN_i, isN_t, isN_s, isN_l, isN_b, aSl, aNoPart, aPart, iOf_i, aFor, aItems, aRange1, aRange2, ev_methL, aYes, v0, v1, v2, v3, v4, v5, v6, v7, v8, v9, v10, v11, v12, v13, add_ii, add_ss, add_tt, add_ll, sub_ii, mul_ii, div_ii, mod_ii, pow_6, pow_18, pow_30, neg_i, lt_ii, le_ii, gt_ii, ge_ii, eq_ii, ne_ii, eq_ss, ne_ss, eq_tyty, ne_tyty, ix_t0, ix_t1, ix_t2, ix_l0, ix_l1, ix_l2, len_t, len_l, len_f, int_i, abs_i, max_ii, min_ii, divmod_ii, tuple_l, tuple_t, list_l, list_t, type_i, type_t, type_s, items_l, items_t, items_f, items_s, sl_l, sl_f, sl_t, ev_bind, ev_ok, ev_sel, ev_guard, bind_ok, List.map_cons, List.map_nil, List.length_cons, List.length_nil, List.cons_append, List.nil_append, List.set_cons_zero, List.set_cons_succ, List.replicate_succ, List.replicate_zero, Nat.reduceAdd, Nat.reduceSub, br_true, br_false, decide_true, decide_false, Bool.not_true, Bool.not_false, Bool.and_self, Bool.and_true, Bool.true_and, true_and, and_true, small_0, small_1, small_2, small_3, small_4, small_5, small_6, small_7, small_8, mulOk_0, mulOk_1, mulOk_2, mulOk_r0, mulOk_r1, mulOk_r2, k1_eq, k12_eq, k21_eq]
  refine F_commute_ev k2 k4 ?_
  try simp only [aRet, aRetN, aSeq, aNext, aDrop, aSetS, aAsg, aGName, gtup, gcons, gnil, aGSub, aPar, aPar3, aIf, aB, bOf_b, aAnd, aOr, aNot, aAndV, aOrV, aNotV, aChain, aBin, aUn, aCall, aCons, aNil, aTup, aLst, aLstM, aC, aIsN, aNotN, isN_n, isN_i, isN_t, isN_s, isN_l, isN_b, aSl, aNoPart, aPart, iOf_i, aFor, aItems, aRange1, aRange2, ev_methL, aYes, v0, v1, v2, v3, v4, v5, v6, v7, v8, v9, v10, v11, v12, v13, add_ii, add_ss, add_tt, add_ll, sub_ii, mul_ii, div_ii, mod_ii, pow_6, pow_18, pow_30, neg_i, lt_ii, le_ii, gt_ii, ge_ii, eq_ii, ne_ii, eq_ss, ne_ss, eq_tyty, ne_tyty, ix_t0, ix_t1, ix_t2, ix_l0, ix_l1, ix_l2, len_t, len_l, len_f, int_i, abs_i, max_ii, min_ii, divmod_ii, tuple_l, tuple_t, list_l, list_t, type_i, type_t, type_s, items_l, items_t, items_f, items_s, sl_l, sl_f, sl_t, ev_bind, ev_ok, ev_sel, ev_guard, bind_ok, List.map_cons, List.map_nil, List.length_cons, List.length_nil, List.cons_append, List.nil_append, List.set_cons_zero, List.set_cons_succ, List.replicate_succ, List.replicate_zero, Nat.reduceAdd, Nat.reduceSub, br_true, br_false, decide_true, decide_false, Bool.not_true, Bool.not_false, Bool.and_self, Bool.and_true, Bool.true_and, true_and, and_true, small_0, small_1, small_2, small_3, small_4, small_5, small_6, small_7, small_8, mulOk_0, mulOk_1, mulOk_2, mulOk_r0, mulOk_r1, mulOk_r2, k1_eq, k12_eq, k21_eq]
  rw [e3, hd]
  refine ev_of (repr3 _) ?_
  try simp only [aRet, aRetN, aSeq, aNext, aDrop, aSetS, aAsg, aGName, gtup, gcons, gnil, aGSub, aPar, aPar3, aIf, aB, bOf_b, aAnd, aOr, aNot, aAndV, aOrV, aNotV, aChain, aBin, aUn, aCall, aCons, aNil, aTup, aLst, aLstM, aC, aIsN, aNotN, isN_n, isN_i, isN_t, isN_s, isN_l, isN_b, aSl, aNoPart, aPart, iOf_i, aFor, aItems, aRange1, aRange2, ev_methL, aYes, v0, v1, v2, v3, v4, v5, v6, v7, v8, v9, v10, v11, v12, v13, add_ii, add_ss, add_tt, add_ll, sub_ii, mul_ii, div_ii, mod_ii, pow_6, pow_18, pow_30, neg_i, lt_ii, le_ii, gt_ii, ge_ii, eq_ii, ne_ii, eq_ss, ne_ss, eq_tyty, ne_tyty, ix_t0, ix_t1, ix_t2, ix_l0, ix_l1, ix_l2, len_t, len_l, len_f, int_i, abs_i, max_ii, min_ii, divmod_ii, tuple_l, tuple_t, list_l, list_t, type_i, type_t, type_s, items_l, items_t, items_f, items_s, sl_l, sl_f, sl_t, ev_bind, ev_ok, ev_sel, ev_guard, bind_ok, List.map_cons, List.map_nil, List.length_cons, List.length_nil, List.cons_append, List.nil_append, List.set_cons_zero, List.set_cons_succ, List.replicate_succ, List.replicate_zero, Nat.reduceAdd, Nat.reduceSub, br_true, br_false, decide_true, decide_false, Bool.not_true, Bool.not_false, Bool.and_self, Bool.and_true, Bool.true_and, true_and, and_true, small_0, small_1, small_2, small_3, small_4, small_5, small_6, small_7, small_8, mulOk_0, mulOk_1, mulOk_2, mulOk_r0, mulOk_r1, mulOk_r2, k1_eq, k12_eq, k21_eq]
  refine ev_of (show aMul (.lst [.bl (due == 0)]) (.int 3) S4 = .ok (.lst [.bl (due == 0), .bl (due == 0), .bl (due == 0)]) S4 from rfl) ?_
  refine ev_of (repr3 _) ?_
  simp only [aRet, aRetN, aSeq, aNext, aDrop, aSetS, aAsg, aGName, gtup, gcons, gnil, aGSub, aPar, aPar3, aIf, aB, bOf_b, aAnd, aOr, aNot, aAndV, aOrV, aNotV, aChain, aBin, aUn, aCall, aCons, aNil, aTup, aLst, aLstM, aC, aIsN, aNotN, isN_n, isN_i, isN_t, isN_s, isN_l, isN_b, aSl, aNoPart, aPart, iOf_i, aFor, aItems, aRange1, aRange2, ev_methL, aYes, v0, v1, v2, v3, v4, v5, v6, v7, v8, v9, v10, v11, v12, v13, add_ii, add_ss, add_tt, add_ll, sub_ii, mul_ii, div_ii, mod_ii, pow_6, pow_18, pow_30, neg_i, lt_ii, le_ii, gt_ii, ge_ii, eq_ii, ne_ii, eq_ss, ne_ss, eq_tyty, ne_tyty, ix_t0, ix_t1, ix_t2, ix_l0, ix_l1, ix_l2, len_t, len_l, len_f, int_i, abs_i, max_ii, min_ii, divmod_ii, tuple_l, tuple_t, list_l, list_t, type_i, type_t, type_s, items_l, items_t, items_f, items_s, sl_l, sl_f, sl_t, ev_bind, ev_ok, ev_sel, ev_guard, bind_ok, List.map_cons, List.map_nil, List.length_cons, List.length_nil, List.cons_append, List.nil_append, List.set_cons_zero, List.set_cons_succ, List.replicate_succ, List.replicate_zero, Nat.reduceAdd, Nat.reduceSub, br_true, br_false, decide_true, decide_false, Bool.not_true, Bool.not_false, Bool.and_self, Bool.and_true, Bool.true_and, true_and, and_true, small_0, small_1, small_2, small_3, small_4, small_5, small_6, small_7, small_8, mulOk_0, mulOk_1, mulOk_2, mulOk_r0, mulOk_r1, mulOk_r2, k1_eq, k12_eq, k21_eq, beq_self_eq_true, Bool.not_true]
  refine md_then k1 ?_
  try simp only [aRet, aRetN, aSeq, aNext, aDrop, aSetS, aAsg, aGName, gtup, gcons, gnil, aGSub, aPar, aPar3, aIf, aB, bOf_b, aAnd, aOr, aNot, aAndV, aOrV, aNotV, aChain, aBin, aUn, aCall, aCons, aNil, aTup, aLst, aLstM, aC, aIsN, aNotN, isN_n, isN_i, isN_t, isN_s, isN_l, isN_b, aSl, aNoPart, aPart, iOf_i, aFor, aItems, aRange1, aRange2, ev_methL, aYes, v0, v1, v2, v3, v4, v5, v6, v7, v8, v9, v10, v11, v12, v13, add_ii, add_ss, add_tt, add_ll, sub_ii, mul_ii, div_ii, mod_ii, pow_6, pow_18, pow_30, neg_i, lt_ii, le_ii, gt_ii, ge_ii, eq_ii, ne_ii, eq_ss, ne_ss, eq_tyty, ne_tyty, ix_t0, ix_t1, ix_t2, ix_l0, ix_l1, ix_l2, len_t, len_l, len_f, int_i, abs_i, max_ii, min_ii, divmod_ii, tuple_l, tuple_t, list_l, list_t, type_i, type_t, type_s, items_l, items_t, items_f, items_s, sl_l, sl_f, sl_t, ev_bind, ev_ok, ev_sel, ev_guard, bind_ok, List.map_cons, List.map_nil, List.length_cons, List.length_nil, List.cons_append, List.nil_append, List.set_cons_zero, List.set_cons_succ, List.replicate_succ, List.replicate_zero, Nat.reduceAdd, Nat.reduceSub, br_true, br_false, decide_true, decide_false, Bool.not_true, Bool.not_false, Bool.and_self, Bool.and_true, Bool.true_and, true_and, and_true, small_0, small_1, small_2, small_3, small_4, small_5, small_6, small_7, small_8, mulOk_0, mulOk_1, mulOk_2, mulOk_r0, mulOk_r1, mulOk_r2, k1_eq, k12_eq, k21_eq]
  refine F_undone_ev (mulOk_sm ha ha (by decide)) ?_
  try simp only [aRet, aRetN, aSeq, aNext, aDrop, aSetS, aAsg, aGName, gtup, gcons, gnil, aGSub, aPar, aPar3, aIf, aB, bOf_b, aAnd, aOr, aNot, aAndV, aOrV, aNotV, aChain, aBin, aUn, aCall, aCons, aNil, aTup, aLst, aLstM, aC, aIsN, aNotN, isN_n, isN_i, isN_t, isN_s, isN_l, isN_b, aSl, aNoPart, aPart, iOf_i, aFor, aItems, aRange1, aRange2, ev_methL, aYes, v0, v1, v2, v3, v4, v5, v6, v7, v8, v9, v10, v11, v12, v13, add_ii, add_ss, add_tt, add_ll, sub_ii, mul_ii, div_ii, mod_ii, pow_6, pow_18, pow_30, neg_i, lt_ii, le_ii, gt_ii, ge_ii, eq_ii, ne_ii, eq_ss, ne_ss, eq_tyty, ne_tyty, ix_t0, ix_t1, ix_t2, ix_l0, ix_l1, ix_l2, len_t, len_l, len_f, int_i, abs_i, max_ii, min_ii, divmod_ii, tuple_l, tuple_t, list_l, list_t, type_i, type_t, type_s, items_l, items_t, items_f, items_s, sl_l, sl_f, sl_t, ev_bind, ev_ok, ev_sel, ev_guard, bind_ok, List.map_cons, List.map_nil, List.length_cons, List.length_nil, List.cons_append, List.nil_append, List.set_cons_zero, List.set_cons_succ, List.replicate_succ, List.replicate_zero, Nat.reduceAdd, Nat.reduceSub, br_true, br_false, decide_true, decide_false, Bool.not_true, Bool.not_false, Bool.and_self, Bool.and_true, Bool.true_and, true_and, and_true, small_0, small_1, small_2, small_3, small_4, small_5, small_6, small_7, small_8, mulOk_0, mulOk_1, mulOk_2, mulOk_r0, mulOk_r1, mulOk_r2, k1_eq, k12_eq, k21_eq]
  refine F_undone_ev (mulOk_sm hb hb (by decide)) ?_
  try simp only [aRet, aRetN, aSeq, aNext, aDrop, aSetS, aAsg, aGName, gtup, gcons, gnil, aGSub, aPar, aPar3, aIf, aB, bOf_b, aAnd, aOr, aNot, aAndV, aOrV, aNotV, aChain, aBin, aUn, aCall, aCons, aNil, aTup, aLst, aLstM, aC, aIsN, aNotN, isN_n, isN_i, isN_t, isN_s, isN_l, isN_b, aSl, aNoPart, aPart, iOf_i, aFor, aItems, aRange1, aRange2, ev_methL, aYes, v0, v1, v2, v3, v4, v5, v6, v7, v8, v9, v10, v11, v12, v13, add_ii, add_ss, add_tt, add_ll, sub_ii, mul_ii, div_ii, mod_ii, pow_6, pow_18, pow_30, neg_i, lt_ii, le_ii, gt_ii, ge_ii, eq_ii, ne_ii, eq_ss, ne_ss, eq_tyty, ne_tyty, ix_t0, ix_t1, ix_t2, ix_l0, ix_l1, ix_l2, len_t, len_l, len_f, int_i, abs_i, max_ii, min_ii, divmod_ii, tuple_l, tuple_t, list_l, list_t, type_i, type_t, type_s, items_l, items_t, items_f, items_s, sl_l, sl_f, sl_t, ev_bind, ev_ok, ev_sel, ev_guard, bind_ok, List.map_cons, List.map_nil, List.length_cons, List.length_nil, List.cons_append, List.nil_append, List.set_cons_zero, List.set_cons_succ, List.replicate_succ, List.replicate_zero, Nat.reduceAdd, Nat.reduceSub, br_true, br_false, decide_true, decide_false, Bool.not_true, Bool.not_false, Bool.and_self, Bool.and_true, Bool.true_and, true_and, and_true, small_0, small_1, small_2, small_3, small_4, small_5, small_6, small_7, small_8, mulOk_0, mulOk_1, mulOk_2, mulOk_r0, mulOk_r1, mulOk_r2, k1_eq, k12_eq, k21_eq]
  refine md_then (mulOk_sm (sm_un ha) (sm_un hb) (by decide)) ?_
  try simp only [aRet, aRetN, aSeq, aNext, aDrop, aSetS, aAsg, aGName, gtup, gcons, gnil, aGSub, aPar, aPar3, aIf, aB, bOf_b, aAnd, aOr, aNot, aAndV, aOrV, aNotV, aChain, aBin, aUn, aCall, aCons, aNil, aTup, aLst, aLstM, aC, aIsN, aNotN, isN_n, isN_i, isN_t, isN_s, isN_l, isN_b, aSl, aNoPart, aPart, iOf_i, aFor, aItems, aRange1, aRange2, ev_methL, aYes, v0, v1, v2, v3, v4, v5, v6, v7, v8, v9, v10, v11, v12, v13, add_ii, add_ss, add_tt, add_ll, sub_ii, mul_ii, div_ii, mod_ii, pow_6, pow_18, pow_30, neg_i, lt_ii, le_ii, gt_ii, ge_ii, eq_ii, ne_ii, eq_ss, ne_ss, eq_tyty, ne_tyty, ix_t0, ix_t1, ix_t2, ix_l0, ix_l1, ix_l2, len_t, len_l, len_f, int_i, abs_i, max_ii, min_ii, divmod_ii, tuple_l, tuple_t, list_l, list_t, type_i, type_t, type_s, items_l, items_t, items_f, items_s, sl_l, sl_f, sl_t, ev_bind, ev_ok, ev_sel, ev_guard, bind_ok, List.map_cons, List.map_nil, List.length_cons, List.length_nil, List.cons_append, List.nil_append, List.set_cons_zero, List.set_cons_succ, List.replicate_succ, List.replicate_zero, Nat.reduceAdd, Nat.reduceSub, br_true, br_false, decide_true, decide_false, Bool.not_true, Bool.not_false, Bool.and_self, Bool.and_true, Bool.true_and, true_and, and_true, small_0, small_1, small_2, small_3, small_4, small_5, small_6, small_7, small_8, mulOk_0, mulOk_1, mulOk_2, mulOk_r0, mulOk_r1, mulOk_r2, k1_eq, k12_eq, k21_eq]
  refine md_then (mulOk_sm sj2 (sm_jn (sm_un ha2) (sm_un hb)) (by decide)) ?_
  try simp only [aRet, aRetN, aSeq, aNext, aDrop, aSetS, aAsg, aGName, gtup, gcons, gnil, aGSub, aPar, aPar3, aIf, aB, bOf_b, aAnd, aOr, aNot, aAndV, aOrV, aNotV, aChain, aBin, aUn, aCall, aCons, aNil, aTup, aLst, aLstM, aC, aIsN, aNotN, isN_n, isN_i, isN_t, isN_s, isN_l, isN_b, aSl, aNoPart, aPart, iOf_i, aFor, aItems, aRange1, aRange2, ev_methL, aYes, v0, v1, v2, v3, v4, v5, v6, v7, v8, v9, v10, v11, v12, v13, add_ii, add_ss, add_tt, add_ll, sub_ii, mul_ii, div_ii, mod_ii, pow_6, pow_18, pow_30, neg_i, lt_ii, le_ii, gt_ii, ge_ii, eq_ii, ne_ii, eq_ss, ne_ss, eq_tyty, ne_tyty, ix_t0, ix_t1, ix_t2, ix_l0, ix_l1, ix_l2, len_t, len_l, len_f, int_i, abs_i, max_ii, min_ii, divmod_ii, tuple_l, tuple_t, list_l, list_t, type_i, type_t, type_s, items_l, items_t, items_f, items_s, sl_l, sl_f, sl_t, ev_bind, ev_ok, ev_sel, ev_guard, bind_ok, List.map_cons, List.map_nil, List.length_cons, List.length_nil, List.cons_append, List.nil_append, List.set_cons_zero, List.set_cons_succ, List.replicate_succ, List.replicate_zero, Nat.reduceAdd, Nat.reduceSub, br_true, br_false, decide_true, decide_false, Bool.not_true, Bool.not_false, Bool.and_self, Bool.and_true, Bool.true_and, true_and, and_true, small_0, small_1, small_2, small_3, small_4, small_5, small_6, small_7, small_8, mulOk_0, mulOk_1, mulOk_2, mulOk_r0, mulOk_r1, mulOk_r2, k1_eq, k12_eq, k21_eq]
  refine ne_md (b := (0, 0, due)) e4 ?_
  try simp only [aRet, aRetN, aSeq, aNext, aDrop, aSetS, aAsg, aGName, gtup, gcons, gnil, aGSub, aPar, aPar3, aIf, aB, bOf_b, aAnd, aOr, aNot, aAndV, aOrV, aNotV, aChain, aBin, aUn, aCall, aCons, aNil, aTup, aLst, aLstM, aC, aIsN, aNotN, isN_n, isN_i, isN_t, isN_s, isN_l, isN_b, aSl, aNoPart, aPart, iOf_i, aFor, aItems, aRange1, aRange2, ev_methL, aYes, v0, v1, v2, v3, v4, v5, v6, v7, v8, v9, v10, v11, v12, v13, add_ii, add_ss, add_tt, add_ll, sub_ii, mul_ii, div_ii, mod_ii, pow_6, pow_18, pow_30, neg_i, lt_ii, le_ii, gt_ii, ge_ii, eq_ii, ne_ii, eq_ss, ne_ss, eq_tyty, ne_tyty, ix_t0, ix_t1, ix_t2, ix_l0, ix_l1, ix_l2, len_t, len_l, len_f, int_i, abs_i, max_ii, min_ii, divmod_ii, tuple_l, tuple_t, list_l, list_t, type_i, type_t, type_s, items_l, items_t, items_f, items_s, sl_l, sl_f, sl_t, ev_bind, ev_ok, ev_sel, ev_guard, bind_ok, List.map_cons, List.map_nil, List.length_cons, List.length_nil, List.cons_append, List.nil_append, List.set_cons_zero, List.set_cons_succ, List.replicate_succ, List.replicate_zero, Nat.reduceAdd, Nat.reduceSub, br_true, br_false, decide_true, decide_false, Bool.not_true, Bool.not_false, Bool.and_self, Bool.and_true, Bool.true_and, true_and, and_true, small_0, small_1, small_2, small_3, small_4, small_5, small_6, small_7, small_8, mulOk_0, mulOk_1, mulOk_2, mulOk_r0, mulOk_r1, mulOk_r2, k1_eq, k12_eq, k21_eq]
  refine F_commute_ev (mulOk_sm ha ha (by decide)) (mulOk_of ha.2 ha.1 (by decide)) ?_
  try simp only [aRet, aRetN, aSeq, aNext, aDrop, aSetS, aAsg, aGName, gtup, gcons, gnil, aGSub, aPar, aPar3, aIf, aB, bOf_b, aAnd, aOr, aNot, aAndV, aOrV, aNotV, aChain, aBin, aUn, aCall, aCons, aNil, aTup, aLst, aLstM, aC, aIsN, aNotN, isN_n, isN_i, isN_t, isN_s, isN_l, isN_b, aSl, aNoPart, aPart, iOf_i, aFor, aItems, aRange1, aRange2, ev_methL, aYes, v0, v1, v2, v3, v4, v5, v6, v7, v8, v9, v10, v11, v12, v13, add_ii, add_ss, add_tt, add_ll, sub_ii, mul_ii, div_ii, mod_ii, pow_6, pow_18, pow_30, neg_i, lt_ii, le_ii, gt_ii, ge_ii, eq_ii, ne_ii, eq_ss, ne_ss, eq_tyty, ne_tyty, ix_t0, ix_t1, ix_t2, ix_l0, ix_l1, ix_l2, len_t, len_l, len_f, int_i, abs_i, max_ii, min_ii, divmod_ii, tuple_l, tuple_t, list_l, list_t, type_i, type_t, type_s, items_l, items_t, items_f, items_s, sl_l, sl_f, sl_t, ev_bind, ev_ok, ev_sel, ev_guard, bind_ok, List.map_cons, List.map_nil, List.length_cons, List.length_nil, List.cons_append, List.nil_append, List.set_cons_zero, List.set_cons_succ, List.replicate_succ, List.replicate_zero, Nat.reduceAdd, Nat.reduceSub, br_true, br_false, decide_true, decide_false, Bool.not_true, Bool.not_false, Bool.and_self, Bool.and_true, Bool.true_and, true_and, and_true, small_0, small_1, small_2, small_3, small_4, small_5, small_6, small_7, small_8, mulOk_0, mulOk_1, mulOk_2, mulOk_r0, mulOk_r1, mulOk_r2, k1_eq, k12_eq, k21_eq]
  rw [show (gp a a == 0) = true from beq_iff_eq.mpr (by simp only [gp]; grind)]
  refine ev_of repr_T ?_
  simp only [aRet, aRetN, aSeq, aNext, aDrop, aSetS, aAsg, aGName, gtup, gcons, gnil, aGSub, aPar, aPar3, aIf, aB, bOf_b, aAnd, aOr, aNot, aAndV, aOrV, aNotV, aChain, aBin, aUn, aCall, aCons, aNil, aTup, aLst, aLstM, aC, aIsN, aNotN, isN_n, isN_i, isN_t, isN_s, isN_l, isN_b, aSl, aNoPart, aPart, iOf_i, aFor, aItems, aRange1, aRange2, ev_methL, aYes, v0, v1, v2, v3, v4, v5, v6, v7, v8, v9, v10, v11, v12, v13, add_ii, add_ss, add_tt, add_ll, sub_ii, mul_ii, div_ii, mod_ii, pow_6, pow_18, pow_30, neg_i, lt_ii, le_ii, gt_ii, ge_ii, eq_ii, ne_ii, eq_ss, ne_ss, eq_tyty, ne_tyty, ix_t0, ix_t1, ix_t2, ix_l0, ix_l1, ix_l2, len_t, len_l, len_f, int_i, abs_i, max_ii, min_ii, divmod_ii, tuple_l, tuple_t, list_l, list_t, type_i, type_t, type_s, items_l, items_t, items_f, items_s, sl_l, sl_f, sl_t, ev_bind, ev_ok, ev_sel, ev_guard, bind_ok, List.map_cons, List.map_nil, List.length_cons, List.length_nil, List.cons_append, List.nil_append, List.set_cons_zero, List.set_cons_succ, List.replicate_succ, List.replicate_zero, Nat.reduceAdd, Nat.reduceSub, br_true, br_false, decide_true, decide_false, Bool.not_true, Bool.not_false, Bool.and_self, Bool.and_true, Bool.true_and, true_and, and_true, small_0, small_1, small_2, small_3, small_4, small_5, small_6, small_7, small_8, mulOk_0, mulOk_1, mulOk_2, mulOk_r0, mulOk_r1, mulOk_r2, k1_eq, k12_eq, k21_eq, beq_self_eq_true, Bool.not_true]
  refine F_gap_ev (b := (0, 0, 7)) (mulOkR (by decide) (by decide)) (mulOkR (by decide) (by decide)) ?_
  try simp only [aRet, aRetN, aSeq, aNext, aDrop, aSetS, aAsg, aGName, gtup, gcons, gnil, aGSub, aPar, aPar3, aIf, aB, bOf_b, aAnd, aOr, aNot, aAndV, aOrV, aNotV, aChain, aBin, aUn, aCall, aCons, aNil, aTup, aLst, aLstM, aC, aIsN, aNotN, isN_n, isN_i, isN_t, isN_s, isN_l, isN_b, aSl, aNoPart, aPart, iOf_i, aFor, aItems, aRange1, aRange2, ev_methL, aYes, v0, v1, v2, v3, v4, v5, v6, v7, v8, v9, v10, v11, v12, v13, add_ii, add_ss, add_tt, add_ll, sub_ii, mul_ii, div_ii, mod_ii, pow_6, pow_18, pow_30, neg_i, lt_ii, le_ii, gt_ii, ge_ii, eq_ii, ne_ii, eq_ss, ne_ss, eq_tyty, ne_tyty, ix_t0, ix_t1, ix_t2, ix_l0, ix_l1, ix_l2, len_t, len_l, len_f, int_i, abs_i, max_ii, min_ii, divmod_ii, tuple_l, tuple_t, list_l, list_t, type_i, type_t, type_s, items_l, items_t, items_f, items_s, sl_l, sl_f, sl_t, ev_bind, ev_ok, ev_sel, ev_guard, bind_ok, List.map_cons, List.map_nil, List.length_cons, List.length_nil, List.cons_append, List.nil_append, List.set_cons_zero, List.set_cons_succ, List.replicate_succ, List.replicate_zero, Nat.reduceAdd, Nat.reduceSub, br_true, br_false, decide_true, decide_false, Bool.not_true, Bool.not_false, Bool.and_self, Bool.and_true, Bool.true_and, true_and, and_true, small_0, small_1, small_2, small_3, small_4, small_5, small_6, small_7, small_8, mulOk_0, mulOk_1, mulOk_2, mulOk_r0, mulOk_r1, mulOk_r2, k1_eq, k12_eq, k21_eq]
  rw [show gp a (0, 0, 7) = 0 by simp [gp]]
  simp only [aRet, aRetN, aSeq, aNext, aDrop, aSetS, aAsg, aGName, gtup, gcons, gnil, aGSub, aPar, aPar3, aIf, aB, bOf_b, aAnd, aOr, aNot, aAndV, aOrV, aNotV, aChain, aBin, aUn, aCall, aCons, aNil, aTup, aLst, aLstM, aC, aIsN, aNotN, isN_n, isN_i, isN_t, isN_s, isN_l, isN_b, aSl, aNoPart, aPart, iOf_i, aFor, aItems, aRange1, aRange2, ev_methL, aYes, v0, v1, v2, v3, v4, v5, v6, v7, v8, v9, v10, v11, v12, v13, add_ii, add_ss, add_tt, add_ll, sub_ii, mul_ii, div_ii, mod_ii, pow_6, pow_18, pow_30, neg_i, lt_ii, le_ii, gt_ii, ge_ii, eq_ii, ne_ii, eq_ss, ne_ss, eq_tyty, ne_tyty, ix_t0, ix_t1, ix_t2, ix_l0, ix_l1, ix_l2, len_t, len_l, len_f, int_i, abs_i, max_ii, min_ii, divmod_ii, tuple_l, tuple_t, list_l, list_t, type_i, type_t, type_s, items_l, items_t, items_f, items_s, sl_l, sl_f, sl_t, ev_bind, ev_ok, ev_sel, ev_guard, bind_ok, List.map_cons, List.map_nil, List.length_cons, List.length_nil, List.cons_append, List.nil_append, List.set_cons_zero, List.set_cons_succ, List.replicate_succ, List.replicate_zero, Nat.reduceAdd, Nat.reduceSub, br_true, br_false, decide_true, decide_false, Bool.not_true, Bool.not_false, Bool.and_self, Bool.and_true, Bool.true_and, true_and, and_true, small_0, small_1, small_2, small_3, small_4, small_5, small_6, small_7, small_8, mulOk_0, mulOk_1, mulOk_2, mulOk_r0, mulOk_r1, mulOk_r2, k1_eq, k12_eq, k21_eq, beq_self_eq_true, Bool.not_true]
  refine F_drawn_ev W4 fun x y s S5 h1 h2 h3 W5 K5 => ?_
  try simp only [aRet, aRetN, aSeq, aNext, aDrop, aSetS, aAsg, aGName, gtup, gcons, gnil, aGSub, aPar, aPar3, aIf, aB, bOf_b, aAnd, aOr, aNot, aAndV, aOrV, aNotV, aChain, aBin, aUn, aCall, aCons, aNil, aTup, aLst, aLstM, aC, aIsN, aNotN, isN_n, isN_i, isN_t, isN_s, isN_l, isN_b, aSl, aNoPart, aPart, iOf_i, aFor, aItems, aRange1, aRange2, ev_methL, aYes, v0, v1, v2, v3, v4, v5, v6, v7, v8, v9, v10, v11, v12, v13, add_ii, add_ss, add_tt, add_ll, sub_ii, mul_ii, div_ii, mod_ii, pow_6, pow_18, pow_30, neg_i, lt_ii, le_ii, gt_ii, ge_ii, eq_ii, ne_ii, eq_ss, ne_ss, eq_tyty, ne_tyty, ix_t0, ix_t1, ix_t2, ix_l0, ix_l1, ix_l2, len_t, len_l, len_f, int_i, abs_i, max_ii, min_ii, divmod_ii, tuple_l, tuple_t, list_l, list_t, type_i, type_t, type_s, items_l, items_t, items_f, items_s, sl_l, sl_f, sl_t, ev_bind, ev_ok, ev_sel, ev_guard, bind_ok, List.map_cons, List.map_nil, List.length_cons, List.length_nil, List.cons_append, List.nil_append, List.set_cons_zero, List.set_cons_succ, List.replicate_succ, List.replicate_zero, Nat.reduceAdd, Nat.reduceSub, br_true, br_false, decide_true, decide_false, Bool.not_true, Bool.not_false, Bool.and_self, Bool.and_true, Bool.true_and, true_and, and_true, small_0, small_1, small_2, small_3, small_4, small_5, small_6, small_7, small_8, mulOk_0, mulOk_1, mulOk_2, mulOk_r0, mulOk_r1, mulOk_r2, k1_eq, k12_eq, k21_eq]
  rw [show mv x y s = md (x, y, s) from rfl]
  have hc : sm 100 (x, y, s) := ⟨h1, h2⟩
  generalize (x, y, s) = c at hc
  refine F_number_ev W5 fun t S6 ht W6 K6 => ?_
  try simp only [aRet, aRetN, aSeq, aNext, aDrop, aSetS, aAsg, aGName, gtup, gcons, gnil, aGSub, aPar, aPar3, aIf, aB, bOf_b, aAnd, aOr, aNot, aAndV, aOrV, aNotV, aChain, aBin, aUn, aCall, aCons, aNil, aTup, aLst, aLstM, aC, aIsN, aNotN, isN_n, isN_i, isN_t, isN_s, isN_l, isN_b, aSl, aNoPart, aPart, iOf_i, aFor, aItems, aRange1, aRange2, ev_methL, aYes, v0, v1, v2, v3, v4, v5, v6, v7, v8, v9, v10, v11, v12, v13, add_ii, add_ss, add_tt, add_ll, sub_ii, mul_ii, div_ii, mod_ii, pow_6, pow_18, pow_30, neg_i, lt_ii, le_ii, gt_ii, ge_ii, eq_ii, ne_ii, eq_ss, ne_ss, eq_tyty, ne_tyty, ix_t0, ix_t1, ix_t2, ix_l0, ix_l1, ix_l2, len_t, len_l, len_f, int_i, abs_i, max_ii, min_ii, divmod_ii, tuple_l, tuple_t, list_l, list_t, type_i, type_t, type_s, items_l, items_t, items_f, items_s, sl_l, sl_f, sl_t, ev_bind, ev_ok, ev_sel, ev_guard, bind_ok, List.map_cons, List.map_nil, List.length_cons, List.length_nil, List.cons_append, List.nil_append, List.set_cons_zero, List.set_cons_succ, List.replicate_succ, List.replicate_zero, Nat.reduceAdd, Nat.reduceSub, br_true, br_false, decide_true, decide_false, Bool.not_true, Bool.not_false, Bool.and_self, Bool.and_true, Bool.true_and, true_and, and_true, small_0, small_1, small_2, small_3, small_4, small_5, small_6, small_7, small_8, mulOk_0, mulOk_1, mulOk_2, mulOk_r0, mulOk_r1, mulOk_r2, k1_eq, k12_eq, k21_eq]
  have hc2 := sm_le (k := 201) hc (by decide)
  refine md_then (mulOk_sm hb hc (by decide)) ?_
  try simp only [aRet, aRetN, aSeq, aNext, aDrop, aSetS, aAsg, aGName, gtup, gcons, gnil, aGSub, aPar, aPar3, aIf, aB, bOf_b, aAnd, aOr, aNot, aAndV, aOrV, aNotV, aChain, aBin, aUn, aCall, aCons, aNil, aTup, aLst, aLstM, aC, aIsN, aNotN, isN_n, isN_i, isN_t, isN_s, isN_l, isN_b, aSl, aNoPart, aPart, iOf_i, aFor, aItems, aRange1, aRange2, ev_methL, aYes, v0, v1, v2, v3, v4, v5, v6, v7, v8, v9, v10, v11, v12, v13, add_ii, add_ss, add_tt, add_ll, sub_ii, mul_ii, div_ii, mod_ii, pow_6, pow_18, pow_30, neg_i, lt_ii, le_ii, gt_ii, ge_ii, eq_ii, ne_ii, eq_ss, ne_ss, eq_tyty, ne_tyty, ix_t0, ix_t1, ix_t2, ix_l0, ix_l1, ix_l2, len_t, len_l, len_f, int_i, abs_i, max_ii, min_ii, divmod_ii, tuple_l, tuple_t, list_l, list_t, type_i, type_t, type_s, items_l, items_t, items_f, items_s, sl_l, sl_f, sl_t, ev_bind, ev_ok, ev_sel, ev_guard, bind_ok, List.map_cons, List.map_nil, List.length_cons, List.length_nil, List.cons_append, List.nil_append, List.set_cons_zero, List.set_cons_succ, List.replicate_succ, List.replicate_zero, Nat.reduceAdd, Nat.reduceSub, br_true, br_false, decide_true, decide_false, Bool.not_true, Bool.not_false, Bool.and_self, Bool.and_true, Bool.true_and, true_and, and_true, small_0, small_1, small_2, small_3, small_4, small_5, small_6, small_7, small_8, mulOk_0, mulOk_1, mulOk_2, mulOk_r0, mulOk_r1, mulOk_r2, k1_eq, k12_eq, k21_eq]
  refine F_gap_ev (mulOk_sm ha (sm_jn hb hc2) (by decide)) (mulOk_of ha.2 (sm_jn hb hc2).1 (by decide)) ?_
  try simp only [aRet, aRetN, aSeq, aNext, aDrop, aSetS, aAsg, aGName, gtup, gcons, gnil, aGSub, aPar, aPar3, aIf, aB, bOf_b, aAnd, aOr, aNot, aAndV, aOrV, aNotV, aChain, aBin, aUn, aCall, aCons, aNil, aTup, aLst, aLstM, aC, aIsN, aNotN, isN_n, isN_i, isN_t, isN_s, isN_l, isN_b, aSl, aNoPart, aPart, iOf_i, aFor, aItems, aRange1, aRange2, ev_methL, aYes, v0, v1, v2, v3, v4, v5, v6, v7, v8, v9, v10, v11, v12, v13, add_ii, add_ss, add_tt, add_ll, sub_ii, mul_ii, div_ii, mod_ii, pow_6, pow_18, pow_30, neg_i, lt_ii, le_ii, gt_ii, ge_ii, eq_ii, ne_ii, eq_ss, ne_ss, eq_tyty, ne_tyty, ix_t0, ix_t1, ix_t2, ix_l0, ix_l1, ix_l2, len_t, len_l, len_f, int_i, abs_i, max_ii, min_ii, divmod_ii, tuple_l, tuple_t, list_l, list_t, type_i, type_t, type_s, items_l, items_t, items_f, items_s, sl_l, sl_f, sl_t, ev_bind, ev_ok, ev_sel, ev_guard, bind_ok, List.map_cons, List.map_nil, List.length_cons, List.length_nil, List.cons_append, List.nil_append, List.set_cons_zero, List.set_cons_succ, List.replicate_succ, List.replicate_zero, Nat.reduceAdd, Nat.reduceSub, br_true, br_false, decide_true, decide_false, Bool.not_true, Bool.not_false, Bool.and_self, Bool.and_true, Bool.true_and, true_and, and_true, small_0, small_1, small_2, small_3, small_4, small_5, small_6, small_7, small_8, mulOk_0, mulOk_1, mulOk_2, mulOk_r0, mulOk_r1, mulOk_r2, k1_eq, k12_eq, k21_eq]
  refine F_gap_ev (mulOk_sm ha hc (by decide)) (mulOk_of ha.2 hc.1 (by decide)) ?_
  try simp only [aRet, aRetN, aSeq, aNext, aDrop, aSetS, aAsg, aGName, gtup, gcons, gnil, aGSub, aPar, aPar3, aIf, aB, bOf_b, aAnd, aOr, aNot, aAndV, aOrV, aNotV, aChain, aBin, aUn, aCall, aCons, aNil, aTup, aLst, aLstM, aC, aIsN, aNotN, isN_n, isN_i, isN_t, isN_s, isN_l, isN_b, aSl, aNoPart, aPart, iOf_i, aFor, aItems, aRange1, aRange2, ev_methL, aYes, v0, v1, v2, v3, v4, v5, v6, v7, v8, v9, v10, v11, v12, v13, add_ii, add_ss, add_tt, add_ll, sub_ii, mul_ii, div_ii, mod_ii, pow_6, pow_18, pow_30, neg_i, lt_ii, le_ii, gt_ii, ge_ii, eq_ii, ne_ii, eq_ss, ne_ss, eq_tyty, ne_tyty, ix_t0, ix_t1, ix_t2, ix_l0, ix_l1, ix_l2, len_t, len_l, len_f, int_i, abs_i, max_ii, min_ii, divmod_ii, tuple_l, tuple_t, list_l, list_t, type_i, type_t, type_s, items_l, items_t, items_f, items_s, sl_l, sl_f, sl_t, ev_bind, ev_ok, ev_sel, ev_guard, bind_ok, List.map_cons, List.map_nil, List.length_cons, List.length_nil, List.cons_append, List.nil_append, List.set_cons_zero, List.set_cons_succ, List.replicate_succ, List.replicate_zero, Nat.reduceAdd, Nat.reduceSub, br_true, br_false, decide_true, decide_false, Bool.not_true, Bool.not_false, Bool.and_self, Bool.and_true, Bool.true_and, true_and, and_true, small_0, small_1, small_2, small_3, small_4, small_5, small_6, small_7, small_8, mulOk_0, mulOk_1, mulOk_2, mulOk_r0, mulOk_r1, mulOk_r2, k1_eq, k12_eq, k21_eq]
  rw [show gp a (jn b c) = due + gp a c by rw [← hd]; simp only [gp, jn]; grind]
  simp only [aRet, aRetN, aSeq, aNext, aDrop, aSetS, aAsg, aGName, gtup, gcons, gnil, aGSub, aPar, aPar3, aIf, aB, bOf_b, aAnd, aOr, aNot, aAndV, aOrV, aNotV, aChain, aBin, aUn, aCall, aCons, aNil, aTup, aLst, aLstM, aC, aIsN, aNotN, isN_n, isN_i, isN_t, isN_s, isN_l, isN_b, aSl, aNoPart, aPart, iOf_i, aFor, aItems, aRange1, aRange2, ev_methL, aYes, v0, v1, v2, v3, v4, v5, v6, v7, v8, v9, v10, v11, v12, v13, add_ii, add_ss, add_tt, add_ll, sub_ii, mul_ii, div_ii, mod_ii, pow_6, pow_18, pow_30, neg_i, lt_ii, le_ii, gt_ii, ge_ii, eq_ii, ne_ii, eq_ss, ne_ss, eq_tyty, ne_tyty, ix_t0, ix_t1, ix_t2, ix_l0, ix_l1, ix_l2, len_t, len_l, len_f, int_i, abs_i, max_ii, min_ii, divmod_ii, tuple_l, tuple_t, list_l, list_t, type_i, type_t, type_s, items_l, items_t, items_f, items_s, sl_l, sl_f, sl_t, ev_bind, ev_ok, ev_sel, ev_guard, bind_ok, List.map_cons, List.map_nil, List.length_cons, List.length_nil, List.cons_append, List.nil_append, List.set_cons_zero, List.set_cons_succ, List.replicate_succ, List.replicate_zero, Nat.reduceAdd, Nat.reduceSub, br_true, br_false, decide_true, decide_false, Bool.not_true, Bool.not_false, Bool.and_self, Bool.and_true, Bool.true_and, true_and, and_true, small_0, small_1, small_2, small_3, small_4, small_5, small_6, small_7, small_8, mulOk_0, mulOk_1, mulOk_2, mulOk_r0, mulOk_r1, mulOk_r2, k1_eq, k12_eq, k21_eq, beq_self_eq_true, Bool.not_true]
  refine F_often_ev (n := 201) (by decide) (by decide) (Z.bd_le ht (by decide)) hb (Z.bd_le hb3 (by decide)) ?_
  try simp only [aRet, aRetN, aSeq, aNext, aDrop, aSetS, aAsg, aGName, gtup, gcons, gnil, aGSub, aPar, aPar3, aIf, aB, bOf_b, aAnd, aOr, aNot, aAndV, aOrV, aNotV, aChain, aBin, aUn, aCall, aCons, aNil, aTup, aLst, aLstM, aC, aIsN, aNotN, isN_n, isN_i, isN_t, isN_s, isN_l, isN_b, aSl, aNoPart, aPart, iOf_i, aFor, aItems, aRange1, aRange2, ev_methL, aYes, v0, v1, v2, v3, v4, v5, v6, v7, v8, v9, v10, v11, v12, v13, add_ii, add_ss, add_tt, add_ll, sub_ii, mul_ii, div_ii, mod_ii, pow_6, pow_18, pow_30, neg_i, lt_ii, le_ii, gt_ii, ge_ii, eq_ii, ne_ii, eq_ss, ne_ss, eq_tyty, ne_tyty, ix_t0, ix_t1, ix_t2, ix_l0, ix_l1, ix_l2, len_t, len_l, len_f, int_i, abs_i, max_ii, min_ii, divmod_ii, tuple_l, tuple_t, list_l, list_t, type_i, type_t, type_s, items_l, items_t, items_f, items_s, sl_l, sl_f, sl_t, ev_bind, ev_ok, ev_sel, ev_guard, bind_ok, List.map_cons, List.map_nil, List.length_cons, List.length_nil, List.cons_append, List.nil_append, List.set_cons_zero, List.set_cons_succ, List.replicate_succ, List.replicate_zero, Nat.reduceAdd, Nat.reduceSub, br_true, br_false, decide_true, decide_false, Bool.not_true, Bool.not_false, Bool.and_self, Bool.and_true, Bool.true_and, true_and, and_true, small_0, small_1, small_2, small_3, small_4, small_5, small_6, small_7, small_8, mulOk_0, mulOk_1, mulOk_2, mulOk_r0, mulOk_r1, mulOk_r2, k1_eq, k12_eq, k21_eq]
  have r1 : Z.bd 301 (rp b t).1 := Z.bd_le (Z.bd_mulN ht hb.1) (by decide)
  have r2 : Z.bd 301 (rp b t).2.1 := Z.bd_le (Z.bd_mulN ht hb.2) (by decide)
  refine F_gap_ev (mulOk_of ha.1 r2 (by decide)) (mulOk_of ha.2 r1 (by decide)) ?_
  try simp only [aRet, aRetN, aSeq, aNext, aDrop, aSetS, aAsg, aGName, gtup, gcons, gnil, aGSub, aPar, aPar3, aIf, aB, bOf_b, aAnd, aOr, aNot, aAndV, aOrV, aNotV, aChain, aBin, aUn, aCall, aCons, aNil, aTup, aLst, aLstM, aC, aIsN, aNotN, isN_n, isN_i, isN_t, isN_s, isN_l, isN_b, aSl, aNoPart, aPart, iOf_i, aFor, aItems, aRange1, aRange2, ev_methL, aYes, v0, v1, v2, v3, v4, v5, v6, v7, v8, v9, v10, v11, v12, v13, add_ii, add_ss, add_tt, add_ll, sub_ii, mul_ii, div_ii, mod_ii, pow_6, pow_18, pow_30, neg_i, lt_ii, le_ii, gt_ii, ge_ii, eq_ii, ne_ii, eq_ss, ne_ss, eq_tyty, ne_tyty, ix_t0, ix_t1, ix_t2, ix_l0, ix_l1, ix_l2, len_t, len_l, len_f, int_i, abs_i, max_ii, min_ii, divmod_ii, tuple_l, tuple_t, list_l, list_t, type_i, type_t, type_s, items_l, items_t, items_f, items_s, sl_l, sl_f, sl_t, ev_bind, ev_ok, ev_sel, ev_guard, bind_ok, List.map_cons, List.map_nil, List.length_cons, List.length_nil, List.cons_append, List.nil_append, List.set_cons_zero, List.set_cons_succ, List.replicate_succ, List.replicate_zero, Nat.reduceAdd, Nat.reduceSub, br_true, br_false, decide_true, decide_false, Bool.not_true, Bool.not_false, Bool.and_self, Bool.and_true, Bool.true_and, true_and, and_true, small_0, small_1, small_2, small_3, small_4, small_5, small_6, small_7, small_8, mulOk_0, mulOk_1, mulOk_2, mulOk_r0, mulOk_r1, mulOk_r2, k1_eq, k12_eq, k21_eq]
  have hb4 : Z.bd 302 due := by
    rw [← hd]
    exact Z.bd_le (Z.bd_sub (Z.bd_mulN ha.1 hb.2) (Z.bd_mulN ha.2 hb.1)) (by decide)
  rw [show gp a (rp b t) = t * due by rw [← hd]; simp only [gp, rp]; grind]
  simp only [mulOk_of ht hb4 (show 100 + 302 + 2 ≤ 1000000 by decide), if_true, aRet, aRetN, aSeq, aNext, aDrop, aSetS, aAsg, aGName, gtup, gcons, gnil, aGSub, aPar, aPar3, aIf, aB, bOf_b, aAnd, aOr, aNot, aAndV, aOrV, aNotV, aChain, aBin, aUn, aCall, aCons, aNil, aTup, aLst, aLstM, aC, aIsN, aNotN, isN_n, isN_i, isN_t, isN_s, isN_l, isN_b, aSl, aNoPart, aPart, iOf_i, aFor, aItems, aRange1, aRange2, ev_methL, aYes, v0, v1, v2, v3, v4, v5, v6, v7, v8, v9, v10, v11, v12, v13, add_ii, add_ss, add_tt, add_ll, sub_ii, mul_ii, div_ii, mod_ii, pow_6, pow_18, pow_30, neg_i, lt_ii, le_ii, gt_ii, ge_ii, eq_ii, ne_ii, eq_ss, ne_ss, eq_tyty, ne_tyty, ix_t0, ix_t1, ix_t2, ix_l0, ix_l1, ix_l2, len_t, len_l, len_f, int_i, abs_i, max_ii, min_ii, divmod_ii, tuple_l, tuple_t, list_l, list_t, type_i, type_t, type_s, items_l, items_t, items_f, items_s, sl_l, sl_f, sl_t, ev_bind, ev_ok, ev_sel, ev_guard, bind_ok, List.map_cons, List.map_nil, List.length_cons, List.length_nil, List.cons_append, List.nil_append, List.set_cons_zero, List.set_cons_succ, List.replicate_succ, List.replicate_zero, Nat.reduceAdd, Nat.reduceSub, br_true, br_false, decide_true, decide_false, Bool.not_true, Bool.not_false, Bool.and_self, Bool.and_true, Bool.true_and, true_and, and_true, small_0, small_1, small_2, small_3, small_4, small_5, small_6, small_7, small_8, mulOk_0, mulOk_1, mulOk_2, mulOk_r0, mulOk_r1, mulOk_r2, k1_eq, k12_eq, k21_eq, beq_self_eq_true, Bool.not_true, true_and]
  by_cases hw : 1 < w
  · rw [decide_eq_true hw, br_true]
    trivial
  · rw [decide_eq_false hw, br_false, hg (by omega)]
    rfl
theorem law_true : LawTrue F_law := law_true_of (by decide) (by decide) F_right_ev
end My

namespace My
open PySem L2 E CM
theorem all_mk {l : PySem.W.OpenLaw} {w : World} {K : PySem.W.Frag} {h : Heap} {mg : Str → Option Value} {fa : Addr} (X : K.In h) (G : h.Ns mainGlobals mg) (hfa : mg "law" = some (.ref fa))
    {f0 : Addr} {od0 an0 : Option Addr} {sl0 : Array (Option Value)} {oc0 kV0 dc0 pm0 cd0 ct0 : Value}
    (a0 : PySem.W.nsIn K mainGlobals "is_integer" = some (some (.ref f0))) (l0 : K.lookup f0 = some ⟨oc0, od0, .func (PySem.W.fnOf "is_integer" "is_integer" (defArgs s_is_integer) (defBody s_is_integer) (defScope s_is_integer) .none kV0 dc0 pm0 an0 cd0 ct0), sl0⟩) (c0 : PySem.W.codeIn K cd0 "is_integer" = true) (k0 : PySem.W.keepIn K (.ref f0) = true)
    {f1 : Addr} {od1 an1 : Option Addr} {sl1 : Array (Option Value)} {oc1 kV1 dc1 pm1 cd1 ct1 : Value}
    (a1 : PySem.W.nsIn K mainGlobals "is_move" = some (some (.ref f1))) (l1 : K.lookup f1 = some ⟨oc1, od1, .func (PySem.W.fnOf "is_move" "is_move" (defArgs s_is_move) (defBody s_is_move) (defScope s_is_move) .none kV1 dc1 pm1 an1 cd1 ct1), sl1⟩) (c1 : PySem.W.codeIn K cd1 "is_move" = true) (k1 : PySem.W.keepIn K (.ref f1) = true)
    {f2 : Addr} {od2 an2 : Option Addr} {sl2 : Array (Option Value)} {oc2 kV2 dc2 pm2 cd2 ct2 : Value}
    (a2 : PySem.W.nsIn K mainGlobals "need_move" = some (some (.ref f2))) (l2 : K.lookup f2 = some ⟨oc2, od2, .func (PySem.W.fnOf "need_move" "need_move" (defArgs s_need_move) (defBody s_need_move) (defScope s_need_move) .none kV2 dc2 pm2 an2 cd2 ct2), sl2⟩) (c2 : PySem.W.codeIn K cd2 "need_move" = true) (k2 : PySem.W.keepIn K (.ref f2) = true)
    {f3 : Addr} {od3 an3 : Option Addr} {sl3 : Array (Option Value)} {oc3 kV3 dc3 pm3 cd3 ct3 : Value}
    (a3 : PySem.W.nsIn K mainGlobals "need_integer" = some (some (.ref f3))) (l3 : K.lookup f3 = some ⟨oc3, od3, .func (PySem.W.fnOf "need_integer" "need_integer" (defArgs s_need_integer) (defBody s_need_integer) (defScope s_need_integer) .none kV3 dc3 pm3 an3 cd3 ct3), sl3⟩) (c3 : PySem.W.codeIn K cd3 "need_integer" = true) (k3 : PySem.W.keepIn K (.ref f3) = true)
    {f4 : Addr} {od4 an4 : Option Addr} {sl4 : Array (Option Value)} {oc4 kV4 dc4 pm4 cd4 ct4 : Value}
    (a4 : PySem.W.nsIn K mainGlobals "joined" = some (some (.ref f4))) (l4 : K.lookup f4 = some ⟨oc4, od4, .func (PySem.W.fnOf "joined" "joined" (defArgs s_joined) (defBody s_joined) (defScope s_joined) .none kV4 dc4 pm4 an4 cd4 ct4), sl4⟩) (c4 : PySem.W.codeIn K cd4 "joined" = true) (k4 : PySem.W.keepIn K (.ref f4) = true)
    {f5 : Addr} {od5 an5 : Option Addr} {sl5 : Array (Option Value)} {oc5 kV5 dc5 pm5 cd5 ct5 : Value}
    (a5 : PySem.W.nsIn K mainGlobals "repeated" = some (some (.ref f5))) (l5 : K.lookup f5 = some ⟨oc5, od5, .func (PySem.W.fnOf "repeated" "repeated" (defArgs s_repeated) (defBody s_repeated) (defScope s_repeated) .none kV5 dc5 pm5 an5 cd5 ct5), sl5⟩) (c5 : PySem.W.codeIn K cd5 "repeated" = true) (k5 : PySem.W.keepIn K (.ref f5) = true)
    {f6 : Addr} {od6 an6 : Option Addr} {sl6 : Array (Option Value)} {oc6 kV6 dc6 pm6 cd6 ct6 : Value}
    (a6 : PySem.W.nsIn K mainGlobals "then" = some (some (.ref f6))) (l6 : K.lookup f6 = some ⟨oc6, od6, .func (PySem.W.fnOf "then" "then" (defArgs s_then) (defBody s_then) (defScope s_then) .none kV6 dc6 pm6 an6 cd6 ct6), sl6⟩) (c6 : PySem.W.codeIn K cd6 "then" = true) (k6 : PySem.W.keepIn K (.ref f6) = true)
    {f7 : Addr} {od7 an7 : Option Addr} {sl7 : Array (Option Value)} {oc7 kV7 dc7 pm7 cd7 ct7 : Value}
    (a7 : PySem.W.nsIn K mainGlobals "undone" = some (some (.ref f7))) (l7 : K.lookup f7 = some ⟨oc7, od7, .func (PySem.W.fnOf "undone" "undone" (defArgs s_undone) (defBody s_undone) (defScope s_undone) .none kV7 dc7 pm7 an7 cd7 ct7), sl7⟩) (c7 : PySem.W.codeIn K cd7 "undone" = true) (k7 : PySem.W.keepIn K (.ref f7) = true)
    {f8 : Addr} {od8 an8 : Option Addr} {sl8 : Array (Option Value)} {oc8 kV8 dc8 pm8 cd8 ct8 : Value}
    (a8 : PySem.W.nsIn K mainGlobals "often" = some (some (.ref f8))) (l8 : K.lookup f8 = some ⟨oc8, od8, .func (PySem.W.fnOf "often" "often" (defArgs s_often) (defBody s_often) (defScope s_often) .none kV8 dc8 pm8 an8 cd8 ct8), sl8⟩) (c8 : PySem.W.codeIn K cd8 "often" = true) (k8 : PySem.W.keepIn K (.ref f8) = true)
    {f9 : Addr} {od9 an9 : Option Addr} {sl9 : Array (Option Value)} {oc9 kV9 dc9 pm9 cd9 ct9 : Value}
    (a9 : PySem.W.nsIn K mainGlobals "gap" = some (some (.ref f9))) (l9 : K.lookup f9 = some ⟨oc9, od9, .func (PySem.W.fnOf "gap" "gap" (defArgs s_gap) (defBody s_gap) (defScope s_gap) .none kV9 dc9 pm9 an9 cd9 ct9), sl9⟩) (c9 : PySem.W.codeIn K cd9 "gap" = true) (k9 : PySem.W.keepIn K (.ref f9) = true)
    {f10 : Addr} {od10 an10 : Option Addr} {sl10 : Array (Option Value)} {oc10 kV10 dc10 pm10 cd10 ct10 : Value}
    (a10 : PySem.W.nsIn K mainGlobals "commute" = some (some (.ref f10))) (l10 : K.lookup f10 = some ⟨oc10, od10, .func (PySem.W.fnOf "commute" "commute" (defArgs s_commute) (defBody s_commute) (defScope s_commute) .none kV10 dc10 pm10 an10 cd10 ct10), sl10⟩) (c10 : PySem.W.codeIn K cd10 "commute" = true) (k10 : PySem.W.keepIn K (.ref f10) = true)
    {f11 : Addr} {od11 an11 : Option Addr} {sl11 : Array (Option Value)} {oc11 kV11 dc11 pm11 cd11 ct11 : Value}
    (a11 : PySem.W.nsIn K mainGlobals "_law_well" = some (some (.ref f11))) (l11 : K.lookup f11 = some ⟨oc11, od11, .func (PySem.W.fnOf "_law_well" "_law_well" (defArgs s_well) (defBody s_well) (defScope s_well) .none kV11 dc11 pm11 an11 cd11 ct11), sl11⟩) (c11 : PySem.W.codeIn K cd11 "_law_well" = true) (k11 : PySem.W.keepIn K (.ref f11) = true)
    {f12 : Addr} {od12 an12 : Option Addr} {sl12 : Array (Option Value)} {oc12 kV12 dc12 pm12 cd12 ct12 : Value}
    (a12 : PySem.W.nsIn K mainGlobals "_law_dip" = some (some (.ref f12))) (l12 : K.lookup f12 = some ⟨oc12, od12, .func (PySem.W.fnOf "_law_dip" "_law_dip" (defArgs s_dip) (defBody s_dip) (defScope s_dip) .none kV12 dc12 pm12 an12 cd12 ct12), sl12⟩) (c12 : PySem.W.codeIn K cd12 "_law_dip" = true) (k12 : PySem.W.keepIn K (.ref f12) = true)
    {f13 : Addr} {od13 an13 : Option Addr} {sl13 : Array (Option Value)} {oc13 kV13 dc13 pm13 cd13 ct13 : Value}
    (a13 : PySem.W.nsIn K mainGlobals "_law_number" = some (some (.ref f13))) (l13 : K.lookup f13 = some ⟨oc13, od13, .func (PySem.W.fnOf "_law_number" "_law_number" (defArgs s_number) (defBody s_number) (defScope s_number) .none kV13 dc13 pm13 an13 cd13 ct13), sl13⟩) (c13 : PySem.W.codeIn K cd13 "_law_number" = true) (k13 : PySem.W.keepIn K (.ref f13) = true)
    {f14 : Addr} {od14 an14 : Option Addr} {sl14 : Array (Option Value)} {oc14 kV14 dc14 pm14 cd14 ct14 : Value}
    (a14 : PySem.W.nsIn K mainGlobals "_law_drawn" = some (some (.ref f14))) (l14 : K.lookup f14 = some ⟨oc14, od14, .func (PySem.W.fnOf "_law_drawn" "_law_drawn" (defArgs s_drawn) (defBody s_drawn) (defScope s_drawn) .none kV14 dc14 pm14 an14 cd14 ct14), sl14⟩) (c14 : PySem.W.codeIn K cd14 "_law_drawn" = true) (k14 : PySem.W.keepIn K (.ref f14) = true)
    {f15 : Addr} {od15 an15 : Option Addr} {sl15 : Array (Option Value)} {oc15 kV15 dc15 pm15 cd15 ct15 : Value}
    (a15 : PySem.W.nsIn K mainGlobals "_law_join" = some (some (.ref f15))) (l15 : K.lookup f15 = some ⟨oc15, od15, .func (PySem.W.fnOf "_law_join" "_law_join" (defArgs s_join) (defBody s_join) (defScope s_join) .none kV15 dc15 pm15 an15 cd15 ct15), sl15⟩) (c15 : PySem.W.codeIn K cd15 "_law_join" = true) (k15 : PySem.W.keepIn K (.ref f15) = true)
    {f16 : Addr} {od16 an16 : Option Addr} {sl16 : Array (Option Value)} {oc16 kV16 dc16 pm16 cd16 ct16 : Value}
    (a16 : PySem.W.nsIn K mainGlobals "_law_right" = some (some (.ref f16))) (l16 : K.lookup f16 = some ⟨oc16, od16, .func (PySem.W.fnOf "_law_right" "_law_right" (defArgs s_right) (defBody s_right) (defScope s_right) .none kV16 dc16 pm16 an16 cd16 ct16), sl16⟩) (c16 : PySem.W.codeIn K cd16 "_law_right" = true) (k16 : PySem.W.keepIn K (.ref f16) = true)
    {f17 : Addr} {od17 an17 : Option Addr} {sl17 : Array (Option Value)} {oc17 kV17 dc17 pm17 cd17 ct17 : Value}
    (a17 : PySem.W.nsIn K mainGlobals "law" = some (some (.ref f17))) (l17 : K.lookup f17 = some ⟨oc17, od17, .func (PySem.W.fnOf "law" "law" (defArgs s_law) (defBody s_law) (defScope s_law) .none kV17 dc17 pm17 an17 cd17 ct17), sl17⟩) (c17 : PySem.W.codeIn K cd17 "law" = true) (k17 : PySem.W.keepIn K (.ref f17) = true)
    (z_abs : PySem.W.nsIn K mainGlobals "abs" = some none)
    (z_all : PySem.W.nsIn K mainGlobals "all" = some none)
    (z_divmod : PySem.W.nsIn K mainGlobals "divmod" = some none)
    (z_int : PySem.W.nsIn K mainGlobals "int" = some none)
    (z_len : PySem.W.nsIn K mainGlobals "len" = some none)
    (z_max : PySem.W.nsIn K mainGlobals "max" = some none)
    (z_min : PySem.W.nsIn K mainGlobals "min" = some none)
    (z_range : PySem.W.nsIn K mainGlobals "range" = some none)
    (z_repr : PySem.W.nsIn K mainGlobals "repr" = some none)
    (z_tuple : PySem.W.nsIn K mainGlobals "tuple" = some none)
    (z_type : PySem.W.nsIn K mainGlobals "type" = some none)
    : ∃ fd : FuncData, (∀ (s : Shared) (v : Value), BindsTo s fd ⟨[v], []⟩ [("cells", v)]) ∧ ∀ base : Heap, K.In base → base.Ns mainGlobals mg → Z.GOk l.prog w K mg base 7 fa fd ["cells"] (spLaw K) := by
  have e := hfa.symm.trans (PySem.W.mg_of X G a17)
  cases e
  have F0 := fun_mk (st := s_is_integer) l0 c0 k0
  have D0 : Z.Def K mg "is_integer" s_is_integer ["value"] _ _ := ⟨PySem.W.mg_of X G a0, F0, F0.binds (ps := ["value"]) fun _ _ _ _ _ _ us hl => match us, hl with | [_], _ => rfl⟩
  have F1 := fun_mk (st := s_is_move) l1 c1 k1
  have D1 : Z.Def K mg "is_move" s_is_move ["value"] _ _ := ⟨PySem.W.mg_of X G a1, F1, F1.binds (ps := ["value"]) fun _ _ _ _ _ _ us hl => match us, hl with | [_], _ => rfl⟩
  have F2 := fun_mk (st := s_need_move) l2 c2 k2
  have D2 : Z.Def K mg "need_move" s_need_move ["value"] _ _ := ⟨PySem.W.mg_of X G a2, F2, F2.binds (ps := ["value"]) fun _ _ _ _ _ _ us hl => match us, hl with | [_], _ => rfl⟩
  have F3 := fun_mk (st := s_need_integer) l3 c3 k3
  have D3 : Z.Def K mg "need_integer" s_need_integer ["value"] _ _ := ⟨PySem.W.mg_of X G a3, F3, F3.binds (ps := ["value"]) fun _ _ _ _ _ _ us hl => match us, hl with | [_], _ => rfl⟩
  have F4 := fun_mk (st := s_joined) l4 c4 k4
  have D4 : Z.Def K mg "joined" s_joined ["move", "second"] _ _ := ⟨PySem.W.mg_of X G a4, F4, F4.binds (ps := ["move", "second"]) fun _ _ _ _ _ _ us hl => match us, hl with | [_, _], _ => rfl⟩
  have F5 := fun_mk (st := s_repeated) l5 c5 k5
  have D5 : Z.Def K mg "repeated" s_repeated ["move", "times"] _ _ := ⟨PySem.W.mg_of X G a5, F5, F5.binds (ps := ["move", "times"]) fun _ _ _ _ _ _ us hl => match us, hl with | [_, _], _ => rfl⟩
  have F6 := fun_mk (st := s_then) l6 c6 k6
  have D6 : Z.Def K mg "then" s_then ["move", "second"] _ _ := ⟨PySem.W.mg_of X G a6, F6, F6.binds (ps := ["move", "second"]) fun _ _ _ _ _ _ us hl => match us, hl with | [_, _], _ => rfl⟩
  have F7 := fun_mk (st := s_undone) l7 c7 k7
  have D7 : Z.Def K mg "undone" s_undone ["move"] _ _ := ⟨PySem.W.mg_of X G a7, F7, F7.binds (ps := ["move"]) fun _ _ _ _ _ _ us hl => match us, hl with | [_], _ => rfl⟩
  have F8 := fun_mk (st := s_often) l8 c8 k8
  have D8 : Z.Def K mg "often" s_often ["move", "times"] _ _ := ⟨PySem.W.mg_of X G a8, F8, F8.binds (ps := ["move", "times"]) fun _ _ _ _ _ _ us hl => match us, hl with | [_, _], _ => rfl⟩
  have F9 := fun_mk (st := s_gap) l9 c9 k9
  have D9 : Z.Def K mg "gap" s_gap ["move", "second"] _ _ := ⟨PySem.W.mg_of X G a9, F9, F9.binds (ps := ["move", "second"]) fun _ _ _ _ _ _ us hl => match us, hl with | [_, _], _ => rfl⟩
  have F10 := fun_mk (st := s_commute) l10 c10 k10
  have D10 : Z.Def K mg "commute" s_commute ["move", "second"] _ _ := ⟨PySem.W.mg_of X G a10, F10, F10.binds (ps := ["move", "second"]) fun _ _ _ _ _ _ us hl => match us, hl with | [_, _], _ => rfl⟩
  have F11 := fun_mk (st := s_well) l11 c11 k11
  have D11 : Z.Def K mg "_law_well" s_well ["cells", "turn"] _ _ := ⟨PySem.W.mg_of X G a11, F11, F11.binds (ps := ["cells", "turn"]) fun _ _ _ _ _ _ us hl => match us, hl with | [_, _], _ => rfl⟩
  have F12 := fun_mk (st := s_dip) l12 c12 k12
  have D12 : Z.Def K mg "_law_dip" s_dip ["well", "sides"] _ _ := ⟨PySem.W.mg_of X G a12, F12, F12.binds (ps := ["well", "sides"]) fun _ _ _ _ _ _ us hl => match us, hl with | [_, _], _ => rfl⟩
  have F13 := fun_mk (st := s_number) l13 c13 k13
  have D13 : Z.Def K mg "_law_number" s_number ["well"] _ _ := ⟨PySem.W.mg_of X G a13, F13, F13.binds (ps := ["well"]) fun _ _ _ _ _ _ us hl => match us, hl with | [_], _ => rfl⟩
  have F14 := fun_mk (st := s_drawn) l14 c14 k14
  have D14 : Z.Def K mg "_law_drawn" s_drawn ["well"] _ _ := ⟨PySem.W.mg_of X G a14, F14, F14.binds (ps := ["well"]) fun _ _ _ _ _ _ us hl => match us, hl with | [_], _ => rfl⟩
  have F15 := fun_mk (st := s_join) l15 c15 k15
  have D15 : Z.Def K mg "_law_join" s_join ["one", "two"] _ _ := ⟨PySem.W.mg_of X G a15, F15, F15.binds (ps := ["one", "two"]) fun _ _ _ _ _ _ us hl => match us, hl with | [_, _], _ => rfl⟩
  have F16 := fun_mk (st := s_right) l16 c16 k16
  have D16 : Z.Def K mg "_law_right" s_right ["well"] _ _ := ⟨PySem.W.mg_of X G a16, F16, F16.binds (ps := ["well"]) fun _ _ _ _ _ _ us hl => match us, hl with | [_], _ => rfl⟩
  have F17 := fun_mk (st := s_law) l17 c17 k17
  have D17 : Z.Def K mg "law" s_law ["cells"] _ _ := ⟨PySem.W.mg_of X G a17, F17, F17.binds (ps := ["cells"]) fun _ _ _ _ _ _ us hl => match us, hl with | [_], _ => rfl⟩
  have T : Txt K mg := ⟨⟨_, _, D0⟩, ⟨_, _, D1⟩, ⟨_, _, D2⟩, ⟨_, _, D3⟩, ⟨_, _, D4⟩, ⟨_, _, D5⟩, ⟨_, _, D6⟩, ⟨_, _, D7⟩, ⟨_, _, D8⟩, ⟨_, _, D9⟩, ⟨_, _, D10⟩, ⟨_, _, D11⟩, ⟨_, _, D12⟩, ⟨_, _, D13⟩, ⟨_, _, D14⟩, ⟨_, _, D15⟩, ⟨_, _, D16⟩, ⟨_, _, D17⟩, PySem.W.mg_none_of X G z_abs, PySem.W.mg_none_of X G z_all, PySem.W.mg_none_of X G z_divmod, PySem.W.mg_none_of X G z_int, PySem.W.mg_none_of X G z_len, PySem.W.mg_none_of X G z_max, PySem.W.mg_none_of X G z_min, PySem.W.mg_none_of X G z_range, PySem.W.mg_none_of X G z_repr, PySem.W.mg_none_of X G z_tuple, PySem.W.mg_none_of X G z_type⟩
  exact ⟨PySem.W.fnOf "law" "law" (defArgs s_law) (defBody s_law) (defScope s_law) .none kV17 dc17 pm17 an17 cd17 ct17, fun s v => .of_eq rfl, fun base _ _ => gok_ofG (ok_law T D17) law_true⟩
theorem walk {l : PySem.W.OpenLaw} {q : Program} {loose : List Str} {XP : (Str → Option Value) → Heap → Prop} {YP : World → Heap → Prop} {d : DefRec} {K : Params → PySem.W.Frag} (hn : l.most = some 63) (hdf : d.params.defaults = [])
    (hY : ∀ (w : World) (h : Heap), YP w h → (K w.params).In h)
    (F : ∀ (w : World) (mg : Str → Option Value) (fa : Addr) (h : Heap), (K w.params).In h → h.Ns mainGlobals mg → mg d.name = some (.ref fa) →
      ∃ fd : FuncData, (∀ (s : Shared) (u : Value), BindsTo s fd ⟨[u], []⟩ [("cells", u)]) ∧ ∀ base : Heap, (K w.params).In base → base.Ns mainGlobals mg → Z.GOk l.prog w (K w.params) mg base 7 fa fd ["cells"] (spLaw (K w.params))) :
    PySem.W.WalkO q loose XP YP l.row.toRowW d [] (fun f vs => PySem.call f vs) :=
  Z.walkG (n := 63) (k := 7) (x := "cells") (sp := fun w => spLaw (K w.params)) hn (by decide) hdf ⟨rfl, by decide, by decide⟩ hY F (fun _ _ a ns hl _ hS => ⟨a, ns, rfl, hS, hl, fun _ => rfl⟩)
end My

open PySem PySem.W PyProof.Rows
set_option maxRecDepth 100000 in
set_option maxHeartbeats 0 in
theorem PySem.Challenge.cw_arealots_k04_whole_gaps_and_what_commute_holds : PySem.Challenge.rw_arealots_k04_whole_gaps_and_what_commute.Holds := by
  w_on; o_law; k_head; (case hw => w_witness2)
  k_fill
  refine My.walk (l := PySem.Challenge.rw_arealots_k04_whole_gaps_and_what_commute) rfl rfl (fun w h Y => PySem.W.kIn_of Y) ?F
  case F =>
    intro w mg fa h KX G hmg
    refine' My.all_mk KX G hmg ?a0 ?l0 ?c0 ?k0 ?a1 ?l1 ?c1 ?k1 ?a2 ?l2 ?c2 ?k2 ?a3 ?l3 ?c3 ?k3 ?a4 ?l4 ?c4 ?k4 ?a5 ?l5 ?c5 ?k5 ?a6 ?l6 ?c6 ?k6 ?a7 ?l7 ?c7 ?k7 ?a8 ?l8 ?c8 ?k8 ?a9 ?l9 ?c9 ?k9 ?a10 ?l10 ?c10 ?k10 ?a11 ?l11 ?c11 ?k11 ?a12 ?l12 ?c12 ?k12 ?a13 ?l13 ?c13 ?k13 ?a14 ?l14 ?c14 ?k14 ?a15 ?l15 ?c15 ?k15 ?a16 ?l16 ?c16 ?k16 ?a17 ?l17 ?c17 ?k17 ?z_abs ?z_all ?z_divmod ?z_int ?z_len ?z_max ?z_min ?z_range ?z_repr ?z_tuple ?z_type
    (case a0 => k_is)
    (case l0 => k_is)
    (case c0 => k_is)
    (case k0 => k_is)
    (case a1 => k_is)
    (case l1 => k_is)
    (case c1 => k_is)
    (case k1 => k_is)
    (case a2 => k_is)
    (case l2 => k_is)
    (case c2 => k_is)
    (case k2 => k_is)
    (case a3 => k_is)
    (case l3 => k_is)
    (case c3 => k_is)
    (case k3 => k_is)
    (case a4 => k_is)
    (case l4 => k_is)
    (case c4 => k_is)
    (case k4 => k_is)
    (case a5 => k_is)
    (case l5 => k_is)
    (case c5 => k_is)
    (case k5 => k_is)
    (case a6 => k_is)
    (case l6 => k_is)
    (case c6 => k_is)
    (case k6 => k_is)
    (case a7 => k_is)
    (case l7 => k_is)
    (case c7 => k_is)
    (case k7 => k_is)
    (case a8 => k_is)
    (case l8 => k_is)
    (case c8 => k_is)
    (case k8 => k_is)
    (case a9 => k_is)
    (case l9 => k_is)
    (case c9 => k_is)
    (case k9 => k_is)
    (case a10 => k_is)
    (case l10 => k_is)
    (case c10 => k_is)
    (case k10 => k_is)
    (case a11 => k_is)
    (case l11 => k_is)
    (case c11 => k_is)
    (case k11 => k_is)
    (case a12 => k_is)
    (case l12 => k_is)
    (case c12 => k_is)
    (case k12 => k_is)
    (case a13 => k_is)
    (case l13 => k_is)
    (case c13 => k_is)
    (case k13 => k_is)
    (case a14 => k_is)
    (case l14 => k_is)
    (case c14 => k_is)
    (case k14 => k_is)
    (case a15 => k_is)
    (case l15 => k_is)
    (case c15 => k_is)
    (case k15 => k_is)
    (case a16 => k_is)
    (case l16 => k_is)
    (case c16 => k_is)
    (case k16 => k_is)
    (case a17 => k_is)
    (case l17 => k_is)
    (case c17 => k_is)
    (case k17 => k_is)
    (case z_abs => k_is)
    (case z_all => k_is)
    (case z_divmod => k_is)
    (case z_int => k_is)
    (case z_len => k_is)
    (case z_max => k_is)
    (case z_min => k_is)
    (case z_range => k_is)
    (case z_repr => k_is)
    (case z_tuple => k_is)
    (case z_type => k_is)