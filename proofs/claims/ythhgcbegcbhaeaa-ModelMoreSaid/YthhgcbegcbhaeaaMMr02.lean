/-
  Several texts in one: MdlZ.
-/
import Derived.Test.YthhgcbegcbhaeaaMBh41
import Derived.Test.YthhgcbegcbhaeaaMBh43
set_option linter.unusedVariables false
set_option linter.unusedSimpArgs false
set_option linter.unnecessarySimpa false
namespace Go.Proofs.Ythhgcbegcbhaeaa.Mdl
open Go.RowKit Go.Maps Ins Trc
set_option linter.unusedVariables false
set_option linter.unusedSimpArgs false
set_option linter.unnecessarySimpa false
set_option maxRecDepth 100000

/-- The same state, but so much more fuel, and other answers left. -/
def Pl.sw (D : Pl) (k : Int) (l : List Int) : Pl := { D with fuel := D.fuel + k, ans := l }
theorem sw_self (D : Pl) : D.sw 0 D.ans = D := by
  unfold Pl.sw
  rw [Int.add_zero]
theorem adv_sw (D : Pl) (k : Int) (l : List Int) : (D.sw k l).adv = D.adv.sw k l := by
  unfold Pl.sw Pl.adv
  simp only
  rw [show D.fuel + k - 1 = D.fuel - 1 + k by omega]
theorem exe_call (D : Pl) (kf : Nat → Int) (x : In) (h : x.kind = 5) : D.exe kf x = (match D.ans with | [] => (D, 2) | a :: l => (D.called x.imm a l, 0)) := by
  unfold Pl.exe
  rw [if_neg (by omega), if_neg (by omega), if_neg (by omega), if_neg (by omega), if_neg (by omega), if_pos h]
  cases D.ans <;> rfl
theorem exe_no5 (D : Pl) (kf : Nat → Int) (x : In) (h : ¬ x.kind = 5) : (D.exe kf x).1.ans = D.ans ∧ (D.exe kf x).1.evs = D.evs ∧ (D.exe kf x).2 ≠ 2 := by
  unfold Pl.exe
  by_cases k0 : x.kind = 0
  · rw [if_pos k0]; exact ⟨rfl, rfl, by simp⟩
  rw [if_neg k0]
  by_cases k1 : x.kind = 1
  · rw [if_pos k1]
    split <;> exact ⟨rfl, rfl, by simp⟩
  rw [if_neg k1]
  by_cases k2 : x.kind = 2
  · rw [if_pos k2]
    split <;> exact ⟨rfl, rfl, by simp⟩
  rw [if_neg k2]
  by_cases k3 : x.kind = 3
  · rw [if_pos k3]
    show (if _ then _ else _ : Pl).ans = _ ∧ (if _ then _ else _ : Pl).evs = _ ∧ _
    split <;> exact ⟨rfl, rfl, by simp⟩
  rw [if_neg k3]
  by_cases k4 : x.kind = 4
  · rw [if_pos k4]; exact ⟨rfl, rfl, by simp⟩
  rw [if_neg k4, if_neg h]
  exact ⟨rfl, rfl, by simp⟩
theorem exe_sw (D : Pl) (k : Int) (l : List Int) (kf : Nat → Int) (x : In) (h : ¬ x.kind = 5) : (D.sw k l).exe kf x = ((D.exe kf x).1.sw k l, (D.exe kf x).2) := by
  unfold Pl.exe
  by_cases k0 : x.kind = 0
  · rw [if_pos k0, if_pos k0]; rfl
  rw [if_neg k0, if_neg k0]
  by_cases k1 : x.kind = 1
  · rw [if_pos k1, if_pos k1]
    show (if readE D.mem (adI (D.r x.src.toNat) x.off) x.size.toNat = 0 then _ else _) = _
    by_cases h : readE D.mem (adI (D.r x.src.toNat) x.off) x.size.toNat = 0
    · rw [if_pos h, if_pos h]; rfl
    · rw [if_neg h, if_neg h]
  rw [if_neg k1, if_neg k1]
  by_cases k2 : x.kind = 2
  · rw [if_pos k2, if_pos k2]
    show (if locI D.mem.cn D.mem.n D.mem.hs (adI (D.r x.dst.toNat) x.off) x.size.toNat ≤ 1 then _ else _) = _
    by_cases h : locI D.mem.cn D.mem.n D.mem.hs (adI (D.r x.dst.toNat) x.off) x.size.toNat ≤ 1
    · rw [if_pos h, if_pos h]
    · rw [if_neg h, if_neg h]; rfl
  rw [if_neg k2, if_neg k2]
  by_cases k3 : x.kind = 3
  · rw [if_pos k3, if_pos k3]
    show ((if holdsB x.op 64 (D.r x.dst.toNat) (D.opd x) = true then _ else _ : Pl), (0 : Int)) = _
    by_cases h : holdsB x.op 64 (D.r x.dst.toNat) (D.opd x) = true
    · rw [if_pos h, if_pos h]; rfl
    · rw [if_neg h, if_neg h]
  rw [if_neg k3, if_neg k3]
  by_cases k4 : x.kind = 4
  · rw [if_pos k4, if_pos k4]; rfl
  rw [if_neg k4, if_neg k4, if_neg h, if_neg h]
/-- What an instruction reads is set. -/
def Pl.can (D : Pl) (x : In) : Bool := andM D.set (readsM x) == readsM x
theorem step_can {D : Pl} {kf : Nat → Int} {x : In} (h : D.can x = true) : D.step kf x = { (D.adv.exe kf x).1 with fin := (D.adv.exe kf x).2 } := if_pos h
theorem step_not {D : Pl} {kf : Nat → Int} {x : In} (h : D.can x = false) : D.step kf x = D.adv := if_neg (by rw [show (andM D.set (readsM x) == readsM x) = false from h]; decide)
theorem step_sw {D : Pl} {k : Int} {l l' : List Int} {kf : Nat → Int} {x : In} (h : D.can x = true) (e : (D.adv.sw k l).exe kf x = ((D.adv.exe kf x).1.sw k l', (D.adv.exe kf x).2)) : (D.sw k l).step kf x = (D.step kf x).sw k l' := by
  rw [step_can h, step_can (D := D.sw k l) h, adv_sw, e]
  rfl
theorem step_sw_not {D : Pl} {k : Int} {l : List Int} {kf : Nat → Int} {x : In} (h : D.can x = false) : (D.sw k l).step kf x = (D.step kf x).sw k l := by
  rw [step_not h, step_not (D := D.sw k l) h, adv_sw]
/-- A step is one of four: what it reads is not set; a call that is refused; a call; another instruction. -/
theorem step_cases (D : Pl) (kf : Nat → Int) (x : In) :
    (D.can x = false ∧ D.step kf x = D.adv) ∨
    (D.can x = true ∧ x.kind = 5 ∧ D.ans = [] ∧ D.step kf x = { D.adv with fin := 2 }) ∨
    (D.can x = true ∧ x.kind = 5 ∧ ∃ a r, D.ans = a :: r ∧ D.step kf x = { D.adv.called x.imm a r with fin := 0 }) ∨
    (D.can x = true ∧ ¬ x.kind = 5 ∧ (D.step kf x).ans = D.ans ∧ (D.step kf x).evs = D.evs ∧ (D.step kf x).fin ≠ 2) := by
  cases hr : D.can x with
  | false => exact .inl ⟨rfl, step_not hr⟩
  | true =>
    refine .inr ?_
    by_cases k5 : x.kind = 5
    · have e := step_can (kf := kf) hr
      rw [exe_call D.adv kf x k5] at e
      change D.step kf x = { (match D.ans with | [] => ((D.adv, 2) : Pl × Int) | a :: l => (D.adv.called x.imm a l, 0)).1 with fin := (match D.ans with | [] => ((D.adv, 2) : Pl × Int) | a :: l => (D.adv.called x.imm a l, 0)).2 } at e
      cases ha : D.ans with
      | nil =>
        rw [ha] at e
        exact .inl ⟨rfl, k5, rfl, e⟩
      | cons a r =>
        rw [ha] at e
        exact .inr (.inl ⟨rfl, k5, a, r, rfl, e⟩)
    · obtain ⟨h1, h2, h3⟩ := exe_no5 D.adv kf x k5
      rw [step_can hr]
      exact .inr (.inr ⟨rfl, k5, h1, h2, h3⟩)

/-- What was answered and what is left are the answers; events are such as may be. -/
structure AnsOk (zs : List Int) (D : Pl) : Prop where
  all : D.evs.map (·.ans) ++ D.ans = zs
  may : ∀ e ∈ D.evs, mayB e = true
theorem argsI_nat {n : Int} : 0 ≤ argsI n := by
  unfold argsI
  split <;> omega
theorem AnsOk.step {zs : List Int} {D : Pl} (h : AnsOk zs D) (kf : Nat → Int) {x : In} (m : mayI x = true) : AnsOk zs (D.step kf x) := by
  rcases step_cases D kf x with ⟨_, e⟩ | ⟨_, _, _, e⟩ | ⟨_, k5, a, r, ha, e⟩ | ⟨_, _, e1, e2, _⟩
  · rw [e]; exact ⟨h.all, h.may⟩
  · rw [e]; exact ⟨h.all, h.may⟩
  · rw [e]
    refine ⟨?_, fun v hv => ?_⟩
    · have := h.all
      rw [ha] at this
      show ((D.evs ++ [_]).map Ev.ans) ++ r = zs
      rw [List.map_append, List.append_assoc]
      exact this
    · rcases List.mem_append.1 (show v ∈ D.evs ++ [_] from hv) with hv | hv
      · exact h.may v hv
      · rw [List.mem_singleton] at hv
        subst hv
        have hi : 0 ≤ x.imm ∧ x.imm < 16 := by
          obtain ⟨_, _, _, _, hc⟩ := mayI_cases m
          omega
        have hn := argsI_nat (n := x.imm)
        unfold mayB Pl.args
        simp only [List.length_map, List.length_range]
        rw [decide_eq_true hi.1, decide_eq_true hi.2, Int.toNat_of_nonneg hn]
        simp
  · exact ⟨by rw [e1, e2]; exact h.all, fun v hv => h.may v (by rw [e2] at hv; exact hv)⟩
theorem AnsOk.its {zs : List Int} {E : Env} (F : Fine E) {D : Pl} (R : Runs E D) (h : AnsOk zs D) : ∀ k, Goes E D k → AnsOk zs (its E D k) ∧ AnsOk zs (its E D (k + 1))
  | 0, _ => ⟨h, h.step E.kf (F.may _ R.ix.1)⟩
  | k + 1, g => by
    have h1 := (AnsOk.its F R h k (fun j hj => g j (by omega))).2
    exact ⟨h1, h1.step E.kf (F.may _ (R.its F (k + 1) g).ix.1)⟩
theorem its_fuel (E : Env) (D : Pl) : ∀ k : Nat, (its E D k).fuel = D.fuel - k
  | 0 => by show D.fuel = D.fuel - (0 : Nat); omega
  | k + 1 => by
    show ((its E D k).step E.kf (E.x (its E D k).ix)).fuel = _
    rw [step_fuel, its_fuel E D k]; omega
theorem its_few (E : Env) (D : Pl) : ∀ k : Nat, (its E D k).evs.length ≤ D.evs.length + k
  | 0 => Nat.le_refl _
  | k + 1 => by
    have := its_few E D k
    have := step_evs (its E D k) E.kf (E.x (its E D k).ix)
    show ((its E D k).step E.kf (E.x (its E D k).ix)).evs.length ≤ _
    omega
theorem step_pre (D : Pl) (kf : Nat → Int) (x : In) : ∃ r, (D.step kf x).evs = D.evs ++ r := by
  rcases step_cases D kf x with ⟨_, e⟩ | ⟨_, _, _, e⟩ | ⟨_, k5, a, r, ha, e⟩ | ⟨_, _, _, e, _⟩
  · exact ⟨[], by rw [e]; exact (List.append_nil _).symm⟩
  · exact ⟨[], by rw [e]; exact (List.append_nil _).symm⟩
  · exact ⟨_, by rw [e]; exact rfl⟩
  · exact ⟨[], by rw [e]; exact (List.append_nil _).symm⟩
theorem its_pre (E : Env) (D : Pl) (k : Nat) : ∀ d, ∃ r, (its E D (k + d)).evs = (its E D k).evs ++ r
  | 0 => ⟨[], (List.append_nil _).symm⟩
  | d + 1 => by
    obtain ⟨r, h⟩ := its_pre E D k d
    obtain ⟨q, h2⟩ := step_pre (its E D (k + d)) E.kf (E.x (its E D (k + d)).ix)
    exact ⟨r ++ q, by
      show ((its E D (k + d)).step E.kf (E.x (its E D (k + d)).ix)).evs = _
      rw [h2, h, List.append_assoc]⟩
/-- Runs of the same program whose states differ in fuel and answers alone. -/
theorem its_sw {E : Env} {D : Pl} {k : Int} {l : List Int} (Q : Pl → List Int → Prop) (m : Nat) (h0 : Q D l)
    (hs : ∀ j, j < m → ∀ l, Q (its E D j) l → ∃ l', ((its E D j).sw k l).step E.kf (E.x (its E D j).ix) = (its E D (j + 1)).sw k l' ∧ Q (its E D (j + 1)) l') : ∀ j, j ≤ m → ∃ l', its E (D.sw k l) j = (its E D j).sw k l' ∧ Q (its E D j) l'
  | 0, _ => ⟨l, rfl, h0⟩
  | j + 1, hj => by
    obtain ⟨l1, e1, q1⟩ := its_sw Q m h0 hs j (by omega)
    obtain ⟨l2, e2, q2⟩ := hs j (by omega) l1 q1
    refine ⟨l2, ?_, q2⟩
    rw [← e2]
    show (its E (D.sw k l) j).step E.kf (E.x (its E (D.sw k l) j).ix) = _
    rw [e1]; rfl
/-- More fuel: the answers are the same ones, and more where there are more. -/
def MoreQ (D : Pl) (l : List Int) : Prop := ∃ ext, l = D.ans ++ ext ∧ (ext = [] ∨ D.fuel ≤ D.ans.length)
theorem more_step {D : Pl} (k : Int) (kf : Nat → Int) (x : In) (hf : 0 < D.fuel) {l : List Int} (h : MoreQ D l) : ∃ l', (D.sw k l).step kf x = (D.step kf x).sw k l' ∧ MoreQ (D.step kf x) l' := by
  obtain ⟨ext, rfl, hx⟩ := h
  have sf := step_fuel D kf x
  rcases step_cases D kf x with ⟨c, e⟩ | ⟨c, k5, ha, e⟩ | ⟨c, k5, a, r, ha, e⟩ | ⟨c, k5, e, _, _⟩
  · exact ⟨_, step_sw_not c, ext, by rw [e]; rfl, hx.imp id (fun h => by rw [sf, e]; show D.fuel - 1 ≤ D.ans.length; omega)⟩
  · have hx0 : ext = [] := by
      rcases hx with h | h
      · exact h
      · rw [ha] at h; simp at h; omega
    subst hx0
    refine ⟨[], ?_, [], ?_, .inl rfl⟩
    · rw [ha]
      refine step_sw c ?_
      rw [exe_call _ _ _ k5, exe_call _ _ _ k5]
      show (_, _) = _
      rw [show D.adv.ans = [] from ha]
      rfl
    · rw [e]
      show [] = D.ans ++ []
      rw [ha]; rfl
  · refine ⟨r ++ ext, ?_, ext, ?_, hx.imp id (fun h => by rw [sf, e]; rw [ha] at h; show D.fuel - 1 ≤ r.length; simp at h; omega)⟩
    · rw [ha]
      refine step_sw c ?_
      rw [exe_call _ _ _ k5, exe_call _ _ _ k5]
      show (_, _) = _
      rw [show D.adv.ans = a :: r from ha]
      rfl
    · rw [e]; rfl
  · exact ⟨_, step_sw c (exe_sw _ _ _ _ _ k5), ext, by rw [e], hx.imp id (fun h => by rw [sf, e]; omega)⟩
/-- Other answers behind those that are used. -/
def OtherQ (n : Nat) (D : Pl) (l : List Int) : Prop := ∃ pre u v, D.ans = pre ++ u ∧ l = pre ++ v ∧ pre.length + D.evs.length = n
theorem other_step {n : Nat} {D : Pl} (kf : Nat → Int) (x : In) (hn : (D.step kf x).evs.length ≤ n) (h2 : (D.step kf x).fin ≠ 2) {l : List Int} (h : OtherQ n D l) : ∃ l', (D.sw 0 l).step kf x = (D.step kf x).sw 0 l' ∧ OtherQ n (D.step kf x) l' := by
  obtain ⟨pre, u, v, h1, rfl, h3⟩ := h
  rcases step_cases D kf x with ⟨c, e⟩ | ⟨c, k5, ha, e⟩ | ⟨c, k5, a, r, ha, e⟩ | ⟨c, k5, e, e2, _⟩
  · exact ⟨_, step_sw_not c, pre, u, v, by rw [e]; exact h1, rfl, by rw [e]; exact h3⟩
  · rw [e] at h2
    exact absurd rfl h2
  · have hl : (D.step kf x).evs.length = D.evs.length + 1 := by
      rw [e]
      show (D.evs ++ [_]).length = _
      rw [List.length_append]; rfl
    cases pre with
    | nil => simp at h3; omega
    | cons p pre =>
      rw [ha] at h1
      injection h1 with h4 h5
      subst h4 h5
      refine ⟨pre ++ v, ?_, pre, u, v, by rw [e]; rfl, rfl, by rw [hl]; simp at h3; omega⟩
      refine step_sw c ?_
      rw [exe_call _ _ _ k5, exe_call _ _ _ k5]
      show (_, _) = _
      rw [show D.adv.ans = a :: (pre ++ u) from ha]
      rfl
  · exact ⟨_, step_sw c (exe_sw _ _ _ _ _ k5), pre, u, v, by rw [e]; exact h1, rfl, by rw [e2]; exact h3⟩

/-- What is said of an outcome alone. -/
structure AIs (zs : List Int) (al : Nat) (fuel : Int) (o : Out) : Prop where
  left : 0 ≤ o.left ∧ o.left ≤ fuel
  kind : o.kind = 0 ∨ o.kind = 1 ∨ o.kind = 2 ∨ o.kind = 3
  used : o.tr.length ≤ al
  usedF : (o.tr.length : Int) ≤ fuel
  ans : o.tr.map (·.ans) = zs.take o.tr.length
  may : ∀ e ∈ o.tr, mayB e = true
  out : o.kind = 0 → o.left = 0
  refu : o.kind = 2 → o.tr.length = al
section
variable {x : Nat → In} {n cl : Nat} {cf : Nat → Int} {fuel : Int} {zs : List Int} {al tk : Nat}
theorem fin_its {E : Env} {D : Pl} (h0 : D.fin = 0) : ∀ {k}, Goes E D k → (its E D k).fin = 0
  | 0, _ => h0
  | k + 1, g => (g k (by omega)).2
theorem step_fin4 (D : Pl) (kf : Nat → Int) (x : In) : (D.step kf x).fin = 0 ∨ (D.step kf x).fin = 1 ∨ (D.step kf x).fin = 2 ∨ (D.step kf x).fin = 3 := by
  cases h : D.can x with
  | false => rw [step_not h]; exact .inr (.inr (.inr rfl))
  | true => rw [step_can h]; exact exe_fin D.adv kf x
theorem ini_ok (cb cl : Nat) (cf : Nat → Int) (fuel : Int) (ys : List Int) : AnsOk ys (ini cb cl cf fuel ys) := ⟨rfl, fun e he => absurd he (by show ¬ e ∈ ([] : List Ev); simp)⟩
theorem take_of_app {l r ys : List Int} (h : l ++ r = ys) : l = ys.take l.length := by rw [← h]; simp
theorem ends_is (F : Fine (env x n)) (R : Runs (env x n) (ini 0 cl cf fuel (zs.take tk))) (hl : zs.length = al) (htk : min (al : Int) fuel = (tk : Int)) {o : Out} (h : Ends x n (ini 0 cl cf fuel (zs.take tk)) o) : AIs zs al fuel o := by
  obtain ⟨m, h1, rfl⟩ := h
  have e0 : ∀ k : Nat, (its (env x n) (ini 0 cl cf fuel (zs.take tk)) k).fuel = fuel - k := its_fuel _ _
  have few : ∀ k : Nat, (its (env x n) (ini 0 cl cf fuel (zs.take tk)) k).evs.length ≤ k := fun k => by
    have := its_few (env x n) (ini 0 cl cf fuel (zs.take tk)) k
    rw [show (ini 0 cl cf fuel (zs.take tk)).evs.length = 0 from rfl] at this
    omega
  have hlt : (zs.take tk).length = tk := by rw [List.length_take]; omega
  have f0 : 0 ≤ fuel := R.fuel
  have key : ∀ D : Pl, AnsOk (zs.take tk) D → D.evs.length ≤ tk ∧ D.evs.map (·.ans) = zs.take D.evs.length := fun D a => by
    have h := take_of_app a.all
    have hh := congrArg List.length a.all
    simp only [List.length_append, List.length_map, hlt] at hh
    refine ⟨by omega, ?_⟩
    rw [h, List.take_take, List.length_map, Nat.min_eq_left (by omega)]
  rcases h1 with ⟨g, f⟩ | ⟨k, rfl, g, f, e⟩
  · have a := (AnsOk.its F R (ini_ok 0 cl cf fuel (zs.take tk)) m g).1
    have z := fin_its (E := env x n) (D := ini 0 cl cf fuel (zs.take tk)) rfl g
    have hm : (its (env x n) (ini 0 cl cf fuel (zs.take tk)) m).fuel = 0 := by
      have := (R.its F m g).fuel
      omega
    obtain ⟨k1, k2⟩ := key _ a
    have k3 := few m
    have k4 := e0 m
    generalize its (env x n) (ini 0 cl cf fuel (zs.take tk)) m = D at *
    exact ⟨by show 0 ≤ D.fuel ∧ D.fuel ≤ fuel; omega, .inl z, by show D.evs.length ≤ al; omega, by show (D.evs.length : Int) ≤ fuel; omega, k2, a.may, fun _ => hm, fun h => by rw [show D.out.kind = 0 from z] at h; cases h⟩
  · have a := (AnsOk.its F R (ini_ok 0 cl cf fuel (zs.take tk)) k g).2
    obtain ⟨k1, k2⟩ := key _ a
    have k3 := few k
    have k4 := e0 k
    have k5 := e0 (k + 1)
    have sf := step_fin4 (its (env x n) (ini 0 cl cf fuel (zs.take tk)) k) (fun _ => 0) (x (its (env x n) (ini 0 cl cf fuel (zs.take tk)) k).ix)
    have sc := step_cases (its (env x n) (ini 0 cl cf fuel (zs.take tk)) k) (fun _ => 0) (x (its (env x n) (ini 0 cl cf fuel (zs.take tk)) k).ix)
    change (its (env x n) (ini 0 cl cf fuel (zs.take tk)) (k + 1)).fin = 0 ∨ (its (env x n) (ini 0 cl cf fuel (zs.take tk)) (k + 1)).fin = 1 ∨ (its (env x n) (ini 0 cl cf fuel (zs.take tk)) (k + 1)).fin = 2 ∨ (its (env x n) (ini 0 cl cf fuel (zs.take tk)) (k + 1)).fin = 3 at sf
    have rf : (its (env x n) (ini 0 cl cf fuel (zs.take tk)) (k + 1)).fin = 2 → (its (env x n) (ini 0 cl cf fuel (zs.take tk)) (k + 1)).evs.length = al := fun h2 => by
      have hall := congrArg List.length a.all
      simp only [List.length_append, List.length_map, hlt] at hall
      change (its (env x n) (ini 0 cl cf fuel (zs.take tk)) (k + 1)).evs.length + (its (env x n) (ini 0 cl cf fuel (zs.take tk)) (k + 1)).ans.length = tk at hall
      have hs : its (env x n) (ini 0 cl cf fuel (zs.take tk)) (k + 1) = (its (env x n) (ini 0 cl cf fuel (zs.take tk)) k).step (fun _ => 0) (x (its (env x n) (ini 0 cl cf fuel (zs.take tk)) k).ix) := rfl
      rcases sc with ⟨_, e⟩ | ⟨_, _, ha, e⟩ | ⟨_, _, _, _, _, e⟩ | ⟨_, _, _, _, e⟩
      · rw [hs, e] at h2
        exact absurd h2 (by show ¬ (3 : Int) = 2; decide)
      · have q1 : (its (env x n) (ini 0 cl cf fuel (zs.take tk)) (k + 1)).evs = (its (env x n) (ini 0 cl cf fuel (zs.take tk)) k).evs := by rw [hs, e]; rfl
        have q2 : (its (env x n) (ini 0 cl cf fuel (zs.take tk)) (k + 1)).ans = [] := by rw [hs, e]; exact ha
        rw [q2] at hall
        rw [q1] at hall ⊢
        simp at hall
        omega
      · rw [hs, e] at h2
        exact absurd h2 (by show ¬ (0 : Int) = 2; decide)
      · exact absurd h2 e
    have k6 := few (k + 1)
    generalize its (env x n) (ini 0 cl cf fuel (zs.take tk)) (k + 1) = D at *
    exact ⟨by show 0 ≤ D.fuel ∧ D.fuel ≤ fuel; omega, sf, by show D.evs.length ≤ al; omega, by show (D.evs.length : Int) ≤ fuel; omega, k2, a.may, fun h => absurd h e, rf⟩

theorem Goes.of_fuel {E : Env} {D : Pl} {m : Nat} (g : Goes E D m) : ∀ j, j < m → 0 < (its E D j).fuel := fun j hj => (g j hj).1
/-- More fuel. -/
theorem ends_more (F : Fine (env x n)) (R : Runs (env x n) (ini 0 cl cf fuel (zs.take tk))) {more : Int} {tk' : Nat} (hm0 : 0 ≤ more) (hl : zs.length = al) (htk : min (al : Int) fuel = (tk : Int)) (htk' : min (al : Int) (fuel + more) = (tk' : Int)) {o o2 : Out}
    (h : Ends x n (ini 0 cl cf fuel (zs.take tk)) o) (h2 : Ends x n (ini 0 cl cf (fuel + more) (zs.take tk')) o2) : preB o.tr o2.tr = true ∧ (o.kind = 0 → o2.left ≤ more) ∧ (¬ o.kind = 0 → o2 = { o with left := o.left + more }) := by
  obtain ⟨m, h1, rfl⟩ := h
  have f0 : 0 ≤ fuel := R.fuel
  have e0 : ∀ k : Nat, (its (env x n) (ini 0 cl cf fuel (zs.take tk)) k).fuel = fuel - k := its_fuel _ _
  have q0 : MoreQ (ini 0 cl cf fuel (zs.take tk)) (zs.take tk') := by
    refine ⟨(zs.take tk').drop tk, ?_, ?_⟩
    · show _ = zs.take tk ++ _
      rw [List.drop_take]
      have : tk ≤ tk' := by omega
      obtain ⟨d, rfl⟩ : ∃ d, tk' = tk + d := ⟨tk' - tk, by omega⟩
      rw [List.take_add, Nat.add_sub_cancel_left]
    · by_cases h : (al : Int) ≤ fuel
      · left
        rw [List.drop_eq_nil_iff, List.length_take]; omega
      · right
        show fuel ≤ ((zs.take tk).length : Int)
        rw [List.length_take]; omega
  have key : ∀ m, (∀ j, j < m → 0 < (its (env x n) (ini 0 cl cf fuel (zs.take tk)) j).fuel) → ∀ j, j ≤ m → ∃ l', its (env x n) (ini 0 cl cf (fuel + more) (zs.take tk')) j = (its (env x n) (ini 0 cl cf fuel (zs.take tk)) j).sw more l' ∧ MoreQ (its (env x n) (ini 0 cl cf fuel (zs.take tk)) j) l' := fun m hf =>
    its_sw (E := env x n) (D := ini 0 cl cf fuel (zs.take tk)) (k := more) (l := zs.take tk') MoreQ m q0 (fun j hj l q => more_step more _ _ (hf j hj) q)
  have goes : ∀ k, Goes (env x n) (ini 0 cl cf fuel (zs.take tk)) k → Goes (env x n) (ini 0 cl cf (fuel + more) (zs.take tk')) k := fun k g j hj => by
    obtain ⟨l1, e1, _⟩ := key k g.of_fuel j (by omega)
    obtain ⟨l2, e2, _⟩ := key k g.of_fuel (j + 1) (by omega)
    have := g j hj
    rw [e1, e2]
    exact ⟨by show 0 < (its (env x n) (ini 0 cl cf fuel (zs.take tk)) j).fuel + more; omega, this.2⟩
  rcases h1 with ⟨g, f⟩ | ⟨k, rfl, g, f, e⟩
  · have z := fin_its (E := env x n) (D := ini 0 cl cf fuel (zs.take tk)) rfl g
    obtain ⟨m2, d2, rfl⟩ := h2
    obtain ⟨l1, e1, _⟩ := key m g.of_fuel m (Nat.le_refl _)
    have g2 := goes m g
    have hmm : m ≤ m2 := by
      rcases Nat.lt_or_ge m2 m with hlt | hge
      · rcases d2 with ⟨_, f2⟩ | ⟨k, rfl, _, _, e2⟩
        · exact absurd (g2 m2 hlt).1 f2
        · exact absurd (g2 k (by omega)).2 e2
      · exact hge
    obtain ⟨d, rfl⟩ : ∃ d, m2 = m + d := ⟨m2 - m, by omega⟩
    obtain ⟨r, hr⟩ := its_pre (env x n) (ini 0 cl cf (fuel + more) (zs.take tk')) m d
    refine ⟨preB_iff.2 ⟨r, ?_⟩, fun _ => ?_, fun h => absurd z h⟩
    · show (its _ _ (m + d)).evs = (its _ _ m).evs ++ r
      rw [hr, e1]; rfl
    · have := its_fuel (env x n) (ini 0 cl cf (fuel + more) (zs.take tk')) (m + d)
      show (its (env x n) (ini 0 cl cf (fuel + more) (zs.take tk')) (m + d)).fuel ≤ more
      rw [this]
      show (fuel + more) - ((m + d : Nat) : Int) ≤ more
      have := e0 m
      omega
  · have hf : ∀ j, j < k + 1 → 0 < (its (env x n) (ini 0 cl cf fuel (zs.take tk)) j).fuel := fun j hj => by
      by_cases ej : j = k
      · subst ej; exact f
      · exact (g j (by omega)).1
    obtain ⟨l1, e1, _⟩ := key (k + 1) hf (k + 1) (Nat.le_refl _)
    obtain ⟨l0, e00, _⟩ := key (k + 1) hf k (by omega)
    have dn : Done (env x n) (ini 0 cl cf (fuel + more) (zs.take tk')) (k + 1) := .inr ⟨k, rfl, goes k g, by rw [e00]; show 0 < (its (env x n) (ini 0 cl cf fuel (zs.take tk)) k).fuel + more; omega, by rw [e1]; exact e⟩
    obtain rfl := Ends.uniq (o' := o2) ⟨k + 1, dn, rfl⟩ h2
    rw [e1]
    refine ⟨preB_iff.2 ⟨[], (List.append_nil _).symm⟩, fun h => absurd h e, fun _ => rfl⟩
/-- Other answers behind those that were used. -/
theorem ends_other (F : Fine (env x n)) (R : Runs (env x n) (ini 0 cl cf fuel (zs.take tk))) (hl : zs.length = al) (htk : min (al : Int) fuel = (tk : Int)) {v : List Int} {o o2 : Out}
    (h : Ends x n (ini 0 cl cf fuel (zs.take tk)) o) (h0 : ¬ o.kind = 0) (h2 : ¬ o.kind = 2) (h3 : Ends x n (ini 0 cl cf fuel (zs.take o.tr.length ++ v)) o2) : o2 = o := by
  have A := ends_is F R hl htk h
  obtain ⟨m, h1, rfl⟩ := h
  rcases h1 with ⟨g, f⟩ | ⟨k, rfl, g, f, e⟩
  · exact absurd (fin_its (E := env x n) (D := ini 0 cl cf fuel (zs.take tk)) rfl g) h0
  have hle : (its (env x n) (ini 0 cl cf fuel (zs.take tk)) (k + 1)).evs.length ≤ tk := by
    have a := A.used
    have b := A.usedF
    change (its (env x n) (ini 0 cl cf fuel (zs.take tk)) (k + 1)).evs.length ≤ al at a
    change ((its (env x n) (ini 0 cl cf fuel (zs.take tk)) (k + 1)).evs.length : Int) ≤ fuel at b
    omega
  have q0 : OtherQ (its (env x n) (ini 0 cl cf fuel (zs.take tk)) (k + 1)).evs.length (ini 0 cl cf fuel (zs.take tk)) (zs.take (its (env x n) (ini 0 cl cf fuel (zs.take tk)) (k + 1)).out.tr.length ++ v) := by
    refine ⟨zs.take (its (env x n) (ini 0 cl cf fuel (zs.take tk)) (k + 1)).evs.length, (zs.take tk).drop (its (env x n) (ini 0 cl cf fuel (zs.take tk)) (k + 1)).evs.length, v, ?_, rfl, ?_⟩
    · show zs.take tk = _
      conv => lhs; rw [← List.take_append_drop (its (env x n) (ini 0 cl cf fuel (zs.take tk)) (k + 1)).evs.length (zs.take tk)]
      rw [List.take_take, Nat.min_eq_left hle]
    · rw [List.length_take]
      show _ + 0 = _
      omega
  have mono : ∀ j, j ≤ k + 1 → (its (env x n) (ini 0 cl cf fuel (zs.take tk)) j).evs.length ≤ (its (env x n) (ini 0 cl cf fuel (zs.take tk)) (k + 1)).evs.length := fun j hj => by
    obtain ⟨d, hd⟩ : ∃ d, k + 1 = j + d := ⟨k + 1 - j, by omega⟩
    obtain ⟨r, hr⟩ := its_pre (env x n) (ini 0 cl cf fuel (zs.take tk)) j d
    rw [hd, hr, List.length_append]; omega
  have fins : ∀ j, j < k + 1 → (its (env x n) (ini 0 cl cf fuel (zs.take tk)) (j + 1)).fin ≠ 2 := fun j hj => by
    by_cases ej : j = k
    · subst ej; exact h2
    · rw [(g j (by omega)).2]; decide
  have key : ∀ j, j ≤ k + 1 → ∃ l', its (env x n) (ini 0 cl cf fuel (zs.take (its (env x n) (ini 0 cl cf fuel (zs.take tk)) (k + 1)).out.tr.length ++ v)) j = (its (env x n) (ini 0 cl cf fuel (zs.take tk)) j).sw 0 l' := fun j hj => by
    have e : ini 0 cl cf fuel (zs.take (its (env x n) (ini 0 cl cf fuel (zs.take tk)) (k + 1)).out.tr.length ++ v) = (ini 0 cl cf fuel (zs.take tk)).sw 0 (zs.take (its (env x n) (ini 0 cl cf fuel (zs.take tk)) (k + 1)).out.tr.length ++ v) := by
      unfold Pl.sw
      rw [Int.add_zero]; rfl
    rw [e]
    obtain ⟨l, h, _⟩ := its_sw (E := env x n) (k := 0) (OtherQ (its (env x n) (ini 0 cl cf fuel (zs.take tk)) (k + 1)).evs.length) (k + 1) q0 (fun j hj l q => other_step _ _ (mono (j + 1) (by omega)) (fins j hj) q) j hj
    exact ⟨l, h⟩
  obtain ⟨l1, e1⟩ := key (k + 1) (Nat.le_refl _)
  have sw_fuel : ∀ (D : Pl) l, (D.sw 0 l).fuel = D.fuel := fun D l => Int.add_zero _
  have dn : Done (env x n) (ini 0 cl cf fuel (zs.take (its (env x n) (ini 0 cl cf fuel (zs.take tk)) (k + 1)).out.tr.length ++ v)) (k + 1) := by
    refine .inr ⟨k, rfl, fun j hj => ?_, ?_, ?_⟩
    · obtain ⟨l2, e2⟩ := key j (by omega)
      obtain ⟨l3, e3⟩ := key (j + 1) (by omega)
      rw [e2, e3, sw_fuel]
      exact g j hj
    · obtain ⟨l2, e2⟩ := key k (by omega)
      rw [e2, sw_fuel]; exact f
    · rw [e1]; exact e
  obtain rfl := Ends.uniq (o' := o2) ⟨k + 1, dn, rfl⟩ h3
  rw [e1]
  show Out.mk _ _ _ _ _ = Out.mk _ _ _ _ _
  rw [sw_fuel]; rfl
end
end Go.Proofs.Ythhgcbegcbhaeaa.Mdl
