import PyProof.Rows.All
import Wide.All
import OpenK.AllK
import Wide.FinOn
import KE.KStateDown
import HandS.ForMost
import HandS.Defaults
import HandS.IsInst
import HandS.SetKeys
import HandS.Strs
import HandS.CallLocal
import HandS.WrittenGet
import HandS.NoneIn
import HandS.DictComp
import HandS.Deep
import HandS.Sort
import HandS.SortOrd
import HandS.ListItems
import HandS.DictTup
import HandS.ForExc
import HandS.Flow
import HandS.Walk
import HandS.Head0
import HandS.Head1
import HandS.Head2
import HandS.HeadEnd
import HandS.HeadHook1
import HandS.HeadHook2
import HandS.HeadHook3
import HandS.HeadHook4
import PySem.Challenge.RW_sayso_k25_systems_are_checked
import HandS.ExcIs
import HandS.ExcCtx
import HandS.SuiteRaise
import HandS.RaiseFrom
import HandS.Evl
import HandS.TupAny
import HandS.SetBool
import HandS.TupMul
set_option Elab.async false
set_option linter.all false
set_option maxRecDepth 100000
set_option maxHeartbeats 4000000
namespace SaysoV
open PySem PySem.Spec PyProof.Rows L2
/-! ### the text by places, what a def is to its callers -/
def top (i : Nat) : Stmt := PySem.Challenge.pw_sayso_k25_systems_are_checked.main.body.getD i (.Pass ⟨0, 0, 0, 0⟩)
abbrev FnP (K : PySem.W.Frag) (x : Str) (st : Stmt) (f : Addr) (fd : FuncData) : Prop := FunD K x x (defArgs st) (defBody st) (defScope st) [] [] f fd
/-- a def as the top leaves it -/
def Def (K : PySem.W.Frag) (mg : Str → Option Value) (x : Str) (ps : List Str) (st : Stmt) : Prop := ∃ f fd, FnP K x st f fd ∧ mg x = some (.ref f) ∧ Binds K fd ps []
/-- a def with its promise, as a caller takes it -/
def HasX (CX : CXT) (P : Program) (w : World) (K : PySem.W.Frag) (mg : Str → Option Value) (base : Heap) (k : Nat) (x : Str) (ps : List Str) (sp : Sp) : Prop :=
  ∃ f fd, FnOk P w K mg base CX k f fd ps sp ∧ mg x = some (.ref f) ∧ PySem.W.keepIn K (.ref f) = true ∧ Binds K fd ps []
abbrev Has := HasX CX0
/-- the names that are still built-in -/
structure Txt (mg : Str → Option Value) : Prop where
  n_len : mg "len" = none
  n_range : mg "range" = none
  n_isinstance : mg "isinstance" = none
  n_list : mg "list" = none
  n_tuple : mg "tuple" = none
  n_bool : mg "bool" = none
  n_int : mg "int" = none
  n_str : mg "str" = none
  n_sorted : mg "sorted" = none
  n_set : mg "set" = none
  n_all : mg "all" = none
  n_any : mg "any" = none
  n_sum : mg "sum" = none
  n_max : mg "max" = none
  n_min : mg "min" = none
  n_dict : mg "dict" = none
  n_enumerate : mg "enumerate" = none
  n_zip : mg "zip" = none
section
variable {P : Program} {w : World} {K : PySem.W.Frag} {mg : Str → Option Value} {base : Heap} {CX : CXT}
theorem Def.has {x : Str} {ps : List Str} {st : Stmt} {k : Nat} {sp : Sp} (D : Def K mg x ps st) (h : ∀ f fd, FnP K x st f fd → FnOk P w K mg base CX k f fd ps sp) : HasX CX P w K mg base k x ps sp := by
  obtain ⟨f, fd, F, g, b⟩ := D
  exact ⟨f, fd, h f fd F, g, F.kp, b⟩
end
theorem same_upd {H : Hp} {p : Addr} {o : HO} (h : H p = none) : Same H (upd H p o) := fun b x e => by
  rw [upd_ne (ne_of_none e h)]
  exact e
/-- all that was tracked but d is as it was -/
def Kp (d : Addr) (H H' : Hp) : Prop := ∀ b o, H b = some o → b ≠ d → H' b = some o
theorem Kp.refl (d : Addr) (H : Hp) : Kp d H H := fun _ _ e _ => e
theorem Kp.trans {d : Addr} {H H1 H2 : Hp} (a : Kp d H H1) (b : Kp d H1 H2) : Kp d H H2 := fun c o e n => b c o (a c o e n) n
theorem Kp.of {d : Addr} {H H' : Hp} (a : Same H H') : Kp d H H' := fun c o e _ => a c o e
theorem Kp.upd {d : Addr} {H : Hp} {o : HO} : Kp d H (L2.upd H d o) := fun c x e n => by rw [upd_ne n]; exact e
theorem Kp.free {d : Addr} {H H' : Hp} {p : Addr} (a : Kp d H H') (hp : p ≠ d) (h : H' p = none) : H p = none := by
  cases q : H p with
  | none => rfl
  | some o => rw [a p o q hp] at h; cases h
/-- the draws: a list of small numbers at l, and the place of the next one -/
def DrA (H : Hp) (d l : Addr) : Prop := ∃ (n : Nat) (ms : List Int), H d = some (.lst [.ref l, .int n]) ∧ H l = some (.lst (ms.map V.int)) ∧ ∀ z, z ∈ ms → 0 ≤ z ∧ z < 1000000
theorem draws_ne {H : Hp} {d l : Addr} {n : Int} {ms : List Int} (h1 : H d = some (.lst [.ref l, .int n])) (h2 : H l = some (.lst (ms.map V.int))) : l ≠ d := by
  intro e
  subst e
  rw [h1] at h2
  have h3 : [V.ref l, V.int n] = ms.map V.int := HO.lst.inj (Option.some.inj h2)
  cases ms with
  | nil => cases h3
  | cons a r => injection h3 with h4 _; cases h4
theorem DrA.same {H H' : Hp} {d l : Addr} (h : DrA H d l) (s : Same H H') : DrA H' d l := by
  obtain ⟨n, ms, h1, h2, h3⟩ := h
  exact ⟨n, ms, s _ _ h1, s _ _ h2, h3⟩
theorem DrA.some {H : Hp} {d l : Addr} (h : DrA H d l) : ∃ xs, H d = Option.some (.lst xs) := by
  obtain ⟨n, ms, h1, _⟩ := h
  exact ⟨_, h1⟩
theorem DrA.some' {H : Hp} {d l : Addr} (h : DrA H d l) : ∃ xs, H l = Option.some (.lst xs) := by
  obtain ⟨n, ms, _, h1, _⟩ := h
  exact ⟨_, h1⟩
theorem DrA.ne {H : Hp} {d l p : Addr} (h : DrA H d l) (np : H p = none) : p ≠ d ∧ p ≠ l := by
  obtain ⟨xs, e⟩ := h.some
  obtain ⟨ys, e'⟩ := h.some'
  exact ⟨(fun z => by rw [z, e] at np; cases np), (fun z => by rw [z, e'] at np; cases np)⟩
theorem DrA.kp {H H' : Hp} {d l p : Addr} (h : DrA H d l) (k : Kp p H H') (n : p ≠ d ∧ p ≠ l) : DrA H' d l := by
  obtain ⟨i, ms, h1, h2, h3⟩ := h
  exact ⟨i, ms, k _ _ h1 n.1.symm, k _ _ h2 n.2.symm, h3⟩
theorem get_int {ns : List Int} {i : Nat} {y : V} (h : (ns.map V.int)[i]? = some y) : ∃ z, ns[i]? = some z ∧ y = .int z := by
  rw [List.getElem?_map] at h
  cases e : ns[i]? with
  | none => rw [e] at h; cases h
  | some z => rw [e] at h; exact ⟨z, rfl, (Option.some.inj h).symm⟩
/-! ### the promises of the law's helpers -/
def spMixed : Sp := fun vs H Q _ => ∃ n k : Int, vs = [.int n, .int k] ∧ ∀ z : Int, 0 ≤ z → z < 2147483647 → Q (.int z) H
def Small (ms : List Int) : Prop := ∀ z, z ∈ ms → 0 ≤ z ∧ z < 1000000
theorem Small.add {ms : List Int} {z : Int} (h : Small ms) : Small (ms ++ [z % 1000000]) := by
  intro y hy
  rcases List.mem_append.mp hy with hy | hy
  · exact h y hy
  · rw [List.mem_singleton.mp hy]
    exact ⟨Int.emod_nonneg _ (by decide), Int.emod_lt_of_pos _ (by decide)⟩
def spNumbers (K : PySem.W.Frag) : Sp := fun vs H Q _ => ∃ (a : Addr) (ns : List Int), vs = [.ref a] ∧ SqL K H a (ns.map V.int) ∧ ns.length ≤ 63 ∧
  ∀ (H' : Hp) (p : Addr) (ms : List Int), Same H H' → H p = none → H' p = some (.lst (ms.map V.int)) → Small ms → Q (.ref p) H'
def spDraw : Sp := fun vs H Q _ => ∃ d l : Addr, vs = [.ref d] ∧ DrA H d l ∧ ∀ (z : Int) (H' : Hp), 0 ≤ z → z < 1000000 → DrA H' d l → Kp d H H' → Q (.int z) H'
section
variable {P : Program} {w : World} {K : PySem.W.Frag} {mg : Str → Option Value} {base : Heap}
theorem sc_mixed : FnScope ["number", "k", "step"] ["number", "k"] (defScope (top 123)) := ⟨rfl, rfl, rfl, by decide +kernel, rfl, by decide +kernel, by decide +kernel⟩
theorem has_mixed (D : Def K mg "_law_mixed" ["number", "k"] (top 123)) : Has P w K mg base 1 "_law_mixed" ["number", "k"] spMixed := D.has fun f fd F => by
  refine F.ok sc_mixed (fun vs H Q E h => ?_) (fun cdv A outer s H vs Q E hr h => ?_)
  · obtain ⟨n, k, rfl, _⟩ := h; rfl
  · obtain ⟨n, k, rfl, q⟩ := h
    refine ⟨_, PSs.nox (pss_cons (ps_set (i := 2) sc_mixed.nd rfl (Or.inl rfl) (pe_op op_mod (pe_op op_add (pe_op op_add (pe_op op_mul (pv 0) pe_int) (pe_op op_mul (pv 1) pe_int)) pe_int) pe_int)) (pss_one (ps_ret (pe_op op_mod (pe_op op_add (pe_op op_mul (pv 2) (pe_op op_add (pe_op op_fdiv (pv 2) pe_int) pe_int)) (pv 1)) pe_int)))), ?_⟩
    refine ⟨_, rfl, _, _, rfl, rfl, .inr ⟨by decide, by decide⟩, _, rfl, _, _, rfl, rfl, .inr ⟨by decide, by decide⟩, _, _, rfl, rfl, _, _, rfl, rfl, _, _, rfl, rfl, (by show (0 : Int) < 2147483647; decide), ?_⟩
    have h0 : 0 ≤ (n * 48271 + k * 69621 + 12345) % 2147483647 := Int.emod_nonneg _ (by decide)
    have h1 : (n * 48271 + k * 69621 + 12345) % 2147483647 < 2147483647 := Int.emod_lt_of_pos _ (by decide)
    revert h0 h1
    generalize (n * 48271 + k * 69621 + 12345) % 2147483647 = z
    intro h0 h1
    refine ⟨_, rfl, _, rfl, _, _, rfl, rfl, ⟨by decide, by decide⟩, _, _, rfl, rfl, _, _, rfl, rfl, .inl ⟨by omega, by omega⟩, _, rfl, _, _, rfl, rfl, _, _, rfl, rfl, (by show (0 : Int) < 2147483647; decide), ?_⟩
    exact q _ (Int.emod_nonneg _ (by decide)) (Int.emod_lt_of_pos _ (by decide))
theorem sc_numbers : FnScope ["script", "numbers", "cell", "rest", "k"] ["script"] (defScope (top 124)) := ⟨rfl, rfl, rfl, by decide +kernel, rfl, by decide +kernel, by decide +kernel⟩
theorem has_numbers (D : Def K mg "_law_numbers" ["script"] (top 124)) (T : Txt mg) (C1 : Has P w K mg base 1 "_law_mixed" ["number", "k"] spMixed) : Has P w K mg base 2 "_law_numbers" ["script"] (spNumbers K) := D.has fun f fd F => by
  obtain ⟨f1, fd1, G_law_mixed, g_law_mixed, k_law_mixed, b_law_mixed⟩ := C1
  refine F.ok sc_numbers (fun vs H Q E h => ?_) (fun cdv A outer s H vs Q E hr h => ?_)
  · obtain ⟨a, ns, rfl, _⟩ := h; rfl
  · obtain ⟨a, ns, rfl, hS, hlen, q⟩ := h
    have R_law_mixed : Room 1 _ := hr.mono (by decide)
    refine ⟨_, PSs.nox (pss_cons (ps_set (i := 1) sc_numbers.nd rfl (Or.inl rfl) (pe_lst pa_nil)) (pss_cons (ps_for PassesOwn.never rfl (pi_list (pv 0)) (pg_name (i := 2) sc_numbers.nd rfl (Or.inl rfl)) (pss_one (ps_if (pt_cmpR op_ge (pv 2) (pe_op op_pow pe_int pe_int) (nomark _)) (pss_cons (ps_set (i := 3) sc_numbers.nd rfl (Or.inl rfl) (pv 2)) (pss_one (ps_for PassesOwn.never rfl (pi_range1 (by rfl) T.n_range (pa_cons pe_int pa_nil)) (pg_name (i := 4) sc_numbers.nd rfl (Or.inl rfl)) (pss_one (ps_if (pt_cmpR op_gt (pv 3) pe_int (nomark _)) (pss_cons (ps_expr (pe_bm PySem.F.plainAttrs_list PySem.F.slot_list_append PySem.F.type_list_append mt_append (pv 1) (pa_cons (pe_op op_mod (pv 3) pe_int) pa_nil))) (pss_one (ps_set (i := 3) sc_numbers.nd rfl (Or.inl rfl) (pe_op op_fdiv (pv 3) pe_int)))) pss_nil))))) (pss_cons (ps_expr (pe_bm PySem.F.plainAttrs_list PySem.F.slot_list_append PySem.F.type_list_append mt_append (pv 1) (pa_cons (pe_op op_mod (pv 2) pe_int) pa_nil))) (pss_one (ps_for PassesOwn.never rfl (pi_range1 (by rfl) T.n_range (pa_cons pe_int pa_nil)) (pg_name (i := 4) sc_numbers.nd rfl (Or.inl rfl)) (pss_one (ps_expr (pe_bm PySem.F.plainAttrs_list PySem.F.slot_list_append PySem.F.type_list_append mt_append (pv 1) (pa_cons (pe_op op_mod (pe_call G_law_mixed R_law_mixed (by rfl) g_law_mixed k_law_mixed b_law_mixed .nil pass0 (pa_cons (pe_call G_law_mixed R_law_mixed (by rfl) g_law_mixed k_law_mixed b_law_mixed .nil pass0 (pa_cons (pe_op op_mod (pv 2) pe_int) (pa_cons (pv 4) pa_nil))) (pa_cons (pe_op op_add (pv 4) pe_int) pa_nil))) pe_int) pa_nil)))))))))) (pss_one (ps_ret (pv 1))))), ?_⟩
    refine ⟨Nat.zero_le _, fun p np => ?_⟩
    have s0 : Same H (upd H p (.lst [])) := same_upd np
    refine ⟨_, rfl, a, rfl, ⟨_, s0.seq hS⟩, for_list (K := K) (a := a) (xs := ns.map V.int) (fun i σ H2 => ∃ (y2 y3 y4 : Option V) (ms : List Int), σ = [some (.ref a), some (.ref p), y2, y3, y4] ∧ Same H H2 ∧ H2 p = some (.lst (ms.map V.int)) ∧ ms.length ≤ 61 * i ∧ Small ms)
      ⟨none, none, none, [], rfl, s0, upd_same, Nat.zero_le _, fun z hz => nomatch hz⟩ (fun i σ H2 _ ⟨_, _, _, _, _, s2, _⟩ => s2.seq hS) ?_ ?_⟩
    · rintro i y σ H2 hi ⟨y2, y3, y4, ms, rfl, s2, hp, hl, sm⟩
      obtain ⟨c, hc, rfl⟩ := get_int hi
      have hi63 : i < 63 := by
        have := (List.getElem?_eq_some_iff.mp hc).1
        omega
      have room : ∀ j : Nat, j ≤ 60 → ((ms.length + j : Nat) < sizeLine) := fun j hj => Nat.lt_of_le_of_lt (show ms.length + j ≤ 61 * 62 + 60 by omega) (by decide)
      refine ⟨_, rfl, _, _, rfl, rfl, ⟨by decide, by decide, by decide⟩, _, _, rfl, rfl, _, rfl, ite2 (fun e => ?_) (fun e => ?_)⟩
      · -- a huge number: its pieces
        refine ⟨_, rfl, 60, rfl, by decide, by decide, for_range (n := 60) (fun j σ H3 => ∃ (y4 : Option V) (r : Int) (ms3 : List Int), σ = [some (.ref a), some (.ref p), some (.int c), some (.int r), y4] ∧ Same H H3 ∧ H3 p = some (.lst (ms3.map V.int)) ∧ ms3.length ≤ ms.length + j ∧ Small ms3)
          ⟨y4, c, ms, rfl, s2, hp, Nat.le_refl _, sm⟩ ?_ ?_⟩
        · rintro j σ H3 hj ⟨y4, r, ms3, rfl, s3, hp3, hl3, sm3⟩
          refine ⟨_, rfl, _, _, rfl, rfl, _, rfl, ite2 (fun e2 => ?_) (fun e2 => ?_)⟩
          · refine ⟨_, rfl, .inl ⟨rfl, _, SqL.of hp3⟩, _, rfl, _, _, rfl, rfl, (by show (0 : Int) < 1000000; decide), p, _, _, rfl, rfl, hp3, ?_, ?_⟩
            · rw [List.length_map]
              exact Nat.lt_of_le_of_lt hl3 (room j (by omega))
            · refine ⟨_, rfl, _, _, rfl, rfl, ⟨by decide, by decide⟩, ?_⟩
              refine ⟨_, _, ms3 ++ [r % 1000000], rfl, fun b o eb => ?_, ?_, ?_, sm3.add⟩
              · rw [upd_ne (ne_of_none eb np)]
                exact s3 _ _ eb
              · rw [upd_same, List.map_append]
                rfl
              · rw [List.length_append]
                show ms3.length + 1 ≤ _
                omega
          · exact ⟨_, r, ms3, rfl, s3, hp3, by omega, sm3⟩
        · rintro σ H3 ⟨y4, r, ms3, rfl, s3, hp3, hl3, sm3⟩
          exact ⟨_, _, y4, ms3, rfl, s3, hp3, by omega, sm3⟩
      · refine ⟨_, rfl, .inl ⟨rfl, _, SqL.of hp⟩, _, rfl, _, _, rfl, rfl, (by show (0 : Int) < 1000000; decide), p, _, _, rfl, rfl, hp, ?_, ?_⟩
        · rw [List.length_map]
          exact room 0 (by decide)
        · refine ⟨5, rfl, by decide, by decide, for_range (n := 5) (fun j σ H3 => ∃ (y4 : Option V) (ms3 : List Int), σ = [some (.ref a), some (.ref p), some (.int c), y3, y4] ∧ Same H H3 ∧ H3 p = some (.lst (ms3.map V.int)) ∧ ms3.length ≤ ms.length + 1 + j ∧ Small ms3)
            ⟨y4, ms ++ [c % 1000000], rfl, fun b o eb => ?_, ?_, ?_, sm.add⟩ ?_ ?_⟩
          · rw [upd_ne (ne_of_none eb np)]
            exact s2 _ _ eb
          · rw [upd_same, List.map_append]
            rfl
          · rw [List.length_append]
            show ms.length + 1 ≤ _
            omega
          · rintro j σ H3 hj ⟨y4, ms3, rfl, s3, hp3, hl3, sm3⟩
            refine ⟨_, rfl, .inl ⟨rfl, _, SqL.of hp3⟩, ?_⟩
            refine ⟨_, rfl, _, _, rfl, rfl, (by show (0 : Int) < 2147483647; decide), _, rfl, _, _, rfl, fun z1 _ _ => ?_⟩
            refine ⟨_, rfl, _, _, rfl, rfl, _, _, rfl, fun z2 _ _ => ?_⟩
            refine ⟨_, _, rfl, rfl, (by show (0 : Int) < 1000000; decide), p, _, _, rfl, rfl, hp3, ?_, ?_⟩
            · rw [List.length_map]
              exact Nat.lt_of_le_of_lt hl3 (Nat.lt_of_le_of_lt (show ms.length + 1 + j ≤ ms.length + 60 by omega) (room 60 (by decide)))
            · refine ⟨_, ms3 ++ [z2 % 1000000], rfl, fun b o eb => ?_, ?_, ?_, sm3.add⟩
              · rw [upd_ne (ne_of_none eb np)]
                exact s3 _ _ eb
              · rw [upd_same, List.map_append]
                rfl
              · rw [List.length_append]
                show ms3.length + 1 ≤ _
                omega
          · rintro σ H3 ⟨y4, ms3, rfl, s3, hp3, hl3, sm3⟩
            exact ⟨_, _, y4, ms3, rfl, s3, hp3, by omega, sm3⟩
    · rintro σ H2 ⟨y2, y3, y4, ms, rfl, s2, hp, hl, sm⟩
      exact ⟨_, rfl, q H2 p ms s2 np hp sm⟩
theorem sc_draw : FnScope ["draws", "at", "first"] ["draws"] (defScope (top 125)) := ⟨rfl, rfl, rfl, by decide +kernel, rfl, by decide +kernel, by decide +kernel⟩
theorem has_draw (D : Def K mg "_law_draw" ["draws"] (top 125)) (T : Txt mg) (C1 : Has P w K mg base 1 "_law_mixed" ["number", "k"] spMixed) : Has P w K mg base 2 "_law_draw" ["draws"] spDraw := D.has fun f fd F => by
  obtain ⟨f1, fd1, G_law_mixed, g_law_mixed, k_law_mixed, b_law_mixed⟩ := C1
  refine F.ok sc_draw (fun vs H Q E h => ?_) (fun cdv A outer s H vs Q E hr h => ?_)
  · obtain ⟨d, l, rfl, _⟩ := h; rfl
  · obtain ⟨d, l, rfl, ⟨n, ms, h1, h2, sm⟩, q⟩ := h
    have R_law_mixed : Room 1 _ := hr.mono (by decide)
    have nld := draws_ne h1 h2
    refine ⟨_, PSs.nox (pss_cons (ps_set (i := 1) sc_draw.nd rfl (Or.inl rfl) (pe_ix ix_list (pv 0) pe_int (fun _ _ => rfl))) (pss_cons (ps_asg (pe_op op_add (pv 1) pe_int) (pg_sub (pv 0) pe_int set_list)) (pss_cons (ps_if (pt_cmpR op_lt (pv 1) (pe_callB call_len_seq (by rfl) T.n_len PySem.boot_len (pa_cons (pe_ix ix_list (pv 0) pe_int (fun _ _ => rfl)) pa_nil)) (nomark _)) (pss_one (ps_ret (pe_ix ix_list (pe_ix ix_list (pv 0) pe_int (fun _ _ => rfl)) (pv 1) (fun _ _ => rfl)))) pss_nil) (pss_cons (ps_set (i := 2) sc_draw.nd rfl (Or.inl rfl) (pe_op op_add pe_int (pv 1))) (pss_cons (ps_if (pt_cmpR op_gt (pe_callB call_len_seq (by rfl) T.n_len PySem.boot_len (pa_cons (pe_ix ix_list (pv 0) pe_int (fun _ _ => rfl)) pa_nil)) pe_int (nomark _)) (pss_one (ps_set (i := 2) sc_draw.nd rfl (Or.inl rfl) (pe_op op_add (pv 2) (pe_op op_mul pe_int (pe_ix ix_list (pe_ix ix_list (pv 0) pe_int (fun _ _ => rfl)) pe_int (fun _ _ => rfl)))))) pss_nil) (pss_one (ps_ret (pe_op op_mod (pe_call G_law_mixed R_law_mixed (by rfl) g_law_mixed k_law_mixed b_law_mixed .nil pass0 (pa_cons (pe_call G_law_mixed R_law_mixed (by rfl) g_law_mixed k_law_mixed b_law_mixed .nil pass0 (pa_cons (pv 2) (pa_cons (pv 1) pa_nil))) (pa_cons pe_int pa_nil))) pe_int)))))))), ?_⟩
    refine ⟨_, rfl, d, _, _, _, rfl, rfl, SqL.of h1, atI_nat (j := 1) rfl, ?_⟩
    refine ⟨_, rfl, _, _, rfl, rfl, _, rfl, d, _, _, 1, rfl, rfl, h1, rfl, ?_⟩
    have k1 : Kp d H (upd H d (.lst ([V.ref l, V.int n].set 1 (.int ((n : Int) + 1))))) := Kp.upd
    have h1' : (upd H d (.lst ([V.ref l, V.int n].set 1 (.int ((n : Int) + 1))))) d = some (.lst [.ref l, .int ((n + 1 : Nat) : Int)]) := by
      rw [upd_same]
      rfl
    have h2' : (upd H d (.lst ([V.ref l, V.int n].set 1 (.int ((n : Int) + 1))))) l = some (.lst (ms.map V.int)) := k1 l _ h2 nld
    revert k1 h1' h2'
    generalize upd H d (.lst ([V.ref l, V.int n].set 1 (.int ((n : Int) + 1)))) = H1
    intro k1 h1' h2'
    have dr : DrA H1 d l := ⟨n + 1, ms, h1', h2', sm⟩
    refine ⟨_, rfl, _, rfl, d, _, _, _, rfl, rfl, SqL.of h1', atI_nat (j := 0) rfl, l, _, rfl, .inl (SqL.of h2'), _, _, rfl, rfl, _, rfl, ite2 (fun e => ?_) (fun e => ?_)⟩
    · have hn : n < ms.length := by
        have e1 := of_decide_eq_true e
        rw [List.length_map] at e1
        omega
      have e1 : (ms.map V.int)[n]? = some (.int ms[n]) := by
        rw [List.getElem?_map, List.getElem?_eq_getElem hn]
        rfl
      refine ⟨_, rfl, d, _, _, _, rfl, rfl, SqL.of h1', atI_nat (j := 0) rfl, _, rfl, l, _, _, _, rfl, rfl, SqL.of h2', atI_nat e1, ?_⟩
      obtain ⟨z0, z1⟩ := sm _ (List.getElem_mem hn)
      exact q _ _ z0 z1 dr k1
    · refine ⟨_, rfl, _, _, rfl, rfl, ?_⟩
      refine ⟨_, rfl, d, _, _, _, rfl, rfl, SqL.of h1', atI_nat (j := 0) rfl, l, _, rfl, .inl (SqL.of h2'), _, _, rfl, rfl, _, rfl, ite2 (fun e2 => ?_) (fun e2 => ?_)⟩
      · have hn : 0 < ms.length := by
          have e1 := of_decide_eq_true e2
          rw [List.length_map] at e1
          omega
        have e1 : (ms.map V.int)[0]? = some (.int ms[0]) := by
          rw [List.getElem?_map, List.getElem?_eq_getElem hn]
          rfl
        refine ⟨_, rfl, _, rfl, d, _, _, _, rfl, rfl, SqL.of h1', atI_nat (j := 0) rfl, l, _, _, _, rfl, rfl, SqL.of h2', atI_nat (j := 0) e1, _, _, rfl, rfl, .inl ⟨by decide, by decide⟩, _, _, rfl, rfl, ?_⟩
        refine ⟨_, rfl, _, rfl, _, _, rfl, fun z1 _ _ => ?_⟩
        refine ⟨_, _, rfl, fun z2 _ _ => ?_⟩
        refine ⟨_, _, rfl, rfl, (by show (0 : Int) < 1000000; decide), ?_⟩
        exact q _ _ (Int.emod_nonneg _ (by decide)) (Int.emod_lt_of_pos _ (by decide)) dr k1
      · refine ⟨_, rfl, _, rfl, _, _, rfl, fun z1 _ _ => ?_⟩
        refine ⟨_, _, rfl, fun z2 _ _ => ?_⟩
        refine ⟨_, _, rfl, rfl, (by show (0 : Int) < 1000000; decide), ?_⟩
        exact q _ _ (Int.emod_nonneg _ (by decide)) (Int.emod_lt_of_pos _ (by decide)) dr k1
end
/-! ### own errors -/
/-- what the head tells of the class x of errors (over ValueError) -/
structure XC (K : PySem.W.Frag) (mg : Str → Option Value) (x : Str) : Prop where
  g : mg x = some (.ref (He.ga K x))
  ex : PySem.W.excIn K (He.ga K x) [.type "ValueError", .type "Exception", .type "BaseException", .type "object"] "ValueError.__new__" = true
  k : PySem.W.keepIn K (.ref (He.ga K x)) = true
  b : PySem.W.subIn K (.ref (He.ga K x)) (.type "BaseException") = some true
  t : PySem.W.typeIn K (.ref (He.ga K x)) = some (.type "type")
  e : PySem.W.exmOne K (.ref (He.ga K x)) (.ref (He.ga K x)) = some true
  i : ExcC K (He.ga K x)
def xcB (K : PySem.W.Frag) (x : Str) : Bool :=
  PySem.W.excIn K (He.ga K x) [.type "ValueError", .type "Exception", .type "BaseException", .type "object"] "ValueError.__new__" && (PySem.W.keepIn K (.ref (He.ga K x)) && ((PySem.W.subIn K (.ref (He.ga K x)) (.type "BaseException") == some true) && ((PySem.W.typeIn K (.ref (He.ga K x)) == some (.type "type")) &&
  ((PySem.W.exmOne K (.ref (He.ga K x)) (.ref (He.ga K x)) == some true) && ((PySem.W.findIn K (.ref (He.ga K x)) "__getattribute__" == some (some (.builtin "BaseException.__getattribute__"))) && ((PySem.W.findIn K (.ref (He.ga K x)) "__getattr__" == some none) && (PySem.W.hasDictIn K (He.ga K x) &&
  ((PySem.W.findIn K (.ref (He.ga K x)) "__class__" == some (some (.builtin "object.__class__"))) && ((PySem.W.specialIn K (.builtin "object.__class__") "__get__" == some (some (.builtin "getset_descriptor.__get__"))) && ((PySem.W.takesIn K (.builtin "object.__class__") == some true) && (PySem.W.mroIn K (He.ga K x) (.type "object") == some true)))))))))))
theorem xcB_ok {K : PySem.W.Frag} {mg : Str → Option Value} {x : Str} (g : mg x = some (.ref (He.ga K x))) (h : xcB K x = true) : XC K mg x := by
  unfold xcB at h
  simp only [Bool.and_eq_true, beq_iff_eq] at h
  obtain ⟨h1, h2, h3, h4, h5, h6, h7, h8, h9, h10, h11, h12⟩ := h
  exact ⟨g, h1, h2, h3, h4, h5, ⟨h6, h7, h3, h8, h9, h10, h11, h12⟩⟩
/-- isinstance(e, C): of the class x, whether it is under the class c -/
def kitB2 (K : PySem.W.Frag) (x c : Str) (b : Bool) : Bool := PySem.W.kitOne K (.ref (He.ga K x)) (.ref (He.ga K c)) == some b
theorem kitB2_ok {K : PySem.W.Frag} {x c : Str} {b : Bool} (h : kitB2 K x c b = true) : PySem.W.kitOne K (.ref (He.ga K x)) (.ref (He.ga K c)) = some b := beq_iff_eq.mp h
section
variable {X : Cx}
theorem XC.raises {x : Str} {K : PySem.W.Frag} {mg : Str → Option Value} (c : XC K mg x) (hk : X.K = K) : Raises X (.ref (He.ga K x)) := by
  subst hk
  exact raises_own c.b c.t
/-- raise X('m') -/
theorem ps_raiseX {x m : Str} {j : Nat} {p p2 pos pos' : Pos} {W : WX} (c : XC X.K X.mg x) (hc : X.calm = true) (tk : Takes X W) (hg : Gl X x) (hdb : (x == ("__debug__" : Str)) = false := by decide) :
    PS X (.Raise (some (.Call (.Name x p) [.Constant (.str m) j p2] [] pos)) none pos') (fun _ σ H => W (.ref (He.ga X.K x)) none σ H) :=
  ps_raise hc tk (pmk_own PySem.F.excBase_ValueError c.ex c.g c.k (raises_own c.b c.t) hg hdb)
/-- isinstance(e, c) in the suite that holds e -/
theorem call_isE' {a : Addr} {oe : Obj} {cls : Value} {d : Option Addr} {pn : List (Addr × Obj)} (hz : Zc cls d oe) (hf : ∃ vs, oe.data = .fields vs) :
    CallR (X.suite a ((a, oe) :: pn)) (.builtin "isinstance") (fun xs H Q => ∃ (D C : Addr) (b : Bool), cls = .ref D ∧ d = none ∧ ExcC X.K D ∧ xs = [.ref a, .ref C] ∧ PySem.W.kitOne X.K (.ref D) (.ref C) = some b ∧ Q (.bl b) H) := by
  intro pins s σ H xs us Q I r h
  obtain ⟨D, C, b, rfl, rfl, c, rfl, k, q⟩ := h
  exact call_isE c hz hf pins s σ H _ us Q I r ⟨.ref C, .ref C, b, rfl, fun u e => e, k, q⟩
end
/-! ### what stands at the top -/
def thB (K : PySem.W.Frag) (x : Str) (kvs : List (Str × He.Dv)) : Bool := kvs.all fun p => match PySem.W.nsIn K (He.ga K x) p.1 with
  | some (some u) => He.relB (p.2.v K) u
  | _ => false
def msB (K : PySem.W.Frag) (x : Str) (ks : List Str) : Bool := ks.all fun k => match PySem.W.nsIn K (He.ga K x) k with
  | some none => true
  | _ => false
def d_is_whole : He.DefD := ⟨("is_whole", none), "is_whole", "is_whole", defArgs (top 9), defBody (top 9), defScope (top 9), [], []⟩
def d_is_between : He.DefD := ⟨("is_between", none), "is_between", "is_between", defArgs (top 10), defBody (top 10), defScope (top 10), [], []⟩
def d_is_name : He.DefD := ⟨("is_name", none), "is_name", "is_name", defArgs (top 22), defBody (top 22), defScope (top 22), [], []⟩
def d_kept_relations : He.DefD := ⟨("_kept_relations", none), "_kept_relations", "_kept_relations", defArgs (top 25), defBody (top 25), defScope (top 25), [], []⟩
def d_Structure___init__ : He.DefD := ⟨("Structure", some "__init__"), "__init__", "Structure.__init__", defArgs (inClass (top 26) 0), defBody (inClass (top 26) 0), defScope (inClass (top 26) 0), [], []⟩
def d_are_variables : He.DefD := ⟨("_are_variables", none), "_are_variables", "_are_variables", defArgs (top 37), defBody (top 37), defScope (top 37), [], []⟩
def d_are_different : He.DefD := ⟨("are_different", none), "are_different", "are_different", defArgs (top 38), defBody (top 38), defScope (top 38), [], []⟩
def d_is_rel : He.DefD := ⟨("_is_rel", none), "_is_rel", "_is_rel", defArgs (top 39), defBody (top 39), defScope (top 39), [], []⟩
def d_is_comparison : He.DefD := ⟨("_is_comparison", none), "_is_comparison", "_is_comparison", defArgs (top 40), defBody (top 40), defScope (top 40), [], []⟩
def d_is_negation : He.DefD := ⟨("_is_negation", none), "_is_negation", "_is_negation", defArgs (top 41), defBody (top 41), defScope (top 41), [], []⟩
def d_is_joined : He.DefD := ⟨("_is_joined", none), "_is_joined", "_is_joined", defArgs (top 42), defBody (top 42), defScope (top 42), [], []⟩
def d_is_quantified : He.DefD := ⟨("_is_quantified", none), "_is_quantified", "_is_quantified", defArgs (top 43), defBody (top 43), defScope (top 43), [], []⟩
def d_is_fixed_point : He.DefD := ⟨("_is_fixed_point", none), "_is_fixed_point", "_is_fixed_point", defArgs (top 44), defBody (top 44), defScope (top 44), [], []⟩
def d_is_closure : He.DefD := ⟨("_is_closure", none), "_is_closure", "_is_closure", defArgs (top 45), defBody (top 45), defScope (top 45), [], []⟩
def d_is_guess : He.DefD := ⟨("_is_guess", none), "_is_guess", "_is_guess", defArgs (top 46), defBody (top 46), defScope (top 46), [], []⟩
def d_is_shape : He.DefD := ⟨("is_shape", none), "is_shape", "is_shape", defArgs (top 48), defBody (top 48), defScope (top 48), [], []⟩
def d_inner : He.DefD := ⟨("inner", none), "inner", "inner", defArgs (top 49), defBody (top 49), defScope (top 49), [], []⟩
def d_own : He.DefD := ⟨("own", none), "own", "own", defArgs (top 52), defBody (top 52), defScope (top 52), [], []⟩
def d_arguments : He.DefD := ⟨("arguments", none), "arguments", "arguments", defArgs (top 54), defBody (top 54), defScope (top 54), [], []⟩
def d_bound_name : He.DefD := ⟨("bound_name", none), "bound_name", "bound_name", defArgs (top 56), defBody (top 56), defScope (top 56), [], []⟩
def d_bound_arity : He.DefD := ⟨("bound_arity", none), "bound_arity", "bound_arity", defArgs (top 57), defBody (top 57), defScope (top 57), [], []⟩
def d_check_shapes : He.DefD := ⟨("_check_shapes", none), "_check_shapes", "_check_shapes", defArgs (top 83), defBody (top 83), defScope (top 83), [], []⟩
def d_arities_in : He.DefD := ⟨("arities_in", none), "arities_in", "arities_in", defArgs (top 84), defBody (top 84), defScope (top 84), [], []⟩
def d_is_positive_in : He.DefD := ⟨("is_positive_in", none), "is_positive_in", "is_positive_in", defArgs (top 85), defBody (top 85), defScope (top 85), [], []⟩
def d_check_fixed_points : He.DefD := ⟨("_check_fixed_points", none), "_check_fixed_points", "_check_fixed_points", defArgs (top 86), defBody (top 86), defScope (top 86), [], []⟩
def d_check_formula : He.DefD := ⟨("check_formula", none), "check_formula", "check_formula", defArgs (top 87), defBody (top 87), defScope (top 87), [], []⟩
def d_pfree : He.DefD := ⟨("_free", none), "_free", "_free", defArgs (top 89), defBody (top 89), defScope (top 89), [], []⟩
def d_free : He.DefD := ⟨("free", none), "free", "free", defArgs (top 90), defBody (top 90), defScope (top 90), [], []⟩
def d_check_definition : He.DefD := ⟨("_check_definition", none), "_check_definition", "_check_definition", defArgs (top 110), defBody (top 110), defScope (top 110), [], []⟩
def d_check_agreement : He.DefD := ⟨("_check_agreement", none), "_check_agreement", "_check_agreement", defArgs (top 111), defBody (top 111), defScope (top 111), [], []⟩
def d_check_system : He.DefD := ⟨("check_system", none), "check_system", "check_system", defArgs (top 112), defBody (top 112), defScope (top 112), [], []⟩
def d_check_solvable : He.DefD := ⟨("_check_solvable", none), "_check_solvable", "_check_solvable", defArgs (top 114), defBody (top 114), defScope (top 114), [], []⟩
def d_solve : He.DefD := ⟨("solve", none), "solve", "solve", defArgs (top 116), defBody (top 116), defScope (top 116), [], []⟩
def d_stages : He.DefD := ⟨("stages", none), "stages", "stages", defArgs (top 117), defBody (top 117), defScope (top 117), [], []⟩
def d_one_formula : He.DefD := ⟨("one_formula", none), "one_formula", "one_formula", defArgs (top 121), defBody (top 121), defScope (top 121), [], []⟩
def d_law_mixed : He.DefD := ⟨("_law_mixed", none), "_law_mixed", "_law_mixed", defArgs (top 123), defBody (top 123), defScope (top 123), [], []⟩
def d_law_numbers : He.DefD := ⟨("_law_numbers", none), "_law_numbers", "_law_numbers", defArgs (top 124), defBody (top 124), defScope (top 124), [], []⟩
def d_law_draw : He.DefD := ⟨("_law_draw", none), "_law_draw", "_law_draw", defArgs (top 125), defBody (top 125), defScope (top 125), [], []⟩
def d_law_some_of : He.DefD := ⟨("_law_some_of", none), "_law_some_of", "_law_some_of", defArgs (top 126), defBody (top 126), defScope (top 126), [], []⟩
def d_law_atom : He.DefD := ⟨("_law_atom", none), "_law_atom", "_law_atom", defArgs (top 127), defBody (top 127), defScope (top 127), [], []⟩
def d_law_within : He.DefD := ⟨("_law_within", none), "_law_within", "_law_within", defArgs (top 128), defBody (top 128), defScope (top 128), [], []⟩
def d_law_turned : He.DefD := ⟨("_law_turned", none), "_law_turned", "_law_turned", defArgs (top 129), defBody (top 129), defScope (top 129), [], []⟩
def d_law_barred : He.DefD := ⟨("_law_barred", none), "_law_barred", "_law_barred", defArgs (top 130), defBody (top 130), defScope (top 130), [], []⟩
def d_law_bound : He.DefD := ⟨("_law_bound", none), "_law_bound", "_law_bound", defArgs (top 131), defBody (top 131), defScope (top 131), [], []⟩
def d_law_formula : He.DefD := ⟨("_law_formula", none), "_law_formula", "_law_formula", defArgs (top 132), defBody (top 132), defScope (top 132), [], []⟩
def d_law_names : He.DefD := ⟨("_law_names", none), "_law_names", "_law_names", defArgs (top 133), defBody (top 133), defScope (top 133), [], []⟩
def d_law_system : He.DefD := ⟨("_law_system", none), "_law_system", "_law_system", defArgs (top 134), defBody (top 134), defScope (top 134), [], []⟩
def d_law_spoilt_one : He.DefD := ⟨("_law_spoilt_one", none), "_law_spoilt_one", "_law_spoilt_one", defArgs (top 135), defBody (top 135), defScope (top 135), [], []⟩
def d_law_called : He.DefD := ⟨("_law_called", none), "_law_called", "_law_called", defArgs (top 136), defBody (top 136), defScope (top 136), [], []⟩
def d_law_refused : He.DefD := ⟨("_law_refused", none), "_law_refused", "_law_refused", defArgs (top 137), defBody (top 137), defScope (top 137), [], []⟩
def d_law_many : He.DefD := ⟨("_law_many", none), "_law_many", "_law_many", defArgs (top 138), defBody (top 138), defScope (top 138), [], []⟩
def d_law : He.DefD := ⟨("law", none), "law", "law", defArgs (top 139), defBody (top 139), defScope (top 139), [], []⟩
def fns : List He.DefD := [d_is_whole, d_is_between, d_is_name, d_kept_relations, d_Structure___init__, d_are_variables, d_are_different, d_is_rel, d_is_comparison, d_is_negation, d_is_joined, d_is_quantified, d_is_fixed_point, d_is_closure, d_is_guess, d_is_shape, d_inner, d_own, d_arguments, d_bound_name, d_bound_arity, d_check_shapes, d_arities_in, d_is_positive_in, d_check_fixed_points, d_check_formula, d_pfree, d_free, d_check_definition, d_check_agreement, d_check_system, d_check_solvable, d_solve, d_stages, d_one_formula, d_law_mixed, d_law_numbers, d_law_draw, d_law_some_of, d_law_atom, d_law_within, d_law_turned, d_law_barred, d_law_bound, d_law_formula, d_law_names, d_law_system, d_law_spoilt_one, d_law_called, d_law_refused, d_law_many, d_law]
def fas : List He.Fa := [.glo "is_whole", .glo "is_between", .glo "is_name", .glo "_kept_relations", .meth "Structure" "__init__", .glo "_are_variables", .glo "are_different", .glo "_is_rel", .glo "_is_comparison", .glo "_is_negation", .glo "_is_joined", .glo "_is_quantified", .glo "_is_fixed_point", .glo "_is_closure", .glo "_is_guess", .glo "is_shape", .glo "inner", .glo "own", .glo "arguments", .glo "bound_name", .glo "bound_arity", .glo "_check_shapes", .glo "arities_in", .glo "is_positive_in", .glo "_check_fixed_points", .glo "check_formula", .glo "_free", .glo "free", .glo "_check_definition", .glo "_check_agreement", .glo "check_system", .glo "_check_solvable", .glo "solve", .glo "stages", .glo "one_formula", .glo "_law_mixed", .glo "_law_numbers", .glo "_law_draw", .glo "_law_some_of", .glo "_law_atom", .glo "_law_within", .glo "_law_turned", .glo "_law_barred", .glo "_law_bound", .glo "_law_formula", .glo "_law_names", .glo "_law_system", .glo "_law_spoilt_one", .glo "_law_called", .glo "_law_refused", .glo "_law_many", .glo "law", .free "len", .free "range", .free "isinstance", .free "list", .free "tuple", .free "bool", .free "int", .free "str", .free "sorted", .free "set", .free "all", .free "any", .free "sum", .free "max", .free "min", .free "dict", .free "enumerate", .free "zip", .int "LONGEST_NAME" 12, .int "LARGEST_SIZE" 16, .int "MOST_RELATIONS" 6, .int "MOST_JOINED" 40, .int "LARGEST_GUESS" 3, .int "MOST_PARTS" 2000, .int "MOST_DEEP" 40, .int "MOST_DEFINITIONS" 24, .str "LETTERS" "abcdefghijklmnopqrstuvwxyz", .str "FIGURES" "0123456789", .glo "RESERVED", .glo "REL_COUNTS", .glo "OWN_COUNTS", .glo "TC_COUNTS", .glo "LENGTHS", .glo "BODY_AT", .glo "OWN_AT", .glo "ARGUMENTS_AT", .glo "TESTS", .glo "BadFormula", .glo "BadStructure", .glo "SaysoError", .glo "BadArgument", .glo "NotFitting", .glo "TooLarge", .glo "Structure", .cls "Structure", .mkr "Structure", .noat "Structure" "size", .noat "Structure" "relations"]
def tabs : List He.Tab := [((fun K => He.ga K "LENGTHS"), ["rel", "eq", "less", "not", "and", "or", "some", "all", "lfp", "pfp", "tc", "guess"]), ((fun K => He.ga K "BODY_AT"), ["not", "some", "all", "lfp", "pfp", "tc", "guess"]), ((fun K => He.ga K "OWN_AT"), ["some", "all", "lfp", "pfp", "tc"]), ((fun K => He.ga K "ARGUMENTS_AT"), ["rel", "lfp", "pfp", "tc"]), ((fun K => He.ga K "TESTS"), ["rel", "eq", "less", "not", "and", "or", "some", "all", "lfp", "pfp", "tc", "guess"])]
def exs (K : PySem.W.Frag) : Bool := He.tupB K "RESERVED" [.str "and", .str "or", .str "not", .str "some", .str "all", .str "lfp", .str "pfp", .str "tc", .str "guess", .str "true", .str "false"] && (He.tupB K "REL_COUNTS" [.int 0, .int 1, .int 2, .int 3, .int 4, .int 5, .int 6] && (He.tupB K "OWN_COUNTS" [.int 1, .int 2, .int 3, .int 4, .int 5, .int 6] && (He.tupB K "TC_COUNTS" [.int 2, .int 4, .int 6, .int 8] && (thB K "LENGTHS" [("rel", .int 3), ("eq", .int 3), ("less", .int 3), ("not", .int 2), ("and", .int 2), ("or", .int 2), ("some", .int 3), ("all", .int 3), ("lfp", .int 5), ("pfp", .int 5), ("tc", .int 4), ("guess", .int 4)] && (thB K "BODY_AT" [("not", .int 1), ("some", .int 2), ("all", .int 2), ("lfp", .int 3), ("pfp", .int 3), ("tc", .int 2), ("guess", .int 3)] && (thB K "OWN_AT" [("some", .int 1), ("all", .int 1), ("lfp", .int 2), ("pfp", .int 2), ("tc", .int 1)] && (thB K "ARGUMENTS_AT" [("rel", .int 2), ("lfp", .int 4), ("pfp", .int 4), ("tc", .int 3)] && (thB K "TESTS" [("rel", .glo "_is_rel"), ("eq", .glo "_is_comparison"), ("less", .glo "_is_comparison"), ("not", .glo "_is_negation"), ("and", .glo "_is_joined"), ("or", .glo "_is_joined"), ("some", .glo "_is_quantified"), ("all", .glo "_is_quantified"), ("lfp", .glo "_is_fixed_point"), ("pfp", .glo "_is_fixed_point"), ("tc", .glo "_is_closure"), ("guess", .glo "_is_guess")] && (msB K "LENGTHS" ["rell"] && (msB K "BODY_AT" ["rel", "eq", "less", "and", "or"] && (msB K "OWN_AT" ["rel", "eq", "less", "not", "and", "or", "guess"] && (msB K "ARGUMENTS_AT" ["eq", "less", "not", "and", "or", "some", "all", "guess"] && (xcB K "BadFormula" && (xcB K "BadStructure" && (kitB2 K "BadFormula" "SaysoError" true && (kitB2 K "BadFormula" "BadArgument" false && (kitB2 K "BadFormula" "NotFitting" false && (kitB2 K "BadFormula" "TooLarge" false))))))))))))))))))
abbrev R : PySem.W.OpenRow := PySem.W.OpenLaw.row PySem.Challenge.rw_sayso_k25_systems_are_checked
/-! ### what is looked at behind the top: each object once -/
namespace HkQ
open PySem PySem.W
def stp (g : Addr → Option Obj) (as : List Addr) : List Addr := as.flatMap fun a => match g a with
  | some o => He.refsD o
  | none => []
/-- a list of addresses, reckoned to its end before it is used -/
def frL {α : Type} : List Addr → (List Addr → α) → α
  | [], k => k []
  | a :: l, k => HandSHeadRun.frNat a fun a => frL l fun l => k (a :: l)
theorem frL_eq {α : Type} : ∀ (l : List Addr) (k : List Addr → α), frL l k = k l
  | [], _ => rfl
  | a :: l, k => by
    show (HandSHeadRun.frNat a fun a => frL l fun l => k (a :: l)) = _
    rw [HandSHeadRun.frNat_eq, frL_eq l]
def nxt (g : Addr → Option Obj) (a1 as : List Addr) : List Addr := (stp g as).filter fun x => !a1.elem x
def reach {α : Type} (g : Addr → Option Obj) (k : List Addr → α) : α :=
  frL (stp g [mainGlobals]) fun a1 => frL (nxt g a1 a1) fun a2 => frL (nxt g a1 a2) fun a3 => frL (nxt g a1 a3) fun a4 => k (mainGlobals :: (a1 ++ (a2 ++ (a3 ++ a4))))
def all (g : Addr → Option Obj) : List Addr := reach g id
theorem reach_eq {α : Type} (g : Addr → Option Obj) (k : List Addr → α) : reach g k = k (all g) := by
  unfold all reach
  simp only [frL_eq]
  rfl
def frK {α : Type} (g : Addr → Option Obj) : List Addr → (Frag → α) → α
  | [], k => k []
  | a :: l, k => match g a with
    | some o => (match He.emptyTab o with
      | true => frK g l k
      | false => frK g l fun K => k ((a, o) :: K))
    | none => frK g l k
theorem frK_eq {α : Type} (g : Addr → Option Obj) : ∀ (l : List Addr) (k : Frag → α), frK g l k = k (He.frT g l)
  | [], _ => rfl
  | a :: l, k => by
    have e : He.frT g (a :: l) = match g a with
      | some o => (match He.emptyTab o with
        | true => He.frT g l
        | false => (a, o) :: He.frT g l)
      | none => He.frT g l := by
      unfold He.frT He.frG
      rw [List.filterMap_cons]
      cases h : g a with
      | none => rfl
      | some o =>
        show List.filter _ ((a, o) :: _) = _
        cases h2 : He.emptyTab o with
        | true => rw [List.filter_cons_of_neg (by rw [h2]; decide)]; simp only [h2]
        | false => rw [List.filter_cons_of_pos (by rw [h2]; rfl)]; simp only [h2]
    rw [e]
    show (match g a with
      | some o => (match He.emptyTab o with
        | true => frK g l k
        | false => frK g l fun K => k ((a, o) :: K))
      | none => frK g l k) = _
    cases h : g a with
    | none => exact frK_eq g l k
    | some o =>
      cases h2 : He.emptyTab o with
      | true =>
        show (match He.emptyTab o with
          | true => frK g l k
          | false => frK g l fun K => k ((a, o) :: K)) = k (match He.emptyTab o with
          | true => He.frT g l
          | false => (a, o) :: He.frT g l)
        rw [h2]
        exact frK_eq g l k
      | false =>
        show (match He.emptyTab o with
          | true => frK g l k
          | false => frK g l fun K => k ((a, o) :: K)) = k (match He.emptyTab o with
          | true => He.frT g l
          | false => (a, o) :: He.frT g l)
        rw [h2]
        exact frK_eq g l _
def obsQ (fa : List He.Fa) (fn : List He.DefD) (ts : List He.Tab) (ex : Frag → Bool) (g : Addr → Option Obj) : He.AlX :=
  reach g fun as => frK g as fun K => (He.obsT fa fn ts K, ex K)
theorem obsQ_is (fa : List He.Fa) (fn : List He.DefD) (ts : List He.Tab) (ex : Frag → Bool) (g : Addr → Option Obj) : obsQ fa fn ts ex g = (He.obsT fa fn ts (He.frT g (all g)), ex (He.frT g (all g))) := by
  unfold obsQ
  rw [reach_eq, frK_eq]
def hookQ (fa : List He.Fa) (fn : List He.DefD) (ts : List He.Tab) (ex : Frag → Bool) : Hook where
  α := He.AlX
  obs := fun s => obsQ fa fn ts ex s.heap.get?
  val := fun w => He.valX fn ts w
  says := fun w h => ∃ K : Frag, K.In h ∧ He.SaysX fa fn ts [] ex w h K
  of := fun w h e => by
    have e : obsQ fa fn ts ex h.heap.get? = He.valX fn ts w := e
    rw [obsQ_is] at e
    exact ⟨_, He.frT_in, congrArg (fun z : He.AlX => z.1) e, congrArg (fun z : He.AlX => z.2) e, (fun p hp => nomatch hp), (fun p hp => nomatch hp), (fun p hp => nomatch hp)⟩
  keeps := fun _ _ _ ⟨K, hK, c⟩ k => ⟨K, Frag.In.keeps hK k, ⟨c.t, c.more, (fun p hp => nomatch hp), (fun p hp => nomatch hp), (fun p hp => nomatch hp)⟩⟩
theorem obsQ_eq {fa : List He.Fa} {fn : List He.DefD} {ts : List He.Tab} {ex : Frag → Bool} {g : Addr → Option Obj} {s : Shared} (h : ∀ a, g a = s.heap.get? a) : obsQ fa fn ts ex g = (hookQ fa fn ts ex).obs s := by
  have e : g = s.heap.get? := funext h
  rw [e] <;> rfl
end HkQ

abbrev hk : PySem.W.Hook := HkQ.hookQ fas fns tabs exs
def ob (s : PySem.W.SharedT) : He.AlX := HkQ.obsQ fas fns tabs exs (HandSHeadRun.getT s)
theorem ob_eq (s : PySem.W.SharedT) : ob s = hk.obs s.abs := HkQ.obsQ_eq (HandSHeadRun.getT_eq s)
def looseN : List PySem.Str := (["_wall", "SaysoError", "BadStructure", "BadFormula", "BadArgument", "NotFitting", "TooLarge", "is_whole", "is_between", "power", "digits_for", "LONGEST_NAME", "LETTERS", "FIGURES", "RESERVED", "LARGEST_SIZE", "MOST_RELATIONS", "LARGEST_ARITY", "MOST_ROWS", "is_name", "_kept_row", "_kept_relation", "_kept_relations", "Structure", "MOST_JOINED", "LARGEST_GUESS", "REL_COUNTS", "OWN_COUNTS", "TC_COUNTS", "LENGTHS"] : List PySem.Str) ++ (["BODY_AT", "OWN_AT", "ARGUMENTS_AT", "_are_variables", "are_different", "_is_rel", "_is_comparison", "_is_negation", "_is_joined", "_is_quantified", "_is_fixed_point", "_is_closure", "_is_guess", "TESTS", "is_shape", "inner", "_with_item", "with_inner", "own", "with_own", "arguments", "with_arguments", "bound_name", "bound_arity", "Scope", "scope_of", "all_rows", "row_test", "_row_of_arguments", "_rel_test"] : List PySem.Str) ++ (["_eq_test", "_less_test", "_not_test", "_joined_test", "_quantified_test", "_tried_elements", "row_finder", "_settled", "_fixed_point_test", "_is_reached", "_closure_test", "counts_on", "_guess_test", "TEST_MAKERS", "truth_test", "MOST_PARTS", "MOST_DEEP", "_check_shapes", "arities_in", "is_positive_in", "_check_fixed_points", "check_formula", "within_bounds", "_free", "free", "variables_in", "names_in", "LARGEST_COST", "MOST_COST", "MOST_TRIED_ROWS"] : List PySem.Str) ++ (["ENOUGH_DOUBLINGS", "doublings", "_repetitions", "known_cost", "_check_tried", "check_work", "check_symbols", "Names", "renamed", "with_rels", "MOST_DEFINITIONS", "_check_definition", "_check_agreement", "check_system", "_symbols_outside", "_check_solvable", "Stage", "solve", "stages", "Joined", "_joined_parts", "_all_names", "one_formula", "_law_mixed", "_law_numbers", "_law_draw", "_law_some_of", "_law_atom", "_law_within", "_law_turned"] : List PySem.Str) ++ (["_law_barred", "_law_bound", "_law_formula", "_law_names", "_law_system", "_law_spoilt_one", "_law_called", "_law_refused", "_law_many"] : List PySem.Str)
theorem run_fA (w : World) (os : OsState) : (HandSHeadRun.endF (HandSHeadRun.stepQ (HandSHeadRun.denQ HandSHeadRun.tabQ) R.prog (w.withFollow "special-get-raises" false)) 16000 R.prog (w.withFollow "special-get-raises" false) os).map (fun s => HandSHeadRun.looksF R.prog (PySem.W.boot_heap (w.withFollow "special-get-raises" false).params) s.abs) = some (true) := by
  kernel_rfl
theorem run_fB (w : World) (os : OsState) : (HandSHeadRun.endF (HandSHeadRun.stepQ (HandSHeadRun.denQ HandSHeadRun.tabQ) R.prog (w.withFollow "special-get-raises" false)) 16000 R.prog (w.withFollow "special-get-raises" false) os).map (fun s => HandSHeadRun.seenQ (PySem.W.view R.prog [139]) looseN (importedModules R.prog.main.body) (fun s => PySem.W.xlAt (PySem.W.view R.prog [139]) [] s && PySem.W.recOk R.toRowW.records s) s.abs) = some (PySem.W.openGood (PySem.W.view R.prog [139]) looseN) := by
  kernel_rfl
theorem run_fC (w : World) (os : OsState) : (HandSHeadRun.endF (HandSHeadRun.stepQ (HandSHeadRun.denQ HandSHeadRun.tabQ) R.prog (w.withFollow "special-get-raises" false)) 16000 R.prog (w.withFollow "special-get-raises" false) os).map (fun s => ob s) = some (hk.val (w.withFollow "special-get-raises" false)) := by
  kernel_rfl
theorem run_f (w : World) : HandSHeadRun.RunEq R (PySem.W.view R.prog [139]) hk ob 16000 looseN (w.withFollow "special-get-raises" false) := fun os => by
  obtain ⟨s, hs, ha⟩ := Option.map_eq_some_iff.mp (run_fA w os)
  have hb := run_fB w os
  have hc := run_fC w os
  rw [hs] at hb hc ⊢
  rw [Option.map_some] at hb hc ⊢
  exact congrArg some (Prod.ext ha (Prod.ext (Option.some.inj hb) (Option.some.inj hc)))
theorem run_tA (w : World) (os : OsState) : (HandSHeadRun.endF (HandSHeadRun.stepQ (HandSHeadRun.denQ HandSHeadRun.tabQ) R.prog (w.withFollow "special-get-raises" true)) 16000 R.prog (w.withFollow "special-get-raises" true) os).map (fun s => HandSHeadRun.looksF R.prog (PySem.W.boot_heap (w.withFollow "special-get-raises" true).params) s.abs) = some (true) := by
  kernel_rfl
theorem run_tB (w : World) (os : OsState) : (HandSHeadRun.endF (HandSHeadRun.stepQ (HandSHeadRun.denQ HandSHeadRun.tabQ) R.prog (w.withFollow "special-get-raises" true)) 16000 R.prog (w.withFollow "special-get-raises" true) os).map (fun s => HandSHeadRun.seenQ (PySem.W.view R.prog [139]) looseN (importedModules R.prog.main.body) (fun s => PySem.W.xlAt (PySem.W.view R.prog [139]) [] s && PySem.W.recOk R.toRowW.records s) s.abs) = some (PySem.W.openGood (PySem.W.view R.prog [139]) looseN) := by
  kernel_rfl
theorem run_tC (w : World) (os : OsState) : (HandSHeadRun.endF (HandSHeadRun.stepQ (HandSHeadRun.denQ HandSHeadRun.tabQ) R.prog (w.withFollow "special-get-raises" true)) 16000 R.prog (w.withFollow "special-get-raises" true) os).map (fun s => ob s) = some (hk.val (w.withFollow "special-get-raises" true)) := by
  kernel_rfl
theorem run_t (w : World) : HandSHeadRun.RunEq R (PySem.W.view R.prog [139]) hk ob 16000 looseN (w.withFollow "special-get-raises" true) := fun os => by
  obtain ⟨s, hs, ha⟩ := Option.map_eq_some_iff.mp (run_tA w os)
  have hb := run_tB w os
  have hc := run_tC w os
  rw [hs] at hb hc ⊢
  rw [Option.map_some] at hb hc ⊢
  exact congrArg some (Prod.ext ha (Prod.ext (Option.some.inj hb) (Option.some.inj hc)))
theorem run (w : World) : HandSHeadRun.RunEq R (PySem.W.view R.prog [139]) hk ob 16000 looseN w :=
  PySem.W.byRow2 "special-get-raises" (P := fun w => HandSHeadRun.RunEq R (PySem.W.view R.prog [139]) hk ob 16000 looseN w) run_f run_t w

/-! ### small helpers -/
def tyN : V → String
  | .non => "NoneType"
  | .bl _ => "bool"
  | .int _ => "int"
  | .str _ => "str"
  | _ => ""
theorem ty_flat {K : PySem.W.Frag} {H : Hp} {v : V} (h : flatV v = true) : TyX K H v (.type (tyN v)) := by
  cases v with
  | non => exact .base .non
  | bl b => exact .base (.bl b)
  | int i => exact .base (.int i)
  | str z => exact .base (.str z)
  | byt b => cases h
  | flt b => cases h
  | ref a => cases h
  | ty n => cases h
theorem cT {k : Bool} {A B : Prop} (h : k = true) (q : A) : if k = true then A else B := by rw [if_pos h]; exact q
theorem cF {k : Bool} {A B : Prop} (h : k = false) (q : B) : if k = true then A else B := by rw [h]; exact iteF q
theorem nd_f {p : Prop} [Decidable p] (h : p) : (!decide p) = false := by rw [decide_eq_true h]; rfl
theorem nd_t {p : Prop} [Decidable p] (h : ¬ p) : (!decide p) = true := by rw [decide_eq_false h]; rfl
theorem isi_q {K : PySem.W.Frag} {i : Nat} {v : V} {n m : String} {b : Bool} {σ : L2.St} {H : Hp} {Q : VK} (e : σ[i]? = some (some v)) (t : TyX K H v (.type m)) (k : kitB m n = some b) (q : Q (.bl b) H) : tCB (rIsi K) (tCons (tVar i) (tCons (tC (.ty n)) tNil)) σ H Q :=
  ⟨_, e, _, _, _, _, _, rfl, .ty _, t, kit_ty k, q⟩
theorem isi_t {K : PySem.W.Frag} {i : Nat} {v : V} {n m : String} {b : Bool} {σ : L2.St} {H : Hp} {Q : Bool → Hp → Prop} (e : σ[i]? = some (some v)) (t : TyX K H v (.type m)) (k : kitB m n = some b) (q : Q b H) : tB (tCB (rIsi K) (tCons (tVar i) (tCons (tC (.ty n)) tNil))) σ H Q :=
  ⟨_, e, _, _, _, _, _, rfl, .ty _, t, kit_ty k, _, rfl, q⟩
/-! ### names -/
def lets : Str := "abcdefghijklmnopqrstuvwxyz"
def figs : Str := "0123456789"
def both : Str := "abcdefghijklmnopqrstuvwxyz0123456789"
def resv : List V := [.str "and", .str "or", .str "not", .str "some", .str "all", .str "lfp", .str "pfp", .str "tc", .str "guess", .str "true", .str "false"]
structure Nm (z : Str) : Prop where
  lo : 1 ≤ z.length
  hi : z.length ≤ 12
  first : ∀ c, z.cps.toList[0]? = some c → c ∈ lets.cps.toList
  res : inV (.str z) resv = false
  all_ : ∀ c, c ∈ z.cps.toList → c ∈ both.cps.toList
noncomputable def isNm (z : Str) : Bool := @decide (Nm z) (Classical.propDecidable _)
theorem isNm_t {z : Str} (h : Nm z) : isNm z = true := by unfold isNm; exact @decide_eq_true _ (_) h
theorem isNm_f {z : Str} (h : ¬ Nm z) : isNm z = false := by unfold isNm; exact @decide_eq_false _ (_) h
theorem both_eq : both.cps.toList = lets.cps.toList ++ figs.cps.toList := by decide +kernel
theorem in_both {c : Nat} : c ∈ both.cps.toList ↔ c ∈ lets.cps.toList ∨ c ∈ figs.cps.toList := by rw [both_eq]; exact List.mem_append
theorem filt_t {α : Type} {l : List α} {p : α → Bool} {i : Nat} {c : α} (h : l[i]? = some c) (hp : p c = true) : (l.take (i + 1)).filter p = (l.take i).filter p ++ [c] := by
  rw [List.take_add_one, h, List.filter_append]
  show _ ++ List.filter p [c] = _
  rw [List.filter_cons_of_pos hp, List.filter_nil]
theorem filt_f {α : Type} {l : List α} {p : α → Bool} {i : Nat} {c : α} (h : l[i]? = some c) (hp : p c = false) : (l.take (i + 1)).filter p = (l.take i).filter p := by
  rw [List.take_add_one, h, List.filter_append]
  show _ ++ List.filter p [c] = _
  rw [List.filter_cons_of_neg (by rw [hp]; exact Bool.false_ne_true), List.filter_nil, List.append_nil]
theorem sz_len (z : Str) : z.cps.toList.length = z.length := by show z.cps.toList.length = z.cps.size; simp
theorem at_sz {z : Str} {i c : Nat} (h : z.cps[i]? = some c) : z.cps.toList[i]? = some c := by simpa using h
def spIsName (K : PySem.W.Frag) : Sp := fun vs H Q _ => (∃ z : Str, vs = [.str z] ∧ z.length ≤ sizeLine ∧ Q (.bl (isNm z)) H) ∨ (∃ (x : V) (t : String), vs = [x] ∧ TyX K H x (.type t) ∧ kitB t "str" = some false ∧ Q (.bl false) H)
section
variable {P : Program} {w : World} {K : PySem.W.Frag} {mg : Str → Option Value} {base : Heap}
theorem sc_is_name : FnScope ["text", "sign"] ["text"] (defScope (top 22)) := ⟨rfl, rfl, rfl, by decide +kernel, rfl, by decide +kernel, by decide +kernel⟩
theorem has_is_name (D : Def K mg "is_name" ["text"] (top 22)) (T : Txt mg) (c1 : ∃ t, mg "LONGEST_NAME" = some (.int 12 t)) (c2 : ∃ t, mg "LETTERS" = some (.str lets t)) (c3 : ∃ t, mg "FIGURES" = some (.str figs t))
    (c_RESERVED : mg "RESERVED" = some (.ref (He.ga K "RESERVED"))) (rs : ∀ H : Hp, SqT K H (He.ga K "RESERVED") resv) : Has P w K mg base 1 "is_name" ["text"] (spIsName K) := D.has fun f fd F => by
  obtain ⟨t1, c_LONGEST_NAME⟩ := c1
  obtain ⟨t2, c_LETTERS⟩ := c2
  obtain ⟨t3, c_FIGURES⟩ := c3
  refine F.ok sc_is_name (fun vs H Q E h => ?_) (fun cdv A outer s H vs Q E hr h => ?_)
  · rcases h with ⟨z, rfl, _⟩ | ⟨x, t, rfl, _⟩ <;> rfl
  · refine ⟨_, PSs.nox (pss_cons (ps_if (PW.pt (pw_or (pt_not (pt_val (pe_callB call_isi (by rfl) T.n_isinstance (by decide +kernel) (pa_cons (pv 0) (pa_cons (pe_bltn (v := .ty "str") (by rfl) T.n_str (by decide +kernel) rfl) pa_nil))))) (pw_or1 (pt_not (pt_chain op_le op_le pe_int (pe_callB call_len_str (by rfl) T.n_len PySem.boot_len (pa_cons (pv 0) pa_nil)) (pe_glob (v := .int 12) (by rfl) c_LONGEST_NAME ⟨_, rfl⟩)))))) (pss_one (ps_ret pe_bl)) pss_nil) (pss_cons (ps_if (PW.pt (pw_or (pt_cmpR op_notIn_sign (pe_ix ix_str (pv 0) pe_int (fun _ _ => rfl)) (pe_glob (v := .str "abcdefghijklmnopqrstuvwxyz") (by rfl) c_LETTERS ⟨_, rfl⟩) (by rfl)) (pw_or1 (pt_cmpR op_in_seq (pv 0) (pe_glob (v := .ref (He.ga K "RESERVED")) (by rfl) c_RESERVED rfl) (by rfl))))) (pss_one (ps_ret pe_bl)) pss_nil) (pss_cons (ps_for PassesOwn.never rfl (pi_str (pv 0)) (pg_name (i := 1) sc_is_name.nd rfl (Or.inl rfl)) (pss_one (ps_if (PW.pt (pw_and (pt_cmpR op_notIn_sign (pv 1) (pe_glob (v := .str "abcdefghijklmnopqrstuvwxyz") (by rfl) c_LETTERS ⟨_, rfl⟩) (by rfl)) (pw_and1 (pt_cmpR op_notIn_sign (pv 1) (pe_glob (v := .str "0123456789") (by rfl) c_FIGURES ⟨_, rfl⟩) (by rfl))))) (pss_one (ps_ret pe_bl)) pss_nil))) (pss_one (ps_ret pe_bl))))), ?_⟩
    rcases h with ⟨z, rfl, hz, q⟩ | ⟨x, t, rfl, tx, hk, q⟩
    · have qf : ¬ Nm z → Q (.bl false) H := fun n => by rw [isNm_f n] at q; exact q
      have qt : Nm z → Q (.bl true) H := fun n => by rw [isNm_t n] at q; exact q
      refine ⟨_, rfl, _, _, _, _, _, rfl, .ty _, .base (.str z), kit_ty (b := "str") (r := true) (by decide +kernel), _, rfl, iteF ?_⟩
      refine ⟨_, rfl, _, rfl, hz, _, _, rfl, rfl, _, rfl, ite2 (fun e => ?_) (fun e => ?_)⟩
      · refine ⟨_, _, rfl, rfl, _, rfl, ?_⟩
        have e1 := of_decide_eq_true e
        by_cases h12 : ((z.length : Nat) : Int) ≤ 12
        · refine cF (nd_f h12) ?_
          have hl1 : 0 < z.cps.toList.length := by rw [sz_len]; omega
          have e0 : z.cps.toList[0]? = some (z.cps.toList[0]) := List.getElem?_eq_getElem hl1
          refine ⟨_, rfl, z, _, _, rfl, rfl, hz, atI_nat (j := 0) e0, _, _, rfl, rfl, _, rfl, ?_⟩
          by_cases hf : z.cps.toList[0] ∈ lets.cps.toList
          · refine cF (nd_f hf) ⟨_, rfl, _, _, rfl, .inr (rs _), rfl, rfl, _, rfl, ?_⟩
            by_cases hr2 : inV (.str z) resv = true
            · exact cT hr2 (qf fun n => by rw [n.res] at hr2; cases hr2)
            · have hr3 : inV (.str z) resv = false := by simpa using hr2
              refine cF hr3 ?_
              refine ⟨_, rfl, z, rfl, for_it walk_str (fun i σ H2 => ∃ y1, σ = [some (.str z), y1] ∧ H2 = H ∧ ∀ c, c ∈ z.cps.toList.take i → c ∈ both.cps.toList) ⟨none, rfl, rfl, fun c hc => by simp at hc⟩ (fun _ _ _ _ _ => trivial) ?_ ?_⟩
              · rintro i y σ H2 H3 hi ⟨y1, rfl, rfl, ha⟩ ⟨rfl, c, hc, rfl⟩
                have hc' := at_sz hc
                have next : c ∈ both.cps.toList → ∃ y1 : Option V, ([some (V.str z), some (V.str ⟨#[c]⟩)] : L2.St) = [some (.str z), y1] ∧ H3 = H3 ∧ ∀ c', c' ∈ z.cps.toList.take (i + 1) → c' ∈ both.cps.toList := fun hb => ⟨_, rfl, rfl, fun c' h' => by
                  rw [List.take_add_one, hc'] at h'
                  rcases List.mem_append.mp h' with h' | h'
                  · exact ha c' h'
                  · have e3 : c' = c := by simpa using h'
                    rw [e3]; exact hb⟩
                refine ⟨_, rfl, _, _, rfl, rfl, _, rfl, ?_⟩
                by_cases h1 : c ∈ lets.cps.toList
                · exact cF (nd_f h1) (iteF (next (in_both.mpr (.inl h1))))
                · refine cT (nd_t h1) ⟨_, rfl, _, _, rfl, rfl, _, rfl, ?_⟩
                  by_cases h2 : c ∈ figs.cps.toList
                  · exact cF (nd_f h2) (next (in_both.mpr (.inr h2)))
                  · refine cT (nd_t h2) (qf fun n => ?_)
                    rcases in_both.mp (n.all_ c (List.mem_of_getElem? hc')) with h3 | h3
                    · exact h1 h3
                    · exact h2 h3
              · rintro σ H2 ⟨y1, rfl, rfl, ha⟩
                refine qt ⟨by omega, by omega, fun c hc => by rw [e0] at hc; rw [← Option.some.inj hc]; exact hf, by simpa using hr2, fun c hc => ha c ?_⟩
                rw [List.take_of_length_le (by simp)]
                exact hc
          · exact cT (nd_t hf) (cT rfl (qf fun n => hf (n.first _ e0)))
        · exact cT (nd_t h12) (qf fun n => h12 (by have := n.hi; omega))
      · exact ⟨_, rfl, cT (k := !false) rfl (qf fun n => e (decide_eq_true (by have := n.lo; omega)))⟩
    · exact ⟨_, rfl, _, _, _, _, _, rfl, .ty _, tx, kit_ty (b := "str") (r := false) hk, _, rfl, iteT q⟩
end
/-! ### set(xs) of a list or a tuple of ints and texts: what it holds, how many -/
theorem sub_len {α : Type} [DecidableEq α] : ∀ (d l : List α), d.Nodup → (∀ x, x ∈ d → x ∈ l) → d.length ≤ l.length
  | [], _, _, _ => Nat.zero_le _
  | x :: d, l, nd, sub => by
    have two := List.nodup_cons.mp nd
    have inl := sub x (List.mem_cons_self ..)
    have step := sub_len d (l.erase x) two.2 (fun y hy => (List.mem_erase_of_ne (fun e => two.1 (by rw [← e]; exact hy))).mpr (sub y (List.mem_cons_of_mem _ hy)))
    have shorter := List.length_erase_of_mem inl
    have some_ := List.length_pos_of_mem inl
    simp only [List.length_cons]
    omega
theorem dup_shorter {α : Type} [DecidableEq α] : ∀ (l : List α), ¬ l.Nodup → ∃ l' : List α, l'.length < l.length ∧ ∀ x, x ∈ l → x ∈ l'
  | [], h => absurd List.nodup_nil h
  | x :: l, h => by
    by_cases hx : x ∈ l
    · exact ⟨l, Nat.lt_succ_self _, fun y hy => (List.mem_cons.mp hy).elim (fun e => by rw [e]; exact hx) id⟩
    · obtain ⟨l', h1, h2⟩ := dup_shorter l (fun hl => h (List.nodup_cons.mpr ⟨hx, hl⟩))
      refine ⟨x :: l', Nat.succ_lt_succ h1, fun y hy => ?_⟩
      rcases List.mem_cons.mp hy with e | hy
      · rw [e]; exact List.mem_cons_self ..
      · exact List.mem_cons_of_mem _ (h2 y hy)
/-- c different ones in l -/
def Cnt {α : Type} (l : List α) (c : Nat) : Prop := ∃ d : List α, d.Nodup ∧ (∀ k, k ∈ d ↔ k ∈ l) ∧ d.length = c
theorem Cnt.nil {α : Type} : Cnt ([] : List α) 0 := ⟨[], List.nodup_nil, fun _ => Iff.rfl, rfl⟩
theorem Cnt.old {α : Type} {l : List α} {c : Nat} {k : α} (h : Cnt l c) (hk : k ∈ l) : Cnt (l ++ [k]) c := by
  obtain ⟨d, h1, h2, h3⟩ := h
  refine ⟨d, h1, fun x => (h2 x).trans ⟨List.mem_append_left _, fun hx => ?_⟩, h3⟩
  rcases List.mem_append.mp hx with hx | hx
  · exact hx
  · rw [List.mem_singleton.mp hx]; exact hk
theorem Cnt.new {α : Type} {l : List α} {c : Nat} {k : α} (h : Cnt l c) (hk : ¬ k ∈ l) : Cnt (l ++ [k]) (c + 1) := by
  obtain ⟨d, h1, h2, h3⟩ := h
  refine ⟨k :: d, List.nodup_cons.mpr ⟨fun hd => hk ((h2 k).mp hd), h1⟩, fun x => ?_, by rw [List.length_cons, h3]⟩
  rw [List.mem_cons, h2 x, List.mem_append, List.mem_singleton]
  exact Or.comm
theorem Cnt.le {α : Type} [DecidableEq α] {l : List α} {c : Nat} (h : Cnt l c) : c ≤ l.length := by
  obtain ⟨d, h1, h2, rfl⟩ := h
  exact sub_len d l h1 fun x hx => (h2 x).mp hx
theorem Cnt.all {α : Type} [DecidableEq α] {l : List α} {c : Nat} (h : Cnt l c) : c = l.length ↔ l.Nodup := by
  obtain ⟨d, h1, h2, rfl⟩ := h
  constructor
  · intro e
    by_cases hn : l.Nodup
    · exact hn
    · obtain ⟨l', a, b⟩ := dup_shorter l hn
      have := sub_len d l' h1 fun x hx => b x ((h2 x).mp hx)
      omega
  · intro hn
    exact Nat.le_antisymm (sub_len d l h1 fun x hx => (h2 x).mp hx) (sub_len l d hn fun x hx => (h2 x).mpr hx)
section
variable {P : Program} {w : World} {A : Around} {E : Value → Shared → Prop} {R : Result → Shared → Prop} {it : Addr} {fp wr : List Addr} {G : Array GenState → Array GenState → Prop} {n : Nat} {Pv : Nat → Value → Prop} {St : Nat → Shared → Prop}
theorem setOf_moves {h h' : Heap} {a : Addr} {S : Key → Bool} {c : Nat} (q : h.SetOf (mixKind P w) a S c) (k : ∀ o, h.get? a = some o → h'.get? a = some o) : h'.SetOf (mixKind P w) a S c := setOf_at q k
/-- k stands in l -/
def memK (l : List Key) (k : Key) : Bool := l.any fun j => decide (j = k)
theorem memK_iff {l : List Key} {k : Key} : memK l k = true ↔ k ∈ l := by
  unfold memK
  rw [List.any_eq_true]
  exact ⟨fun ⟨x, h1, h2⟩ => of_decide_eq_true h2 ▸ h1, fun h => ⟨k, h, decide_eq_true rfl⟩⟩
theorem memK_snoc {l : List Key} {k j : Key} : memK (l ++ [k]) j = (memK l j || decide (j = k)) := by
  unfold memK
  rw [List.any_append, List.any_cons, List.any_nil, Bool.or_false]
  congr 1
  exact decide_eq_decide.mpr ⟨Eq.symm, Eq.symm⟩
theorem setOf_as {h : Heap} {a : Addr} {S S' : Key → Bool} {c : Nat} (q : h.SetOf (mixKind P w) a S c) (e : ∀ k, S k = S' k) : h.SetOf (mixKind P w) a S' c := by
  have e' : S = S' := funext e
  rw [← e']; exact q
/-- the loop of set.update, one key a turn -/
theorem keys_loop (W : WalksS P w A.in1 it fp wr G n Pv St) (S : Addr) (out : S ∉ fp) (ks : List Key) (len : n = ks.length) (room : n + 1 < scanBound)
    (val : ∀ i v, Pv i v → ∃ k, ks[i]? = some k ∧ keyIs k v = true ∧ v.scannable = true) : ∀ (m i : Nat) (s : Shared), n - i = m → i ≤ n → St i s →
      (∃ c, Cnt (ks.take i) c ∧ s.heap.SetOf (mixKind P w) S (memK (ks.take i)) c) →
      (∀ s' c, Moved (S :: wr) G s s' → Cnt ks c → s'.heap.SetOf (mixKind P w) S (memK ks) c → R (.ok (.ret .none)) s') → codeAny (model P w) A (.builtin "set.update.loop" ⟨[.ref S, .ref it], []⟩) R s := by
  have outW : S ∉ wr := fun z => out (W.sub _ z)
  have wider : ∀ b ∈ wr, b ∈ S :: wr := fun _ z => List.mem_cons_of_mem _ z
  intro m
  induction m with
  | zero =>
    intro i s e1 e2 st ⟨c, hc, hS⟩ fin
    have ei : i = n := by omega
    subst ei
    refine codeAny_builtin F.entry_set_update_loop ?_; rw [Around.under_plainId F.plain_set_update_loop _]
    show wpAny _ A.in1 (pyNext (.ref it) >>= _) _ _ s
    refine wpAny_bind (W.done s _ _ st fun s' mv => ?_)
    have all : ks.take i = ks := List.take_of_length_le (Nat.le_of_eq len.symm)
    rw [all] at hc hS
    exact wpAny_pure (fin s' c (mv.mono wider) hc (setOf_moves hS fun o z => mv.heap S o outW z))
  | succ m ih =>
    intro i s e1 e2 st ⟨c, hc, hS⟩ fin
    refine codeAny_builtin F.entry_set_update_loop ?_; rw [Around.under_plainId F.plain_set_update_loop _]
    show wpAny _ A.in1 (pyNext (.ref it) >>= _) _ _ s
    refine wpAny_bind (W.item i s _ _ (by omega) st fun v s' pv st' mv => ?_)
    obtain ⟨k, hk, kv, sc⟩ := val i v pv
    have nx : ks.take (i + 1) = ks.take i ++ [k] := by rw [List.take_add_one, hk]; rfl
    have hS' := setOf_moves hS fun o z => mv.heap S o outW z
    have cl : c ≤ i := Nat.le_trans hc.le (List.length_take_le _ _)
    show wpAny _ A.in1 (holding [v] (setAdd S v) >>= _) _ _ s'
    refine wpAny_bind (wpAny_holding ?_); unfold setAdd; refine wpAny_holding (wpAny_bind ((mixKind P w).pyHash (k := k) kv ?_))
    refine wpAny_setAddHashed_of (knd := mixKind P w) (s := { s' with toks := s'.toks + 1 }) kv sc hS' (by omega) fun h2 same hS2 => ?_
    have inv2 : ∃ c2, Cnt (ks.take (i + 1)) c2 ∧ h2.SetOf (mixKind P w) S (memK (ks.take (i + 1))) c2 := by
      cases hm : memK (ks.take i) k with
      | true =>
        refine ⟨c, nx ▸ hc.old (memK_iff.mp hm), ?_⟩
        rw [hm, if_pos rfl] at hS2
        exact setOf_as hS2 fun j => by rw [nx, memK_snoc]
      | false =>
        refine ⟨c + 1, nx ▸ hc.new (fun z => by rw [memK_iff.mpr z] at hm; cases hm), ?_⟩
        rw [hm, if_neg Bool.false_ne_true] at hS2
        exact setOf_as hS2 fun j => by rw [nx, memK_snoc]
    refine wpAny_pure ⟨plainId_quiet F.plain_set_update_loop _, ih (i + 1) _ (by omega) (by omega) (W.frame _ s' _ _ st' (Nat.le_succ _) fun b hb o z => ?_) inv2 fun s3 c3 mv3 hc3 hS3 => ?_⟩
    · exact (same.2 b (fun e => out (e ▸ hb))).trans z
    · refine fin s3 c3 (Moved.trans W.gtrans ((mv.mono wider).then_heap (Nat.le_succ _) fun b o hb z => ?_) mv3) hc3 hS3
      exact (same.2 b (fun e => hb (e ▸ List.mem_cons_self ..))).trans z
end
section
variable {P : Program} {w : World} {A : Around} {E : Value → Shared → Prop} {s : Shared}
abbrev emptySet (led : Bool) : Obj := { cls := .type "set", dict := none, data := .set #[] 0 (.fresh 0 0 led) }
theorem empty_setOf {h : Heap} {a : Addr} {led : Bool} (e : h.get? a = some (emptySet led)) : h.SetOf (mixKind P w) a (fun _ => false) 0 :=
  ⟨_, #[], 0, _, e, ⟨rfl, rfl, rfl⟩, rfl, fun z hz => (by simp at hz), fun k => (by simp), by decide, rfl, rfl⟩
set_option maxHeartbeats 8000000 in
/-- set(l), l a tuple of keys -/
theorem set_of_tuple {l : Addr} {items : Array Value} {ks : List Key} {Q : Value → Shared → Prop} (hh : A.handled = none) (src : s.heap.IsTuple l items) (len : items.size = ks.length) (room : ks.length + 1 < scanBound)
    (val : ∀ (i : Nat) (v : Value), items[i]? = some v → ∃ k, ks[i]? = some k ∧ keyIs k v = true ∧ v.scannable = true)
    (fin : ∀ h' tk c, Cnt ks c → h'.SetOf (mixKind P w) s.heap.objs.size (memK ks) c → (∀ b o, s.heap.get? b = some o → h'.get? b = some o) → Q (.ref s.heap.objs.size) { s with heap := h', toks := tk }) :
    wpAny (model P w) A (call (.type "set") [.ref l]) Q E s := by
  have ⟨mc, mt, mro⟩ := F.called_set.mro; have made := F.called_set.made; have subs := F.called_set.sub
  refine wpAny_call (codeAny_of_tree ?_); show wpAny _ _ (callAny (.type "set") _) _ _ _
  refine wpAny_pure ⟨Code.quiet_builtin _ (by decide +kernel), codeAny_builtin F.entry_type_call ?_⟩; rw [Around.under_plain (weight_type_call_type "set" [.ref l] []) rfl]
  have f1 := F.called_set.notType; have f2 := F.called_set.canCreate; have f3 := F.typeCall_set_1 (.ref l)
  repeat (any_goals (first | assumption | wp_step))
  refine codeAny_mono (code_set_new_1 (.ref l) (E := E) (Q₁ := fun ob s1 => ∃ led : Bool, ob = .ref s.heap.objs.size ∧ s1 = { s with heap := s.heap.push (emptySet led) }) fun led => ⟨led, rfl, rfl⟩) fun r s1 hr => ?_
  rcases r with e | fl
  · exact hr
  rcases fl with _ | _ | _ | ob
  all_goals first | exact hr.elim | skip
  obtain ⟨led, rfl, rfl⟩ := hr
  have at0 : (s.heap.push (emptySet led)).get? s.heap.objs.size = some (emptySet led) := Heap.get?_push_size _ rfl
  have isS : Shared.TypeIs { s with heap := s.heap.push (emptySet led) } (.ref s.heap.objs.size) "set" := ⟨_, at0, rfl⟩
  have f4 := F.called_set.init.lookup; have f5 := F.called_set.init.bind (.ref s.heap.objs.size)
  repeat (any_goals (first | assumption | wp_step))
  refine codeAny_mono (codeAny_call_builtin (R := wants (fun r s2 => r = .none ∧ ∃ h' tk c, s2 = { s with heap := h', toks := tk } ∧ Cnt ks c ∧ h'.SetOf (mixKind P w) s.heap.objs.size (memK ks) c ∧ ∀ b o, s.heap.get? b = some o → h'.get? b = some o) E)
    F.called_set.init.plain F.entry_set_init (check_set_init_1 isS ?_)) fun r2 s2 hr2 => ?_
  · obtain ⟨ol, atl, cl, nl, dl⟩ := src; obtain ⟨oc, od, odt, osl⟩ := ol; simp only at cl dl; subst cl dl
    have ltl : l < s.heap.objs.size := Heap.lt_size atl
    have at1 : (s.heap.push (emptySet led)).get? l = some { cls := .type "tuple", dict := od, data := .seq items nl, slots := osl } := Heap.get?_push_of_some _ atl
    have g1 := F.sub_tuple_set; have g2 := F.sub_tuple_frozenset; have g3 : (Value.type "tuple" == Value.type "dict") = false := by decide
    have src1 : (s.heap.push (emptySet led)).IsTuple l items := ⟨_, at1, rfl, nl, rfl⟩
    have szp : (s.heap.push (emptySet led)).objs.size = s.heap.objs.size + 1 := Heap.size_push ..
    unfold Builtin.«set.__init__» noKeywords Builtin.Frozenset.updateFrom
    generalize keepIter : pyIter = PI
    wp_walk
    subst keepIter
    refine wpAny_pyIter_tuple src1 (wpAny_bind (wpAny_runValue ?_))
    have neI : l ≠ (s.heap.push (emptySet led)).objs.size := by rw [szp]; exact Nat.ne_of_lt (Nat.lt_succ_of_lt ltl)
    have notIn : s.heap.objs.size ∉ [(s.heap.push (emptySet led)).objs.size, l] := fun z => by
      rw [szp] at z
      rcases List.mem_cons.mp z with z | z
      · exact absurd z (Nat.ne_of_lt (Nat.lt_succ_self _))
      · exact absurd (List.mem_singleton.mp z).symm (Nat.ne_of_lt ltl)
    refine keys_loop ((Walks.tuple (show A.in1.in1.in1.handled = none by simp [hh]) _ l neI items).toS) s.heap.objs.size notIn ks len (by rw [len]; exact room) val (items.size - 0) 0 _ (by omega) (Nat.zero_le _)
      ⟨⟨_, Heap.get?_push_size _ rfl, rfl, rfl⟩, src1.push _⟩ ⟨0, .nil, ?_⟩ fun s' c mv hc hS => ?_
    · exact setOf_as (empty_setOf (led := led) (Heap.get?_push_of_some _ at0)) fun k => rfl
    · obtain ⟨h', g', d', tk', os'⟩ := s'
      obtain rfl : g' = s.gens := mv.gens
      obtain rfl : d' = s.drawn := mv.drawn
      obtain rfl : os' = s.os := mv.os
      refine wpAny_pure (wpAny_pure ⟨rfl, h', tk', c, rfl, hc, hS, fun b o z => ?_⟩)
      have lb := Heap.lt_size z
      refine mv.heap b o (fun hm => ?_) (Heap.get?_push_of_some _ (Heap.get?_push_of_some _ z))
      rcases List.mem_cons.mp hm with e | hm
      · exact absurd e (Nat.ne_of_lt lb)
      · have e := List.mem_singleton.mp hm
        rw [szp] at e
        exact absurd e (Nat.ne_of_lt (Nat.lt_succ_of_lt lb))
  · rcases r2 with e | fl2
    · exact hr2
    rcases fl2 with _ | _ | _ | r
    all_goals first | exact hr2.elim | skip
    obtain ⟨rfl, h', tk, c, rfl, hc, hS, hk⟩ := hr2
    repeat (any_goals (first | assumption | wp_step))
    exact fin _ _ _ hc hS hk
set_option maxHeartbeats 8000000 in
/-- set(l), l a list of keys -/
theorem set_of_list {l : Addr} {items : Array Value} {ks : List Key} {Q : Value → Shared → Prop} (hh : A.handled = none) (src : s.heap.IsList l items) (len : items.size = ks.length) (room : ks.length + 1 < scanBound)
    (val : ∀ (i : Nat) (v : Value), items[i]? = some v → ∃ k, ks[i]? = some k ∧ keyIs k v = true ∧ v.scannable = true)
    (fin : ∀ h' tk c, Cnt ks c → h'.SetOf (mixKind P w) s.heap.objs.size (memK ks) c → (∀ b o, s.heap.get? b = some o → h'.get? b = some o) → Q (.ref s.heap.objs.size) { s with heap := h', toks := tk }) :
    wpAny (model P w) A (call (.type "set") [.ref l]) Q E s := by
  have ⟨mc, mt, mro⟩ := F.called_set.mro; have made := F.called_set.made; have subs := F.called_set.sub
  refine wpAny_call (codeAny_of_tree ?_); show wpAny _ _ (callAny (.type "set") _) _ _ _
  refine wpAny_pure ⟨Code.quiet_builtin _ (by decide +kernel), codeAny_builtin F.entry_type_call ?_⟩; rw [Around.under_plain (weight_type_call_type "set" [.ref l] []) rfl]
  have f1 := F.called_set.notType; have f2 := F.called_set.canCreate; have f3 := F.typeCall_set_1 (.ref l)
  repeat (any_goals (first | assumption | wp_step))
  refine codeAny_mono (code_set_new_1 (.ref l) (E := E) (Q₁ := fun ob s1 => ∃ led : Bool, ob = .ref s.heap.objs.size ∧ s1 = { s with heap := s.heap.push (emptySet led) }) fun led => ⟨led, rfl, rfl⟩) fun r s1 hr => ?_
  rcases r with e | fl
  · exact hr
  rcases fl with _ | _ | _ | ob
  all_goals first | exact hr.elim | skip
  obtain ⟨led, rfl, rfl⟩ := hr
  have at0 : (s.heap.push (emptySet led)).get? s.heap.objs.size = some (emptySet led) := Heap.get?_push_size _ rfl
  have isS : Shared.TypeIs { s with heap := s.heap.push (emptySet led) } (.ref s.heap.objs.size) "set" := ⟨_, at0, rfl⟩
  have f4 := F.called_set.init.lookup; have f5 := F.called_set.init.bind (.ref s.heap.objs.size)
  repeat (any_goals (first | assumption | wp_step))
  refine codeAny_mono (codeAny_call_builtin (R := wants (fun r s2 => r = .none ∧ ∃ h' tk c, s2 = { s with heap := h', toks := tk } ∧ Cnt ks c ∧ h'.SetOf (mixKind P w) s.heap.objs.size (memK ks) c ∧ ∀ b o, s.heap.get? b = some o → h'.get? b = some o) E)
    F.called_set.init.plain F.entry_set_init (check_set_init_1 isS ?_)) fun r2 s2 hr2 => ?_
  · obtain ⟨ol, atl, cl, nl, dl⟩ := src; obtain ⟨oc, od, odt, osl⟩ := ol; simp only at cl dl; subst cl dl
    have ltl : l < s.heap.objs.size := Heap.lt_size atl
    have at1 : (s.heap.push (emptySet led)).get? l = some { cls := .type "list", dict := od, data := .seq items nl, slots := osl } := Heap.get?_push_of_some _ atl
    have g1 := F.sub_list_set; have g2 := F.sub_list_frozenset; have g3 : (Value.type "list" == Value.type "dict") = false := by decide
    have src1 : (s.heap.push (emptySet led)).IsList l items := ⟨_, at1, rfl, nl, rfl⟩
    have szp : (s.heap.push (emptySet led)).objs.size = s.heap.objs.size + 1 := Heap.size_push ..
    unfold Builtin.«set.__init__» noKeywords Builtin.Frozenset.updateFrom
    generalize keepIter : pyIter = PI
    wp_walk
    subst keepIter
    refine wpAny_pyIter_list src1 (wpAny_bind (wpAny_runValue ?_))
    have neI : l ≠ (s.heap.push (emptySet led)).objs.size := by rw [szp]; exact Nat.ne_of_lt (Nat.lt_succ_of_lt ltl)
    have notIn : s.heap.objs.size ∉ [(s.heap.push (emptySet led)).objs.size, l] := fun z => by
      rw [szp] at z
      rcases List.mem_cons.mp z with z | z
      · exact absurd z (Nat.ne_of_lt (Nat.lt_succ_self _))
      · exact absurd (List.mem_singleton.mp z).symm (Nat.ne_of_lt ltl)
    refine keys_loop ((Walks.list (show A.in1.in1.in1.handled = none by simp [hh]) _ l neI items).toS) s.heap.objs.size notIn ks len (by rw [len]; exact room) val (items.size - 0) 0 _ (by omega) (Nat.zero_le _)
      ⟨⟨_, Heap.get?_push_size _ rfl, rfl, rfl⟩, src1.push _⟩ ⟨0, .nil, ?_⟩ fun s' c mv hc hS => ?_
    · exact setOf_as (empty_setOf (led := led) (Heap.get?_push_of_some _ at0)) fun k => rfl
    · obtain ⟨h', g', d', tk', os'⟩ := s'
      obtain rfl : g' = s.gens := mv.gens
      obtain rfl : d' = s.drawn := mv.drawn
      obtain rfl : os' = s.os := mv.os
      refine wpAny_pure (wpAny_pure ⟨rfl, h', tk', c, rfl, hc, hS, fun b o z => ?_⟩)
      have lb := Heap.lt_size z
      refine mv.heap b o (fun hm => ?_) (Heap.get?_push_of_some _ (Heap.get?_push_of_some _ z))
      rcases List.mem_cons.mp hm with e | hm
      · exact absurd e (Nat.ne_of_lt lb)
      · have e := List.mem_singleton.mp hm
        rw [szp] at e
        exact absurd e (Nat.ne_of_lt (Nat.lt_succ_of_lt lb))
  · rcases r2 with e | fl2
    · exact hr2
    rcases fl2 with _ | _ | _ | r
    all_goals first | exact hr2.elim | skip
    obtain ⟨rfl, h', tk, c, rfl, hc, hS, hk⟩ := hr2
    repeat (any_goals (first | assumption | wp_step))
    exact fin _ _ _ hc hS hk
end
section
variable {X : Cx}
theorem keys_val : ∀ {ks : List Key} {us : List Value}, Vals (ks.map kV) us → ∀ (i : Nat) (v : Value), us[i]? = some v → ∃ k, ks[i]? = some k ∧ keyIs k v = true ∧ v.scannable = true
  | [], _, .nil, i, v, h => by simp at h
  | k :: ks, _, .cons r t, 0, v, h => by
    have e := Option.some.inj h
    subst e
    exact ⟨k, rfl, by cases k with | inl i => obtain ⟨t, rfl⟩ := r; exact keyIs_int i t | inr x => obtain ⟨t, rfl⟩ := r; exact keyIs_str x t, key_scan r⟩
  | k :: ks, _, .cons r t, i + 1, v, h => keys_val t i v h
/-- set(xs), xs a list or a tuple of ints and texts -/
def rSetK (K : PySem.W.Frag) (P : Program) (w : World) : List V → Hp → VK → Prop := fun xs H Q => ∃ (l : Addr) (ks : List Key), xs = [V.ref l] ∧ (SqL K H l (ks.map kV) ∨ SqT K H l (ks.map kV)) ∧ ks.length ≤ 4000 ∧
  ∀ p c, H p = none → Cnt ks c → Q (.ref p) (upd H p (SetK P w p (memK ks) c))
theorem cr_setK (hc : X.calm = true) : CallR X (.type "set") (rSetK X.K X.prog X.w) := by
  intro pins s σ H xs us Q I r h
  obtain ⟨l, ks, rfl, hq, few, q⟩ := h
  rw [Vals.ref1 r]
  have new := I.hok.fresh (Nat.le_refl s.heap.objs.size)
  have small : ks.length + 1 < scanBound := Nat.lt_of_le_of_lt (Nat.succ_le_succ few) (by decide)
  rcases hq with hq | hq
  · obtain ⟨its, rv, pl, hz⟩ := I.list hq
    refine set_of_list (I.ok.hd hc) pl.isList (by rw [List.size_toArray, ← rv.length, List.length_map]) small (fun i v hv => keys_val rv i v (by simpa using hv)) fun h' tk c hcn hS k => ?_
    exact ⟨.ref s.heap.objs.size, upd H s.heap.objs.size (SetK X.prog X.w s.heap.objs.size (memK ks) c), I.laid (t' := tk) k (Nat.le_refl _) (setK_new hS), rfl, q _ c new hcn⟩
  · obtain ⟨its, rv, tp, hz⟩ := I.tuple hq
    refine set_of_tuple (I.ok.hd hc) (show s.heap.IsTuple l its.toArray from tp) (by rw [List.size_toArray, ← rv.length, List.length_map]) small (fun i v hv => keys_val rv i v (by simpa using hv)) fun h' tk c hcn hS k => ?_
    exact ⟨.ref s.heap.objs.size, upd H s.heap.objs.size (SetK X.prog X.w s.heap.objs.size (memK ks) c), I.laid (t' := tk) k (Nat.le_refl _) (setK_new hS), rfl, q _ c new hcn⟩
/-- len of a set of keys -/
def rLenSK (P : Program) (w : World) : List V → Hp → VK → Prop := fun xs H Q => ∃ (a : Addr) (S : Key → Bool) (n : Nat), xs = [V.ref a] ∧ H a = some (SetK P w a S n) ∧ Q (.int n) H
theorem call_lenSK : CallR X (.builtin "len") (rLenSK X.prog X.w) := by
  intro pins s σ H xs us Q I r h
  obtain ⟨a, S, n, rfl, ha, q⟩ := h
  rw [Vals.ref1 r]
  obtain ⟨o, es, ep, t, ho, hex, hd, _, _, hb, hf, hn⟩ := setK_get I ha
  have fit : (es.size : Int) < 2 ^ 63 := by
    have h1 : es.size < 4096 := hb
    omega
  exact call_len_set ho hex hd hf fit ⟨.int n, H, I.tok _, ⟨_, by rw [hn]⟩, q⟩
end
/-! ### formulas as data -/
inductive Hd where
  | rel (n : Str) (as : List Str)
  | eq (x y : Str)
  | less (x y : Str)
  | no
  | con
  | dis
  | ex (vs : List Str)
  | al (vs : List Str)
  | lfp (n : Str) (vs as : List Str)
  | pfp (n : Str) (vs as : List Str)
  | tc (vs as : List Str)
  | gs (n : Str) (k : Nat)
inductive Fm where
  | mk (h : Hd) (ps : List Fm)
theorem Fm.ind {P : Fm → Prop} (step : ∀ h ps, (∀ p, p ∈ ps → P p) → P (.mk h ps)) : ∀ f, P f := fun f =>
  Fm.rec (motive_1 := P) (motive_2 := fun ps => ∀ p, p ∈ ps → P p) (fun h ps ih => step h ps ih) (fun _ hp => nomatch hp)
    (fun q qs h1 h2 p hp => (List.mem_cons.mp hp).elim (fun e => e ▸ h1) (h2 p)) f
mutual
def Fm.fold {α : Type} (g : Hd → List α → α) : Fm → α
  | .mk h ps => g h (Fm.folds g ps)
def Fm.folds {α : Type} (g : Hd → List α → α) : List Fm → List α
  | [] => []
  | p :: ps => Fm.fold g p :: Fm.folds g ps
end
theorem Fm.folds_map {α : Type} (g : Hd → List α → α) : ∀ ps : List Fm, Fm.folds g ps = ps.map (Fm.fold g)
  | [] => by rw [Fm.folds]; rfl
  | p :: ps => by rw [Fm.folds, Fm.folds_map g ps]; rfl
theorem Fm.fold_mk {α : Type} (g : Hd → List α → α) (h : Hd) (ps : List Fm) : Fm.fold g (.mk h ps) = g h (ps.map (Fm.fold g)) := by
  rw [Fm.fold, Fm.folds_map]
def Fm.hd : Fm → Hd
  | .mk h _ => h
def Fm.parts : Fm → List Fm
  | .mk _ ps => ps
/-! heads -/
def tS (as : List Str) : PyData := .tuple (as.map PyData.str)
inductive Kd where
  | rel
  | eq
  | less
  | no
  | con
  | dis
  | ex
  | al
  | lfp
  | pfp
  | tc
  | gs
  deriving DecidableEq
def Kd.word : Kd → Str
  | .rel => "rel"
  | .eq => "eq"
  | .less => "less"
  | .no => "not"
  | .con => "and"
  | .dis => "or"
  | .ex => "some"
  | .al => "all"
  | .lfp => "lfp"
  | .pfp => "pfp"
  | .tc => "tc"
  | .gs => "guess"
def Hd.kd : Hd → Kd
  | .rel _ _ => .rel
  | .eq _ _ => .eq
  | .less _ _ => .less
  | .no => .no
  | .con => .con
  | .dis => .dis
  | .ex _ => .ex
  | .al _ => .al
  | .lfp _ _ _ => .lfp
  | .pfp _ _ _ => .pfp
  | .tc _ _ => .tc
  | .gs _ _ => .gs
abbrev Hd.word (h : Hd) : Str := h.kd.word
/-- what stands behind the word -/
def Hd.rest (h : Hd) (ds : List PyData) : List PyData := match h with
  | .rel n as => [.str n, tS as]
  | .eq x y => [.str x, .str y]
  | .less x y => [.str x, .str y]
  | .no => ds
  | .con => [.tuple ds]
  | .dis => [.tuple ds]
  | .ex vs => tS vs :: ds
  | .al vs => tS vs :: ds
  | .lfp n vs as => .str n :: tS vs :: (ds ++ [tS as])
  | .pfp n vs as => .str n :: tS vs :: (ds ++ [tS as])
  | .tc vs as => tS vs :: (ds ++ [tS as])
  | .gs n k => .str n :: .int k :: ds
def Hd.data (h : Hd) (ds : List PyData) : PyData := .tuple (.str h.word :: h.rest ds)
def Fm.data : Fm → PyData := Fm.fold Hd.data
theorem Fm.data_mk (h : Hd) (ps : List Fm) : (Fm.mk h ps).data = h.data (ps.map Fm.data) := Fm.fold_mk _ h ps
/-- how many formulas stand directly in it (none: any number) -/
def Hd.one : Hd → Option Nat
  | .rel _ _ => some 0
  | .eq _ _ => some 0
  | .less _ _ => some 0
  | .con => none
  | .dis => none
  | _ => some 1
def Hd.own : Hd → List Str
  | .ex vs => vs
  | .al vs => vs
  | .lfp _ vs _ => vs
  | .pfp _ vs _ => vs
  | .tc vs _ => vs
  | _ => []
def Hd.args : Hd → List Str
  | .rel _ as => as
  | .eq x y => [x, y]
  | .less x y => [x, y]
  | .lfp _ _ as => as
  | .pfp _ _ as => as
  | .tc _ as => as
  | _ => []
def Hd.bound : Hd → Option (Str × Nat)
  | .lfp n vs _ => some (n, vs.length)
  | .pfp n vs _ => some (n, vs.length)
  | .gs n k => some (n, k)
  | _ => none
def Names (vs : List Str) : Prop := ∀ v, v ∈ vs → Nm v
def OwnOk (vs : List Str) : Prop := 1 ≤ vs.length ∧ vs.length ≤ 6 ∧ Names vs ∧ vs.Nodup
/-- a head with n formulas in it is well formed -/
def Hd.Ok (h : Hd) (n : Nat) : Prop := match h with
  | .rel m as => Nm m ∧ as.length ≤ 6 ∧ Names as ∧ n = 0
  | .eq x y => Nm x ∧ Nm y ∧ n = 0
  | .less x y => Nm x ∧ Nm y ∧ n = 0
  | .no => n = 1
  | .con => n ≤ 40
  | .dis => n ≤ 40
  | .ex vs => OwnOk vs ∧ n = 1
  | .al vs => OwnOk vs ∧ n = 1
  | .lfp m vs as => Nm m ∧ OwnOk vs ∧ as.length = vs.length ∧ Names as ∧ n = 1
  | .pfp m vs as => Nm m ∧ OwnOk vs ∧ as.length = vs.length ∧ Names as ∧ n = 1
  | .tc vs as => (vs.length = 2 ∨ vs.length = 4 ∨ vs.length = 6 ∨ vs.length = 8) ∧ Names vs ∧ vs.Nodup ∧ as.length = vs.length ∧ Names as ∧ n = 1
  | .gs m k => Nm m ∧ k ≤ 3 ∧ n = 1
/-! measures -/
def sumN (xs : List Nat) : Nat := xs.foldr (· + ·) 0
def maxN (xs : List Nat) : Nat := xs.foldr max 0
def Fm.cnt : Fm → Nat := Fm.fold fun _ xs => 1 + sumN xs
def Fm.dep : Fm → Nat := Fm.fold fun _ xs => 1 + maxN xs
theorem Fm.cnt_mk (h : Hd) (ps : List Fm) : (Fm.mk h ps).cnt = 1 + sumN (ps.map Fm.cnt) := Fm.fold_mk _ h ps
theorem Fm.dep_mk (h : Hd) (ps : List Fm) : (Fm.mk h ps).dep = 1 + maxN (ps.map Fm.dep) := Fm.fold_mk _ h ps
theorem le_maxN : ∀ {xs : List Nat} {x : Nat}, x ∈ xs → x ≤ maxN xs
  | [], _, h => nomatch h
  | y :: ys, x, h => by
    show x ≤ max y (maxN ys)
    rcases List.mem_cons.mp h with e | h
    · rw [e]; exact Nat.le_max_left _ _
    · exact Nat.le_trans (le_maxN h) (Nat.le_max_right _ _)
theorem le_sumN : ∀ {xs : List Nat} {x : Nat}, x ∈ xs → x ≤ sumN xs
  | [], _, h => nomatch h
  | y :: ys, x, h => by
    show x ≤ y + sumN ys
    rcases List.mem_cons.mp h with e | h
    · omega
    · have := le_sumN h; omega
theorem dep_part {h : Hd} {ps : List Fm} {p : Fm} (hp : p ∈ ps) : p.dep < (Fm.mk h ps).dep := by
  rw [Fm.dep_mk]
  have := le_maxN (List.mem_map_of_mem (f := Fm.dep) hp)
  omega
theorem dep_pos (f : Fm) : 1 ≤ f.dep := by
  obtain ⟨h, ps⟩ := f
  rw [Fm.dep_mk]
  omega
/-- every head in it is well formed -/
inductive Fm.Ok : Fm → Prop
  | mk {h : Hd} {ps : List Fm} (a : h.Ok ps.length) (b : ∀ p, p ∈ ps → p.Ok) : (Fm.mk h ps).Ok
theorem Fm.Ok.hd_ {h : Hd} {ps : List Fm} (k : (Fm.mk h ps).Ok) : h.Ok ps.length := by cases k; assumption
theorem Fm.Ok.part {h : Hd} {ps : List Fm} (k : (Fm.mk h ps).Ok) {p : Fm} (hp : p ∈ ps) : p.Ok := by cases k with | mk a b => exact b p hp
theorem get_map {α β : Type} {f : α → β} {l : List α} {i : Nat} {y : β} (h : (l.map f)[i]? = some y) : ∃ x, l[i]? = some x ∧ y = f x := by
  rw [List.getElem?_map] at h
  cases e : l[i]? with
  | none => rw [e] at h; cases h
  | some x => rw [e] at h; exact ⟨x, rfl, (Option.some.inj h).symm⟩
/-! data in the heap -/
section
variable {K : PySem.W.Frag} {H H' : Hp}
theorem Same.sqt {a : Addr} {xs : List V} (e : Same H H') (h : SqT K H a xs) : SqT K H' a xs := by
  rcases h with (h | ⟨o, h⟩) | h
  · exact .inl (.inl (e _ _ h))
  · exact .inl (.inr ⟨o, e _ _ h⟩)
  · exact .inr h
mutual
theorem Dp.same (e : Same H H') : ∀ {v : V} {d : PyData}, Dp K H v d → Dp K H' v d
  | _, _, .non => .non
  | _, _, .bl b => .bl b
  | _, _, .int i => .int i
  | _, _, .str x => .str x
  | _, _, .lst h t => .lst (e.seq h) (DpAll.same e t)
  | _, _, .tup h t => .tup (Same.sqt e h) (DpAll.same e t)
theorem DpAll.same (e : Same H H') : ∀ {vs : List V} {ds : List PyData}, DpAll K H vs ds → DpAll K H' vs ds
  | _, _, .nil => .nil
  | _, _, .cons h t => .cons (Dp.same e h) (DpAll.same e t)
end
theorem Dp.tup_inv {v : V} {ds : List PyData} (h : Dp K H v (.tuple ds)) : ∃ a xs, v = .ref a ∧ SqT K H a xs ∧ DpAll K H xs ds := by
  cases h with | tup a b => exact ⟨_, _, rfl, a, b⟩
theorem Dp.lst_inv {v : V} {ds : List PyData} (h : Dp K H v (.list ds)) : ∃ a xs, v = .ref a ∧ SqL K H a xs ∧ DpAll K H xs ds := by
  cases h with | lst a b => exact ⟨_, _, rfl, a, b⟩
theorem Dp.str_inv {v : V} {z : Str} (h : Dp K H v (.str z)) : v = .str z := by cases h; rfl
theorem Dp.int_inv {v : V} {i : Int} (h : Dp K H v (.int i)) : v = .int i := by cases h; rfl
theorem Dp.bl_inv {v : V} {i : Bool} (h : Dp K H v (.bool i)) : v = .bl i := by cases h; rfl
theorem DpAll.cons_inv {vs : List V} {d : PyData} {ds : List PyData} (h : DpAll K H vs (d :: ds)) : ∃ v ws, vs = v :: ws ∧ Dp K H v d ∧ DpAll K H ws ds := by
  cases h with | cons a b => exact ⟨_, _, rfl, a, b⟩
theorem DpAll.nil_inv {vs : List V} (h : DpAll K H vs []) : vs = [] := by cases h; rfl
theorem DpAll.length : ∀ {vs : List V} {ds : List PyData}, DpAll K H vs ds → vs.length = ds.length
  | _, _, .nil => rfl
  | _, _, .cons _ t => congrArg Nat.succ (DpAll.length t)
theorem DpAll.get : ∀ {vs : List V} {ds : List PyData} {i : Nat} {d : PyData}, DpAll K H vs ds → ds[i]? = some d → ∃ v, vs[i]? = some v ∧ Dp K H v d
  | _, _, i, d, .nil, h => by simp at h
  | _, _, 0, d, .cons a t, h => by
    have e := Option.some.inj h
    subst e
    exact ⟨_, rfl, a⟩
  | _, _, i + 1, d, .cons a t, h => DpAll.get (i := i) t h
theorem DpAll.get' : ∀ {vs : List V} {ds : List PyData} {i : Nat} {v : V}, DpAll K H vs ds → vs[i]? = some v → ∃ d, ds[i]? = some d ∧ Dp K H v d
  | _, _, i, d, .nil, h => by simp at h
  | _, _, 0, d, .cons a t, h => by
    have e := Option.some.inj h
    subst e
    exact ⟨_, rfl, a⟩
  | _, _, i + 1, d, .cons a t, h => DpAll.get' (i := i) t h
theorem DpAll.append : ∀ {vs ws : List V} {ds es : List PyData}, DpAll K H vs ds → DpAll K H ws es → DpAll K H (vs ++ ws) (ds ++ es)
  | _, _, _, _, .nil, s => s
  | _, _, _, _, .cons a t, s => .cons a (DpAll.append t s)
theorem DpAll.strs : ∀ {vs : List V} {as : List Str}, DpAll K H vs (as.map PyData.str) → vs = as.map V.str
  | _, [], h => by rw [DpAll.nil_inv h]; rfl
  | _, a :: as, h => by
    obtain ⟨v, ws, rfl, h1, h2⟩ := DpAll.cons_inv h
    rw [Dp.str_inv h1, DpAll.strs h2]; rfl
theorem DpAll.of_strs : ∀ (as : List Str), DpAll K H (as.map V.str) (as.map PyData.str)
  | [] => .nil
  | a :: as => .cons (.str a) (DpAll.of_strs as)
theorem tS_inv {v : V} {as : List Str} (h : Dp K H v (tS as)) : ∃ a, v = .ref a ∧ SqT K H a (as.map V.str) := by
  obtain ⟨a, xs, rfl, h1, h2⟩ := Dp.tup_inv h
  rw [DpAll.strs h2] at h1
  exact ⟨a, rfl, h1⟩
theorem tS_of {a : Addr} {as : List Str} (h : SqT K H a (as.map V.str)) : Dp K H (.ref a) (tS as) := .tup h (DpAll.of_strs as)
/-- a formula's value: a tuple that begins with its word -/
theorem hd_inv {v : V} {h : Hd} {ds : List PyData} (q : Dp K H v (h.data ds)) : ∃ a xs, v = .ref a ∧ SqT K H a (.str h.word :: xs) ∧ DpAll K H xs (h.rest ds) := by
  obtain ⟨a, ys, rfl, h1, h2⟩ := Dp.tup_inv q
  obtain ⟨w, xs, rfl, h3, h4⟩ := DpAll.cons_inv h2
  rw [Dp.str_inv h3] at h1
  exact ⟨a, xs, rfl, h1, h4⟩
end
/-! ### the heap without the draws -/
def wo (d : Addr) (H : Hp) : Hp := fun b => if b = d then none else H b
theorem wo_ne {d b : Addr} {H : Hp} (h : b ≠ d) : wo d H b = H b := if_neg h
theorem wo_sub {d : Addr} {H : Hp} : Same (wo d H) H := fun b o e => by
  by_cases h : b = d
  · rw [show wo d H b = none from if_pos h] at e; cases e
  · rw [wo_ne h] at e; exact e
theorem wo_kp {d : Addr} {H H' : Hp} (k : Kp d H H') : Same (wo d H) (wo d H') := fun b o e => by
  by_cases h : b = d
  · rw [show wo d H b = none from if_pos h] at e; cases e
  · rw [wo_ne h] at e ⊢; exact k b o e h
theorem wo_same {d : Addr} {H H' : Hp} (k : Same H H') : Same (wo d H) (wo d H') := wo_kp (.of k)
theorem wo_at {d b : Addr} {H : Hp} {o : HO} (h : b ≠ d) (e : H b = some o) : wo d H b = some o := by rw [wo_ne h]; exact e
section
variable {K : PySem.W.Frag} {H : Hp}
theorem strsL {v : V} {as : List Str} (h : Dp K H v (.list (as.map PyData.str))) : ∃ a, v = .ref a ∧ SqL K H a (as.map V.str) := by
  obtain ⟨a, xs, rfl, h1, h2⟩ := Dp.lst_inv h
  rw [DpAll.strs h2] at h1
  exact ⟨a, rfl, h1⟩
theorem strsL_of {a : Addr} {as : List Str} (h : SqL K H a (as.map V.str)) : Dp K H (.ref a) (.list (as.map PyData.str)) := .lst h (DpAll.of_strs as)
end
theorem eraseIdx_map {α β : Type} (f : α → β) : ∀ (l : List α) (i : Nat), (l.map f).eraseIdx i = (l.eraseIdx i).map f
  | [], i => by simp
  | a :: r, 0 => by simp
  | a :: r, i + 1 => by simp [eraseIdx_map f r i]
theorem eraseIdx_perm {α : Type} : ∀ {l : List α} {i : Nat} {x : α}, l[i]? = some x → l.Perm (x :: l.eraseIdx i)
  | [], _, _, h => by simp at h
  | a :: r, 0, x, h => by have e := Option.some.inj h; rw [← e]; exact List.Perm.refl _
  | a :: r, i + 1, x, h => ((eraseIdx_perm (l := r) (i := i) h).cons a).trans (List.Perm.swap _ _ _)
theorem wo_none {d p : Addr} {H : Hp} (h : H p = none) : wo d H p = none := by
  unfold wo
  split
  · rfl
  · exact h
theorem wo_upd {d p : Addr} {H : Hp} {o : HO} (n : p ≠ d) : wo d (upd H p o) p = some o := by rw [wo_ne n, upd_same]
/-- a new object leaves all else -/
theorem kp_new {d p : Addr} {H H' : Hp} {o : HO} (k : Kp d H H') (np : H' p = none) : Kp d H (upd H' p o) := k.trans (.of (same_upd np))
/-- an object of one's own is changed: what stood before it was made stays -/
theorem kp_own {d p : Addr} {H H' : Hp} {o : HO} (k : Kp d H H') (np : H p = none) : Kp d H (upd H' p o) := fun b x e n => by
  rw [upd_ne (ne_of_none e np)]
  exact k b x e n
theorem bounds_ok {i : Int} {n : Nat} (h0 : 0 ≤ i) (h1 : i < n) (hn : n ≤ 1000) : -(2 ^ 63) ≤ i ∧ i < 2 ^ 63 := by omega
def spSomeOf (K : PySem.W.Frag) : Sp := fun vs H Q _ => ∃ (d l : Addr) (pv : V) (pool : List Str) (m : Nat), vs = [.ref d, pv, .int (m : Nat)] ∧ DrA H d l ∧ Dp K (wo d H) pv (.list (pool.map PyData.str)) ∧ m ≤ pool.length ∧ pool.length ≤ 20 ∧
  ∀ (H' : Hp) (r : Addr) (ch : List Str), DrA H' d l → Kp d H H' → Dp K (wo d H') (.ref r) (.list (ch.map PyData.str)) → ch.length = m → (∀ x, x ∈ ch → x ∈ pool) → (pool.Nodup → ch.Nodup) → Q (.ref r) H'
section
variable {P : Program} {w : World} {K : PySem.W.Frag} {mg : Str → Option Value} {base : Heap}
theorem sc_some_of : FnScope ["draws", "pool", "many", "left", "chosen", "k"] ["draws", "pool", "many"] (defScope (top 126)) := ⟨rfl, rfl, rfl, by decide +kernel, rfl, by decide +kernel, by decide +kernel⟩
theorem has_some_of (D : Def K mg "_law_some_of" ["draws", "pool", "many"] (top 126)) (T : Txt mg) (C1 : Has P w K mg base 2 "_law_draw" ["draws"] spDraw) : Has P w K mg base 3 "_law_some_of" ["draws", "pool", "many"] (spSomeOf K) := D.has fun f fd F => by
  obtain ⟨f1, fd1, G_law_draw, g_law_draw, k_law_draw, b_law_draw⟩ := C1
  refine F.ok sc_some_of (fun vs H Q E h => ?_) (fun cdv A outer s H vs Q E hr h => ?_)
  · obtain ⟨d, l, vp, pool, m, rfl, _⟩ := h; rfl
  · obtain ⟨d, l, vp, pool, m, rfl, dr, dp, hm, h20, q⟩ := h
    have R_law_draw : Room 2 _ := hr.mono (by decide)
    refine ⟨_, PSs.nox (pss_cons (ps_set (i := 3) sc_some_of.nd rfl (Or.inl rfl) (pe_callTy call_list_of (by rfl) T.n_list (by decide +kernel) (pa_cons (pv 1) pa_nil))) (pss_cons (ps_set (i := 4) sc_some_of.nd rfl (Or.inl rfl) (pe_lst pa_nil)) (pss_cons (ps_for PassesOwn.never rfl (pi_range1 (by rfl) T.n_range (pa_cons (pv 2) pa_nil)) (pg_name (i := 5) sc_some_of.nd rfl (Or.inl rfl)) (pss_one (ps_expr (pe_bm PySem.F.plainAttrs_list PySem.F.slot_list_append PySem.F.type_list_append mt_append (pv 4) (pa_cons (pe_bm PySem.F.plainAttrs_list PySem.F.slot_list_pop PySem.F.type_list_pop mt_popAt (pv 3) (pa_cons (pe_op op_mod (pe_call G_law_draw R_law_draw (by rfl) g_law_draw k_law_draw b_law_draw .nil pass0 (pa_cons (pv 0) pa_nil)) (pe_callB call_len_seq (by rfl) T.n_len PySem.boot_len (pa_cons (pv 3) pa_nil))) pa_nil)) pa_nil))))) (pss_one (ps_ret (pv 4)))))), ?_⟩
    obtain ⟨b, rfl, hb⟩ := strsL dp
    have hb' : SqL K H b (pool.map V.str) := wo_sub.seq hb
    refine ⟨_, rfl, b, _, rfl, .inl hb', fun e ne => ?_⟩
    obtain ⟨ned, nel⟩ := dr.ne ne
    have dr1 : DrA (upd H e (.lst (pool.map V.str))) d l := dr.same (same_upd ne)
    have k1 : Kp d H (upd H e (.lst (pool.map V.str))) := .of (same_upd ne)
    have he : (upd H e (.lst (pool.map V.str))) e = some (.lst (pool.map V.str)) := upd_same
    revert dr1 k1 he
    generalize upd H e (.lst (pool.map V.str)) = H1
    intro dr1 k1 he
    refine ⟨Nat.zero_le _, fun c nc => ?_⟩
    obtain ⟨ncd, ncl⟩ := dr1.ne nc
    have nce : e ≠ c := ne_of_none he nc
    have nc0 : H c = none := k1.free ncd nc
    refine ⟨_, rfl, m, rfl, by omega, by omega, for_range (n := m) (fun i σ H2 => ∃ (y5 : Option V) (rem ch : List Str), σ = [some (.ref d), some (.ref b), some (.int (m : Nat)), some (.ref e), some (.ref c), y5] ∧ DrA H2 d l ∧ Kp d H H2 ∧
      H2 e = some (.lst (rem.map V.str)) ∧ H2 c = some (.lst (ch.map V.str)) ∧ ch.length = i ∧ rem.length + i = pool.length ∧ pool.Perm (ch ++ rem))
      ⟨none, pool, [], rfl, dr1.same (same_upd nc), kp_new k1 nc, by rw [upd_ne nce]; exact he, upd_same, rfl, rfl, List.Perm.refl _⟩ ?_ ?_⟩
    · rintro i σ H2 hi ⟨y5, rem, ch, rfl, dr2, k2, he2, hc2, hl, hrl, pm⟩
      refine ⟨_, rfl, .inl ⟨rfl, _, SqL.of hc2⟩, ?_⟩
      refine ⟨_, rfl, .inl ⟨rfl, _, SqL.of he2⟩, ?_⟩
      refine ⟨_, rfl, d, l, rfl, dr2, fun z H3 z0 z1 dr3 k3 => ?_⟩
      have he3 := k3 _ _ he2 ned
      have hc3 := k3 _ _ hc2 ncd
      have rl : 0 < rem.length := by omega
      have i0 : 0 ≤ z % (rem.length : Int) := Int.emod_nonneg _ (by omega)
      have i1 : z % (rem.length : Int) < (rem.length : Int) := Int.emod_lt_of_pos _ (by omega)
      have il : (z % (rem.length : Int)).toNat < rem.length := by omega
      obtain ⟨x, hx⟩ : ∃ x, rem[(z % (rem.length : Int)).toNat]? = some x := ⟨_, List.getElem?_eq_getElem il⟩
      refine ⟨_, rfl, e, _, rfl, .inl (SqL.of he3), _, _, rfl, rfl, (by show (0 : Int) < (((rem.map V.str).length : Nat) : Int); rw [List.length_map]; omega), ?_⟩
      rw [List.length_map]
      refine ⟨e, _, _, (z % (rem.length : Int)).toNat, .str x, rfl, rfl, he3, by omega, by omega, by rw [List.length_map]; exact seqIndex_of i0 i1, by rw [List.getElem?_map, hx]; rfl, ?_⟩
      have hc4 : (upd H3 e (.lst ((rem.map V.str).eraseIdx (z % (rem.length : Int)).toNat))) c = some (.lst (ch.map V.str)) := by rw [upd_ne nce.symm]; exact hc3
      refine ⟨c, _, _, rfl, rfl, hc4, ?_, ?_⟩
      · rw [List.length_map]
        exact small1000 (by omega)
      · refine ⟨_, rem.eraseIdx (z % (rem.length : Int)).toNat, ch ++ [x], rfl, ?_, ?_, ?_, ?_, ?_, ?_, ?_⟩
        · exact (dr3.kp Kp.upd ⟨ned, nel⟩).kp Kp.upd ⟨ncd, ncl⟩
        · exact kp_own (kp_own (k2.trans k3) ne) nc0
        · rw [upd_ne nce, upd_same, eraseIdx_map]
        · rw [upd_same, List.map_append]
          rfl
        · rw [List.length_append, hl]; rfl
        · rw [List.length_eraseIdx_of_lt il]; omega
        · refine pm.trans ?_
          have p2 := eraseIdx_perm hx
          have p3 : (ch ++ rem).Perm (ch ++ (x :: rem.eraseIdx (z % (rem.length : Int)).toNat)) := List.Perm.append_left ch p2
          rw [List.append_assoc]
          exact p3
    · rintro σ H2 ⟨y5, rem, ch, rfl, dr2, k2, he2, hc2, hl, hrl, pm⟩
      refine ⟨_, rfl, q H2 c ch dr2 k2 (strsL_of (SqL.of (wo_at ncd hc2))) hl (fun x hx => pm.mem_iff.mpr (List.mem_append_left _ hx)) fun nd => ?_⟩
      exact (List.nodup_append.mp (pm.nodup_iff.mp nd)).1
end
/-! ### rules within a comprehension -/
section
variable {X : Cx} {K : PySem.W.Frag}
theorem ix_listK (h : X.K = K) : IxR X (rIxL K) := h ▸ ix_list
theorem ix_tupK (h : X.K = K) : IxR X (rIxT K) := h ▸ ix_tup
theorem sl_listK (h : X.K = K) : SlR X (rSlL K) := h ▸ sl_list
theorem op_in_seqK (h : X.K = K) : OpR X (compareOp .In) (rIn K false) := h ▸ op_in_seq
theorem op_notIn_seqK (h : X.K = K) : OpR X (compareOp .NotIn) (rIn K true) := h ▸ op_notIn_seq
theorem call_len_seqK (h : X.K = K) : CallR X (.builtin "len") (fun xs H Q => ∃ p ys, xs = [.ref p] ∧ (SqL K H p ys ∨ SqT K H p ys) ∧ Q (.int ys.length) H) := h ▸ call_len_seq
end
/-! ### data that the draws are no part of -/
def int1 : List PyData → Bool
  | _ :: .int _ :: _ => false
  | _ => true
mutual
def good : PyData → Bool
  | .list ts => goods ts && int1 ts
  | .tuple ts => goods ts
  | _ => true
def goods : List PyData → Bool
  | [] => true
  | t :: ts => good t && goods ts
end
theorem goods_cons {t : PyData} {ts : List PyData} : goods (t :: ts) = (good t && goods ts) := by rw [goods]
theorem goods_append : ∀ (ts us : List PyData), goods (ts ++ us) = (goods ts && goods us)
  | [], us => by rw [goods]; rfl
  | t :: ts, us => by rw [List.cons_append, goods_cons, goods_cons, goods_append ts us, Bool.and_assoc]
theorem goods_all : ∀ {ts : List PyData}, (∀ t, t ∈ ts → good t = true) → goods ts = true
  | [], _ => by rw [goods]
  | t :: ts, h => by
    rw [goods_cons, h t (List.mem_cons_self ..), goods_all fun u hu => h u (List.mem_cons_of_mem _ hu)]; rfl
theorem good_str {z : Str} : good (.str z) = true := by rw [good]; all_goals (intros; contradiction)
theorem good_int {z : Int} : good (.int z) = true := by rw [good]; all_goals (intros; contradiction)
theorem good_tup {ts : List PyData} (h : goods ts = true) : good (.tuple ts) = true := by rw [good]; exact h
theorem good_lst {ts : List PyData} (h : goods ts = true) (n : ∀ t, t ∈ ts → ∀ i : Int, t ≠ .int i) : good (.list ts) = true := by
  rw [good, h]
  cases ts with
  | nil => rfl
  | cons a r =>
    cases r with
    | nil => rfl
    | cons b r =>
      cases b with
      | int i => exact absurd rfl (n (.int i) (by simp) i)
      | _ => rfl
theorem goods_strs (as : List Str) : goods (as.map PyData.str) = true := goods_all fun t ht => by
  obtain ⟨z, _, rfl⟩ := List.mem_map.mp ht
  exact good_str
theorem good_tS (as : List Str) : good (tS as) = true := good_tup (goods_strs as)
theorem good_strl (as : List Str) : good (.list (as.map PyData.str)) = true := good_lst (goods_strs as) fun t ht i e => by
  obtain ⟨z, _, rfl⟩ := List.mem_map.mp ht
  cases e
theorem good_hd {h : Hd} {ds : List PyData} (g : goods ds = true) : good (h.data ds) = true := by
  refine good_tup ?_
  rw [goods_cons, good_str]
  have n0 : goods [] = true := by rw [goods]
  cases h <;> simp only [Hd.rest, goods_cons, goods_append, good_str, good_int, good_tS, g, n0, good_tup g, Bool.and_self, Bool.true_and]
theorem Fm.good : ∀ f : Fm, SaysoV.good f.data = true := Fm.ind fun h ps ih => by
  rw [Fm.data_mk]
  refine good_hd (goods_all fun t ht => ?_)
  obtain ⟨p, hp, rfl⟩ := List.mem_map.mp ht
  exact ih p hp
section
variable {K : PySem.W.Frag} {H H' : Hp} {d l : Addr} {n : Int}
theorem SqT.wo {a : Addr} {xs ys : List V} (h1 : H d = some (.lst ys)) (h : SqT K H a xs) : SqT K (wo d H) a xs := by
  have ne : ∀ {o : HO}, H a = some o → (∀ zs, o ≠ .lst zs) → a ≠ d := fun e k z => by
    rw [z, h1] at e
    exact k ys (Option.some.inj e).symm
  rcases h with (h | ⟨o, h⟩) | h
  · exact .inl (.inl (by rw [wo_ne (ne h fun zs z => nomatch z)]; exact h))
  · exact .inl (.inr ⟨o, by rw [wo_ne (ne h fun zs z => nomatch z)]; exact h⟩)
  · exact .inr h
theorem SqL.wo {a : Addr} {xs ys : List V} (h1 : H d = some (.lst ys)) (n : xs ≠ ys) (h : SqL K H a xs) : SqL K (wo d H) a xs := by
  rcases h with (h | ⟨o, h⟩) | h
  · refine .inl (.inl ?_)
    by_cases e : a = d
    · rw [e, h1] at h
      exact absurd (HO.lst.inj (Option.some.inj h)).symm n
    · rw [wo_ne e]; exact h
  · refine .inl (.inr ⟨o, ?_⟩)
    by_cases e : a = d
    · rw [e, h1] at h
      cases h
    · rw [wo_ne e]; exact h
  · exact .inr h
theorem no_ints {l : Addr} {n : Int} {ds : List PyData} (t : DpAll K H [.ref l, .int n] ds) : good (.list ds) = false := by
  cases t with
  | cons a t =>
    cases t with
    | cons b t =>
      cases t
      cases b
      rw [good]
      exact Bool.and_false _
mutual
theorem Dp.woG (h1 : H d = some (.lst [.ref l, .int n])) : ∀ {v : V} {t : PyData}, Dp K H v t → good t = true → Dp K (wo d H) v t
  | _, _, .non, _ => .non
  | _, _, .bl b, _ => .bl b
  | _, _, .int i, _ => .int i
  | _, _, .str x, _ => .str x
  | _, _, .lst h t, g => .lst (SqL.wo h1 (fun z => by rw [z] at t; rw [no_ints t] at g; cases g) h) (DpAll.woG h1 t (by rw [good] at g; exact (Bool.and_eq_true_iff.mp g).1))
  | _, _, .tup h t, g => .tup (SqT.wo h1 h) (DpAll.woG h1 t (by rw [good] at g; exact g))
theorem DpAll.woG (h1 : H d = some (.lst [.ref l, .int n])) : ∀ {vs : List V} {ts : List PyData}, DpAll K H vs ts → goods ts = true → DpAll K (wo d H) vs ts
  | _, _, .nil, _ => .nil
  | _, _, .cons h t, g => .cons (Dp.woG h1 h (by rw [goods_cons] at g; exact (Bool.and_eq_true_iff.mp g).1)) (DpAll.woG h1 t (by rw [goods_cons] at g; exact (Bool.and_eq_true_iff.mp g).2))
end
theorem Dp.wod {v : V} {t : PyData} (r : DrA H d l) (h : Dp K H v t) (g : good t = true) : Dp K (SaysoV.wo d H) v t := by
  obtain ⟨n, ms, h1, _⟩ := r
  exact Dp.woG h1 h g
/-- a draw leaves it -/
theorem Dp.kpA {v : V} {t : PyData} (h : Dp K H v t) (r : DrA H d l) (g : good t = true) (k : Kp d H H') : Dp K H' v t := Dp.same wo_sub (Dp.same (wo_kp k) (Dp.wod r h g))
theorem DpAll.kpA {vs : List V} {ts : List PyData} (h : DpAll K H vs ts) (r : DrA H d l) (g : goods ts = true) (k : Kp d H H') : DpAll K H' vs ts := by
  obtain ⟨n, ms, h1, _⟩ := r
  exact DpAll.same wo_sub (DpAll.same (wo_kp k) (DpAll.woG h1 h g))
end
/-! data without lists: whatever becomes of lists, it stays -/
mutual
def noL : PyData → Bool
  | .list _ => false
  | .tuple ts => noLs ts
  | _ => true
def noLs : List PyData → Bool
  | [] => true
  | t :: ts => noL t && noLs ts
end
theorem noLs_cons {t : PyData} {ts : List PyData} : noLs (t :: ts) = (noL t && noLs ts) := by rw [noLs]
theorem noLs_append : ∀ (ts us : List PyData), noLs (ts ++ us) = (noLs ts && noLs us)
  | [], us => by rw [noLs]; rfl
  | t :: ts, us => by rw [List.cons_append, noLs_cons, noLs_cons, noLs_append ts us, Bool.and_assoc]
theorem noLs_all : ∀ {ts : List PyData}, (∀ t, t ∈ ts → noL t = true) → noLs ts = true
  | [], _ => by rw [noLs]
  | t :: ts, h => by
    rw [noLs_cons, h t (List.mem_cons_self ..), noLs_all fun u hu => h u (List.mem_cons_of_mem _ hu)]; rfl
theorem noL_str {z : Str} : noL (.str z) = true := by rw [noL]; all_goals (intros; contradiction)
theorem noL_int {z : Int} : noL (.int z) = true := by rw [noL]; all_goals (intros; contradiction)
theorem noL_tup {ts : List PyData} (h : noLs ts = true) : noL (.tuple ts) = true := by rw [noL]; exact h
theorem noLs_strs (as : List Str) : noLs (as.map PyData.str) = true := noLs_all fun t ht => by
  obtain ⟨z, _, rfl⟩ := List.mem_map.mp ht
  exact noL_str
theorem noL_tS (as : List Str) : noL (tS as) = true := noL_tup (noLs_strs as)
theorem noL_hd {h : Hd} {ds : List PyData} (g : noLs ds = true) : noL (h.data ds) = true := by
  refine noL_tup ?_
  rw [noLs_cons, noL_str]
  have n0 : noLs [] = true := by rw [noLs]
  cases h <;> simp only [Hd.rest, noLs_cons, noLs_append, noL_str, noL_int, noL_tS, g, n0, noL_tup g, Bool.and_self, Bool.true_and]
theorem Fm.noL : ∀ f : Fm, SaysoV.noL f.data = true := Fm.ind fun h ps ih => by
  rw [Fm.data_mk]
  refine noL_hd (noLs_all fun t ht => ?_)
  obtain ⟨p, hp, rfl⟩ := List.mem_map.mp ht
  exact ih p hp
theorem fms_noL (ps : List Fm) : noLs (ps.map Fm.data) = true := noLs_all fun t ht => by
  obtain ⟨p, _, rfl⟩ := List.mem_map.mp ht
  exact p.noL
/-- all but lists stays -/
def Kl (H H' : Hp) : Prop := ∀ b o, H b = some o → (∀ ys, o ≠ .lst ys) → H' b = some o
theorem Kl.refl (H : Hp) : Kl H H := fun _ _ e _ => e
theorem Kl.of {H H' : Hp} (s : Same H H') : Kl H H' := fun b o e _ => s b o e
theorem Kl.trans {H H1 H2 : Hp} (a : Kl H H1) (b : Kl H1 H2) : Kl H H2 := fun c o e n => b c o (a c o e n) n
theorem Kl.kp {H H' : Hp} {d : Addr} {ys : List V} (k : Kp d H H') (h : H d = some (.lst ys)) : Kl H H' := fun b o e n => k b o e fun z => by
  rw [z, h] at e
  exact n ys (Option.some.inj e).symm
theorem Kl.dr {H H' : Hp} {d l : Addr} (k : Kp d H H') (r : DrA H d l) : Kl H H' := by
  obtain ⟨n, ms, h1, _⟩ := r
  exact .kp k h1
theorem Kl.upd {H : Hp} {p : Addr} {o : HO} {ys : List V} (h : H p = some (.lst ys)) : Kl H (L2.upd H p o) := fun b x e n => by
  rw [upd_ne fun z => by rw [z, h] at e; exact n ys (Option.some.inj e).symm]
  exact e
theorem Kl.new {H : Hp} {p : Addr} {o : HO} (h : H p = none) : Kl H (L2.upd H p o) := .of (same_upd h)
section
variable {K : PySem.W.Frag} {H H' : Hp}
theorem SqT.kl {a : Addr} {xs : List V} (k : Kl H H') (h : SqT K H a xs) : SqT K H' a xs := by
  rcases h with (h | ⟨o, h⟩) | h
  · exact .inl (.inl (k _ _ h fun zs z => nomatch z))
  · exact .inl (.inr ⟨o, k _ _ h fun zs z => nomatch z⟩)
  · exact .inr h
mutual
theorem Dp.kl (k : Kl H H') : ∀ {v : V} {t : PyData}, Dp K H v t → noL t = true → Dp K H' v t
  | _, _, .non, _ => .non
  | _, _, .bl b, _ => .bl b
  | _, _, .int i, _ => .int i
  | _, _, .str x, _ => .str x
  | _, _, .lst h t, g => by rw [noL] at g; cases g
  | _, _, .tup h t, g => .tup (SqT.kl k h) (DpAll.kl k t (by rw [noL] at g; exact g))
theorem DpAll.kl (k : Kl H H') : ∀ {vs : List V} {ts : List PyData}, DpAll K H vs ts → noLs ts = true → DpAll K H' vs ts
  | _, _, .nil, _ => .nil
  | _, _, .cons h t, g => .cons (Dp.kl k h (by rw [noLs_cons] at g; exact (Bool.and_eq_true_iff.mp g).1)) (DpAll.kl k t (by rw [noLs_cons] at g; exact (Bool.and_eq_true_iff.mp g).2))
end
end
/-! ### the lists of names: name, arity, mode -/
abbrev NE := Str × Nat × Nat
def nD (p : NE) : PyData := .tuple [.str p.1, .int p.2.1, .int p.2.2]
def nsD (ns : List NE) : PyData := .list (ns.map nD)
theorem good_nD (p : NE) : good (nD p) = true := good_tup (by rw [goods_cons, goods_cons, goods_cons, good_str, good_int, good_int, goods]; rfl)
theorem noL_nD (p : NE) : noL (nD p) = true := noL_tup (by rw [noLs_cons, noLs_cons, noLs_cons, noL_str, noL_int, noL_int, noLs]; rfl)
theorem ns_noL (ns : List NE) : noLs (ns.map nD) = true := noLs_all fun t ht => by
  obtain ⟨p, _, rfl⟩ := List.mem_map.mp ht
  exact noL_nD p
theorem good_nsD (ns : List NE) : good (nsD ns) = true := good_lst (goods_all fun t ht => by
  obtain ⟨z, _, rfl⟩ := List.mem_map.mp ht
  exact good_nD z) fun t ht i e => by
  obtain ⟨z, _, rfl⟩ := List.mem_map.mp ht
  cases e
def within (ns : List NE) (p : NE) : List NE := (ns.filter fun q => !decide (q.1 = p.1)) ++ [p]
def mode4 (a b c e : Nat) (m : Nat) : Nat := match m with
  | 0 => a
  | 1 => b
  | 2 => c
  | _ => e
def turned (ns : List NE) : List NE := ns.map fun p => (p.1, p.2.1, mode4 0 2 1 3 p.2.2)
def barred (ns : List NE) : List NE := ns.map fun p => (p.1, p.2.1, mode4 0 3 3 3 p.2.2)
section
variable {K : PySem.W.Frag} {H H' : Hp}
theorem nD_inv {v : V} {p : NE} (h : Dp K H v (nD p)) : ∃ t, v = .ref t ∧ SqT K H t [.str p.1, .int p.2.1, .int p.2.2] := by
  obtain ⟨a, xs, rfl, h1, h2⟩ := Dp.tup_inv h
  obtain ⟨v1, w1, rfl, e1, h2⟩ := DpAll.cons_inv h2
  obtain ⟨v2, w2, rfl, e2, h2⟩ := DpAll.cons_inv h2
  obtain ⟨v3, w3, rfl, e3, h2⟩ := DpAll.cons_inv h2
  rw [Dp.str_inv e1, Dp.int_inv e2, Dp.int_inv e3, DpAll.nil_inv h2] at h1
  exact ⟨a, rfl, h1⟩
theorem nD_of {t : Addr} {p : NE} (h : SqT K H t [.str p.1, .int p.2.1, .int p.2.2]) : Dp K H (.ref t) (nD p) := .tup h (.cons (.str _) (.cons (.int _) (.cons (.int _) .nil)))
theorem DpAll.snoc {vs : List V} {ds : List PyData} {v : V} {t : PyData} (h : DpAll K H vs ds) (e : Dp K H v t) : DpAll K H (vs ++ [v]) (ds ++ [t]) := DpAll.append h (.cons e .nil)
end
theorem filter_snoc {α : Type} {p : α → Bool} {l : List α} {i : Nat} {x : α} (h : l[i]? = some x) : (l.take (i + 1)).filter p = (l.take i).filter p ++ (if p x then [x] else []) := by
  rw [List.take_add_one, h, List.filter_append]
  congr 1
  show List.filter p [x] = _
  cases e : p x <;> simp [List.filter, e]
def spWithin (K : PySem.W.Frag) : Sp := fun vs H Q _ => ∃ (nv : V) (name : Str) (k m : Nat) (ns : List NE), vs = [nv, .str name, .int k, .int m] ∧ Dp K H nv (nsD ns) ∧ ns.length ≤ 100 ∧ ∀ (H' : Hp) (r : V), Same H H' → Dp K H' r (nsD (within ns (name, k, m))) → Q r H'
def spMode (K : PySem.W.Frag) (F : List NE → List NE) : Sp := fun vs H Q _ => ∃ (nv : V) (ns : List NE), vs = [nv] ∧ Dp K H nv (nsD ns) ∧ ns.length ≤ 100 ∧ (∀ p, p ∈ ns → p.2.2 ≤ 3) ∧ ∀ (H' : Hp) (r : V), Same H H' → Dp K H' r (nsD (F ns)) → Q r H'
section
variable {P : Program} {w : World} {K : PySem.W.Frag} {mg : Str → Option Value} {base : Heap}
theorem sc_within : FnScope ["names", "name", "arity", "mode", "one"] ["names", "name", "arity", "mode"] (defScope (top 128)) := ⟨rfl, rfl, rfl, by decide +kernel, rfl, by decide +kernel, by decide +kernel⟩
theorem has_within (D : Def K mg "_law_within" ["names", "name", "arity", "mode"] (top 128)) : Has P w K mg base 1 "_law_within" ["names", "name", "arity", "mode"] (spWithin K) := D.has fun f fd F => by
  refine F.ok sc_within (fun vs H Q E h => ?_) (fun cdv A outer s H vs Q E hr h => ?_)
  · obtain ⟨nv, name, k, m, ns, rfl, _⟩ := h; rfl
  · obtain ⟨nv, name, k, m, ns, rfl, dn, hl, q⟩ := h
    refine ⟨_, PSs.nox (pss_one (ps_ret (pe_op op_cat (pe_lc (own := [("one", 4)]) rfl sc_within.nd (pi_list (pv 0)) (blkOk_by (N := ["names", "name", "arity", "mode", "one"]) (sc := defScope (top 128)) (by decide +kernel)) (fun _ _ _ _ _ => (pg_name (i := 4) sc_within.nd rfl (Or.inl rfl))) (fun _ _ _ _ _ => (pts_one (pt_cmpR op_ne (pe_ix (ix_tupK (K := K) rfl) (pv 4) pe_int (fun _ _ => rfl)) (pv 1) (nomark _)))) (fun _ _ _ _ _ => (pv 4))) (pe_lst (pa_cons (pe_tup (pa_cons (pv 1) (pa_cons (pv 2) (pa_cons (pv 3) pa_nil)))) pa_nil))))), ?_⟩
    obtain ⟨a, xs, rfl, ha, hx⟩ := Dp.lst_inv dn
    refine ⟨_, rfl, a, rfl, ⟨_, ha⟩, fun L nL => ?_⟩
    refine lc_it (walk_list (K := K) (a := a) (xs := xs)) (fun i H2 => ∃ acc, H2 L = some (.lst acc) ∧ DpAll K H acc (((ns.take i).filter fun p => !decide (p.1 = name)).map nD) ∧ Same H H2) ⟨[], upd_same, .nil, same_upd nL⟩ (fun i H2 _ ⟨_, _, _, s2⟩ => s2.seq ha) ?_ ?_
    · rintro i y H2 H3 hi ⟨acc, hL, hacc, s2⟩ ⟨rfl, hy⟩
      obtain ⟨dd, hd, dpy⟩ := DpAll.get' hx hy
      obtain ⟨p, hp, rfl⟩ := get_map hd
      obtain ⟨t, rfl, ht⟩ := nD_inv dpy
      refine ⟨rfl, _, rfl, t, _, _, _, rfl, rfl, Same.sqt s2 ht, atI_nat (j := 0) rfl, _, rfl, rfl, _, rfl, ?_⟩
      have ed : decide (V.str p.1 = V.str name) = decide (p.1 = name) := decide_eq_decide.mpr ⟨fun y => V.str.inj y, fun y => congrArg V.str y⟩
      have ef := filter_snoc (p := fun p : NE => !decide (p.1 = name)) hp
      by_cases e : p.1 = name
      · refine cF (k := !decide (V.str p.1 = V.str name)) (by rw [ed, decide_eq_true e]; rfl) ⟨acc, hL, ?_, s2⟩
        rw [show (if (!decide (p.1 = name)) = true then [p] else []) = [] by simp [e], List.append_nil] at ef
        rw [ef]
        exact hacc
      · refine cT (k := !decide (V.str p.1 = V.str name)) (by rw [ed, decide_eq_false e]; rfl) ⟨_, rfl, _, hL, ?_, ?_⟩
        · have e1 := DpAll.length hacc
          rw [List.length_map] at e1
          have e2 := List.length_filter_le (fun p : NE => !decide (p.1 = name)) (ns.take i)
          have e3 := List.length_take_le' i ns
          exact small1000 (by omega)
        · refine ⟨_, upd_same, ?_, fun b o eb => by rw [upd_ne (ne_of_none eb nL)]; exact s2 _ _ eb⟩
          rw [show (if (!decide (p.1 = name)) = true then [p] else []) = [p] by simp [e]] at ef
          rw [ef, List.map_append]
          exact DpAll.snoc hacc (nD_of ht)
    · rintro H2 ⟨acc, hL, hacc, s2⟩
      have el : xs.length = ns.length := by rw [DpAll.length hx, List.length_map]
      rw [List.take_of_length_le (show ns.length ≤ xs.length by omega)] at hacc
      refine ⟨_, rfl, _, rfl, _, rfl, (by show 3 ≤ sizeLine; decide), fun t nt => ⟨(by show 1 ≤ sizeLine; decide), fun b nb => ?_⟩⟩
      have t1 : Same H2 (upd H2 t (.tup [.str name, .int k, .int m])) := same_upd nt
      have t2 := same_upd (o := .lst [.ref t]) nb
      refine ⟨L, b, acc, [.ref t], rfl, rfl, t2 _ _ (t1 _ _ hL), upd_same, ?_, fun p np => ?_⟩
      · have e1 := DpAll.length hacc
        rw [List.length_map] at e1
        have e2 := List.length_filter_le (fun p : NE => !decide (p.1 = name)) ns
        have := small1000 (n := acc.length + 1) (by omega)
        show acc.length + 1 ≤ sizeLine
        omega
      · have t3 := same_upd (o := .lst (acc ++ [.ref t])) np
        have s4 : Same H _ := ((s2.trans t1).trans t2).trans t3
        refine q _ _ s4 (.lst (.inl (.inl upd_same)) ?_)
        show DpAll K _ _ (((ns.filter fun q => !decide (q.1 = name)) ++ [(name, k, m)]).map nD)
        rw [List.map_append]
        exact DpAll.snoc (DpAll.same s4 hacc) (nD_of (Same.sqt t3 (Same.sqt t2 (.inl (.inl upd_same)))))
theorem mode_at {a b c e m : Nat} (h : m ≤ 3) : [V.int a, V.int b, V.int c, V.int e][m]? = some (.int (mode4 a b c e m : Nat)) := by
  match m, h with
  | 0, _ => rfl
  | 1, _ => rfl
  | 2, _ => rfl
  | 3, _ => rfl
theorem sc_turned : FnScope ["names", "one"] ["names"] (defScope (top 129)) := ⟨rfl, rfl, rfl, by decide +kernel, rfl, by decide +kernel, by decide +kernel⟩
theorem has_turned (D : Def K mg "_law_turned" ["names"] (top 129)) : Has P w K mg base 1 "_law_turned" ["names"] (spMode K turned) := D.has fun f fd F => by
  refine F.ok sc_turned (fun vs H Q E h => ?_) (fun cdv A outer s H vs Q E hr h => ?_)
  · obtain ⟨nv, ns, rfl, _⟩ := h; rfl
  · obtain ⟨nv, ns, rfl, dn, hl, hm, q⟩ := h
    refine ⟨_, PSs.nox (pss_one (ps_ret (pe_lc (own := [("one", 1)]) rfl sc_turned.nd (pi_list (pv 0)) (blkOk_by (N := ["names", "one"]) (sc := defScope (top 129)) (by decide +kernel)) (fun _ _ _ _ _ => (pg_name (i := 1) sc_turned.nd rfl (Or.inl rfl))) (fun _ _ _ _ _ => pts_nil) (fun _ _ _ _ _ => (pe_tup (pa_cons (pe_ix (ix_tupK (K := K) rfl) (pv 1) pe_int (fun _ _ => rfl)) (pa_cons (pe_ix (ix_tupK (K := K) rfl) (pv 1) pe_int (fun _ _ => rfl)) (pa_cons (pe_ix (ix_listK (K := K) rfl) (pe_lst (pa_cons pe_int (pa_cons pe_int (pa_cons pe_int (pa_cons pe_int pa_nil))))) (pe_ix (ix_tupK (K := K) rfl) (pv 1) pe_int (fun _ _ => rfl)) (fun _ _ => rfl)) pa_nil)))))))), ?_⟩
    obtain ⟨a, xs, rfl, ha, hx⟩ := Dp.lst_inv dn
    refine ⟨_, rfl, a, rfl, ⟨_, ha⟩, fun L nL => ?_⟩
    refine lc_it (walk_list (K := K) (a := a) (xs := xs)) (fun i H2 => ∃ acc, H2 L = some (.lst acc) ∧ DpAll K H2 acc ((turned (ns.take i)).map nD) ∧ Same H H2) ⟨[], upd_same, .nil, same_upd nL⟩ (fun i H2 _ ⟨_, _, _, s2⟩ => s2.seq ha) ?_ ?_
    · rintro i y H2 H3 hi ⟨acc, hL, hacc, s2⟩ ⟨rfl, hy⟩
      obtain ⟨dd, hd, dpy⟩ := DpAll.get' hx hy
      obtain ⟨p, hp, rfl⟩ := get_map hd
      obtain ⟨t, rfl, ht⟩ := nD_inv (Dp.same s2 dpy)
      have hm3 := hm p (List.mem_of_getElem? hp)
      refine ⟨rfl, _, rfl, t, _, _, _, rfl, rfl, ht, atI_nat (j := 0) rfl, ?_⟩
      refine ⟨_, rfl, t, _, _, _, rfl, rfl, ht, atI_nat (j := 1) rfl, ?_⟩
      refine ⟨(by show 4 ≤ sizeLine; decide), fun c nc => ?_⟩
      have t1 := same_upd (o := .lst [V.int 0, V.int 2, V.int 1, V.int 3]) nc
      refine ⟨_, rfl, t, _, _, _, rfl, rfl, Same.sqt t1 ht, atI_nat (j := 2) rfl, c, _, _, _, rfl, rfl, .inl (.inl upd_same), atI_nat (mode_at hm3), ?_⟩
      refine ⟨(by show 3 ≤ sizeLine; decide), fun e ne => ?_⟩
      have t2 := same_upd (o := .tup [.str p.1, .int p.2.1, .int (mode4 0 2 1 3 p.2.2 : Nat)]) ne
      have t12 := t1.trans t2
      refine ⟨acc, t12 _ _ hL, ?_, acc ++ [.ref e], upd_same, ?_, fun b o eb => by rw [upd_ne (ne_of_none eb nL)]; exact t12 _ _ (s2 _ _ eb)⟩
      · have e1 := DpAll.length hacc
        rw [List.length_map] at e1
        have e2 : (turned (ns.take i)).length = (ns.take i).length := List.length_map ..
        have e3 := List.length_take_le' i ns
        exact small1000 (by omega)
      · have et : turned (ns.take (i + 1)) = turned (ns.take i) ++ [(p.1, p.2.1, mode4 0 2 1 3 p.2.2)] := by
          rw [List.take_add_one, hp]
          exact List.map_append
        rw [et, List.map_append]
        have d2 : Dp K (upd (upd H3 c (.lst [V.int 0, V.int 2, V.int 1, V.int 3])) e (.tup [.str p.1, .int p.2.1, .int (mode4 0 2 1 3 p.2.2 : Nat)])) (.ref e) (nD (p.1, p.2.1, mode4 0 2 1 3 p.2.2)) := nD_of (.inl (.inl upd_same))
        exact DpAll.kl (Kl.upd (t12 _ _ hL)) (DpAll.snoc (DpAll.kl (.of t12) hacc (ns_noL _)) d2) (by rw [noLs_append, ns_noL, ns_noL]; rfl)
    · rintro H2 ⟨acc, hL, hacc, s2⟩
      have el : xs.length = ns.length := by rw [DpAll.length hx, List.length_map]
      rw [List.take_of_length_le (show ns.length ≤ xs.length by omega)] at hacc
      exact q H2 (.ref L) s2 (.lst (.inl (.inl hL)) hacc)
theorem sc_barred : FnScope ["names", "one"] ["names"] (defScope (top 130)) := ⟨rfl, rfl, rfl, by decide +kernel, rfl, by decide +kernel, by decide +kernel⟩
theorem has_barred (D : Def K mg "_law_barred" ["names"] (top 130)) : Has P w K mg base 1 "_law_barred" ["names"] (spMode K barred) := D.has fun f fd F => by
  refine F.ok sc_barred (fun vs H Q E h => ?_) (fun cdv A outer s H vs Q E hr h => ?_)
  · obtain ⟨nv, ns, rfl, _⟩ := h; rfl
  · obtain ⟨nv, ns, rfl, dn, hl, hm, q⟩ := h
    refine ⟨_, PSs.nox (pss_one (ps_ret (pe_lc (own := [("one", 1)]) rfl sc_barred.nd (pi_list (pv 0)) (blkOk_by (N := ["names", "one"]) (sc := defScope (top 130)) (by decide +kernel)) (fun _ _ _ _ _ => (pg_name (i := 1) sc_barred.nd rfl (Or.inl rfl))) (fun _ _ _ _ _ => pts_nil) (fun _ _ _ _ _ => (pe_tup (pa_cons (pe_ix (ix_tupK (K := K) rfl) (pv 1) pe_int (fun _ _ => rfl)) (pa_cons (pe_ix (ix_tupK (K := K) rfl) (pv 1) pe_int (fun _ _ => rfl)) (pa_cons (pe_ix (ix_listK (K := K) rfl) (pe_lst (pa_cons pe_int (pa_cons pe_int (pa_cons pe_int (pa_cons pe_int pa_nil))))) (pe_ix (ix_tupK (K := K) rfl) (pv 1) pe_int (fun _ _ => rfl)) (fun _ _ => rfl)) pa_nil)))))))), ?_⟩
    obtain ⟨a, xs, rfl, ha, hx⟩ := Dp.lst_inv dn
    refine ⟨_, rfl, a, rfl, ⟨_, ha⟩, fun L nL => ?_⟩
    refine lc_it (walk_list (K := K) (a := a) (xs := xs)) (fun i H2 => ∃ acc, H2 L = some (.lst acc) ∧ DpAll K H2 acc ((barred (ns.take i)).map nD) ∧ Same H H2) ⟨[], upd_same, .nil, same_upd nL⟩ (fun i H2 _ ⟨_, _, _, s2⟩ => s2.seq ha) ?_ ?_
    · rintro i y H2 H3 hi ⟨acc, hL, hacc, s2⟩ ⟨rfl, hy⟩
      obtain ⟨dd, hd, dpy⟩ := DpAll.get' hx hy
      obtain ⟨p, hp, rfl⟩ := get_map hd
      obtain ⟨t, rfl, ht⟩ := nD_inv (Dp.same s2 dpy)
      have hm3 := hm p (List.mem_of_getElem? hp)
      refine ⟨rfl, _, rfl, t, _, _, _, rfl, rfl, ht, atI_nat (j := 0) rfl, ?_⟩
      refine ⟨_, rfl, t, _, _, _, rfl, rfl, ht, atI_nat (j := 1) rfl, ?_⟩
      refine ⟨(by show 4 ≤ sizeLine; decide), fun c nc => ?_⟩
      have t1 := same_upd (o := .lst [V.int 0, V.int 3, V.int 3, V.int 3]) nc
      refine ⟨_, rfl, t, _, _, _, rfl, rfl, Same.sqt t1 ht, atI_nat (j := 2) rfl, c, _, _, _, rfl, rfl, .inl (.inl upd_same), atI_nat (mode_at hm3), ?_⟩
      refine ⟨(by show 3 ≤ sizeLine; decide), fun e ne => ?_⟩
      have t2 := same_upd (o := .tup [.str p.1, .int p.2.1, .int (mode4 0 3 3 3 p.2.2 : Nat)]) ne
      have t12 := t1.trans t2
      refine ⟨acc, t12 _ _ hL, ?_, acc ++ [.ref e], upd_same, ?_, fun b o eb => by rw [upd_ne (ne_of_none eb nL)]; exact t12 _ _ (s2 _ _ eb)⟩
      · have e1 := DpAll.length hacc
        rw [List.length_map] at e1
        have e2 : (barred (ns.take i)).length = (ns.take i).length := List.length_map ..
        have e3 := List.length_take_le' i ns
        exact small1000 (by omega)
      · have et : barred (ns.take (i + 1)) = barred (ns.take i) ++ [(p.1, p.2.1, mode4 0 3 3 3 p.2.2)] := by
          rw [List.take_add_one, hp]
          exact List.map_append
        rw [et, List.map_append]
        have d2 : Dp K (upd (upd H3 c (.lst [V.int 0, V.int 3, V.int 3, V.int 3])) e (.tup [.str p.1, .int p.2.1, .int (mode4 0 3 3 3 p.2.2 : Nat)])) (.ref e) (nD (p.1, p.2.1, mode4 0 3 3 3 p.2.2)) := nD_of (.inl (.inl upd_same))
        exact DpAll.kl (Kl.upd (t12 _ _ hL)) (DpAll.snoc (DpAll.kl (.of t12) hacc (ns_noL _)) d2) (by rw [noLs_append, ns_noL, ns_noL]; rfl)
    · rintro H2 ⟨acc, hL, hacc, s2⟩
      have el : xs.length = ns.length := by rw [DpAll.length hx, List.length_map]
      rw [List.take_of_length_le (show ns.length ≤ xs.length by omega)] at hacc
      exact q H2 (.ref L) s2 (.lst (.inl (.inl hL)) hacc)
end
/-! ### reading written dicts -/
section
variable {X : Cx} {o e : Expr} {td ty : TE} {apos cpos : Pos}
/-- d.get(k), d a dict of the module -/
def tKGet (K : PySem.W.Frag) (w : World) (td ty : TE) : TE := fun σ H Q => td σ H fun x H1 => ∃ p es n, x = .ref p ∧ KDict K w p es n ∧ ty σ H1 fun y H2 => ∃ (z : Str) (r : Option Value) (v : V), y = .str z ∧ PySem.W.nsIn K p z = some r ∧ RelV v (r.getD .none) ∧ Q v H2
theorem pe_kget (ho : PE X o td) (he : PE X e ty) (m : M1 X o "get" apos e cpos) : PE X (.Call (.Attribute o "get" apos) [e] [] cpos) (tKGet X.K X.w td ty) := by
  refine ⟨fun pins s σ H Q I h => ?_⟩
  refine wpAny_Call_method m.base m.few m.line PySem.F.plainAttrs_dict PySem.F.slot_dict_get PySem.F.type_dict_get (thn (ho.run pins s σ H _ I h) fun u s1 ⟨x, H1, I1, rx, p, es, n, ex, D, q1⟩ => ?_)
  subst ex
  obtain rfl : u = Value.ref p := rx
  refine ⟨kd_type D I1, fun b eb => by cases eb; exact ⟨_, I1.kIn _ _ D.at_, rfl⟩, ?_⟩
  rw [m.trees]
  refine Calls.callWith_builtin rfl (Calls.evalArgs_plain (Calls.spliced_cons (thn (he.run pins s1 σ H1 _ I1 q1) fun iv s2 ⟨y, H2, I2, ry, z, r, v, ey, en, rv, q2⟩ => Calls.spliced_nil ?_)))
  subst ey
  obtain ⟨t, rfl⟩ := ry
  refine call_meetsIn PySem.F.slot_dict_get (kd_type D I2) PySem.F.entry_dict_get (PySem.F.args_dict_get_2 _ _) (meets_dict_get (PySem.strKind X.prog X.w) p (PySem.strKind_is X.prog X.w z t) D.low) ⟨_, PySem.W.mapOf_K (prog := X.prog) I2.kIn D.at_ D.lit, ?_⟩
  rw [PySem.W.find_K D.at_ en]
  exact ⟨v, H2, I2.tok _, rv, q2⟩
end
/-- what the module's dict x holds under twelve words -/
structure KTab (K : PySem.W.Frag) (w : World) (mg : Str → Option Value) (x : Str) (kvs : List (Str × V)) : Prop where
  g : mg x = some (.ref (He.ga K x))
  d : ∃ es n, KDict K w (He.ga K x) es n
  there : ∀ k v, (k, v) ∈ kvs → ∃ u, PySem.W.nsIn K (He.ga K x) k = some (some u) ∧ RelV v u
def words12 : List Str := ["rel", "eq", "less", "not", "and", "or", "some", "all", "lfp", "pfp", "tc", "guess"]
def Miss (K : PySem.W.Frag) (x : Str) (ks : List Str) : Prop := ∀ k, k ∈ ks → PySem.W.nsIn K (He.ga K x) k = some none
theorem KTab.dct {K : PySem.W.Frag} {w : World} {mg : Str → Option Value} {x : Str} {kvs : List (Str × V)} (t : KTab K w mg x kvs) {k : Str} {v : V} (h : (k, v) ∈ kvs) : KDct K w (He.ga K x) k v := by
  obtain ⟨es, n, D⟩ := t.d
  obtain ⟨u, h1, h2⟩ := t.there k v h
  exact ⟨es, n, u, D.at_, D.lit, h1, h2⟩
/-! ### the tables of heads -/
def Kd.bodyAt : Kd → Option Nat
  | .no => some 1
  | .ex => some 2
  | .al => some 2
  | .lfp => some 3
  | .pfp => some 3
  | .tc => some 2
  | .gs => some 3
  | _ => none
def Kd.ownAt : Kd → Option Nat
  | .ex => some 1
  | .al => some 1
  | .lfp => some 2
  | .pfp => some 2
  | .tc => some 1
  | _ => none
def Kd.argsAt : Kd → Option Nat
  | .rel => some 2
  | .lfp => some 4
  | .pfp => some 4
  | .tc => some 3
  | _ => none
def Kd.many : Kd → Nat
  | .rel => 3
  | .eq => 3
  | .less => 3
  | .no => 2
  | .con => 2
  | .dis => 2
  | .ex => 3
  | .al => 3
  | .lfp => 5
  | .pfp => 5
  | .tc => 4
  | .gs => 4
def bodyTab : List (Str × V) := [("not", .int 1), ("some", .int 2), ("all", .int 2), ("lfp", .int 3), ("pfp", .int 3), ("tc", .int 2), ("guess", .int 3)]
def ownTab : List (Str × V) := [("some", .int 1), ("all", .int 1), ("lfp", .int 2), ("pfp", .int 2), ("tc", .int 1)]
def argsTab : List (Str × V) := [("rel", .int 2), ("lfp", .int 4), ("pfp", .int 4), ("tc", .int 3)]
def lenTab : List (Str × V) := [("rel", .int 3), ("eq", .int 3), ("less", .int 3), ("not", .int 2), ("and", .int 2), ("or", .int 2), ("some", .int 3), ("all", .int 3), ("lfp", .int 5), ("pfp", .int 5), ("tc", .int 4), ("guess", .int 4)]
def Kd.test : Kd → Str
  | .rel => "_is_rel"
  | .eq => "_is_comparison"
  | .less => "_is_comparison"
  | .no => "_is_negation"
  | .con => "_is_joined"
  | .dis => "_is_joined"
  | .ex => "_is_quantified"
  | .al => "_is_quantified"
  | .lfp => "_is_fixed_point"
  | .pfp => "_is_fixed_point"
  | .tc => "_is_closure"
  | .gs => "_is_guess"
def testTab (K : PySem.W.Frag) : List (Str × V) := [("rel", .ref (He.ga K "_is_rel")), ("eq", .ref (He.ga K "_is_comparison")), ("less", .ref (He.ga K "_is_comparison")), ("not", .ref (He.ga K "_is_negation")), ("and", .ref (He.ga K "_is_joined")), ("or", .ref (He.ga K "_is_joined")),
  ("some", .ref (He.ga K "_is_quantified")), ("all", .ref (He.ga K "_is_quantified")), ("lfp", .ref (He.ga K "_is_fixed_point")), ("pfp", .ref (He.ga K "_is_fixed_point")), ("tc", .ref (He.ga K "_is_closure")), ("guess", .ref (He.ga K "_is_guess"))]
/-- the constants of shapes -/
structure Shp (K : PySem.W.Frag) (w : World) (mg : Str → Option Value) : Prop where
  joined : ∃ t, mg "MOST_JOINED" = some (.int 40 t)
  guess : ∃ t, mg "LARGEST_GUESS" = some (.int 3 t)
  relG : mg "REL_COUNTS" = some (.ref (He.ga K "REL_COUNTS"))
  relC : ∀ H : Hp, SqT K H (He.ga K "REL_COUNTS") (([0, 1, 2, 3, 4, 5, 6] : List Int).map V.int)
  ownG : mg "OWN_COUNTS" = some (.ref (He.ga K "OWN_COUNTS"))
  ownC : ∀ H : Hp, SqT K H (He.ga K "OWN_COUNTS") (([1, 2, 3, 4, 5, 6] : List Int).map V.int)
  tcG : mg "TC_COUNTS" = some (.ref (He.ga K "TC_COUNTS"))
  tcC : ∀ H : Hp, SqT K H (He.ga K "TC_COUNTS") (([2, 4, 6, 8] : List Int).map V.int)
  lens : KTab K w mg "LENGTHS" lenTab
  body : KTab K w mg "BODY_AT" bodyTab
  own : KTab K w mg "OWN_AT" ownTab
  args : KTab K w mg "ARGUMENTS_AT" argsTab
  tests : KTab K w mg "TESTS" (testTab K)
  bodyM : Miss K "BODY_AT" ["rel", "eq", "less", "and", "or"]
  ownM : Miss K "OWN_AT" ["rel", "eq", "less", "not", "and", "or", "guess"]
  argsM : Miss K "ARGUMENTS_AT" ["eq", "less", "not", "and", "or", "some", "all", "guess"]
/-! ### the promises -/
/-- the number of formulas in it is right -/
def Hd.fits (h : Hd) (n : Nat) : Prop := ∀ k, h.one = some k → n = k
theorem Hd.Ok.fits {h : Hd} {n : Nat} (k : h.Ok n) : h.fits n := by
  intro m e
  cases h <;> first | (cases e; exact k.2.2) | (cases e; exact k.2.2.2) | (cases e; exact k) | (cases e; exact k.2) | (cases e; exact k.2.2.2.2) | (cases e; exact k.2.2.2.2.2) | cases e
/-- a function of a formula's head and parts that changes nothing -/
def spHd (K : PySem.W.Frag) (R : Hd → List PyData → V → Hp → Prop) : Sp := fun vs H Q _ => ∃ (v : V) (h : Hd) (ds : List PyData), vs = [v] ∧ Dp K H v (h.data ds) ∧ h.fits ds.length ∧ ∀ (H' : Hp) (r : V), Same H H' → R h ds r H' → Q r H'
abbrev spInner (K : PySem.W.Frag) : Sp := spHd K fun _ ds r H' => Dp K H' r (.tuple ds)
abbrev spOwn (K : PySem.W.Frag) : Sp := spHd K fun h _ r H' => Dp K H' r (tS h.own)
abbrev spArgs (K : PySem.W.Frag) : Sp := spHd K fun h _ r H' => Dp K H' r (tS h.args)
abbrev spBName (K : PySem.W.Frag) : Sp := spHd K fun h _ r _ => r = match h.bound with | some (n, _) => V.str n | none => .non
abbrev spBArity (K : PySem.W.Frag) : Sp := fun vs H Q _ => ∃ (v : V) (h : Hd) (ds : List PyData) (n : Str) (k : Nat), vs = [v] ∧ Dp K H v (h.data ds) ∧ h.bound = some (n, k) ∧ ∀ (H' : Hp), Same H H' → Q (.int k) H'
theorem body_mem : ∀ (k : Kd) (i : Nat), k.bodyAt = some i → (k.word, V.int (i : Nat)) ∈ bodyTab := by
  intro k i e
  cases k <;> first | (cases e; decide +kernel) | cases e
theorem body_mis : ∀ k : Kd, k.bodyAt = none → k.word ∈ (["rel", "eq", "less", "and", "or"] : List Str) := by
  intro k e
  cases k <;> first | decide +kernel | cases e
theorem own_mem : ∀ (k : Kd) (i : Nat), k.ownAt = some i → (k.word, V.int (i : Nat)) ∈ ownTab := by
  intro k i e
  cases k <;> first | (cases e; decide +kernel) | cases e
theorem own_mis : ∀ k : Kd, k.ownAt = none → k.word ∈ (["rel", "eq", "less", "not", "and", "or", "guess"] : List Str) := by
  intro k e
  cases k <;> first | decide +kernel | cases e
theorem args_mem : ∀ (k : Kd) (i : Nat), k.argsAt = some i → (k.word, V.int (i : Nat)) ∈ argsTab := by
  intro k i e
  cases k <;> first | (cases e; decide +kernel) | cases e
theorem args_mis : ∀ k : Kd, k.argsAt = none → k.word ∈ (["eq", "less", "not", "and", "or", "some", "all", "guess"] : List Str) := by
  intro k e
  cases k <;> first | decide +kernel | cases e
theorem len_mem : ∀ (k : Kd), (k.word, V.int (k.many : Nat)) ∈ lenTab := by
  intro k
  cases k <;> decide +kernel
theorem kd_isJ : ∀ k : Kd, inV (.str k.word) [.str "and", .str "or"] = true → k = .con ∨ k = .dis := by
  intro k; cases k <;> decide +kernel
theorem kd_isJ' : ∀ k : Kd, inV (.str k.word) [.str "and", .str "or"] = false → k ≠ .con ∧ k ≠ .dis := by
  intro k; cases k <;> decide +kernel
theorem kd_isE : ∀ k : Kd, inV (.str k.word) [.str "eq", .str "less"] = true → k = .eq ∨ k = .less := by
  intro k; cases k <;> decide +kernel
theorem kd_isE' : ∀ k : Kd, inV (.str k.word) [.str "eq", .str "less"] = false → k ≠ .eq ∧ k ≠ .less := by
  intro k; cases k <;> decide +kernel
theorem isJ (h : Hd) (z : inV (.str h.word) [.str "and", .str "or"] = true) : h = .con ∨ h = .dis := by
  rcases kd_isJ _ z with e | e <;> cases h <;> first | exact Or.inl rfl | exact Or.inr rfl | cases e
theorem isJ' (h : Hd) (z : inV (.str h.word) [.str "and", .str "or"] = false) : h ≠ .con ∧ h ≠ .dis := by
  have := kd_isJ' _ z
  exact ⟨fun e => this.1 (by rw [e]; rfl), fun e => this.2 (by rw [e]; rfl)⟩
theorem isE (h : Hd) (z : inV (.str h.word) [.str "eq", .str "less"] = true) : ∃ x y, (h = .eq x y ∨ h = .less x y) := by
  rcases kd_isE _ z with e | e <;> cases h <;> first | exact ⟨_, _, Or.inl rfl⟩ | exact ⟨_, _, Or.inr rfl⟩ | cases e
theorem isE' (h : Hd) (z : inV (.str h.word) [.str "eq", .str "less"] = false) : ∀ x y, h ≠ .eq x y ∧ h ≠ .less x y := by
  have := kd_isE' _ z
  exact fun x y => ⟨fun e => this.1 (by rw [e]; rfl), fun e => this.2 (by rw [e]; rfl)⟩
section
variable {P : Program} {w : World} {K : PySem.W.Frag} {mg : Str → Option Value} {base : Heap}
theorem at0 {v : V} {xs : List V} : (v :: xs)[0]? = some v := rfl
theorem atS {v d : V} {xs : List V} {i : Nat} (h : xs[i]? = some d) : (v :: xs)[i + 1]? = some d := h
theorem sc_inner : FnScope ["formula"] ["formula"] (defScope (top 49)) := ⟨rfl, rfl, rfl, by decide +kernel, rfl, by decide +kernel, by decide +kernel⟩
theorem has_inner (D : Def K mg "inner" ["formula"] (top 49)) (T : Txt mg) (S : Shp K w mg) : Has P w K mg base 1 "inner" ["formula"] (spInner K) := D.has fun f fd F => by
  have c_BODY_AT := S.body.g
  obtain ⟨es, n, D_BODY_AT⟩ := S.body.d
  refine F.ok sc_inner (fun vs H Q E h => ?_) (fun cdv A outer s H vs Q E hr h => ?_)
  · obtain ⟨v, h, ds, rfl, _⟩ := h; rfl
  · obtain ⟨v, h, ds, rfl, dp, fit, q⟩ := h
    refine ⟨_, PSs.nox (pss_cons (ps_if (pt_cmpR op_in_seq (pe_ix ix_tup (pv 0) pe_int (fun _ _ => rfl)) (pe_tup (pa_cons pe_str (pa_cons pe_str pa_nil))) (by rfl)) (pss_one (ps_ret (pe_ix ix_tup (pv 0) pe_int (fun _ _ => rfl)))) pss_nil) (pss_cons (ps_if (pt_cmpR (op_in_kd D_BODY_AT) (pe_ix ix_tup (pv 0) pe_int (fun _ _ => rfl)) (pe_glob (v := .ref (He.ga K "BODY_AT")) (by rfl) c_BODY_AT rfl) (by rfl)) (pss_one (ps_ret (pe_tup (pa_cons (pe_ix ix_tup (pv 0) (pe_ix ix_kdict (pe_glob (v := .ref (He.ga K "BODY_AT")) (by rfl) c_BODY_AT rfl) (pe_ix ix_tup (pv 0) pe_int (fun _ _ => rfl)) (fun _ _ => rfl)) (fun _ _ => rfl)) pa_nil)))) pss_nil) (pss_one (ps_ret (pe_tup pa_nil))))), ?_⟩
    obtain ⟨a, xs, rfl, hT, hx⟩ := hd_inv dp
    refine ⟨_, rfl, a, _, _, _, rfl, rfl, hT, atI_nat (j := 0) rfl, (by show 2 ≤ sizeLine; decide), fun p np => ⟨p, _, rfl, .inr (SqT.of upd_same), rfl, rfl, _, rfl, ?_⟩⟩
    have sp : Same H (upd H p (.tup [.str "and", .str "or"])) := same_upd np
    have hT1 := Same.sqt sp hT
    have dp1 : DpAll K (upd H p (.tup [.str "and", .str "or"])) xs (h.rest ds) := DpAll.same sp hx
    by_cases j : inV (.str h.word) [.str "and", .str "or"] = true
    · refine cT j ?_
      have e : h.rest ds = [.tuple ds] := by rcases isJ h j with e | e <;> rw [e] <;> rfl
      rw [e] at dp1
      obtain ⟨v1, ws, rfl, h1, _⟩ := DpAll.cons_inv dp1
      exact ⟨_, rfl, a, _, _, _, rfl, rfl, hT1, atI_nat (j := 1) rfl, q _ _ sp h1⟩
    · have j' : inV (.str h.word) [.str "and", .str "or"] = false := by simpa using j
      refine cF j' ?_
      have nj := isJ' h j'
      refine ⟨_, rfl, a, _, _, _, rfl, rfl, hT1, atI_nat (j := 0) rfl, ?_⟩
      cases hb : h.kd.bodyAt with
      | some i =>
        have mem := body_mem _ _ hb
        obtain ⟨u, n1, ru⟩ := S.body.there _ _ mem
        refine ⟨_, _, rfl, rfl, n1, _, rfl, cT (k := (some u).isSome) rfl ?_⟩
        have one : ∃ d v2, ds = [d] ∧ (V.str h.word :: xs)[i]? = some v2 ∧ Dp K (upd H p (.tup [.str "and", .str "or"])) v2 d := by
          have l1 : ds.length = 1 := fit 1 (by cases h <;> first | cases hb; rfl | cases hb)
          obtain ⟨d, rfl⟩ := List.length_eq_one_iff.mp l1
          have g : (PyData.str h.word :: h.rest [d])[i]? = some d := by cases h <;> first | cases hb; rfl | cases hb
          obtain ⟨v2, g2, g3⟩ := DpAll.get (DpAll.cons (.str h.word) dp1) g
          exact ⟨d, v2, rfl, g2, g3⟩
        obtain ⟨d, v2, rfl, g2, g3⟩ := one
        refine ⟨_, rfl, _, rfl, a, _, _, _, rfl, rfl, hT1, atI_nat (j := 0) rfl, _, _, _, rfl, rfl, S.body.dct mem, a, _, _, _, rfl, rfl, hT1, atI_nat g2, (by show 1 ≤ sizeLine; decide), fun p2 np2 => ?_⟩
        exact q _ _ (sp.trans (same_upd np2)) (.tup (SqT.of upd_same) (.cons (Dp.same (same_upd np2) g3) .nil))
      | none =>
        have mem := body_mis _ hb
        refine ⟨_, _, rfl, rfl, S.bodyM _ mem, _, rfl, cF (k := (none : Option Value).isSome) rfl ?_⟩
        have e0 : ds = [] := by
          have l0 : ds.length = 0 := fit 0 (by cases h <;> first | rfl | exact absurd rfl nj.1 | exact absurd rfl nj.2 | cases hb)
          exact List.eq_nil_of_length_eq_zero l0
        subst e0
        refine ⟨(by show 0 ≤ sizeLine; decide), fun p2 np2 => ?_⟩
        exact q _ _ (sp.trans (same_upd np2)) (.tup (SqT.of upd_same) .nil)
theorem sc_own : FnScope ["formula"] ["formula"] (defScope (top 52)) := ⟨rfl, rfl, rfl, by decide +kernel, rfl, by decide +kernel, by decide +kernel⟩
theorem has_own (D : Def K mg "own" ["formula"] (top 52)) (T : Txt mg) (S : Shp K w mg) : Has P w K mg base 1 "own" ["formula"] (spOwn K) := D.has fun f fd F => by
  have c_OWN_AT := S.own.g
  obtain ⟨es, n, D_OWN_AT⟩ := S.own.d
  refine F.ok sc_own (fun vs H Q E h => ?_) (fun cdv A outer s H vs Q E hr h => ?_)
  · obtain ⟨v, h, ds, rfl, _⟩ := h; rfl
  · obtain ⟨v, h, ds, rfl, dp, fit, q⟩ := h
    refine ⟨_, PSs.nox (pss_cons (ps_if (pt_cmpR (op_in_kd D_OWN_AT) (pe_ix ix_tup (pv 0) pe_int (fun _ _ => rfl)) (pe_glob (v := .ref (He.ga K "OWN_AT")) (by rfl) c_OWN_AT rfl) (by rfl)) (pss_one (ps_ret (pe_ix ix_tup (pv 0) (pe_ix ix_kdict (pe_glob (v := .ref (He.ga K "OWN_AT")) (by rfl) c_OWN_AT rfl) (pe_ix ix_tup (pv 0) pe_int (fun _ _ => rfl)) (fun _ _ => rfl)) (fun _ _ => rfl)))) pss_nil) (pss_one (ps_ret (pe_tup pa_nil)))), ?_⟩
    obtain ⟨a, xs, rfl, hT, hx⟩ := hd_inv dp
    refine ⟨_, rfl, a, _, _, _, rfl, rfl, hT, atI_nat (j := 0) rfl, ?_⟩
    cases hb : h.kd.ownAt with
    | some i =>
      have mem := own_mem _ _ hb
      obtain ⟨u, n1, ru⟩ := S.own.there _ _ mem
      refine ⟨_, _, rfl, rfl, n1, _, rfl, cT (k := (some u).isSome) rfl ?_⟩
      have g : (PyData.str h.word :: h.rest ds)[i]? = some (tS h.own) := by cases h <;> first | cases hb; rfl | cases hb
      obtain ⟨v2, g2, g3⟩ := DpAll.get (DpAll.cons (.str h.word) hx) g
      refine ⟨_, rfl, _, rfl, a, _, _, _, rfl, rfl, hT, atI_nat (j := 0) rfl, _, _, _, rfl, rfl, S.own.dct mem, a, _, _, _, rfl, rfl, hT, atI_nat g2, ?_⟩
      exact q _ _ (.refl _) g3
    | none =>
      have mem := own_mis _ hb
      refine ⟨_, _, rfl, rfl, S.ownM _ mem, _, rfl, cF (k := (none : Option Value).isSome) rfl ?_⟩
      have e0 : h.own = [] := by cases h <;> first | rfl | cases hb
      refine ⟨(by show 0 ≤ sizeLine; decide), fun p2 np2 => ?_⟩
      exact q _ _ (same_upd np2) (by show Dp K _ _ (tS h.own); rw [e0]; exact .tup (SqT.of upd_same) .nil)
theorem sc_arguments : FnScope ["formula"] ["formula"] (defScope (top 54)) := ⟨rfl, rfl, rfl, by decide +kernel, rfl, by decide +kernel, by decide +kernel⟩
theorem has_arguments (D : Def K mg "arguments" ["formula"] (top 54)) (T : Txt mg) (S : Shp K w mg) : Has P w K mg base 1 "arguments" ["formula"] (spArgs K) := D.has fun f fd F => by
  have c_ARGUMENTS_AT := S.args.g
  obtain ⟨es, n, D_ARGUMENTS_AT⟩ := S.args.d
  refine F.ok sc_arguments (fun vs H Q E h => ?_) (fun cdv A outer s H vs Q E hr h => ?_)
  · obtain ⟨v, h, ds, rfl, _⟩ := h; rfl
  · obtain ⟨v, h, ds, rfl, dp, fit, q⟩ := h
    refine ⟨_, PSs.nox (pss_cons (ps_if (pt_cmpR op_in_seq (pe_ix ix_tup (pv 0) pe_int (fun _ _ => rfl)) (pe_tup (pa_cons pe_str (pa_cons pe_str pa_nil))) (by rfl)) (pss_one (ps_ret (pe_slice sl_tup (pv 0) (po_some pe_int) po_none))) pss_nil) (pss_cons (ps_if (pt_cmpR (op_in_kd D_ARGUMENTS_AT) (pe_ix ix_tup (pv 0) pe_int (fun _ _ => rfl)) (pe_glob (v := .ref (He.ga K "ARGUMENTS_AT")) (by rfl) c_ARGUMENTS_AT rfl) (by rfl)) (pss_one (ps_ret (pe_ix ix_tup (pv 0) (pe_ix ix_kdict (pe_glob (v := .ref (He.ga K "ARGUMENTS_AT")) (by rfl) c_ARGUMENTS_AT rfl) (pe_ix ix_tup (pv 0) pe_int (fun _ _ => rfl)) (fun _ _ => rfl)) (fun _ _ => rfl)))) pss_nil) (pss_one (ps_ret (pe_tup pa_nil))))), ?_⟩
    obtain ⟨a, xs, rfl, hT, hx⟩ := hd_inv dp
    refine ⟨_, rfl, a, _, _, _, rfl, rfl, hT, atI_nat (j := 0) rfl, (by show 2 ≤ sizeLine; decide), fun p np => ⟨p, _, rfl, .inr (SqT.of upd_same), rfl, rfl, _, rfl, ?_⟩⟩
    have sp : Same H (upd H p (.tup [.str "eq", .str "less"])) := same_upd np
    have hT1 := Same.sqt sp hT
    have dp1 : DpAll K (upd H p (.tup [.str "eq", .str "less"])) xs (h.rest ds) := DpAll.same sp hx
    by_cases j : inV (.str h.word) [.str "eq", .str "less"] = true
    · refine cT j ?_
      obtain ⟨x, y, e⟩ := isE h j
      have e2 : xs = [.str x, .str y] := by
        rcases e with e | e <;> subst e <;> exact DpAll.strs (as := [x, y]) dp1
      have e3 : h.args = [x, y] := by rcases e with e | e <;> rw [e] <;> rfl
      subst e2
      refine ⟨_, rfl, 1, rfl, a, _, rfl, hT1, fun z => absurd z.1 (by show ¬ (HT.sIx 3 0 (some 1) = 0); decide), fun p2 np2 => ?_⟩
      refine q _ _ (sp.trans (same_upd np2)) ?_
      show Dp K _ _ (tS h.args)
      rw [e3]
      exact tS_of (SqT.of upd_same)
    · have j' : inV (.str h.word) [.str "eq", .str "less"] = false := by simpa using j
      refine cF j' ?_
      have nj := isE' h j'
      refine ⟨_, rfl, a, _, _, _, rfl, rfl, hT1, atI_nat (j := 0) rfl, ?_⟩
      cases hb : h.kd.argsAt with
      | some i =>
        have mem := args_mem _ _ hb
        obtain ⟨u, n1, ru⟩ := S.args.there _ _ mem
        refine ⟨_, _, rfl, rfl, n1, _, rfl, cT (k := (some u).isSome) rfl ?_⟩
        have g : (PyData.str h.word :: h.rest ds)[i]? = some (tS h.args) := by
          cases h with
          | lfp m us bs => cases hb; obtain ⟨d, rfl⟩ := List.length_eq_one_iff.mp (fit 1 rfl); rfl
          | pfp m us bs => cases hb; obtain ⟨d, rfl⟩ := List.length_eq_one_iff.mp (fit 1 rfl); rfl
          | tc us bs => cases hb; obtain ⟨d, rfl⟩ := List.length_eq_one_iff.mp (fit 1 rfl); rfl
          | rel m bs => cases hb; rfl
          | _ => cases hb
        obtain ⟨v2, g2, g3⟩ := DpAll.get (DpAll.cons (.str h.word) dp1) g
        refine ⟨_, rfl, _, rfl, a, _, _, _, rfl, rfl, hT1, atI_nat (j := 0) rfl, _, _, _, rfl, rfl, S.args.dct mem, a, _, _, _, rfl, rfl, hT1, atI_nat g2, ?_⟩
        exact q _ _ sp g3
      | none =>
        have mem := args_mis _ hb
        refine ⟨_, _, rfl, rfl, S.argsM _ mem, _, rfl, cF (k := (none : Option Value).isSome) rfl ?_⟩
        have e0 : h.args = [] := by cases h <;> first | rfl | exact absurd rfl (nj _ _).1 | exact absurd rfl (nj _ _).2 | cases hb
        refine ⟨(by show 0 ≤ sizeLine; decide), fun p2 np2 => ?_⟩
        exact q _ _ (sp.trans (same_upd np2)) (by show Dp K _ _ (tS h.args); rw [e0]; exact .tup (SqT.of upd_same) .nil)
end
section
variable {P : Program} {w : World} {K : PySem.W.Frag} {mg : Str → Option Value} {base : Heap}
theorem kd_isB : ∀ k : Kd, inV (.str k.word) [.str "lfp", .str "pfp", .str "guess"] = true → k = .lfp ∨ k = .pfp ∨ k = .gs := by
  intro k; cases k <;> decide +kernel
theorem kd_isB' : ∀ k : Kd, inV (.str k.word) [.str "lfp", .str "pfp", .str "guess"] = false → k ≠ .lfp ∧ k ≠ .pfp ∧ k ≠ .gs := by
  intro k; cases k <;> decide +kernel
theorem rest_bound {h : Hd} {ds : List PyData} {n : Str} {k : Nat} (b : h.bound = some (n, k)) : (h.rest ds)[0]? = some (.str n) := by
  cases h <;> first | (cases b; rfl) | cases b
theorem bound_kd {h : Hd} (z : h.kd = .lfp ∨ h.kd = .pfp ∨ h.kd = .gs) : ∃ n k, h.bound = some (n, k) := by
  rcases z with e | e | e <;> cases h <;> first | exact ⟨_, _, rfl⟩ | cases e
theorem bound_kd' {h : Hd} (z : h.kd ≠ .lfp ∧ h.kd ≠ .pfp ∧ h.kd ≠ .gs) : h.bound = none := by
  cases h <;> first | rfl | exact absurd rfl z.1 | exact absurd rfl z.2.1 | exact absurd rfl z.2.2
theorem sc_bound_name : FnScope ["formula"] ["formula"] (defScope (top 56)) := ⟨rfl, rfl, rfl, by decide +kernel, rfl, by decide +kernel, by decide +kernel⟩
theorem has_bound_name (D : Def K mg "bound_name" ["formula"] (top 56)) : Has P w K mg base 1 "bound_name" ["formula"] (spBName K) := D.has fun f fd F => by
  refine F.ok sc_bound_name (fun vs H Q E h => ?_) (fun cdv A outer s H vs Q E hr h => ?_)
  · obtain ⟨v, h, ds, rfl, _⟩ := h; rfl
  · obtain ⟨v, h, ds, rfl, dp, fit, q⟩ := h
    refine ⟨_, PSs.nox (pss_cons (ps_if (pt_cmpR op_in_seq (pe_ix ix_tup (pv 0) pe_int (fun _ _ => rfl)) (pe_tup (pa_cons pe_str (pa_cons pe_str (pa_cons pe_str pa_nil)))) (by rfl)) (pss_one (ps_ret (pe_ix ix_tup (pv 0) pe_int (fun _ _ => rfl)))) pss_nil) (pss_one (ps_ret pe_non))), ?_⟩
    obtain ⟨a, xs, rfl, hT, hx⟩ := hd_inv dp
    refine ⟨_, rfl, a, _, _, _, rfl, rfl, hT, atI_nat (j := 0) rfl, (by show 3 ≤ sizeLine; decide), fun p np => ⟨p, _, rfl, .inr (SqT.of upd_same), rfl, rfl, _, rfl, ?_⟩⟩
    have sp : Same H (upd H p (.tup [.str "lfp", .str "pfp", .str "guess"])) := same_upd np
    by_cases j : inV (.str h.word) [.str "lfp", .str "pfp", .str "guess"] = true
    · refine cT j ?_
      obtain ⟨n, k, b⟩ := bound_kd (kd_isB _ j)
      obtain ⟨v2, g2, g3⟩ := DpAll.get hx (rest_bound b)
      refine ⟨_, rfl, a, _, _, _, rfl, rfl, Same.sqt sp hT, atI_nat (j := 1) (atS g2), ?_⟩
      refine q _ _ sp ?_
      show v2 = match h.bound with | some (n, _) => V.str n | none => .non
      rw [b]
      exact Dp.str_inv g3
    · have j' : inV (.str h.word) [.str "lfp", .str "pfp", .str "guess"] = false := by simpa using j
      refine cF j' ?_
      refine q _ _ sp ?_
      show V.non = match h.bound with | some (n, _) => V.str n | none => .non
      rw [bound_kd' (kd_isB' _ j')]
theorem kd_gs : ∀ k : Kd, decide (V.str k.word = V.str "guess") = true → k = .gs := by
  intro k; cases k <;> decide +kernel
theorem sc_bound_arity : FnScope ["formula"] ["formula"] (defScope (top 57)) := ⟨rfl, rfl, rfl, by decide +kernel, rfl, by decide +kernel, by decide +kernel⟩
theorem has_bound_arity (D : Def K mg "bound_arity" ["formula"] (top 57)) (T : Txt mg) : Has P w K mg base 1 "bound_arity" ["formula"] (spBArity K) := D.has fun f fd F => by
  refine F.ok sc_bound_arity (fun vs H Q E h => ?_) (fun cdv A outer s H vs Q E hr h => ?_)
  · obtain ⟨v, h, ds, n, k, rfl, _⟩ := h; rfl
  · obtain ⟨v, h, ds, n, k, rfl, dp, b, q⟩ := h
    refine ⟨_, PSs.nox (pss_cons (ps_if (pt_cmpR op_eq (pe_ix ix_tup (pv 0) pe_int (fun _ _ => rfl)) pe_str (nomark _)) (pss_one (ps_ret (pe_ix ix_tup (pv 0) pe_int (fun _ _ => rfl)))) pss_nil) (pss_one (ps_ret (pe_callB call_len_seq (by rfl) T.n_len PySem.boot_len (pa_cons (pe_ix ix_tup (pv 0) pe_int (fun _ _ => rfl)) pa_nil))))), ?_⟩
    obtain ⟨a, xs, rfl, hT, hx⟩ := hd_inv dp
    refine ⟨_, rfl, a, _, _, _, rfl, rfl, hT, atI_nat (j := 0) rfl, rfl, _, rfl, ite2 (fun e => ?_) (fun e => ?_)⟩
    · have ek := kd_gs _ e
      have g : (h.rest ds)[1]? = some (.int k) := by cases h <;> first | (cases b; rfl) | cases ek
      obtain ⟨v2, g2, g3⟩ := DpAll.get hx g
      rw [Dp.int_inv g3] at g2
      exact ⟨_, rfl, a, _, _, _, rfl, rfl, hT, atI_nat (j := 2) (atS g2), q _ (.refl _)⟩
    · have g : ∃ us : List Str, (h.rest ds)[1]? = some (tS us) ∧ us.length = k := by
        cases h <;> first | (cases b; exact ⟨_, rfl, rfl⟩) | (cases b; exact absurd rfl e) | cases b
      obtain ⟨us, g, rfl⟩ := g
      obtain ⟨v2, g2, g3⟩ := DpAll.get hx g
      obtain ⟨t, rfl, ht⟩ := tS_inv g3
      refine ⟨_, rfl, a, _, _, _, rfl, rfl, hT, atI_nat (j := 2) (atS g2), t, _, rfl, .inr ht, ?_⟩
      have := q _ (.refl H)
      rw [List.length_map]
      exact this
/-- are these variables, as many as one of the counts -/
noncomputable def allNm (as : List Str) : Bool := as.all isNm
def spAreVars (K : PySem.W.Frag) : Sp := fun vs H Q _ => ∃ (v : V) (as : List Str) (c : Addr) (ns : List Int), vs = [v, .ref c] ∧ Dp K H v (tS as) ∧ SqT K H c (ns.map V.int) ∧ (∀ z, z ∈ as → z.length ≤ sizeLine) ∧ as.length ≤ 1000 ∧
  ∀ (H' : Hp), Same H H' → Q (.bl (decide ((as.length : Int) ∈ ns) && allNm as)) H'
theorem inV_int {i : Int} : ∀ {ns : List Int}, inV (.int i) (ns.map V.int) = decide (i ∈ ns)
  | [] => by simp [inV]
  | n :: ns => by
    have ih := inV_int (i := i) (ns := ns)
    unfold inV at ih ⊢
    rw [List.map_cons, List.any_cons, ih]
    show ((n == i) || _) = _
    by_cases e : n = i
    · subst e; simp
    · have e2 : i ≠ n := fun z => e z.symm
      simp [e, e2]
theorem flat_ints : ∀ (ns : List Int), (ns.map V.int).all flatV = true
  | [] => rfl
  | n :: ns => by rw [List.map_cons, List.all_cons, flat_ints ns]; rfl
theorem flat_strs : ∀ (ns : List Str), (ns.map V.str).all flatV = true
  | [] => rfl
  | n :: ns => by rw [List.map_cons, List.all_cons, flat_strs ns]; rfl
theorem ty_tup {H : Hp} {a : Addr} {xs : List V} (h : SqT K H a xs) : TyX K H (.ref a) (.type "tuple") := by
  rcases h with (h | ⟨o, h⟩) | ⟨o, its, n, h, c, _⟩
  · exact .base (.tup h)
  · exact .fTuple h
  · exact .kTuple h c
theorem get_str {ns : List Str} {i : Nat} {y : V} (h : (ns.map V.str)[i]? = some y) : ∃ z, ns[i]? = some z ∧ y = .str z := by
  rw [List.getElem?_map] at h
  cases e : ns[i]? with
  | none => rw [e] at h; cases h
  | some z => rw [e] at h; exact ⟨z, rfl, (Option.some.inj h).symm⟩
theorem sc_are_variables : FnScope ["value", "counts", "variable"] ["value", "counts"] (defScope (top 37)) := ⟨rfl, rfl, rfl, by decide +kernel, rfl, by decide +kernel, by decide +kernel⟩
theorem has_are_variables (D : Def K mg "_are_variables" ["value", "counts"] (top 37)) (T : Txt mg) (C1 : Has P w K mg base 1 "is_name" ["text"] (spIsName K)) : Has P w K mg base 2 "_are_variables" ["value", "counts"] (spAreVars K) := D.has fun f fd F => by
  obtain ⟨f1, fd1, G_is_name, g_is_name, k_is_name, b_is_name⟩ := C1
  refine F.ok sc_are_variables (fun vs H Q E h => ?_) (fun cdv A outer s H vs Q E hr h => ?_)
  · obtain ⟨v, as, c, ns, rfl, _⟩ := h; rfl
  · obtain ⟨v, as, c, ns, rfl, dp, hc, lz, few, q⟩ := h
    have R_is_name : Room 1 _ := hr.mono (by decide)
    refine ⟨_, PSs.nox (pss_cons (ps_if (PW.pt (pw_or (pt_not (pt_val (pe_callB call_isi (by rfl) T.n_isinstance (by decide +kernel) (pa_cons (pv 0) (pa_cons (pe_bltn (v := .ty "tuple") (by rfl) T.n_tuple (by decide +kernel) rfl) pa_nil))))) (pw_or1 (pt_cmpR op_notIn_seq (pe_callB call_len_seq (by rfl) T.n_len PySem.boot_len (pa_cons (pv 0) pa_nil)) (pv 1) (by rfl))))) (pss_one (ps_ret pe_bl)) pss_nil) (pss_one (ps_ret (pe_callB (cr_all rfl) (by rfl) T.n_all (by decide +kernel) (pa_cons (pe_lc (own := [("variable", 2)]) rfl sc_are_variables.nd (pi_tup (pv 0)) (blkOk_by (N := ["value", "counts", "variable"]) (sc := defScope (top 37)) (by decide +kernel)) (fun _ _ _ _ _ => (pg_name (i := 2) sc_are_variables.nd rfl (Or.inl rfl))) (fun _ _ _ _ _ => pts_nil) (fun _ _ _ _ _ => (pe_call G_is_name R_is_name (by rfl) g_is_name k_is_name b_is_name .nil pass0 (pa_cons (pv 2) pa_nil)))) pa_nil))))), ?_⟩
    obtain ⟨t, rfl, ht⟩ := tS_inv dp
    refine ⟨_, rfl, _, _, _, _, _, rfl, .ty _, ty_tup ht, kit_ty (b := "tuple") (r := true) (by decide +kernel), _, rfl, iteF ?_⟩
    refine ⟨_, rfl, t, _, rfl, .inr ht, _, rfl, c, _, rfl, .inr hc, rfl, flat_ints ns, _, rfl, ?_⟩
    have el : inV (.int ((as.map V.str).length : Nat)) (ns.map V.int) = decide ((as.length : Int) ∈ ns) := by rw [List.length_map]; exact inV_int
    cases hin : decide ((as.length : Int) ∈ ns) with
    | false =>
      rw [hin] at el
      refine cT (k := !inV (.int ((as.map V.str).length : Nat)) (ns.map V.int)) (by rw [el]; rfl) ?_
      have := q H (.refl H)
      rw [hin] at this
      exact this
    | true =>
      rw [hin] at el
      refine cF (k := !inV (.int ((as.map V.str).length : Nat)) (ns.map V.int)) (by rw [el]; rfl) ?_
      refine ⟨_, rfl, t, rfl, ⟨_, ht⟩, fun L nL => ?_⟩
      refine lc_it (walk_tup (K := K) (a := t) (xs := as.map V.str)) (fun i H2 => H2 L = some (.lst (((as.take i).map isNm).map V.bl)) ∧ Same H H2) ⟨upd_same, same_upd nL⟩ (fun i H2 _ ⟨_, s2⟩ => Same.sqt s2 ht) ?_ ?_
      · rintro i y H2 H3 hi ⟨hL, s2⟩ ⟨rfl, hy⟩
        obtain ⟨z, hz, rfl⟩ := get_str hy
        refine ⟨rfl, _, rfl, .inl ⟨z, rfl, lz z (List.mem_of_getElem? hz), _, hL, ?_, ?_, fun b o eb => ?_⟩⟩
        · rw [List.length_map, List.length_map]
          exact Nat.lt_of_le_of_lt (List.length_take_le' _ _) (small1000 few)
        · rw [upd_same, List.take_add_one, hz, List.map_append, List.map_append]
          rfl
        · rw [upd_ne (ne_of_none eb nL)]
          exact s2 _ _ eb
      · rintro H2 ⟨hL, s2⟩
        have et : as.take (as.map V.str).length = as := by rw [List.length_map]; exact List.take_length
        rw [et] at hL
        refine ⟨L, as.map isNm, rfl, SqL.of hL, ?_⟩
        have e2 : (as.map isNm).all id = allNm as := by rw [List.all_map]; rfl
        have := q H2 s2
        rw [hin] at this
        show Q (.bl ((as.map isNm).all id)) H2
        rw [e2]
        exact this
end
section
variable {P : Program} {w : World} {K : PySem.W.Frag} {mg : Str → Option Value} {base : Heap}
def spAreDiff (K : PySem.W.Frag) : Sp := fun vs H Q _ => ∃ (v : V) (as : List Str) (c : Addr) (ns : List Int), vs = [v, .ref c] ∧ Dp K H v (tS as) ∧ SqT K H c (ns.map V.int) ∧ (∀ z, z ∈ as → z.length ≤ sizeLine) ∧ as.length ≤ 1000 ∧
  ∀ (H' : Hp), Same H H' → Q (.bl ((decide ((as.length : Int) ∈ ns) && allNm as) && decide as.Nodup)) H'
theorem strs_kV (as : List Str) : (as.map (Sum.inr : Str → Key)).map kV = as.map V.str := by
  rw [List.map_map]; rfl
theorem nodup_inr {as : List Str} : (as.map (Sum.inr : Str → Key)).Nodup ↔ as.Nodup := by
  constructor
  · intro h
    exact List.Pairwise.of_map _ (fun a b hne e => hne (congrArg _ e)) h
  · intro h
    exact List.Pairwise.map _ (fun a b hne e => hne (Sum.inr.inj e)) h
theorem sc_are_different : FnScope ["value", "counts"] ["value", "counts"] (defScope (top 38)) := ⟨rfl, rfl, rfl, by decide +kernel, rfl, by decide +kernel, by decide +kernel⟩
theorem has_are_different (D : Def K mg "are_different" ["value", "counts"] (top 38)) (T : Txt mg) (C1 : Has P w K mg base 2 "_are_variables" ["value", "counts"] (spAreVars K)) : Has P w K mg base 3 "are_different" ["value", "counts"] (spAreDiff K) := D.has fun f fd F => by
  obtain ⟨f1, fd1, G_are_variables, g_are_variables, k_are_variables, b_are_variables⟩ := C1
  refine F.ok sc_are_different (fun vs H Q E h => ?_) (fun cdv A outer s H vs Q E hr h => ?_)
  · obtain ⟨v, as, c, ns, rfl, _⟩ := h; rfl
  · obtain ⟨v, as, c, ns, rfl, dp, hc, lz, few, q⟩ := h
    have R_are_variables : Room 2 _ := hr.mono (by decide)
    refine ⟨_, PSs.nox (pss_one (ps_ret (pe_and (pe_call G_are_variables R_are_variables (by rfl) g_are_variables k_are_variables b_are_variables .nil pass0 (pa_cons (pv 0) (pa_cons (pv 1) pa_nil))) (pe_one (pe_cmpR op_eq (pe_callB call_lenSK (by rfl) T.n_len PySem.boot_len (pa_cons (pe_callTy (cr_setK rfl) (by rfl) T.n_set (by decide +kernel) (pa_cons (pv 0) pa_nil)) pa_nil)) (pe_callB call_len_seq (by rfl) T.n_len PySem.boot_len (pa_cons (pv 0) pa_nil)) (nomark _)))))), ?_⟩
    refine ⟨_, rfl, _, rfl, v, as, c, ns, rfl, dp, hc, lz, few, fun H1 s1 => ⟨_, rfl, ?_⟩⟩
    cases hb : (decide ((as.length : Int) ∈ ns) && allNm as) with
    | false =>
      refine iteF ?_
      have := q H1 s1
      rw [hb] at this
      exact this
    | true =>
      refine iteT ?_
      obtain ⟨t, rfl, ht⟩ := tS_inv (Dp.same s1 dp)
      refine ⟨_, rfl, t, as.map Sum.inr, rfl, .inr (by rw [strs_kV]; exact ht), (by rw [List.length_map]; omega), fun p c2 np hc2 => ?_⟩
      have s2 := s1.trans (same_upd (o := SetK P w p (memK (as.map Sum.inr)) c2) np)
      refine ⟨p, _, _, rfl, upd_same, _, rfl, t, _, rfl, .inr (Same.sqt (same_upd np) ht), rfl, ?_⟩
      have := q _ s2
      rw [hb] at this
      have e : decide (V.int (c2 : Nat) = V.int ((as.map V.str).length : Nat)) = (true && decide as.Nodup) := by
        have z := hc2.all
        rw [nodup_inr, List.length_map] at z
        rw [List.length_map]
        by_cases hn : as.Nodup
        · rw [z.mpr hn, decide_eq_true hn]
          exact decide_eq_true rfl
        · rw [decide_eq_false hn]
          refine decide_eq_false fun h => hn (z.mp ?_)
          have h2 : (c2 : Int) = (as.length : Nat) := V.int.inj h
          omega
      show Q (.bl (decide (V.int (c2 : Nat) = V.int ((as.map V.str).length : Nat)))) _
      rw [e]
      exact this
/-- the promise of a test of heads -/
def spTest (K : PySem.W.Frag) (x : Str) : Sp := fun vs H Q _ => ∃ (v : V) (h : Hd) (ds : List PyData), vs = [v] ∧ Dp K H v (h.data ds) ∧ h.Ok ds.length ∧ h.kd.test = x ∧ ∀ (H' : Hp), Same H H' → Q (.bl true) H'
theorem Nm.short {z : Str} (n : Nm z) : z.length ≤ sizeLine := Nat.le_trans n.hi (by decide)
theorem names_all {as : List Str} (h : Names as) : allNm as = true := List.all_eq_true.mpr fun z hz => isNm_t (h z hz)
theorem names_short {as : List Str} (h : Names as) : ∀ z, z ∈ as → z.length ≤ sizeLine := fun z hz => (h z hz).short
theorem vars_t {as : List Str} {ns : List Int} (h : Names as) (m : (as.length : Int) ∈ ns) : (decide ((as.length : Int) ∈ ns) && allNm as) = true := by
  rw [decide_eq_true m, names_all h]; rfl
theorem diff_t {as : List Str} {ns : List Int} (h : Names as) (m : (as.length : Int) ∈ ns) (d : as.Nodup) : ((decide ((as.length : Int) ∈ ns) && allNm as) && decide as.Nodup) = true := by
  rw [vars_t h m, decide_eq_true d]; rfl
theorem kd_tn : ∀ (k : Kd), (k.test = "_is_rel" → k = .rel) ∧ (k.test = "_is_comparison" → k = .eq ∨ k = .less) ∧ (k.test = "_is_joined" → k = .con ∨ k = .dis) ∧ (k.test = "_is_quantified" → k = .ex ∨ k = .al) ∧
    (k.test = "_is_fixed_point" → k = .lfp ∨ k = .pfp) ∧ (k.test = "_is_closure" → k = .tc) ∧ (k.test = "_is_guess" → k = .gs) := by
  intro k; cases k <;> decide +kernel
theorem sc_is_rel : FnScope ["value"] ["value"] (defScope (top 39)) := ⟨rfl, rfl, rfl, by decide +kernel, rfl, by decide +kernel, by decide +kernel⟩
theorem has_is_rel (D : Def K mg "_is_rel" ["value"] (top 39)) (S : Shp K w mg) (C1 : Has P w K mg base 1 "is_name" ["text"] (spIsName K)) (C2 : Has P w K mg base 2 "_are_variables" ["value", "counts"] (spAreVars K)) : Has P w K mg base 4 "_is_rel" ["value"] (spTest K "_is_rel") := D.has fun f fd F => by
  obtain ⟨f1, fd1, G_is_name, g_is_name, k_is_name, b_is_name⟩ := C1
  obtain ⟨f2, fd2, G_are_variables, g_are_variables, k_are_variables, b_are_variables⟩ := C2
  have c_REL_COUNTS := S.relG
  refine F.ok sc_is_rel (fun vs H Q E h => ?_) (fun cdv A outer s H vs Q E hr h => ?_)
  · obtain ⟨v, h, ds, rfl, _⟩ := h; rfl
  · obtain ⟨v, h, ds, rfl, dp, ok, tn, q⟩ := h
    have R_is_name : Room 1 _ := hr.mono (by decide)
    have R_are_variables : Room 2 _ := hr.mono (by decide)
    refine ⟨_, PSs.nox (pss_one (ps_ret (pe_and (pe_call G_is_name R_is_name (by rfl) g_is_name k_is_name b_is_name .nil pass0 (pa_cons (pe_ix ix_tup (pv 0) pe_int (fun _ _ => rfl)) pa_nil)) (pe_one (pe_call G_are_variables R_are_variables (by rfl) g_are_variables k_are_variables b_are_variables .nil pass0 (pa_cons (pe_ix ix_tup (pv 0) pe_int (fun _ _ => rfl)) (pa_cons (pe_glob (v := .ref (He.ga K "REL_COUNTS")) (by rfl) c_REL_COUNTS rfl) pa_nil))))))), ?_⟩
    have ek := (kd_tn _).1 tn
    cases h with
    | rel n as =>
      obtain ⟨hn, hl, hs, _⟩ := ok
      obtain ⟨a, xs, rfl, hT, hx⟩ := hd_inv dp
      obtain ⟨v1, ws, rfl, h1, h2⟩ := DpAll.cons_inv hx
      obtain ⟨v2, ws2, rfl, h3, h4⟩ := DpAll.cons_inv h2
      rw [Dp.str_inv h1] at hT
      refine ⟨_, rfl, a, _, _, _, rfl, rfl, hT, atI_nat (j := 1) rfl, .inl ⟨n, rfl, hn.short, _, rfl, ?_⟩⟩
      refine cT (isNm_t hn) ⟨_, rfl, a, _, _, _, rfl, rfl, hT, atI_nat (j := 2) rfl, v2, as, _, [0, 1, 2, 3, 4, 5, 6], rfl, h3, S.relC _, names_short hs, by omega, fun H1 s1 => ?_⟩
      have m : (as.length : Int) ∈ ([0, 1, 2, 3, 4, 5, 6] : List Int) := by simp only [List.mem_cons, List.not_mem_nil, or_false]; omega
      rw [vars_t hs m]
      exact q H1 s1
    | _ => cases ek
theorem sc_is_comparison : FnScope ["value"] ["value"] (defScope (top 40)) := ⟨rfl, rfl, rfl, by decide +kernel, rfl, by decide +kernel, by decide +kernel⟩
theorem has_is_comparison (D : Def K mg "_is_comparison" ["value"] (top 40)) (C1 : Has P w K mg base 1 "is_name" ["text"] (spIsName K)) : Has P w K mg base 4 "_is_comparison" ["value"] (spTest K "_is_comparison") := D.has fun f fd F => by
  obtain ⟨f1, fd1, G_is_name, g_is_name, k_is_name, b_is_name⟩ := C1
  refine F.ok sc_is_comparison (fun vs H Q E h => ?_) (fun cdv A outer s H vs Q E hr h => ?_)
  · obtain ⟨v, h, ds, rfl, _⟩ := h; rfl
  · obtain ⟨v, h, ds, rfl, dp, ok, tn, q⟩ := h
    have R_is_name : Room 1 _ := hr.mono (by decide)
    refine ⟨_, PSs.nox (pss_one (ps_ret (pe_and (pe_call G_is_name R_is_name (by rfl) g_is_name k_is_name b_is_name .nil pass0 (pa_cons (pe_ix ix_tup (pv 0) pe_int (fun _ _ => rfl)) pa_nil)) (pe_one (pe_call G_is_name R_is_name (by rfl) g_is_name k_is_name b_is_name .nil pass0 (pa_cons (pe_ix ix_tup (pv 0) pe_int (fun _ _ => rfl)) pa_nil)))))), ?_⟩
    have two : ∃ x y, Nm x ∧ Nm y ∧ h.rest ds = [.str x, .str y] := by
      rcases (kd_tn _).2.1 tn with e | e <;> cases h <;> first | exact ⟨_, _, ok.1, ok.2.1, rfl⟩ | cases e
    obtain ⟨x, y, nx, ny, e⟩ := two
    obtain ⟨a, xs, rfl, hT, hx⟩ := hd_inv dp
    rw [e] at hx
    rw [DpAll.strs (as := [x, y]) hx] at hT
    refine ⟨_, rfl, a, _, _, _, rfl, rfl, hT, atI_nat (j := 1) rfl, .inl ⟨x, rfl, nx.short, _, rfl, ?_⟩⟩
    refine cT (isNm_t nx) ⟨_, rfl, a, _, _, _, rfl, rfl, hT, atI_nat (j := 2) rfl, .inl ⟨y, rfl, ny.short, ?_⟩⟩
    rw [isNm_t ny]
    exact q H (.refl H)
theorem sc_is_negation : FnScope ["_value"] ["_value"] (defScope (top 41)) := ⟨rfl, rfl, rfl, by decide +kernel, rfl, by decide +kernel, by decide +kernel⟩
theorem has_is_negation (D : Def K mg "_is_negation" ["_value"] (top 41)) : Has P w K mg base 4 "_is_negation" ["_value"] (spTest K "_is_negation") := D.has fun f fd F => by
  refine F.ok sc_is_negation (fun vs H Q E h => ?_) (fun cdv A outer s H vs Q E hr h => ?_)
  · obtain ⟨v, h, ds, rfl, _⟩ := h; rfl
  · obtain ⟨v, h, ds, rfl, dp, ok, tn, q⟩ := h
    exact ⟨_, PSs.nox (pss_one (ps_ret pe_bl)), q H (.refl H)⟩
theorem sc_is_joined : FnScope ["value"] ["value"] (defScope (top 42)) := ⟨rfl, rfl, rfl, by decide +kernel, rfl, by decide +kernel, by decide +kernel⟩
theorem has_is_joined (D : Def K mg "_is_joined" ["value"] (top 42)) (T : Txt mg) (S : Shp K w mg) : Has P w K mg base 4 "_is_joined" ["value"] (spTest K "_is_joined") := D.has fun f fd F => by
  obtain ⟨t1, c_MOST_JOINED⟩ := S.joined
  refine F.ok sc_is_joined (fun vs H Q E h => ?_) (fun cdv A outer s H vs Q E hr h => ?_)
  · obtain ⟨v, h, ds, rfl, _⟩ := h; rfl
  · obtain ⟨v, h, ds, rfl, dp, ok, tn, q⟩ := h
    refine ⟨_, PSs.nox (pss_one (ps_ret (pe_and (pe_callB call_isi (by rfl) T.n_isinstance (by decide +kernel) (pa_cons (pe_ix ix_tup (pv 0) pe_int (fun _ _ => rfl)) (pa_cons (pe_bltn (v := .ty "tuple") (by rfl) T.n_tuple (by decide +kernel) rfl) pa_nil))) (pe_one (pe_cmpR op_le (pe_callB call_len_seq (by rfl) T.n_len PySem.boot_len (pa_cons (pe_ix ix_tup (pv 0) pe_int (fun _ _ => rfl)) pa_nil)) (pe_glob (v := .int 40) (by rfl) c_MOST_JOINED ⟨_, rfl⟩) (nomark _)))))), ?_⟩
    have two : ds.length ≤ 40 ∧ h.rest ds = [.tuple ds] := by
      rcases (kd_tn _).2.2.1 tn with e | e <;> cases h <;> first | exact ⟨ok, rfl⟩ | cases e
    obtain ⟨l40, e⟩ := two
    obtain ⟨a, xs, rfl, hT, hx⟩ := hd_inv dp
    rw [e] at hx
    obtain ⟨v1, ws, rfl, h1, h2⟩ := DpAll.cons_inv hx
    obtain ⟨b, ys, rfl, hb, hy⟩ := Dp.tup_inv h1
    refine ⟨_, rfl, a, _, _, _, rfl, rfl, hT, atI_nat (j := 1) rfl, _, _, _, _, _, rfl, .ty _, ty_tup hb, kit_ty (b := "tuple") (r := true) (by decide +kernel), _, rfl, iteT ?_⟩
    refine ⟨_, rfl, a, _, _, _, rfl, rfl, hT, atI_nat (j := 1) rfl, b, _, rfl, .inr hb, _, _, rfl, rfl, ?_⟩
    show Q (.bl (decide (((ys.length : Nat) : Int) ≤ 40))) H
    rw [decide_eq_true (show ((ys.length : Nat) : Int) ≤ 40 by rw [DpAll.length hy]; omega)]
    exact q H (.refl H)
theorem sc_is_quantified : FnScope ["value"] ["value"] (defScope (top 43)) := ⟨rfl, rfl, rfl, by decide +kernel, rfl, by decide +kernel, by decide +kernel⟩
theorem has_is_quantified (D : Def K mg "_is_quantified" ["value"] (top 43)) (S : Shp K w mg) (C2 : Has P w K mg base 3 "are_different" ["value", "counts"] (spAreDiff K)) : Has P w K mg base 4 "_is_quantified" ["value"] (spTest K "_is_quantified") := D.has fun f fd F => by
  obtain ⟨f2, fd2, G_are_different, g_are_different, k_are_different, b_are_different⟩ := C2
  have c_OWN_COUNTS := S.ownG
  refine F.ok sc_is_quantified (fun vs H Q E h => ?_) (fun cdv A outer s H vs Q E hr h => ?_)
  · obtain ⟨v, h, ds, rfl, _⟩ := h; rfl
  · obtain ⟨v, h, ds, rfl, dp, ok, tn, q⟩ := h
    have R_are_different : Room 3 _ := hr.mono (by decide)
    refine ⟨_, PSs.nox (pss_one (ps_ret (pe_call G_are_different R_are_different (by rfl) g_are_different k_are_different b_are_different .nil pass0 (pa_cons (pe_ix ix_tup (pv 0) pe_int (fun _ _ => rfl)) (pa_cons (pe_glob (v := .ref (He.ga K "OWN_COUNTS")) (by rfl) c_OWN_COUNTS rfl) pa_nil))))), ?_⟩
    have two : ∃ us, OwnOk us ∧ h.rest ds = tS us :: ds := by
      rcases (kd_tn _).2.2.2.1 tn with e | e <;> cases h <;> first | exact ⟨_, ok.1, rfl⟩ | cases e
    obtain ⟨us, ⟨o1, o6, on, od⟩, e⟩ := two
    obtain ⟨a, xs, rfl, hT, hx⟩ := hd_inv dp
    rw [e] at hx
    obtain ⟨v1, ws, rfl, h1, h2⟩ := DpAll.cons_inv hx
    refine ⟨_, rfl, a, _, _, _, rfl, rfl, hT, atI_nat (j := 1) rfl, v1, us, _, [1, 2, 3, 4, 5, 6], rfl, h1, S.ownC _, names_short on, by omega, fun H1 s1 => ?_⟩
    have m : (us.length : Int) ∈ ([1, 2, 3, 4, 5, 6] : List Int) := by simp only [List.mem_cons, List.not_mem_nil, or_false]; omega
    rw [diff_t on m od]
    exact q H1 s1
theorem sc_is_fixed_point : FnScope ["value"] ["value"] (defScope (top 44)) := ⟨rfl, rfl, rfl, by decide +kernel, rfl, by decide +kernel, by decide +kernel⟩
theorem has_is_fixed_point (D : Def K mg "_is_fixed_point" ["value"] (top 44)) (T : Txt mg) (S : Shp K w mg) (C1 : Has P w K mg base 1 "is_name" ["text"] (spIsName K)) (C2 : Has P w K mg base 2 "_are_variables" ["value", "counts"] (spAreVars K))
    (C3 : Has P w K mg base 3 "are_different" ["value", "counts"] (spAreDiff K)) : Has P w K mg base 4 "_is_fixed_point" ["value"] (spTest K "_is_fixed_point") := D.has fun f fd F => by
  obtain ⟨f1, fd1, G_is_name, g_is_name, k_is_name, b_is_name⟩ := C1
  obtain ⟨f2, fd2, G_are_variables, g_are_variables, k_are_variables, b_are_variables⟩ := C2
  obtain ⟨f3, fd3, G_are_different, g_are_different, k_are_different, b_are_different⟩ := C3
  have c_OWN_COUNTS := S.ownG
  refine F.ok sc_is_fixed_point (fun vs H Q E h => ?_) (fun cdv A outer s H vs Q E hr h => ?_)
  · obtain ⟨v, h, ds, rfl, _⟩ := h; rfl
  · obtain ⟨v, h, ds, rfl, dp, ok, tn, q⟩ := h
    have R_is_name : Room 1 _ := hr.mono (by decide)
    have R_are_variables : Room 2 _ := hr.mono (by decide)
    have R_are_different : Room 3 _ := hr.mono (by decide)
    refine ⟨_, PSs.nox (pss_cons (ps_if (PW.pt (pw_or (pt_not (pt_val (pe_call G_is_name R_is_name (by rfl) g_is_name k_is_name b_is_name .nil pass0 (pa_cons (pe_ix ix_tup (pv 0) pe_int (fun _ _ => rfl)) pa_nil)))) (pw_or1 (pt_not (pt_val (pe_call G_are_different R_are_different (by rfl) g_are_different k_are_different b_are_different .nil pass0 (pa_cons (pe_ix ix_tup (pv 0) pe_int (fun _ _ => rfl)) (pa_cons (pe_glob (v := .ref (He.ga K "OWN_COUNTS")) (by rfl) c_OWN_COUNTS rfl) pa_nil)))))))) (pss_one (ps_ret pe_bl)) pss_nil) (pss_one (ps_ret (pe_call G_are_variables R_are_variables (by rfl) g_are_variables k_are_variables b_are_variables .nil pass0 (pa_cons (pe_ix ix_tup (pv 0) pe_int (fun _ _ => rfl)) (pa_cons (pe_tup (pa_cons (pe_callB call_len_seq (by rfl) T.n_len PySem.boot_len (pa_cons (pe_ix ix_tup (pv 0) pe_int (fun _ _ => rfl)) pa_nil)) pa_nil)) pa_nil)))))), ?_⟩
    have two : ∃ n us as d, Nm n ∧ OwnOk us ∧ as.length = us.length ∧ Names as ∧ h.rest ds = [.str n, tS us, d, tS as] := by
      rcases (kd_tn _).2.2.2.2.1 tn with e | e <;> cases h <;> first | cases e; done | skip
      all_goals first | cases e; done | (obtain ⟨a1, a2, a3, a4, a5⟩ := ok; obtain ⟨d, rfl⟩ := List.length_eq_one_iff.mp a5; exact ⟨_, _, _, d, a1, a2, a3, a4, rfl⟩)
    obtain ⟨n, us, as, d, nn, ⟨o1, o6, on, od⟩, el, an, e⟩ := two
    obtain ⟨a, xs, rfl, hT, hx⟩ := hd_inv dp
    rw [e] at hx
    obtain ⟨v1, ws1, rfl, h1, hx⟩ := DpAll.cons_inv hx
    obtain ⟨v2, ws2, rfl, h2, hx⟩ := DpAll.cons_inv hx
    obtain ⟨v3, ws3, rfl, h3, hx⟩ := DpAll.cons_inv hx
    obtain ⟨v4, ws4, rfl, h4, hx⟩ := DpAll.cons_inv hx
    rw [Dp.str_inv h1] at hT
    refine ⟨_, rfl, a, _, _, _, rfl, rfl, hT, atI_nat (j := 1) rfl, .inl ⟨n, rfl, nn.short, _, rfl, ?_⟩⟩
    refine cF (k := !isNm n) (by rw [isNm_t nn]; rfl) ?_
    refine ⟨_, rfl, a, _, _, _, rfl, rfl, hT, atI_nat (j := 2) rfl, v2, us, _, [1, 2, 3, 4, 5, 6], rfl, h2, S.ownC _, names_short on, by omega, fun H1 s1 => ⟨_, rfl, ?_⟩⟩
    have m : (us.length : Int) ∈ ([1, 2, 3, 4, 5, 6] : List Int) := by simp only [List.mem_cons, List.not_mem_nil, or_false]; omega
    refine cF (k := !_) (by rw [diff_t on m od]; rfl) ?_
    have hT1 := Same.sqt s1 hT
    obtain ⟨t2, rfl, ht2⟩ := tS_inv (Dp.same s1 h2)
    refine ⟨_, rfl, a, _, _, _, rfl, rfl, hT1, atI_nat (j := 4) rfl, _, rfl, a, _, _, _, rfl, rfl, hT1, atI_nat (j := 2) rfl, t2, _, rfl, .inr ht2, (by show 1 ≤ sizeLine; decide), fun p np => ?_⟩
    refine ⟨v4, as, p, [((us.map V.str).length : Nat)], rfl, Dp.same (s1.trans (same_upd np)) h4, SqT.of upd_same, names_short an, by omega, fun H2 s2 => ?_⟩
    have m2 : (as.length : Int) ∈ ([((us.map V.str).length : Nat)] : List Int) := by rw [List.length_map, el]; exact List.mem_singleton.mpr rfl
    rw [vars_t an m2]
    exact q H2 ((s1.trans (same_upd np)).trans s2)
theorem sc_is_closure : FnScope ["value"] ["value"] (defScope (top 45)) := ⟨rfl, rfl, rfl, by decide +kernel, rfl, by decide +kernel, by decide +kernel⟩
theorem has_is_closure (D : Def K mg "_is_closure" ["value"] (top 45)) (T : Txt mg) (S : Shp K w mg) (C2 : Has P w K mg base 2 "_are_variables" ["value", "counts"] (spAreVars K))
    (C3 : Has P w K mg base 3 "are_different" ["value", "counts"] (spAreDiff K)) : Has P w K mg base 4 "_is_closure" ["value"] (spTest K "_is_closure") := D.has fun f fd F => by
  obtain ⟨f2, fd2, G_are_variables, g_are_variables, k_are_variables, b_are_variables⟩ := C2
  obtain ⟨f3, fd3, G_are_different, g_are_different, k_are_different, b_are_different⟩ := C3
  have c_TC_COUNTS := S.tcG
  refine F.ok sc_is_closure (fun vs H Q E h => ?_) (fun cdv A outer s H vs Q E hr h => ?_)
  · obtain ⟨v, h, ds, rfl, _⟩ := h; rfl
  · obtain ⟨v, h, ds, rfl, dp, ok, tn, q⟩ := h
    have R_are_variables : Room 2 _ := hr.mono (by decide)
    have R_are_different : Room 3 _ := hr.mono (by decide)
    refine ⟨_, PSs.nox (pss_one (ps_ret (pe_and (pe_call G_are_different R_are_different (by rfl) g_are_different k_are_different b_are_different .nil pass0 (pa_cons (pe_ix ix_tup (pv 0) pe_int (fun _ _ => rfl)) (pa_cons (pe_glob (v := .ref (He.ga K "TC_COUNTS")) (by rfl) c_TC_COUNTS rfl) pa_nil))) (pe_one (pe_call G_are_variables R_are_variables (by rfl) g_are_variables k_are_variables b_are_variables .nil pass0 (pa_cons (pe_ix ix_tup (pv 0) pe_int (fun _ _ => rfl)) (pa_cons (pe_tup (pa_cons (pe_callB call_len_seq (by rfl) T.n_len PySem.boot_len (pa_cons (pe_ix ix_tup (pv 0) pe_int (fun _ _ => rfl)) pa_nil)) pa_nil)) pa_nil))))))), ?_⟩
    have ek := (kd_tn _).2.2.2.2.2.1 tn
    cases h with
    | tc us as =>
      obtain ⟨lens, on, od, el, an, one⟩ := ok
      obtain ⟨d, rfl⟩ := List.length_eq_one_iff.mp one
      obtain ⟨a, xs, rfl, hT, hx⟩ := hd_inv dp
      obtain ⟨v1, ws1, rfl, h1, hx⟩ := DpAll.cons_inv hx
      obtain ⟨v2, ws2, rfl, h2, hx⟩ := DpAll.cons_inv hx
      obtain ⟨v3, ws3, rfl, h3, hx⟩ := DpAll.cons_inv hx
      refine ⟨_, rfl, a, _, _, _, rfl, rfl, hT, atI_nat (j := 1) rfl, v1, us, _, [2, 4, 6, 8], rfl, h1, S.tcC _, names_short on, by omega, fun H1 s1 => ⟨_, rfl, ?_⟩⟩
      have m : (us.length : Int) ∈ ([2, 4, 6, 8] : List Int) := by simp only [List.mem_cons, List.not_mem_nil, or_false]; omega
      refine cT (diff_t on m od) ?_
      have hT1 := Same.sqt s1 hT
      obtain ⟨t2, rfl, ht2⟩ := tS_inv (Dp.same s1 h1)
      refine ⟨_, rfl, a, _, _, _, rfl, rfl, hT1, atI_nat (j := 3) rfl, _, rfl, a, _, _, _, rfl, rfl, hT1, atI_nat (j := 1) rfl, t2, _, rfl, .inr ht2, (by show 1 ≤ sizeLine; decide), fun p np => ?_⟩
      refine ⟨v3, as, p, [((us.map V.str).length : Nat)], rfl, Dp.same (s1.trans (same_upd np)) h3, SqT.of upd_same, names_short an, by omega, fun H2 s2 => ?_⟩
      have m2 : (as.length : Int) ∈ ([((us.map V.str).length : Nat)] : List Int) := by rw [List.length_map, el]; exact List.mem_singleton.mpr rfl
      rw [vars_t an m2]
      exact q H2 ((s1.trans (same_upd np)).trans s2)
    | _ => cases ek
end
/-! ### whole numbers -/
def isI : V → Bool
  | .int _ => true
  | _ => false
def btw (lo hi : Int) : V → Bool
  | .int i => decide (lo ≤ i) && decide (i ≤ hi)
  | _ => false
def spWhole : Sp := fun vs H Q _ => ∃ x : V, vs = [x] ∧ flatV x = true ∧ Q (.bl (isI x)) H
def spBetween : Sp := fun vs H Q _ => ∃ (x : V) (lo hi : Int), vs = [x, .int lo, .int hi] ∧ flatV x = true ∧ Q (.bl (btw lo hi x)) H
section
variable {P : Program} {w : World} {K : PySem.W.Frag} {mg : Str → Option Value} {base : Heap}
theorem sc_is_whole : FnScope ["value"] ["value"] (defScope (top 9)) := ⟨rfl, rfl, rfl, by decide +kernel, rfl, by decide +kernel, by decide +kernel⟩
theorem has_is_whole (D : Def K mg "is_whole" ["value"] (top 9)) (T : Txt mg) : Has P w K mg base 1 "is_whole" ["value"] spWhole := D.has fun f fd F => by
  refine F.ok sc_is_whole (fun vs H Q E h => ?_) (fun cdv A outer s H vs Q E hr h => ?_)
  · obtain ⟨x, rfl, _⟩ := h; rfl
  · obtain ⟨x, rfl, fx, q⟩ := h
    refine ⟨_, PSs.nox (pss_one (ps_ret (pe_and (pe_callB call_isi (by rfl) T.n_isinstance (by decide +kernel) (pa_cons (pv 0) (pa_cons (pe_bltn (v := .ty "int") (by rfl) T.n_int (by decide +kernel) rfl) pa_nil))) (pe_one (pe_not (pe_callB call_isi (by rfl) T.n_isinstance (by decide +kernel) (pa_cons (pv 0) (pa_cons (pe_bltn (v := .ty "bool") (by rfl) T.n_bool (by decide +kernel) rfl) pa_nil)))))))), ?_⟩
    cases x with
    | int i => exact isi_q rfl (.base (.int i)) (b := true) (by decide +kernel) ⟨_, rfl, iteT (isi_q rfl (.base (.int i)) (b := false) (by decide +kernel) ⟨_, rfl, q⟩)⟩
    | bl b => exact isi_q rfl (.base (.bl b)) (b := true) (by decide +kernel) ⟨_, rfl, iteT (isi_q rfl (.base (.bl b)) (b := true) (by decide +kernel) ⟨_, rfl, q⟩)⟩
    | str z => exact isi_q rfl (.base (.str z)) (b := false) (by decide +kernel) ⟨_, rfl, iteF q⟩
    | non => exact isi_q rfl (.base .non) (b := false) (by decide +kernel) ⟨_, rfl, iteF q⟩
    | byt _ => cases fx
    | flt _ => cases fx
    | ref _ => cases fx
    | ty _ => cases fx
theorem sc_is_between : FnScope ["value", "low", "high"] ["value", "low", "high"] (defScope (top 10)) := ⟨rfl, rfl, rfl, by decide +kernel, rfl, by decide +kernel, by decide +kernel⟩
theorem has_is_between (D : Def K mg "is_between" ["value", "low", "high"] (top 10)) (C1 : Has P w K mg base 1 "is_whole" ["value"] spWhole) : Has P w K mg base 2 "is_between" ["value", "low", "high"] spBetween := D.has fun f fd F => by
  obtain ⟨f1, fd1, G_is_whole, g_is_whole, k_is_whole, b_is_whole⟩ := C1
  refine F.ok sc_is_between (fun vs H Q E h => ?_) (fun cdv A outer s H vs Q E hr h => ?_)
  · obtain ⟨x, lo, hi, rfl, _⟩ := h; rfl
  · obtain ⟨x, lo, hi, rfl, fx, q⟩ := h
    have R_is_whole : Room 1 _ := hr.mono (by decide)
    refine ⟨_, PSs.nox (pss_one (ps_ret (pe_and (pe_call G_is_whole R_is_whole (by rfl) g_is_whole k_is_whole b_is_whole .nil pass0 (pa_cons (pv 0) pa_nil)) (pe_one (pe_chain op_le op_le (pv 1) (pv 0) (pv 2)))))), ?_⟩
    refine ⟨_, rfl, x, rfl, fx, _, rfl, ?_⟩
    cases x with
    | int i =>
      refine iteT ⟨_, rfl, _, rfl, _, _, rfl, rfl, _, rfl, ?_⟩
      have q' : Q (.bl (decide (lo ≤ i) && decide (i ≤ hi))) H := q
      by_cases e : lo ≤ i
      · refine cT (decide_eq_true e) ⟨_, rfl, _, _, rfl, rfl, ?_⟩
        rw [decide_eq_true e] at q'
        exact q'
      · refine cF (decide_eq_false e) ?_
        rw [decide_eq_false e] at q'
        exact q'
    | bl b => exact iteF q
    | str z => exact iteF q
    | non => exact iteF q
    | byt _ => cases fx
    | flt _ => cases fx
    | ref _ => cases fx
    | ty _ => cases fx
end
section
variable {P : Program} {w : World} {K : PySem.W.Frag} {mg : Str → Option Value} {base : Heap}
theorem sc_is_guess : FnScope ["value"] ["value"] (defScope (top 46)) := ⟨rfl, rfl, rfl, by decide +kernel, rfl, by decide +kernel, by decide +kernel⟩
theorem has_is_guess (D : Def K mg "_is_guess" ["value"] (top 46)) (S : Shp K w mg) (C1 : Has P w K mg base 1 "is_name" ["text"] (spIsName K)) (C2 : Has P w K mg base 2 "is_between" ["value", "low", "high"] spBetween) : Has P w K mg base 4 "_is_guess" ["value"] (spTest K "_is_guess") := D.has fun f fd F => by
  obtain ⟨f1, fd1, G_is_name, g_is_name, k_is_name, b_is_name⟩ := C1
  obtain ⟨f2, fd2, G_is_between, g_is_between, k_is_between, b_is_between⟩ := C2
  obtain ⟨t1, c_LARGEST_GUESS⟩ := S.guess
  refine F.ok sc_is_guess (fun vs H Q E h => ?_) (fun cdv A outer s H vs Q E hr h => ?_)
  · obtain ⟨v, h, ds, rfl, _⟩ := h; rfl
  · obtain ⟨v, h, ds, rfl, dp, ok, tn, q⟩ := h
    have R_is_name : Room 1 _ := hr.mono (by decide)
    have R_is_between : Room 2 _ := hr.mono (by decide)
    refine ⟨_, PSs.nox (pss_one (ps_ret (pe_and (pe_call G_is_name R_is_name (by rfl) g_is_name k_is_name b_is_name .nil pass0 (pa_cons (pe_ix ix_tup (pv 0) pe_int (fun _ _ => rfl)) pa_nil)) (pe_one (pe_call G_is_between R_is_between (by rfl) g_is_between k_is_between b_is_between .nil pass0 (pa_cons (pe_ix ix_tup (pv 0) pe_int (fun _ _ => rfl)) (pa_cons pe_int (pa_cons (pe_glob (v := .int 3) (by rfl) c_LARGEST_GUESS ⟨_, rfl⟩) pa_nil)))))))), ?_⟩
    have ek := (kd_tn _).2.2.2.2.2.2 tn
    cases h with
    | gs n k =>
      obtain ⟨nn, k3, _⟩ := ok
      obtain ⟨a, xs, rfl, hT, hx⟩ := hd_inv dp
      obtain ⟨v1, ws1, rfl, h1, hx⟩ := DpAll.cons_inv hx
      obtain ⟨v2, ws2, rfl, h2, hx⟩ := DpAll.cons_inv hx
      rw [Dp.str_inv h1, Dp.int_inv h2] at hT
      refine ⟨_, rfl, a, _, _, _, rfl, rfl, hT, atI_nat (j := 1) rfl, .inl ⟨n, rfl, nn.short, _, rfl, ?_⟩⟩
      refine cT (isNm_t nn) ⟨_, rfl, a, _, _, _, rfl, rfl, hT, atI_nat (j := 2) rfl, .int k, 0, 3, rfl, rfl, ?_⟩
      have e : btw 0 3 (.int (k : Nat)) = true := by
        show (decide ((0 : Int) ≤ (k : Nat)) && decide (((k : Nat) : Int) ≤ 3)) = true
        rw [decide_eq_true (by omega), decide_eq_true (by omega)]; rfl
      rw [e]
      exact q H (.refl H)
    | _ => cases ek
def spShape (K : PySem.W.Frag) : Sp := fun vs H Q _ => ∃ (v : V) (h : Hd) (ds : List PyData), vs = [v] ∧ Dp K H v (h.data ds) ∧ h.Ok ds.length ∧ ∀ (H' : Hp), Same H H' → Q (.bl true) H'
theorem rest_len {h : Hd} {ds : List PyData} (ok : h.fits ds.length) : (h.rest ds).length + 1 = h.kd.many := by
  cases h with
  | no => have e := ok 1 rfl; show ds.length + 1 = 2; omega
  | ex us => have e := ok 1 rfl; show ds.length + 1 + 1 = 3; omega
  | al us => have e := ok 1 rfl; show ds.length + 1 + 1 = 3; omega
  | lfp n us as => have e := ok 1 rfl; show (ds ++ [tS as]).length + 1 + 1 + 1 = 5; rw [List.length_append, e]; rfl
  | pfp n us as => have e := ok 1 rfl; show (ds ++ [tS as]).length + 1 + 1 + 1 = 5; rw [List.length_append, e]; rfl
  | tc us as => have e := ok 1 rfl; show (ds ++ [tS as]).length + 1 + 1 = 4; rw [List.length_append, e]; rfl
  | gs n k => have e := ok 1 rfl; show ds.length + 1 + 1 + 1 = 4; omega
  | _ => rfl
theorem test_mem (K : PySem.W.Frag) (k : Kd) : (k.word, V.ref (He.ga K k.test)) ∈ testTab K := by
  cases k <;> simp [testTab, Kd.word, Kd.test]
structure Tests (P : Program) (w : World) (K : PySem.W.Frag) (mg : Str → Option Value) (base : Heap) : Prop where
  at_ : ∀ k : Kd, mg k.test = some (.ref (He.ga K k.test))
  has : ∀ k : Kd, ∃ ps, Has P w K mg base 4 k.test ps (spTest K k.test)
theorem sc_is_shape : FnScope ["value", "test"] ["value"] (defScope (top 48)) := ⟨rfl, rfl, rfl, by decide +kernel, rfl, by decide +kernel, by decide +kernel⟩
theorem has_is_shape (D : Def K mg "is_shape" ["value"] (top 48)) (T : Txt mg) (S : Shp K w mg) (C : Tests P w K mg base) : Has P w K mg base 5 "is_shape" ["value"] (spShape K) := D.has fun f fd F => by
  have c_LENGTHS := S.lens.g
  have c_TESTS := S.tests.g
  refine F.ok sc_is_shape (fun vs H Q E h => ?_) (fun cdv A outer s H vs Q E hr h => ?_)
  · obtain ⟨v, h, ds, rfl, _⟩ := h; rfl
  · obtain ⟨v, h, ds, rfl, dp, ok, q⟩ := h
    obtain ⟨ps1, f1, fd1, G1, g1, k1, b1⟩ := C.has h.kd
    have ef : f1 = He.ga K h.kd.test := by
      have := g1.symm.trans (C.at_ h.kd)
      injection this with this
      injection this
    have R1 : Room 4 _ := hr.mono (by decide)
    refine ⟨_, PSs.nox (pss_cons (ps_if (PW.pt (pw_or (pt_not (pt_val (pe_callB call_isi (by rfl) T.n_isinstance (by decide +kernel) (pa_cons (pv 0) (pa_cons (pe_bltn (v := .ty "tuple") (by rfl) T.n_tuple (by decide +kernel) rfl) pa_nil))))) (pw_or (pt_not (pt_truth (pv 0) (by intro _; rfl))) (pw_or1 (pt_not (pt_val (pe_callB call_isi (by rfl) T.n_isinstance (by decide +kernel) (pa_cons (pe_ix ix_tup (pv 0) pe_int (fun _ _ => rfl)) (pa_cons (pe_bltn (v := .ty "str") (by rfl) T.n_str (by decide +kernel) rfl) pa_nil))))))))) (pss_one (ps_ret pe_bl)) pss_nil) (pss_cons (ps_if (pt_cmpR op_ne (pe_kget (pe_glob (v := .ref (He.ga K "LENGTHS")) (by rfl) c_LENGTHS rfl) (pe_ix ix_tup (pv 0) pe_int (fun _ _ => rfl)) ⟨rfl, rfl, rfl, rfl⟩) (pe_callB call_len_seq (by rfl) T.n_len PySem.boot_len (pa_cons (pv 0) pa_nil)) (nomark _)) (pss_one (ps_ret pe_bl)) pss_nil) (pss_cons (ps_set (i := 1) sc_is_shape.nd rfl (Or.inl rfl) (pe_ix ix_kdict (pe_glob (v := .ref (He.ga K "TESTS")) (by rfl) c_TESTS rfl) (pe_ix ix_tup (pv 0) pe_int (fun _ _ => rfl)) (fun _ _ => rfl))) (pss_one (ps_ret (pe_callL (i := 1) G1 R1 rfl (Or.inl rfl) k1 b1 .nil pass0 (pa_cons (pv 0) pa_nil))))))), ?_⟩
    obtain ⟨a, xs, rfl, hT, hx⟩ := hd_inv dp
    refine ⟨_, rfl, _, _, _, _, _, rfl, .ty _, ty_tup hT, kit_ty (b := "tuple") (r := true) (by decide +kernel), _, rfl, iteF ?_⟩
    refine ⟨_, rfl, true, .inr (.inl ⟨_, hT, rfl⟩), iteF ?_⟩
    refine ⟨_, rfl, a, _, _, _, rfl, rfl, hT, atI_nat (j := 0) rfl, _, _, _, _, _, rfl, .ty _, .base (.str _), kit_ty (b := "str") (r := true) (by decide +kernel), _, rfl, iteF ?_⟩
    obtain ⟨es, n, DL⟩ := S.lens.d
    obtain ⟨u, n1, ru⟩ := S.lens.there _ _ (len_mem h.kd)
    refine ⟨_, es, n, rfl, DL, _, rfl, a, _, _, _, rfl, rfl, hT, atI_nat (j := 0) rfl, _, _, .int (h.kd.many : Nat), rfl, n1, ru, _, rfl, a, _, rfl, .inr hT, rfl, _, rfl, ?_⟩
    have el : decide (V.int (h.kd.many : Nat) = V.int (((V.str h.word :: xs).length : Nat) : Int)) = true := decide_eq_true (by rw [List.length_cons, DpAll.length hx, rest_len ok.fits])
    refine cF (k := !decide (V.int (h.kd.many : Nat) = V.int (((V.str h.word :: xs).length : Nat) : Int))) (by rw [el]; rfl) ?_
    refine ⟨_, rfl, a, _, _, _, rfl, rfl, hT, atI_nat (j := 0) rfl, _, _, _, rfl, rfl, S.tests.dct (test_mem K h.kd), ?_⟩
    refine ⟨?_, _, rfl, _, h, ds, rfl, dp, ok, rfl, q⟩
    rw [ef]
    rfl
end
/-! ### going through a formula -/
theorem sumN_append : ∀ (xs ys : List Nat), sumN (xs ++ ys) = sumN xs + sumN ys
  | [], ys => (Nat.zero_add _).symm
  | x :: xs, ys => by show x + sumN (xs ++ ys) = x + sumN xs + sumN ys; rw [sumN_append xs ys]; omega
theorem sumN_take {xs : List Nat} {i x : Nat} (h : xs[i]? = some x) : sumN (xs.take (i + 1)) = sumN (xs.take i) + x := by
  rw [List.take_add_one, h, sumN_append]; rfl
theorem sumN_take_le (xs : List Nat) (i : Nat) : sumN (xs.take i) ≤ sumN xs := by
  have e := sumN_append (xs.take i) (xs.drop i)
  rw [List.take_append_drop] at e
  omega
/-- the names that a formula gives to its own relation -/
def Hd.sgn (h : Hd) (s : Int) : Int := match h with
  | .no => -s
  | .pfp _ _ _ => 0
  | _ => s
def Hd.bname (h : Hd) : Option Str := h.bound.map (·.1)
def posStep (h : Hd) (xs : List (Str → Int → Bool)) (name : Str) (s : Int) : Bool := match h with
  | .rel n _ => s == 1 || !decide (n = name)
  | _ => if h.bname = some name then true else xs.all fun g => g name (h.sgn s)
def Fm.pos : Fm → Str → Int → Bool := Fm.fold posStep
theorem Fm.pos_mk (h : Hd) (ps : List Fm) (name : Str) (s : Int) : (Fm.mk h ps).pos name s = posStep h (ps.map Fm.pos) name s := congrFun (congrFun (Fm.fold_mk posStep h ps) name) s
theorem Fm.pos_rel {n : Str} {as : List Str} {ps : List Fm} {name : Str} {s : Int} : (Fm.mk (.rel n as) ps).pos name s = (s == 1 || !decide (n = name)) := Fm.pos_mk _ _ _ _
theorem Fm.pos_other {h : Hd} {ps : List Fm} {name : Str} {s : Int} (nr : h.kd ≠ .rel) : (Fm.mk h ps).pos name s = if h.bname = some name then true else ps.all fun p => p.pos name (h.sgn s) := by
  rw [Fm.pos_mk]
  have e : posStep h (ps.map Fm.pos) name s = if h.bname = some name then true else (ps.map Fm.pos).all fun g => g name (h.sgn s) := by cases h <;> first | rfl | exact absurd rfl nr
  rw [e, List.all_map]
  rfl
/-- the body of each lfp is positive in its name -/
inductive Fm.PosOk : Fm → Prop
  | mk {h : Hd} {ps : List Fm} (a : ∀ n us as, h = .lfp n us as → ∀ p, p ∈ ps → p.pos n 1 = true) (b : ∀ p, p ∈ ps → p.PosOk) : (Fm.mk h ps).PosOk
theorem Fm.PosOk.part {h : Hd} {ps : List Fm} (k : (Fm.mk h ps).PosOk) {p : Fm} (hp : p ∈ ps) : p.PosOk := by cases k with | mk a b => exact b p hp
theorem Fm.PosOk.here {n : Str} {us as : List Str} {ps : List Fm} (k : (Fm.mk (.lfp n us as) ps).PosOk) {p : Fm} (hp : p ∈ ps) : p.pos n 1 = true := by cases k with | mk a b => exact a n us as rfl p hp
/-! ### the promises -/
section
variable {P : Program} {w : World} {K : PySem.W.Frag} {mg : Str → Option Value} {base : Heap}
def spCS (K : PySem.W.Frag) (n : Nat) : Sp := fun vs H Q _ => ∃ (v : V) (l p : Int) (f : Fm), vs = [v, .int l, .int p] ∧ Dp K H v f.data ∧ f.Ok ∧ f.dep ≤ n ∧ (f.dep : Int) ≤ l ∧ (f.cnt : Int) ≤ p ∧ ∀ (H' : Hp), Same H H' → Q (.int (p - f.cnt)) H'
theorem sc_check_shapes : FnScope ["value", "levels_left", "parts_left", "part"] ["value", "levels_left", "parts_left"] (defScope (top 83)) := ⟨rfl, rfl, rfl, by decide +kernel, rfl, by decide +kernel, by decide +kernel⟩
theorem has_check_shapes (D : Def K mg "_check_shapes" ["value", "levels_left", "parts_left"] (top 83)) (C1 : Has P w K mg base 5 "is_shape" ["value"] (spShape K)) (C2 : Has P w K mg base 1 "inner" ["formula"] (spInner K)) :
    ∀ n : Nat, Has P w K mg base (6 + n) "_check_shapes" ["value", "levels_left", "parts_left"] (spCS K n) := by
  obtain ⟨f1, fd1, G_is_shape, g_is_shape, k_is_shape, b_is_shape⟩ := C1
  obtain ⟨f2, fd2, G_inner, g_inner, k_inner, b_inner⟩ := C2
  intro n
  induction n with
  | zero =>
    refine D.has fun f fd F => F.ok sc_check_shapes (fun vs H Q E h => ?_) (fun cdv A outer s H vs Q E hr h => ?_)
    · obtain ⟨v, l, p, f, rfl, _⟩ := h; rfl
    · obtain ⟨v, l, p, f, rfl, _, _, h0, _⟩ := h
      have := dep_pos f
      omega
  | succ n ih =>
    obtain ⟨f3, fd3, G_check_shapes, g_check_shapes, k_check_shapes, b_check_shapes⟩ := ih
    refine D.has fun f fd F => F.ok sc_check_shapes (fun vs H Q E h => ?_) (fun cdv A outer s H vs Q E hr h => ?_)
    · obtain ⟨v, l, p, f, rfl, _⟩ := h; rfl
    · obtain ⟨v, l, p, f, rfl, dp, ok, hn, hl, hp, q⟩ := h
      have R_is_shape : Room 5 _ := hr.mono (Nat.le_trans (by decide) (Nat.le_add_right 6 n))
      have R_inner : Room 1 _ := hr.mono (Nat.le_trans (by decide) (Nat.le_add_right 6 n))
      have R_check_shapes : Room (6 + n) _ := hr
      refine ⟨_, PSs.nox (pss_cons (ps_if (PW.pt (pw_or (pt_cmpR op_lt (pv 1) pe_int (nomark _)) (pw_or1 (pt_cmpR op_lt (pv 2) pe_int (nomark _))))) pss_never pss_nil) (pss_cons (ps_if (pt_not (pt_val (pe_call G_is_shape R_is_shape (by rfl) g_is_shape k_is_shape b_is_shape .nil pass0 (pa_cons (pv 0) pa_nil)))) pss_never pss_nil) (pss_cons (ps_aug (i := 2) sc_check_shapes.nd rfl (Or.inl rfl) pe_int ip_sub) (pss_cons (ps_for PassesOwn.never rfl (pi_tup (pe_call G_inner R_inner (by rfl) g_inner k_inner b_inner .nil pass0 (pa_cons (pv 0) pa_nil))) (pg_name (i := 3) sc_check_shapes.nd rfl (Or.inl rfl)) (pss_one (ps_set (i := 2) sc_check_shapes.nd rfl (Or.inl rfl) (pe_call G_check_shapes R_check_shapes (by rfl) g_check_shapes k_check_shapes b_check_shapes .nil pass0 (pa_cons (pv 3) (pa_cons (pe_op op_sub (pv 1) pe_int) (pa_cons (pv 2) pa_nil))))))) (pss_one (ps_ret (pv 2))))))), ?_⟩
      obtain ⟨h, ps⟩ := f
      rw [Fm.data_mk] at dp
      have hd1 : 1 ≤ (Fm.mk h ps).dep := dep_pos _
      have hc1 : (Fm.mk h ps).cnt = 1 + sumN (ps.map Fm.cnt) := Fm.cnt_mk h ps
      have fit : h.Ok (ps.map Fm.data).length := by rw [List.length_map]; exact ok.hd_
      refine ⟨_, rfl, _, _, rfl, rfl, _, rfl, cF (k := decide (l < 1)) (decide_eq_false (by omega)) ⟨_, rfl, _, _, rfl, rfl, _, rfl, cF (k := decide (p < 1)) (decide_eq_false (by omega)) ?_⟩⟩
      refine ⟨_, rfl, v, h, _, rfl, dp, fit, fun H1 s1 => ⟨_, rfl, iteF ?_⟩⟩
      refine ⟨_, rfl, _, _, rfl, rfl, ?_⟩
      refine ⟨_, rfl, v, h, _, rfl, Dp.same s1 dp, fit.fits, fun H2 r s2 hr2 => ?_⟩
      obtain ⟨b, ys, rfl, hb, hy⟩ := Dp.tup_inv hr2
      refine ⟨b, rfl, ⟨_, hb⟩, for_tup (K := K) (a := b) (xs := ys) (fun i σ H3 => ∃ y3, σ = [some v, some (.int l), some (.int (p - 1 - (sumN ((ps.map Fm.cnt).take i) : Nat))), y3] ∧ Same H2 H3)
        ⟨none, by show _ = [some v, some (.int l), some (.int (p - 1 - ((0 : Nat) : Int))), none]; rw [show (p - 1 - ((0 : Nat) : Int)) = p - 1 by omega]; rfl, .refl _⟩ (fun i σ H3 _ ⟨_, _, s3⟩ => Same.sqt s3 hb) ?_ ?_⟩
      · rintro i y σ H3 hi ⟨y3, rfl, s3⟩
        obtain ⟨d, hd, dpy⟩ := DpAll.get' hy hi
        obtain ⟨g, hg, rfl⟩ := get_map hd
        have mem := List.mem_of_getElem? hg
        have dl : g.dep < (Fm.mk h ps).dep := dep_part mem
        have eg : (ps.map Fm.cnt)[i]? = some g.cnt := by rw [List.getElem?_map, hg]; rfl
        have es := sumN_take eg
        have el := sumN_take_le (ps.map Fm.cnt) (i + 1)
        refine ⟨_, rfl, _, rfl, _, _, rfl, rfl, _, rfl, y, l - 1, _, g, rfl, Dp.same s3 dpy, ok.part mem, by omega, by omega, by omega, fun H4 s4 => ?_⟩
        refine ⟨some y, ?_, s3.trans s4⟩
        rw [es]
        have e5 : p - 1 - ((sumN ((ps.map Fm.cnt).take i) : Nat) : Int) - (g.cnt : Int) = p - 1 - ((sumN ((ps.map Fm.cnt).take i) + g.cnt : Nat) : Int) := by omega
        rw [e5]
        rfl
      · rintro σ H3 ⟨y3, rfl, s3⟩
        have ey : ys.length = ps.length := by rw [DpAll.length hy, List.length_map]
        have et : (ps.map Fm.cnt).take ys.length = ps.map Fm.cnt := List.take_of_length_le (by rw [List.length_map]; omega)
        refine ⟨_, rfl, ?_⟩
        have e6 : p - 1 - ((sumN ((ps.map Fm.cnt).take ys.length) : Nat) : Int) = p - (((Fm.mk h ps).cnt : Nat) : Int) := by rw [et, hc1]; omega
        show Q (.int (p - 1 - ((sumN ((ps.map Fm.cnt).take ys.length) : Nat) : Int))) H3
        rw [e6]
        exact q H3 ((s1.trans s2).trans s3)
theorem kw_rel : ∀ k : Kd, decide (V.str k.word = V.str "rel") = decide (k = .rel) := by intro k; cases k <;> decide +kernel
theorem kw_not : ∀ k : Kd, decide (V.str k.word = V.str "not") = decide (k = .no) := by intro k; cases k <;> decide +kernel
theorem kw_pfp : ∀ k : Kd, decide (V.str k.word = V.str "pfp") = decide (k = .pfp) := by intro k; cases k <;> decide +kernel
theorem kw_lfp : ∀ k : Kd, decide (V.str k.word = V.str "lfp") = decide (k = .lfp) := by intro k; cases k <;> decide +kernel
def spPos (K : PySem.W.Frag) (n : Nat) : Sp := fun vs H Q _ => ∃ (v : V) (name : Str) (sg : Int) (f : Fm), vs = [v, .str name, .int sg] ∧ Dp K H v f.data ∧ f.Ok ∧ f.dep ≤ n ∧ ∀ (H' : Hp), Same H H' → Q (.bl (f.pos name sg)) H'
theorem sc_is_positive : FnScope ["formula", "name", "sign", "part"] ["formula", "name", "sign"] (defScope (top 85)) := ⟨rfl, rfl, rfl, by decide +kernel, rfl, by decide +kernel, by decide +kernel⟩
theorem has_is_positive (D : Def K mg "is_positive_in" ["formula", "name", "sign"] (top 85)) (C1 : Has P w K mg base 1 "bound_name" ["formula"] (spBName K)) (C2 : Has P w K mg base 1 "inner" ["formula"] (spInner K)) :
    ∀ n : Nat, Has P w K mg base (2 + n) "is_positive_in" ["formula", "name", "sign"] (spPos K n) := by
  obtain ⟨f1, fd1, G_bound_name, g_bound_name, k_bound_name, b_bound_name⟩ := C1
  obtain ⟨f2, fd2, G_inner, g_inner, k_inner, b_inner⟩ := C2
  intro n
  induction n with
  | zero =>
    refine D.has fun f fd F => F.ok sc_is_positive (fun vs H Q E h => ?_) (fun cdv A outer s H vs Q E hr h => ?_)
    · obtain ⟨v, l, p, f, rfl, _⟩ := h; rfl
    · obtain ⟨v, l, p, f, rfl, _, _, h0, _⟩ := h
      have := dep_pos f
      omega
  | succ n ih =>
    obtain ⟨f3, fd3, G_is_positive_in, g_is_positive_in, k_is_positive_in, b_is_positive_in⟩ := ih
    refine D.has fun f fd F => F.ok sc_is_positive (fun vs H Q E h => ?_) (fun cdv A outer s H vs Q E hr h => ?_)
    · obtain ⟨v, l, p, f, rfl, _⟩ := h; rfl
    · obtain ⟨v, name, sg, f, rfl, dp, ok, hn, q⟩ := h
      have R_bound_name : Room 1 _ := hr.mono (Nat.le_trans (by decide) (Nat.le_add_right 2 n))
      have R_inner : Room 1 _ := hr.mono (Nat.le_trans (by decide) (Nat.le_add_right 2 n))
      have R_is_positive_in : Room (2 + n) _ := hr
      refine ⟨_, PSs.nox (pss_cons (ps_if (pt_cmpR op_eq (pe_ix ix_tup (pv 0) pe_int (fun _ _ => rfl)) pe_str (nomark _)) (pss_one (ps_ret (pe_or (pe_cmpR op_eq (pv 2) pe_int (nomark _)) (pe_one (pe_cmpR op_ne (pe_ix ix_tup (pv 0) pe_int (fun _ _ => rfl)) (pv 1) (nomark _)))))) pss_nil) (pss_cons (ps_if (pt_cmpR op_eq (pe_call G_bound_name R_bound_name (by rfl) g_bound_name k_bound_name b_bound_name .nil pass0 (pa_cons (pv 0) pa_nil)) (pv 1) (nomark _)) (pss_one (ps_ret pe_bl)) pss_nil) (pss_cons (ps_if (pt_cmpR op_eq (pe_ix ix_tup (pv 0) pe_int (fun _ _ => rfl)) pe_str (nomark _)) (pss_one (ps_set (i := 2) sc_is_positive.nd rfl (Or.inl rfl) (pe_un un_neg (pv 2)))) pss_nil) (pss_cons (ps_if (pt_cmpR op_eq (pe_ix ix_tup (pv 0) pe_int (fun _ _ => rfl)) pe_str (nomark _)) (pss_one (ps_set (i := 2) sc_is_positive.nd rfl (Or.inl rfl) pe_int)) pss_nil) (pss_cons (ps_for PassesOwn.never rfl (pi_tup (pe_call G_inner R_inner (by rfl) g_inner k_inner b_inner .nil pass0 (pa_cons (pv 0) pa_nil))) (pg_name (i := 3) sc_is_positive.nd rfl (Or.inl rfl)) (pss_one (ps_if (pt_not (pt_val (pe_call G_is_positive_in R_is_positive_in (by rfl) g_is_positive_in k_is_positive_in b_is_positive_in .nil pass0 (pa_cons (pv 3) (pa_cons (pv 1) (pa_cons (pv 2) pa_nil)))))) (pss_one (ps_ret pe_bl)) pss_nil))) (pss_one (ps_ret pe_bl))))))), ?_⟩
      obtain ⟨h, ps⟩ := f
      rw [Fm.data_mk] at dp
      have fit : h.Ok (ps.map Fm.data).length := by rw [List.length_map]; exact ok.hd_
      obtain ⟨a, xs, rfl, hT, hx⟩ := hd_inv dp
      refine ⟨_, rfl, a, _, _, _, rfl, rfl, hT, atI_nat (j := 0) rfl, rfl, _, rfl, ?_⟩
      by_cases kr : h.kd = .rel
      · refine cT (k := decide (V.str h.word = V.str "rel")) (by rw [kw_rel, decide_eq_true kr]) ?_
        cases h with
        | rel m as =>
          obtain ⟨v1, ws1, rfl, h1, _⟩ := DpAll.cons_inv hx
          rw [Dp.str_inv h1] at hT
          have q' := q H (.refl H)
          rw [Fm.pos_rel] at q'
          refine ⟨_, rfl, rfl, _, rfl, ?_⟩
          by_cases e1 : sg = 1
          · refine cT (decide_eq_true (by rw [e1])) ?_
            have e2 : (sg == 1) = true := by rw [e1]; rfl
            rw [e2] at q'
            exact q'
          · refine cF (decide_eq_false fun z => e1 (V.int.inj z)) ⟨_, rfl, a, _, _, _, rfl, rfl, hT, atI_nat (j := 1) rfl, _, rfl, rfl, ?_⟩
            have e2 : (sg == 1) = false := by simpa using e1
            rw [e2] at q'
            have e3 : decide (V.str m = V.str name) = decide (m = name) := decide_eq_decide.mpr ⟨fun y => V.str.inj y, fun y => congrArg V.str y⟩
            show Q (.bl (!decide (V.str m = V.str name))) H
            rw [e3]
            exact q'
        | _ => cases kr
      · refine cF (k := decide (V.str h.word = V.str "rel")) (by rw [kw_rel, decide_eq_false kr]) ?_
        rw [Fm.pos_other kr] at q
        refine ⟨_, rfl, _, h, _, rfl, dp, fit.fits, fun H1 r1 s1 er => ?_⟩
        have eb : scal r1 (.str name) = true ∧ decide (r1 = V.str name) = decide (h.bname = some name) := by
          rw [er]
          cases eb : h.bound with
          | none =>
            refine ⟨rfl, ?_⟩
            have e1 : h.bname = none := by unfold Hd.bname; rw [eb]; rfl
            rw [e1]
            rfl
          | some z =>
            refine ⟨rfl, ?_⟩
            have e1 : h.bname = some z.1 := by unfold Hd.bname; rw [eb]; rfl
            rw [e1]
            exact decide_eq_decide.mpr ⟨fun y => congrArg some (V.str.inj y), fun y => congrArg V.str (Option.some.inj y)⟩
        refine ⟨_, rfl, eb.1, _, rfl, ?_⟩
        by_cases hb : h.bname = some name
        · refine cT (k := decide (r1 = V.str name)) (by rw [eb.2, decide_eq_true hb]) ?_
          have q' := q H1 s1
          rw [if_pos hb] at q'
          exact q'
        · refine cF (k := decide (r1 = V.str name)) (by rw [eb.2, decide_eq_false hb]) ?_
          have q' : ∀ H', Same H H' → Q (.bl (ps.all fun p => p.pos name (h.sgn sg))) H' := fun H' s' => by
            have := q H' s'
            rw [if_neg hb] at this
            exact this
          have hT1 := Same.sqt s1 hT
          have go : ∀ (σ : L2.St), σ = [some (.ref a), some (.str name), some (.int (h.sgn sg)), none] → tSeq (tFor (iTup K (tCall (spInner K) [] E0 (tCons (tVar 0) tNil))) (gName 3) (tIfS (tNot (tB (tCall (spPos K n) [] E0 (tCons (tVar 3) (tCons (tVar 1) (tCons (tVar 2) tNil)))))) (tRet (tC (.bl false))) tNext)) (tRet (tC (.bl true)))
              { nx := fun _ H' => Q .non H', rt := Q } σ H1 := by
            rintro σ rfl
            refine ⟨_, rfl, _, h, _, rfl, Dp.same s1 dp, fit.fits, fun H2 r s2 hr2 => ?_⟩
            obtain ⟨b, ys, rfl, hb2, hy⟩ := Dp.tup_inv hr2
            refine ⟨b, rfl, ⟨_, hb2⟩, for_tup (K := K) (a := b) (xs := ys) (fun i σ H3 => ∃ y3, σ = [some (.ref a), some (.str name), some (.int (h.sgn sg)), y3] ∧ Same H2 H3 ∧ ∀ p, p ∈ ps.take i → p.pos name (h.sgn sg) = true)
              ⟨none, rfl, .refl _, fun p hp => by simp at hp⟩ (fun i σ H3 _ ⟨_, _, s3, _⟩ => Same.sqt s3 hb2) ?_ ?_⟩
            · rintro i y σ H3 hi ⟨y3, rfl, s3, all⟩
              obtain ⟨d, hd, dpy⟩ := DpAll.get' hy hi
              obtain ⟨g, hg, rfl⟩ := get_map hd
              have mem := List.mem_of_getElem? hg
              have dl : g.dep < (Fm.mk h ps).dep := dep_part mem
              refine ⟨_, rfl, _, rfl, _, rfl, y, name, h.sgn sg, g, rfl, Dp.same s3 dpy, ok.part mem, by omega, fun H4 s4 => ⟨_, rfl, ?_⟩⟩
              cases eg : g.pos name (h.sgn sg) with
              | false =>
                refine iteT ?_
                have e7 : (ps.all fun p => p.pos name (h.sgn sg)) = false := by
                  cases z : (ps.all fun p => p.pos name (h.sgn sg)) with
                  | false => rfl
                  | true => rw [List.all_eq_true.mp z g mem] at eg; cases eg
                have := q' H4 (((s1.trans s2).trans s3).trans s4)
                rw [e7] at this
                exact this
              | true =>
                refine iteF ⟨_, rfl, s3.trans s4, fun p hp => ?_⟩
                rw [List.take_add_one, hg] at hp
                rcases List.mem_append.mp hp with hp | hp
                · exact all p hp
                · have e8 : p = g := by simpa using hp
                  rw [e8]; exact eg
            · rintro σ H3 ⟨y3, rfl, s3, all⟩
              have ey : ys.length = ps.length := by rw [DpAll.length hy, List.length_map]
              have e9 : (ps.all fun p => p.pos name (h.sgn sg)) = true := List.all_eq_true.mpr fun p hp => all p (by rw [List.take_of_length_le (by omega)]; exact hp)
              have := q' H3 ((s1.trans s2).trans s3)
              rw [e9] at this
              exact this
          refine ⟨_, rfl, a, _, _, _, rfl, rfl, hT1, atI_nat (j := 0) rfl, rfl, _, rfl, ?_⟩
          by_cases kn : h.kd = .no
          · refine cT (k := decide (V.str h.word = V.str "not")) (by rw [kw_not, decide_eq_true kn]) ⟨_, rfl, _, rfl, ?_⟩
            refine ⟨_, rfl, a, _, _, _, rfl, rfl, hT1, atI_nat (j := 0) rfl, rfl, _, rfl, ?_⟩
            refine cF (k := decide (V.str h.word = V.str "pfp")) (by rw [kw_pfp, decide_eq_false (by rw [kn]; exact fun z => nomatch z)]) ?_
            refine go _ ?_
            have e9 : h.sgn sg = -sg := by cases h <;> first | rfl | cases kn
            rw [e9]
            rfl
          · refine cF (k := decide (V.str h.word = V.str "not")) (by rw [kw_not, decide_eq_false kn]) ?_
            refine ⟨_, rfl, a, _, _, _, rfl, rfl, hT1, atI_nat (j := 0) rfl, rfl, _, rfl, ?_⟩
            by_cases kp : h.kd = .pfp
            · refine cT (k := decide (V.str h.word = V.str "pfp")) (by rw [kw_pfp, decide_eq_true kp]) ?_
              refine go _ ?_
              have e9 : h.sgn sg = 0 := by cases h <;> first | rfl | cases kp
              rw [e9]
              rfl
            · refine cF (k := decide (V.str h.word = V.str "pfp")) (by rw [kw_pfp, decide_eq_false kp]) ?_
              refine go _ ?_
              have e9 : h.sgn sg = sg := by cases h <;> first | rfl | exact absurd rfl kn | exact absurd rfl kp
              rw [e9]
              rfl
def spCF (K : PySem.W.Frag) (n : Nat) : Sp := fun vs H Q _ => ∃ (v : V) (f : Fm), vs = [v] ∧ Dp K H v f.data ∧ f.Ok ∧ f.PosOk ∧ f.dep ≤ n ∧ ∀ (H' : Hp), Same H H' → Q .non H'
theorem sc_check_fixed_points : FnScope ["formula", "part"] ["formula"] (defScope (top 86)) := ⟨rfl, rfl, rfl, by decide +kernel, rfl, by decide +kernel, by decide +kernel⟩
theorem has_check_fixed_points (D : Def K mg "_check_fixed_points" ["formula"] (top 86)) (C1 : ∀ n, Has P w K mg base (2 + n) "is_positive_in" ["formula", "name", "sign"] (spPos K n)) (C2 : Has P w K mg base 1 "inner" ["formula"] (spInner K)) :
    ∀ n : Nat, Has P w K mg base (3 + n) "_check_fixed_points" ["formula"] (spCF K n) := by
  obtain ⟨f2, fd2, G_inner, g_inner, k_inner, b_inner⟩ := C2
  intro n
  induction n with
  | zero =>
    refine D.has fun f fd F => F.ok sc_check_fixed_points (fun vs H Q E h => ?_) (fun cdv A outer s H vs Q E hr h => ?_)
    · obtain ⟨v, f, rfl, _⟩ := h; rfl
    · obtain ⟨v, f, rfl, _, _, _, h0, _⟩ := h
      have := dep_pos f
      omega
  | succ n ih =>
    obtain ⟨f1, fd1, G_is_positive_in, g_is_positive_in, k_is_positive_in, b_is_positive_in⟩ := C1 n
    obtain ⟨f3, fd3, G_check_fixed_points, g_check_fixed_points, k_check_fixed_points, b_check_fixed_points⟩ := ih
    refine D.has fun f fd F => F.ok sc_check_fixed_points (fun vs H Q E h => ?_) (fun cdv A outer s H vs Q E hr h => ?_)
    · obtain ⟨v, f, rfl, _⟩ := h; rfl
    · obtain ⟨v, f, rfl, dp, ok, po, hn, q⟩ := h
      have R_is_positive_in : Room (2 + n) _ := hr.mono (Nat.add_le_add_right (by decide) n)
      have R_inner : Room 1 _ := hr.mono (Nat.le_trans (by decide) (Nat.le_add_right 3 n))
      have R_check_fixed_points : Room (3 + n) _ := hr
      refine ⟨_, PSs.nox (pss_cons (ps_if (PW.pt (pw_and (pt_cmpR op_eq (pe_ix ix_tup (pv 0) pe_int (fun _ _ => rfl)) pe_str (nomark _)) (pw_and1 (pt_not (pt_val (pe_call G_is_positive_in R_is_positive_in (by rfl) g_is_positive_in k_is_positive_in b_is_positive_in .nil pass0 (pa_cons (pe_ix ix_tup (pv 0) pe_int (fun _ _ => rfl)) (pa_cons (pe_ix ix_tup (pv 0) pe_int (fun _ _ => rfl)) (pa_cons pe_int pa_nil))))))))) pss_never pss_nil) (pss_one (ps_for PassesOwn.never rfl (pi_tup (pe_call G_inner R_inner (by rfl) g_inner k_inner b_inner .nil pass0 (pa_cons (pv 0) pa_nil))) (pg_name (i := 1) sc_check_fixed_points.nd rfl (Or.inl rfl)) (pss_one (ps_expr (pe_call G_check_fixed_points R_check_fixed_points (by rfl) g_check_fixed_points k_check_fixed_points b_check_fixed_points .nil pass0 (pa_cons (pv 1) pa_nil))))))), ?_⟩
      obtain ⟨h, ps⟩ := f
      rw [Fm.data_mk] at dp
      have fit : h.Ok (ps.map Fm.data).length := by rw [List.length_map]; exact ok.hd_
      obtain ⟨a, xs, rfl, hT, hx⟩ := hd_inv dp
      have go : ∀ (H1 : Hp), Same H H1 → tFor (iTup K (tCall (spInner K) [] E0 (tCons (tVar 0) tNil))) (gName 1) (tDrop (tCall (spCF K n) [] E0 (tCons (tVar 1) tNil))) { nx := fun _ H' => Q .non H', rt := Q } [some (.ref a), none] H1 := by
        intro H1 s1
        refine ⟨_, rfl, _, h, _, rfl, Dp.same s1 dp, fit.fits, fun H2 r s2 hr2 => ?_⟩
        obtain ⟨b, ys, rfl, hb2, hy⟩ := Dp.tup_inv hr2
        refine ⟨b, rfl, ⟨_, hb2⟩, for_tup (K := K) (a := b) (xs := ys) (fun i σ H3 => ∃ y3, σ = [some (.ref a), y3] ∧ Same H2 H3) ⟨none, rfl, .refl _⟩ (fun i σ H3 _ ⟨_, _, s3⟩ => Same.sqt s3 hb2) ?_ ?_⟩
        · rintro i y σ H3 hi ⟨y3, rfl, s3⟩
          obtain ⟨d, hd, dpy⟩ := DpAll.get' hy hi
          obtain ⟨g, hg, rfl⟩ := get_map hd
          have mem := List.mem_of_getElem? hg
          have dl : g.dep < (Fm.mk h ps).dep := dep_part mem
          exact ⟨_, rfl, y, g, rfl, Dp.same s3 dpy, ok.part mem, po.part mem, by omega, fun H4 s4 => ⟨_, rfl, s3.trans s4⟩⟩
        · rintro σ H3 ⟨y3, rfl, s3⟩
          exact q H3 ((s1.trans s2).trans s3)
      refine ⟨_, rfl, a, _, _, _, rfl, rfl, hT, atI_nat (j := 0) rfl, rfl, _, rfl, ?_⟩
      by_cases kl : h.kd = .lfp
      · refine cT (k := decide (V.str h.word = V.str "lfp")) (by rw [kw_lfp, decide_eq_true kl]) ?_
        cases h with
        | lfp m us as =>
          have l1 : (ps.map Fm.data).length = 1 := fit.fits 1 rfl
          rw [List.length_map] at l1
          obtain ⟨g, rfl⟩ := List.length_eq_one_iff.mp l1
          obtain ⟨v1, ws1, rfl, h1, hx⟩ := DpAll.cons_inv hx
          obtain ⟨v2, ws2, rfl, h2, hx⟩ := DpAll.cons_inv hx
          obtain ⟨v3, ws3, rfl, h3, hx⟩ := DpAll.cons_inv hx
          rw [Dp.str_inv h1] at hT
          have mem : g ∈ [g] := List.mem_singleton.mpr rfl
          have dl : g.dep < (Fm.mk (.lfp m us as) [g]).dep := dep_part mem
          refine ⟨_, rfl, a, _, _, _, rfl, rfl, hT, atI_nat (j := 3) rfl, _, rfl, a, _, _, _, rfl, rfl, hT, atI_nat (j := 1) rfl, v3, m, 1, g, rfl, h3, ok.part mem, by omega, fun H1 s1 => ⟨_, rfl, ?_⟩⟩
          refine cF (k := !_) (by rw [po.here mem]; rfl) ?_
          exact go H1 s1
        | _ => cases kl
      · exact cF (k := decide (V.str h.word = V.str "lfp")) (by rw [kw_lfp, decide_eq_false kl]) (go H (.refl H))
end
/-! ### the symbols of a formula -/
def symStep (h : Hd) (xs : List (List (Str × Nat))) : List (Str × Nat) := match h with
  | .rel n as => [(n, as.length)]
  | _ => xs.flatten.filter fun p => !decide (h.bname = some p.1)
def Fm.syms : Fm → List (Str × Nat) := Fm.fold symStep
theorem Fm.syms_mk (h : Hd) (ps : List Fm) : (Fm.mk h ps).syms = symStep h (ps.map Fm.syms) := Fm.fold_mk symStep h ps
theorem Fm.syms_rel {n : Str} {as : List Str} {ps : List Fm} : (Fm.mk (.rel n as) ps).syms = [(n, as.length)] := Fm.syms_mk _ _
theorem Fm.syms_mem {h : Hd} {ps : List Fm} (nr : h.kd ≠ .rel) {p : Str × Nat} : p ∈ (Fm.mk h ps).syms ↔ h.bname ≠ some p.1 ∧ ∃ g, g ∈ ps ∧ p ∈ g.syms := by
  have e : symStep h (ps.map Fm.syms) = (ps.map Fm.syms).flatten.filter fun p => !decide (h.bname = some p.1) := by cases h <;> first | rfl | exact absurd rfl nr
  rw [Fm.syms_mk, e, List.mem_filter, List.mem_flatten]
  constructor
  · rintro ⟨⟨l, hl, hp⟩, hb⟩
    obtain ⟨g, hg, rfl⟩ := List.mem_map.mp hl
    exact ⟨by simpa using hb, g, hg, hp⟩
  · rintro ⟨hb, g, hg, hp⟩
    exact ⟨⟨_, List.mem_map.mpr ⟨g, hg, rfl⟩, hp⟩, by simpa using hb⟩
abbrev ArE := Str → Option Nat
def Hd.env (h : Hd) (Γ : ArE) : ArE := match h.bound with
  | some (n, k) => fun m => if m = n then some k else Γ m
  | none => Γ
/-- each name has the arity that Γ, or what binds it, says -/
inductive Fm.Typed : ArE → Fm → Prop
  | rel {Γ : ArE} {n : Str} {as : List Str} {ps : List Fm} (e : Γ n = some as.length) : Fm.Typed Γ (.mk (.rel n as) ps)
  | other {Γ : ArE} {h : Hd} {ps : List Fm} (nr : h.kd ≠ .rel) (b : ∀ p, p ∈ ps → Fm.Typed (h.env Γ) p) : Fm.Typed Γ (.mk h ps)
theorem Fm.Typed.part {Γ : ArE} {h : Hd} {ps : List Fm} (nr : h.kd ≠ .rel) (t : (Fm.mk h ps).Typed Γ) {p : Fm} (hp : p ∈ ps) : p.Typed (h.env Γ) := by
  cases t with
  | rel e => exact absurd rfl nr
  | other _ b => exact b p hp
theorem typed_sym : ∀ (f : Fm) (Γ : ArE), f.Typed Γ → ∀ p, p ∈ f.syms → Γ p.1 = some p.2 := fun f => Fm.ind (P := fun f => ∀ (Γ : ArE), f.Typed Γ → ∀ p, p ∈ f.syms → Γ p.1 = some p.2) (fun h ps ih Γ t p hp => by
  by_cases nr : h.kd = .rel
  · cases h with
    | rel n as =>
      rw [Fm.syms_rel] at hp
      have e := List.mem_singleton.mp hp
      subst e
      cases t with
      | rel e => exact e
      | other nr2 _ => exact absurd rfl nr2
    | _ => cases nr
  · obtain ⟨hb, g, hg, hpg⟩ := (Fm.syms_mem nr).mp hp
    have e := ih g hg _ (t.part nr hg) p hpg
    unfold Hd.env at e
    cases hbd : h.bound with
    | none => rw [hbd] at e; exact e
    | some z =>
      obtain ⟨n, k⟩ := z
      rw [hbd] at e
      have ne : p.1 ≠ n := fun z => hb (by unfold Hd.bname; rw [hbd, z]; rfl)
      simpa [ne] using e) f
theorem sum_lens : ∀ (ps : List Fm), (∀ p, p ∈ ps → p.syms.length ≤ p.cnt) → (ps.map Fm.syms).flatten.length ≤ sumN (ps.map Fm.cnt)
  | [], _ => Nat.zero_le _
  | p :: ps, h => by
    have a := h p (List.mem_cons_self ..)
    have b := sum_lens ps fun q hq => h q (List.mem_cons_of_mem _ hq)
    show ((p.syms) ++ (ps.map Fm.syms).flatten).length ≤ p.cnt + sumN (ps.map Fm.cnt)
    rw [List.length_append]
    omega
theorem syms_cnt : ∀ f : Fm, f.syms.length ≤ f.cnt := Fm.ind fun h ps ih => by
  rw [Fm.syms_mk, Fm.cnt_mk]
  have := sum_lens ps ih
  by_cases nr : h.kd = .rel
  · have e : (symStep h (ps.map Fm.syms)).length = 1 := by cases h <;> first | rfl | cases nr
    omega
  · have e : symStep h (ps.map Fm.syms) = (ps.map Fm.syms).flatten.filter fun p => !decide (h.bname = some p.1) := by cases h <;> first | rfl | exact absurd rfl nr
    rw [e]
    have := List.length_filter_le (fun p => !decide (h.bname = some p.1)) (ps.map Fm.syms).flatten
    omega
/-! dicts of names and numbers -/
def enc (p : Str × Nat) : Key × V := (Sum.inr p.1, .int (p.2 : Nat))
theorem val_enc : ∀ {l : List (Str × Nat)} {n : Str} {v : V}, valV (l.map enc) (Sum.inr n) = some v → ∃ a, (n, a) ∈ l ∧ v = .int (a : Nat)
  | [], n, v, h => by cases h
  | p :: l, n, v, h => by
    by_cases e : p.1 = n
    · rw [List.map_cons, valV_pos (by show Sum.inr p.1 = Sum.inr n; rw [e])] at h
      exact ⟨p.2, by rw [← e]; exact List.mem_cons_self .., (Option.some.inj h).symm⟩
    · rw [List.map_cons, valV_neg (by intro z; exact e (Sum.inr.inj z))] at h
      obtain ⟨a, h1, h2⟩ := val_enc h
      exact ⟨a, List.mem_cons_of_mem _ h1, h2⟩
theorem val_enc_none : ∀ {l : List (Str × Nat)} {n : Str}, valV (l.map enc) (Sum.inr n) = none ↔ ¬ n ∈ l.map (·.1)
  | [], n => by simp [valV]
  | p :: l, n => by
    by_cases e : p.1 = n
    · rw [List.map_cons, valV_pos (by show Sum.inr p.1 = Sum.inr n; rw [e])]
      simp [e]
    · rw [List.map_cons, valV_neg (by intro z; exact e (Sum.inr.inj z)), val_enc_none]
      have e2 : ¬ n = p.1 := fun z => e z.symm
      simp [e2]
theorem drop_enc (l : List (Str × Nat)) (n : Str) : dropK (l.map enc) (Sum.inr n) = (l.filter fun p => !decide (p.1 = n)).map enc := by
  unfold dropK
  rw [List.filter_map]
  congr 1
  refine List.filter_congr fun p _ => ?_
  show decide ((Sum.inr p.1 : Key) ≠ Sum.inr n) = !decide (p.1 = n)
  by_cases e : p.1 = n
  · rw [decide_eq_true e]
    exact decide_eq_false fun z => z (congrArg Sum.inr e)
  · rw [decide_eq_false e]
    exact decide_eq_true fun z => e (Sum.inr.inj z)
theorem val_of : ∀ {l : List (Str × Nat)} {n : Str} {a : Nat}, (l.map (·.1)).Nodup → (n, a) ∈ l → valV (l.map enc) (Sum.inr n) = some (.int (a : Nat))
  | [], _, _, _, h => nomatch h
  | p :: l, n, a, nd, h => by
    rw [List.map_cons] at nd
    obtain ⟨nd1, nd2⟩ := List.nodup_cons.mp nd
    by_cases e : p.1 = n
    · rw [List.map_cons, valV_pos (by show Sum.inr p.1 = Sum.inr n; rw [e])]
      rcases List.mem_cons.mp h with e1 | h
      · rw [← e1]; rfl
      · exact absurd (by rw [e]; exact List.mem_map.mpr ⟨_, h, rfl⟩) nd1
    · rw [List.map_cons, valV_neg (by intro z; exact e (Sum.inr.inj z))]
      rcases List.mem_cons.mp h with e1 | h
      · exact absurd (by rw [← e1]) e
      · exact val_of nd2 h
theorem nodup_val {l : List (Str × Nat)} {n : Str} {a b : Nat} : (l.map (·.1)).Nodup → (n, a) ∈ l → (n, b) ∈ l → a = b := by
  induction l with
  | nil => intro _ h; cases h
  | cons p l ih =>
    intro nd h1 h2
    rw [List.map_cons] at nd
    obtain ⟨nd1, nd2⟩ := List.nodup_cons.mp nd
    rcases List.mem_cons.mp h1 with e1 | h1
    · rcases List.mem_cons.mp h2 with e2 | h2
      · rw [← e1] at e2; exact (congrArg Prod.snd e2).symm
      · exact absurd (by rw [← e1]; exact List.mem_map.mpr ⟨_, h2, rfl⟩) nd1
    · rcases List.mem_cons.mp h2 with e2 | h2
      · exact absurd (by rw [← e2]; exact List.mem_map.mpr ⟨_, h1, rfl⟩) nd1
      · exact ih nd2 h1 h2
/-- the dict l holds just what stands in xs -/
structure DictOf (l xs : List (Str × Nat)) : Prop where
  nd : (l.map (·.1)).Nodup
  mem : ∀ p, p ∈ l ↔ p ∈ xs
theorem DictOf.add {l xs : List (Str × Nat)} {n : Str} {a : Nat} (d : DictOf l xs) (h : ¬ n ∈ l.map (·.1)) : DictOf (l ++ [(n, a)]) (xs ++ [(n, a)]) := by
  refine ⟨?_, fun p => by rw [List.mem_append, List.mem_append, d.mem]⟩
  rw [List.map_append, List.nodup_append]
  refine ⟨d.nd, by simp, fun x hx y hy => ?_⟩
  have : y = n := by simpa using hy
  rw [this]
  exact fun z => h (by rw [← z]; exact hx)
theorem DictOf.keep {l xs : List (Str × Nat)} {p : Str × Nat} (d : DictOf l xs) (h : p ∈ l) : DictOf l (xs ++ [p]) :=
  ⟨d.nd, fun q => by
    rw [List.mem_append, d.mem]
    exact ⟨.inl, fun z => z.elim id fun z => by rw [List.mem_singleton.mp z]; exact (d.mem p).mp h⟩⟩
theorem DictOf.as {l xs ys : List (Str × Nat)} (d : DictOf l xs) (e : ∀ p, p ∈ xs ↔ p ∈ ys) : DictOf l ys := ⟨d.nd, fun p => (d.mem p).trans (e p)⟩
theorem DictOf.len {l xs : List (Str × Nat)} (d : DictOf l xs) : l.length ≤ xs.length :=
  sub_len l xs (List.Pairwise.of_map (·.1) (fun a b hne e => hne (by rw [e])) d.nd) fun p hp => (d.mem p).mp hp
theorem take_flat {ps : List Fm} {i : Nat} {g : Fm} (h : ps[i]? = some g) : ((ps.take (i + 1)).map Fm.syms).flatten = ((ps.take i).map Fm.syms).flatten ++ g.syms := by
  rw [List.take_add_one, h, List.map_append, List.flatten_append]
  show _ ++ (g.syms ++ []) = _
  rw [List.append_nil]
/-- d is neither a list nor a tuple -/
def NotSeq (H : Hp) (d : Addr) : Prop := ∃ kvs, H d = some (.dK kvs)
section
variable {K : PySem.W.Frag} {H H' : Hp} {d : Addr}
theorem Kp.sqt' {a : Addr} {xs : List V} (k : Kp d H H') (n : NotSeq H d) (h : SqT K H a xs) : SqT K H' a xs := by
  obtain ⟨kvs, n⟩ := n
  rcases h with (h | ⟨o, h⟩) | h
  · exact .inl (.inl (k _ _ h (ne_of h n (fun z => nomatch z))))
  · exact .inl (.inr ⟨o, k _ _ h (ne_of h n (fun z => nomatch z))⟩)
  · exact .inr h
theorem Kp.sql' {a : Addr} {xs : List V} (k : Kp d H H') (n : NotSeq H d) (h : SqL K H a xs) : SqL K H' a xs := by
  obtain ⟨kvs, n⟩ := n
  rcases h with (h | ⟨o, h⟩) | h
  · exact .inl (.inl (k _ _ h (ne_of h n (fun z => nomatch z))))
  · exact .inl (.inr ⟨o, k _ _ h (ne_of h n (fun z => nomatch z))⟩)
  · exact .inr h
mutual
theorem Dp.kpD (k : Kp d H H') (n : NotSeq H d) : ∀ {v : V} {t : PyData}, Dp K H v t → Dp K H' v t
  | _, _, .non => .non
  | _, _, .bl b => .bl b
  | _, _, .int i => .int i
  | _, _, .str x => .str x
  | _, _, .lst h t => .lst (k.sql' n h) (DpAll.kpD k n t)
  | _, _, .tup h t => .tup (k.sqt' n h) (DpAll.kpD k n t)
theorem DpAll.kpD (k : Kp d H H') (n : NotSeq H d) : ∀ {vs : List V} {ts : List PyData}, DpAll K H vs ts → DpAll K H' vs ts
  | _, _, .nil => .nil
  | _, _, .cons h t => .cons (Dp.kpD k n h) (DpAll.kpD k n t)
end
end
section
variable {P : Program} {w : World} {K : PySem.W.Frag} {mg : Str → Option Value} {base : Heap}
def spAr (K : PySem.W.Frag) (n : Nat) : Sp := fun vs H Q _ => ∃ (v : V) (f : Fm) (Γ : ArE), vs = [v] ∧ Dp K H v f.data ∧ f.Ok ∧ f.Typed Γ ∧ f.dep ≤ n ∧ f.cnt ≤ 2000 ∧
  ∀ (H' : Hp) (d : Addr) (l : List (Str × Nat)), Same H H' → H d = none → H' d = some (.dK (l.map enc)) → DictOf l f.syms → Q (.ref d) H'
theorem sc_arities : FnScope ["formula", "found", "part", "within", "name", "bound"] ["formula"] (defScope (top 84)) := ⟨rfl, rfl, rfl, by decide +kernel, rfl, by decide +kernel, by decide +kernel⟩
theorem has_arities (D : Def K mg "arities_in" ["formula"] (top 84)) (T : Txt mg) (C1 : Has P w K mg base 1 "bound_name" ["formula"] (spBName K)) (C2 : Has P w K mg base 1 "inner" ["formula"] (spInner K)) (C3 : Has P w K mg base 1 "bound_arity" ["formula"] (spBArity K)) :
    ∀ n : Nat, Has P w K mg base (2 + n) "arities_in" ["formula"] (spAr K n) := by
  obtain ⟨f1, fd1, G_bound_name, g_bound_name, k_bound_name, b_bound_name⟩ := C1
  obtain ⟨f2, fd2, G_inner, g_inner, k_inner, b_inner⟩ := C2
  obtain ⟨f4, fd4, G_bound_arity, g_bound_arity, k_bound_arity, b_bound_arity⟩ := C3
  intro n
  induction n with
  | zero =>
    refine D.has fun f fd F => F.ok sc_arities (fun vs H Q E h => ?_) (fun cdv A outer s H vs Q E hr h => ?_)
    · obtain ⟨v, f, Γ, rfl, _⟩ := h; rfl
    · obtain ⟨v, f, Γ, rfl, _, _, _, h0, _⟩ := h
      have := dep_pos f
      omega
  | succ n ih =>
    obtain ⟨f3, fd3, G_arities_in, g_arities_in, k_arities_in, b_arities_in⟩ := ih
    refine D.has fun f fd F => F.ok sc_arities (fun vs H Q E h => ?_) (fun cdv A outer s H vs Q E hr h => ?_)
    · obtain ⟨v, f, Γ, rfl, _⟩ := h; rfl
    · obtain ⟨v, f, Γ, rfl, dp, ok, ty, hn, hc, q⟩ := h
      have R_bound_name : Room 1 _ := hr.mono (Nat.le_trans (by decide) (Nat.le_add_right 2 n))
      have R_bound_arity : Room 1 _ := hr.mono (Nat.le_trans (by decide) (Nat.le_add_right 2 n))
      have R_inner : Room 1 _ := hr.mono (Nat.le_trans (by decide) (Nat.le_add_right 2 n))
      have R_arities_in : Room (2 + n) _ := hr
      refine ⟨_, PSs.nox (pss_cons (ps_if (pt_cmpR op_eq (pe_ix ix_tup (pv 0) pe_int (fun _ _ => rfl)) pe_str (nomark _)) (pss_one (ps_ret (pe_disp (pps_cons (pe_ix ix_tup (pv 0) pe_int (fun _ _ => rfl)) (pe_callB call_len_seq (by rfl) T.n_len PySem.boot_len (pa_cons (pe_ix ix_tup (pv 0) pe_int (fun _ _ => rfl)) pa_nil)) pps_nil) (by rfl) (by rfl) (fun z => by cases z) (by decide)))) pss_nil) (pss_cons (ps_set (i := 1) sc_arities.nd rfl (Or.inl rfl) pe_dnewK) (pss_cons (ps_for PassesOwn.never rfl (pi_tup (pe_call G_inner R_inner (by rfl) g_inner k_inner b_inner .nil pass0 (pa_cons (pv 0) pa_nil))) (pg_name (i := 2) sc_arities.nd rfl (Or.inl rfl)) (pss_cons (ps_set (i := 3) sc_arities.nd rfl (Or.inl rfl) (pe_call G_arities_in R_arities_in (by rfl) g_arities_in k_arities_in b_arities_in .nil pass0 (pa_cons (pv 2) pa_nil))) (pss_one (ps_lock (ps_for PassesOwn.never rfl (pi_keys (pv 3)) (pg_name (i := 4) sc_arities.nd rfl (Or.inl rfl)) (pss_one (ps_if (pt_cmpR op_ne (pe_dsetd (pv 1) (pv 4) (pe_dget (hu_of hr) (pv 3) (pv 4) (fun _ _ => rfl)) ⟨rfl, rfl, rfl, rfl⟩) (pe_dget (hu_of hr) (pv 3) (pv 4) (fun _ _ => rfl)) (nomark _)) pss_never pss_nil))))))) (pss_cons (ps_set (i := 5) sc_arities.nd rfl (Or.inl rfl) (pe_call G_bound_name R_bound_name (by rfl) g_bound_name k_bound_name b_bound_name .nil pass0 (pa_cons (pv 0) pa_nil))) (pss_cons (ps_if (pt_cmp (pc_dinN (hu_of hr) (pv 5) (pv 1))) (pss_one (ps_if (pt_cmpR op_ne (pe_dpop1 (pv 1) (pv 5) ⟨rfl, rfl, rfl, rfl⟩) (pe_call G_bound_arity R_bound_arity (by rfl) g_bound_arity k_bound_arity b_bound_arity .nil pass0 (pa_cons (pv 0) pa_nil)) (nomark _)) pss_never pss_nil)) pss_nil) (pss_one (ps_ret (pv 1)))))))), ?_⟩
      obtain ⟨h, ps⟩ := f
      rw [Fm.data_mk] at dp
      have fit : h.Ok (ps.map Fm.data).length := by rw [List.length_map]; exact ok.hd_
      obtain ⟨a, xs, rfl, hT, hx⟩ := hd_inv dp
      refine ⟨_, rfl, a, _, _, _, rfl, rfl, hT, atI_nat (j := 0) rfl, rfl, _, rfl, ?_⟩
      by_cases kr : h.kd = .rel
      · refine cT (k := decide (V.str h.word = V.str "rel")) (by rw [kw_rel, decide_eq_true kr]) ?_
        cases h with
        | rel m as =>
          obtain ⟨v1, ws1, rfl, h1, hx⟩ := DpAll.cons_inv hx
          obtain ⟨v2, ws2, rfl, h2, _⟩ := DpAll.cons_inv hx
          rw [Dp.str_inv h1] at hT
          obtain ⟨t2, rfl, ht2⟩ := tS_inv h2
          intro p np
          have sp := same_upd (o := .dK []) np
          refine ⟨_, rfl, a, _, _, _, rfl, rfl, Same.sqt sp hT, atI_nat (j := 1) rfl, _, rfl, a, _, _, _, rfl, rfl, Same.sqt sp hT, atI_nat (j := 2) rfl, t2, _, rfl, .inr (Same.sqt sp ht2), upd_same, [enc (m, (as.map V.str).length)], rfl, (by show 1 ≤ 15; decide), ?_⟩
          refine q _ p [(m, as.length)] (fun b o eb => ?_) np ?_ ?_
          · rw [upd_ne (ne_of_none eb np)]
            exact sp _ _ eb
          · rw [upd_same, List.length_map]
            rfl
          · rw [Fm.syms_rel]
            exact ⟨by simp, fun _ => Iff.rfl⟩
        | _ => cases kr
      · refine cF (k := decide (V.str h.word = V.str "rel")) (by rw [kw_rel, decide_eq_false kr]) ?_
        -- found = {}
        intro d nd
        have s0 := same_upd (o := .dK []) nd
        have hd0 : (upd H d (.dK [])) d = some (.dK (([] : List (Str × Nat)).map enc)) := upd_same
        revert s0 hd0
        generalize upd H d (.dK []) = H0
        intro s0 hd0
        refine ⟨_, rfl, _, h, _, rfl, Dp.same s0 dp, fit.fits, fun H2 r s2 hr2 => ?_⟩
        obtain ⟨b, ys, rfl, hb2, hy⟩ := Dp.tup_inv hr2
        have s02 := s0.trans s2
        have ndb : ∀ {x : Addr} {o : HO}, H x = some o → x ≠ d := fun e z => by rw [z, nd] at e; cases e
        have n2 : NotSeq H2 d := ⟨_, s2 _ _ hd0⟩
        have same3 : ∀ {H3 : Hp}, Kp d H2 H3 → Same H H3 := fun k c o e => k c o (s02 c o e) (ndb e)
        have lenE : ∀ {l : List (Str × Nat)} {i : Nat}, DictOf l ((ps.take i).map Fm.syms).flatten → l.length ≤ 2000 := fun {l i} dd => by
          have e1 := dd.len
          have e2 : ((ps.take i).map Fm.syms).flatten.length ≤ (ps.map Fm.syms).flatten.length := by
            have z : (ps.map Fm.syms).flatten = ((ps.take i).map Fm.syms).flatten ++ ((ps.drop i).map Fm.syms).flatten := by rw [← List.flatten_append, ← List.map_append, List.take_append_drop]
            rw [z, List.length_append]
            omega
          have e3 := sum_lens ps fun p _ => syms_cnt p
          rw [Fm.cnt_mk] at hc
          omega
        refine ⟨b, rfl, ⟨_, hb2⟩, for_tup (K := K) (a := b) (xs := ys) (fun i σ H3 => ∃ (y2 y3 y4 : Option V) (l : List (Str × Nat)), σ = [some (.ref a), some (.ref d), y2, y3, y4, none] ∧ Kp d H2 H3 ∧ H3 d = some (.dK (List.map enc l)) ∧ DictOf l ((ps.take i).map Fm.syms).flatten)
          ⟨none, none, none, [], rfl, .refl _ _, s2 _ _ hd0, ⟨List.nodup_nil, fun p => by simp⟩⟩ (fun i σ H3 _ ⟨_, _, _, _, _, k3, _⟩ => k3.sqt' n2 hb2) ?_ ?_⟩
        · rintro i y σ H3 hi ⟨y2, y3, y4, l, rfl, k3, hd3, dl⟩
          obtain ⟨dd, hdd, dpy⟩ := DpAll.get' hy hi
          obtain ⟨g, hg, rfl⟩ := get_map hdd
          have mem := List.mem_of_getElem? hg
          have dep1 : g.dep < (Fm.mk h ps).dep := dep_part mem
          have cnt1 : g.cnt ≤ 2000 := by
            have := le_sumN (List.mem_map_of_mem (f := Fm.cnt) mem)
            rw [Fm.cnt_mk] at hc
            omega
          have tg := ty.part kr mem
          refine ⟨_, rfl, y, g, h.env Γ, rfl, Dp.kpD k3 n2 dpy, ok.part mem, tg, by omega, cnt1, fun H4 e l2 s4 ne he d2 => ?_⟩
          have ned : e ≠ d := fun z => by rw [z, hd3] at ne; cases ne
          have l2len : l2.length ≤ 2000 := by
            have := d2.len
            have := syms_cnt g
            omega
          refine ⟨e, .dK (l2.map enc), he, trivial, fun od => ?_⟩
          refine ⟨_, rfl, e, od, rfl, .inl ⟨_, upd_same, for_it walk_keys (fun j σ H5 => ∃ (y4 : Option V) (l' : List (Str × Nat)), σ = [some (.ref a), some (.ref d), some y, some (.ref e), y4, none] ∧ H5 e = some (.frz od (.dK (l2.map enc))) ∧ (∀ c o, H4 c = some o → c ≠ d → c ≠ e → H5 c = some o) ∧
            H5 d = some (.dK (l'.map enc)) ∧ DictOf l' (((ps.take i).map Fm.syms).flatten ++ l2.take j))
            ⟨y4, l, rfl, upd_same, fun c o ec nc ne2 => by rw [upd_ne ne2]; exact ec, by rw [upd_ne ned.symm]; exact s4 _ _ hd3, by rw [List.take_zero, List.append_nil]; exact dl⟩ (fun j σ H5 _ ⟨_, _, _, q1, _⟩ => q1) ?_ ?_⟩⟩
          · rintro j x σ H5 H6 hj ⟨y4, l', rfl, he5, k5, hd5, dl'⟩ ⟨rfl, kk, vv, hkv, rfl⟩
            obtain ⟨p, hp, ep⟩ := get_map hkv
            have ek : kk = Sum.inr p.1 := congrArg Prod.fst ep
            subst ek
            have pm := List.mem_of_getElem? hp
            have vp : valV (l2.map enc) (Sum.inr p.1) = some (.int (p.2 : Nat)) := val_of d2.nd pm
            have ep2 : (h.env Γ) p.1 = some p.2 := typed_sym g _ tg p ((d2.mem p).mp pm)
            have tk : l2.take (j + 1) = l2.take j ++ [p] := by rw [List.take_add_one, hp]; rfl
            have lens : l'.length < sizeLine := by
              have e1 := dl'.len
              rw [List.length_append] at e1
              have e2 : ((ps.take i).map Fm.syms).flatten.length ≤ 2000 := by
                have z : (ps.map Fm.syms).flatten = ((ps.take i).map Fm.syms).flatten ++ ((ps.drop i).map Fm.syms).flatten := by rw [← List.flatten_append, ← List.map_append, List.take_append_drop]
                have e3 := sum_lens ps fun p _ => syms_cnt p
                rw [Fm.cnt_mk] at hc
                rw [z, List.length_append] at e3
                omega
              have e4 := List.length_take_le j l2
              exact Nat.lt_of_le_of_lt (show l'.length ≤ 4000 by have := List.length_take_le' j l2; omega) (by decide)
            have get2 : ∀ H7 : Hp, H7 e = some (.frz od (.dK (l2.map enc))) → DGet H7 e (.str p.1) (some (.int (p.2 : Nat))) := fun H7 e7 => .inl ⟨_, Sum.inr p.1, .inr ⟨od, e7⟩, rfl, vp.symm⟩
            refine ⟨_, rfl, d, rfl, .inl ⟨_, Rd.of hd5⟩, _, rfl, _, rfl, _, rfl, e, _, rfl, get2 _ he5, _, Sum.inr p.1, hd5, rfl, by rw [List.length_map]; exact lens, fun v hv => ?_, fun hv => ?_⟩
            · obtain ⟨a2, ha2, rfl⟩ := val_enc hv
              have ea : (h.env Γ) p.1 = some a2 := by
                rcases List.mem_append.mp ((dl'.mem _).mp ha2) with z | z
                · obtain ⟨lz, hlz, hz⟩ := List.mem_flatten.mp z
                  obtain ⟨g2, hg2, rfl⟩ := List.mem_map.mp hlz
                  exact typed_sym g2 _ (ty.part kr (List.mem_of_mem_take hg2)) _ hz
                · exact typed_sym g _ tg _ ((d2.mem _).mp (List.mem_of_mem_take z))
              have e22 : a2 = p.2 := Option.some.inj (ea.symm.trans ep2)
              refine ⟨_, rfl, _, rfl, e, _, rfl, get2 _ he5, rfl, _, rfl, ?_⟩
              refine cF (k := !decide (V.int (a2 : Nat) = V.int (p.2 : Nat))) (by rw [e22, decide_eq_true rfl]; rfl) ?_
              refine ⟨_, l', rfl, he5, k5, hd5, ?_⟩
              rw [tk, ← List.append_assoc]
              rw [e22] at ha2
              exact dl'.keep ha2
            · have hn2 := val_enc_none.mp hv
              rw [putK_new _ hv]
              have e23 : (l'.map enc) ++ [((Sum.inr p.1 : Key), V.int (p.2 : Nat))] = (l' ++ [p]).map enc := by rw [List.map_append]; rfl
              rw [e23]
              have he6 : (upd H6 d (.dK ((l' ++ [p]).map enc))) e = some (.frz od (.dK (l2.map enc))) := by rw [upd_ne ned]; exact he5
              refine ⟨_, rfl, _, rfl, e, _, rfl, get2 _ he6, rfl, _, rfl, ?_⟩
              refine cF (k := !decide (V.int (p.2 : Nat) = V.int (p.2 : Nat))) (by rw [decide_eq_true rfl]; rfl) ?_
              refine ⟨_, l' ++ [p], rfl, he6, fun c o ec nc ne2 => by rw [upd_ne nc]; exact k5 c o ec nc ne2, upd_same, ?_⟩
              rw [tk, ← List.append_assoc]
              exact dl'.add hn2
          · rintro σ H5 ⟨y4, l', rfl, he5, k5, hd5, dl'⟩
            refine ⟨he5, _, _, _, l', rfl, fun c o ec nc => ?_, ?_, ?_⟩
            · have e3 := k3 c o ec nc
              have nce : c ≠ e := ne_of_none e3 ne
              rw [upd_ne nce]
              exact k5 c o (s4 _ _ e3) nc nce
            · rw [upd_ne ned.symm]
              exact hd5
            · have tl : l2.take (l2.map enc).length = l2 := List.take_of_length_le (by rw [List.length_map]; exact Nat.le_refl _)
              rw [tl] at dl'
              rw [take_flat hg]
              exact dl'.as fun p => by rw [List.mem_append, List.mem_append, d2.mem]
        · rintro σ H3 ⟨y2, y3, y4, l, rfl, k3, hd3, dl⟩
          have ey : ys.length = ps.length := by rw [DpAll.length hy, List.length_map]
          rw [List.take_of_length_le (show ps.length ≤ ys.length by omega)] at dl
          have s3 := same3 k3
          refine ⟨_, rfl, _, h, _, rfl, Dp.same s3 dp, fit.fits, fun H6 r1 s6 er => ?_⟩
          have er : r1 = match h.bound with | some (n, _) => V.str n | none => .non := er
          have hd6 := s6 _ _ hd3
          have s36 := s3.trans s6
          have fin : h.bname = none → Q (.ref d) H6 := fun hb => q H6 d l s36 nd hd6 (dl.as fun p => by
            rw [Fm.syms_mem kr, hb]
            constructor
            · intro z
              obtain ⟨lz, hlz, hz⟩ := List.mem_flatten.mp z
              obtain ⟨g2, hg2, rfl⟩ := List.mem_map.mp hlz
              exact ⟨(fun z => nomatch z), g2, hg2, hz⟩
            · rintro ⟨_, g2, hg2, hz⟩
              exact List.mem_flatten.mpr ⟨_, List.mem_map.mpr ⟨g2, hg2, rfl⟩, hz⟩)
          cases hbd : h.bound with
          | none =>
            rw [hbd] at er
            subst er
            refine ⟨_, rfl, _, rfl, .inr ⟨d, _, rfl, rfl, Rd.of hd6, _, rfl, iteF ?_⟩⟩
            exact ⟨_, rfl, fin (by unfold Hd.bname; rw [hbd]; rfl)⟩
          | some z =>
            obtain ⟨n0, k0⟩ := z
            rw [hbd] at er
            have hbn : h.bname = some n0 := by unfold Hd.bname; rw [hbd]; rfl
            subst er
            refine ⟨_, rfl, _, rfl, .inl ⟨d, _, rfl, DGet.k (k := Sum.inr n0) hd6, _, rfl, ?_⟩⟩
            cases hv : valV (l.map enc) (Sum.inr n0) with
            | none =>
              refine cF (k := (none : Option V).isSome) rfl ⟨_, rfl, q H6 d l s36 nd hd6 (dl.as fun p => ?_)⟩
              have nin := val_enc_none.mp hv
              rw [Fm.syms_mem kr, hbn]
              constructor
              · intro z
                have pl : p ∈ l := (dl.mem p).mpr z
                obtain ⟨lz, hlz, hz⟩ := List.mem_flatten.mp z
                obtain ⟨g2, hg2, rfl⟩ := List.mem_map.mp hlz
                exact ⟨fun z => nin (List.mem_map.mpr ⟨p, pl, (Option.some.inj z).symm⟩), g2, hg2, hz⟩
              · rintro ⟨_, g2, hg2, hz⟩
                exact List.mem_flatten.mpr ⟨_, List.mem_map.mpr ⟨g2, hg2, rfl⟩, hz⟩
            | some v =>
              obtain ⟨a2, ha2, rfl⟩ := val_enc hv
              have ea : a2 = k0 := by
                obtain ⟨lz, hlz, hz⟩ := List.mem_flatten.mp ((dl.mem _).mp ha2)
                obtain ⟨g2, hg2, rfl⟩ := List.mem_map.mp hlz
                have e1 := typed_sym g2 _ (ty.part kr hg2) _ hz
                unfold Hd.env at e1
                rw [hbd] at e1
                have e2 : some k0 = some a2 := by simpa using e1
                exact (Option.some.inj e2).symm
              refine cT (k := (some (V.int (a2 : Nat))).isSome) rfl ?_
              have s37 : Same H (upd H6 d (.dK (dropK (l.map enc) (Sum.inr n0)))) := fun c o e => by rw [upd_ne (ndb e)]; exact s36 c o e
              refine ⟨_, rfl, d, rfl, .inl ⟨_, Rd.of hd6⟩, _, rfl, _, Sum.inr n0, _, hd6, rfl, hv, ?_⟩
              refine ⟨_, rfl, _, h, _, n0, k0, rfl, Dp.same s37 dp, hbd, fun H7 s7 => ⟨rfl, _, rfl, ?_⟩⟩
              refine cF (k := !decide (V.int (a2 : Nat) = V.int (k0 : Nat))) (by rw [ea, decide_eq_true rfl]; rfl) ?_
              refine ⟨_, rfl, q H7 d (l.filter fun p => !decide (p.1 = n0)) (s37.trans s7) nd ?_ ⟨?_, fun p => ?_⟩⟩
              · rw [← drop_enc]
                exact s7 _ _ upd_same
              · exact List.Nodup.sublist ((List.filter_sublist (p := fun p => !decide (p.1 = n0)) (l := l)).map _) dl.nd
              · rw [List.mem_filter, dl.mem, Fm.syms_mem kr, hbn]
                constructor
                · rintro ⟨z, zn⟩
                  obtain ⟨lz, hlz, hz⟩ := List.mem_flatten.mp z
                  obtain ⟨g2, hg2, rfl⟩ := List.mem_map.mp hlz
                  refine ⟨fun z => ?_, g2, hg2, hz⟩
                  have e9 : n0 = p.1 := Option.some.inj z
                  rw [e9] at zn
                  simp at zn
                · rintro ⟨zn, g2, hg2, hz⟩
                  refine ⟨List.mem_flatten.mpr ⟨_, List.mem_map.mpr ⟨g2, hg2, rfl⟩, hz⟩, ?_⟩
                  have e9 : ¬ p.1 = n0 := fun z => zn (by rw [z])
                  simp [e9]
end
/-! ### check_formula of a right formula -/
structure Fm.Wf (f : Fm) : Prop where
  ok : f.Ok
  dep : f.dep ≤ 40
  cnt : f.cnt ≤ 2000
  pos : f.PosOk
  ty : ∃ Γ, f.Typed Γ
section
variable {P : Program} {w : World} {K : PySem.W.Frag} {mg : Str → Option Value} {base : Heap}
/-- a function of a right formula that changes nothing -/
def spWf (K : PySem.W.Frag) (R : Fm → V → Hp → Prop) : Sp := fun vs H Q _ => ∃ (v : V) (f : Fm), vs = [v] ∧ Dp K H v f.data ∧ f.Wf ∧ ∀ (H' : Hp) (r : V), Same H H' → R f r H' → Q r H'
abbrev spCheck (K : PySem.W.Frag) : Sp := spWf K fun _ r _ => r = .non
theorem sc_check_formula : FnScope ["formula"] ["formula"] (defScope (top 87)) := ⟨rfl, rfl, rfl, by decide +kernel, rfl, by decide +kernel, by decide +kernel⟩
theorem has_check_formula (D : Def K mg "check_formula" ["formula"] (top 87)) (k1 : ∃ t, mg "MOST_DEEP" = some (.int 40 t)) (k2 : ∃ t, mg "MOST_PARTS" = some (.int 2000 t))
    (C1 : ∀ n, Has P w K mg base (6 + n) "_check_shapes" ["value", "levels_left", "parts_left"] (spCS K n)) (C2 : ∀ n, Has P w K mg base (2 + n) "arities_in" ["formula"] (spAr K n)) (C3 : ∀ n, Has P w K mg base (3 + n) "_check_fixed_points" ["formula"] (spCF K n)) :
    Has P w K mg base 47 "check_formula" ["formula"] (spCheck K) := D.has fun f fd F => by
  obtain ⟨f1, fd1, G_check_shapes, g_check_shapes, k_check_shapes, b_check_shapes⟩ := C1 40
  obtain ⟨f2, fd2, G_arities_in, g_arities_in, k_arities_in, b_arities_in⟩ := C2 40
  obtain ⟨f3, fd3, G_check_fixed_points, g_check_fixed_points, k_check_fixed_points, b_check_fixed_points⟩ := C3 40
  obtain ⟨t1, c_MOST_DEEP⟩ := k1
  obtain ⟨t2, c_MOST_PARTS⟩ := k2
  refine F.ok sc_check_formula (fun vs H Q E h => ?_) (fun cdv A outer s H vs Q E hr h => ?_)
  · obtain ⟨v, f, rfl, _⟩ := h; rfl
  · obtain ⟨v, f, rfl, dp, wf, q⟩ := h
    have R_check_shapes : Room (6 + 40) _ := hr.mono (by decide)
    have R_arities_in : Room (2 + 40) _ := hr.mono (by decide)
    have R_check_fixed_points : Room (3 + 40) _ := hr.mono (by decide)
    refine ⟨_, PSs.nox (pss_cons (ps_expr (pe_call G_check_shapes R_check_shapes (by rfl) g_check_shapes k_check_shapes b_check_shapes .nil pass0 (pa_cons (pv 0) (pa_cons (pe_glob (v := .int 40) (by rfl) c_MOST_DEEP ⟨_, rfl⟩) (pa_cons (pe_glob (v := .int 2000) (by rfl) c_MOST_PARTS ⟨_, rfl⟩) pa_nil))))) (pss_cons (ps_expr (pe_call G_arities_in R_arities_in (by rfl) g_arities_in k_arities_in b_arities_in .nil pass0 (pa_cons (pv 0) pa_nil))) (pss_one (ps_expr (pe_call G_check_fixed_points R_check_fixed_points (by rfl) g_check_fixed_points k_check_fixed_points b_check_fixed_points .nil pass0 (pa_cons (pv 0) pa_nil)))))), ?_⟩
    obtain ⟨Γ, ty⟩ := wf.ty
    have h1 := wf.dep
    have h2 := wf.cnt
    refine ⟨_, rfl, v, 40, 2000, f, rfl, dp, wf.ok, h1, by omega, by omega, fun H1 s1 => ?_⟩
    refine ⟨_, rfl, v, f, Γ, rfl, Dp.same s1 dp, wf.ok, ty, h1, h2, fun H2 d l s2 _ _ _ => ?_⟩
    refine ⟨_, rfl, v, f, rfl, Dp.same (s1.trans s2) dp, wf.ok, wf.pos, h1, fun H3 s3 => ?_⟩
    exact q H3 .non ((s1.trans s2).trans s3) rfl
end
/-! ### errors that fly on, errors raised in a suite -/
section
variable {X : Cx}
theorem passN : Passes (L2N.CX X.prog X.w) X E0 := fun _ _ _ _ _ _ _ ⟨_, _, _, _, _, _, _, _, _, _, _, _, z⟩ => z.elim
/-- raise X('m') where nothing is handled, its context told -/
theorem ps_raiseXN {x m : Str} {j : Nat} {p p2 pos pos' : Pos} {W : WX} (c : XC X.K X.mg x) (hc : X.calm = true) (tk : L2N.Takes X W) (hg : Gl X x) (hdb : (x == ("__debug__" : Str)) = false := by decide) :
    PS X (.Raise (some (.Call (.Name x p) [.Constant (.str m) j p2] [] pos)) none pos') (fun _ σ H => W (.ref (He.ga X.K x)) none σ H) :=
  L2N.ps_raise hc tk (L2N.pmk_own PySem.F.excBase_ValueError c.ex c.g c.k (raises_own c.b c.t) hg hdb)
/-- X('m'), its six fields told -/
theorem pmk5X {x m : Str} {j : Nat} {p p2 pos : Pos} (c : XC X.K X.mg x) (hg : Gl X x) (hdb : (x == ("__debug__" : Str)) = false := by decide) : L2H.PMk5 X (.Call (.Name x p) [.Constant (.str m) j p2] [] pos) (fun _ G Q => Q (.ref (He.ga X.K x)) none G) := by
  intro ps s0 τ G Q J hq
  have one : PA X [.Constant (.str m) j p2] (tCons (tC (.str m)) tNil) := pa_cons pe_str pa_nil
  have ran := one.run pos ps s0 τ G (fun ws G1 => ws = [V.str m] ∧ G = G1) J ⟨rfl, rfl⟩
  refine wpAny_Call_Name_kw (ld_glob J hg c.g (PySem.W.callWith_K (h₀ := X.base) J.ok.mod.kin c.k (thn ran fun us t1 told => ?_)) hdb)
  obtain ⟨ws, G1, J1, rel, e1, e2⟩ := told
  subst e1 e2
  refine ⟨J1.kIn, ?_⟩
  cases rel with
  | cons ra rb =>
    cases rb
    obtain ⟨w1, w2, w3, w4, w5, w6, w7, w8, w9, w10, w11, w12, w13, w14, w15, w16, w17, oC, oN, oI, oT⟩ := exc_obj J1.kIn c.ex
    exact wpAny_call_exc_subT PySem.F.excBase_ValueError oT oC oN oI (fun g e made => L2H.mk_of5 J1 made (raises_own c.b c.t) hq (J1.hok.gone made.new)) (by show 1 ≤ sizeLine; decide)
end
/-! ### data of any kind: names, variables -/
def tyD : PyData → String
  | .none => "NoneType"
  | .bool _ => "bool"
  | .int _ => "int"
  | .str _ => "str"
  | .list _ => "list"
  | .tuple _ => "tuple"
  | .dict _ => "dict"
theorem ty_lstX {K : PySem.W.Frag} {H : Hp} {a : Addr} {xs : List V} (h : SqL K H a xs) : TyX K H (.ref a) (.type "list") := by
  rcases h with (h | ⟨o, h⟩) | ⟨o, its, n, h, c, _⟩
  · exact .base (.lst h)
  · exact .base (.frz h)
  · exact .kList h c
theorem dp_ty {K : PySem.W.Frag} {H : Hp} {v : V} {t : PyData} (h : Dp K H v t) : TyX K H v (.type (tyD t)) := by
  cases h with
  | non => exact .base .non
  | bl b => exact .base (.bl b)
  | int i => exact .base (.int i)
  | str x => exact .base (.str x)
  | lst h _ => exact ty_lstX h
  | tup h _ => exact ty_tup h
theorem hk_fit {n : Nat} (h : n ≤ 100001) : n < sizeLine := Nat.lt_of_le_of_lt h (by decide)
/-- data with no more than a hundred thousand things in a tuple or list, texts not too long -/
inductive Ord : PyData → Prop
  | non : Ord .none
  | bl (b : Bool) : Ord (.bool b)
  | int (i : Int) : Ord (.int i)
  | str {z : Str} (h : z.length ≤ sizeLine) : Ord (.str z)
  | lst {ts : List PyData} (l : ts.length ≤ 100000) (h : ∀ t, t ∈ ts → Ord t) : Ord (.list ts)
  | tup {ts : List PyData} (l : ts.length ≤ 100000) (h : ∀ t, t ∈ ts → Ord t) : Ord (.tuple ts)
theorem same_own {H H' : Hp} {p : Addr} {o : HO} (k : Same H H') (np : H p = none) : Same H (upd H' p o) := fun b x e => by
  rw [upd_ne (ne_of_none e np)]
  exact k b x e
theorem of_isNm {z : Str} (h : isNm z = true) : Nm z := by
  unfold isNm at h
  exact @of_decide_eq_true _ (_) h
theorem name_use {K : PySem.W.Frag} {H : Hp} {v : V} {t : PyData} {Q : VK} {E : XK} (dp : Dp K H v t) (o : Ord t) (q : ∀ b : Bool, (b = true → ∃ z, t = .str z ∧ Nm z) → Q (.bl b) H) : spIsName K [v] H Q E := by
  cases o with
  | str hz =>
    cases dp
    exact .inl ⟨_, rfl, hz, q _ fun e => ⟨_, rfl, of_isNm e⟩⟩
  | non => exact .inr ⟨_, _, rfl, dp_ty dp, (by decide +kernel), q false fun z => nomatch z⟩
  | bl b => exact .inr ⟨_, _, rfl, dp_ty dp, (by show kitB "bool" "str" = some false; decide +kernel), q false fun z => nomatch z⟩
  | int i => exact .inr ⟨_, _, rfl, dp_ty dp, (by show kitB "int" "str" = some false; decide +kernel), q false fun z => nomatch z⟩
  | lst _ _ => exact .inr ⟨_, _, rfl, dp_ty dp, (by show kitB "list" "str" = some false; decide +kernel), q false fun z => nomatch z⟩
  | tup _ _ => exact .inr ⟨_, _, rfl, dp_ty dp, (by show kitB "tuple" "str" = some false; decide +kernel), q false fun z => nomatch z⟩
theorem strs_of : ∀ ts : List PyData, (∀ t, t ∈ ts → ∃ z, t = .str z ∧ Nm z) → ∃ as : List Str, ts = as.map PyData.str ∧ Names as
  | [], _ => ⟨[], rfl, fun x hx => nomatch hx⟩
  | t :: ts, h => by
    obtain ⟨z, e, nz⟩ := h t (List.mem_cons_self ..)
    obtain ⟨as, e2, n2⟩ := strs_of ts fun x hx => h x (List.mem_cons_of_mem _ hx)
    exact ⟨z :: as, by rw [e, e2]; rfl, fun x hx => by
      rcases List.mem_cons.mp hx with rfl | hx
      · exact nz
      · exact n2 x hx⟩
def VarsD (t : PyData) (ns : List Int) : Prop := ∃ as : List Str, t = tS as ∧ Names as ∧ (as.length : Int) ∈ ns
def spVarsX (K : PySem.W.Frag) : Sp := fun vs H Q _ => ∃ (v : V) (t : PyData) (c : Addr) (ns : List Int), vs = [v, .ref c] ∧ Dp K H v t ∧ Ord t ∧ SqT K H c (ns.map V.int) ∧ ∀ (H' : Hp) (b : Bool), Same H H' → (b = true → VarsD t ns) → Q (.bl b) H'
def spDiffX (K : PySem.W.Frag) : Sp := fun vs H Q _ => ∃ (v : V) (t : PyData) (c : Addr) (ns : List Int), vs = [v, .ref c] ∧ Dp K H v t ∧ Ord t ∧ SqT K H c (ns.map V.int) ∧ (∀ i, i ∈ ns → i ≤ 1000) ∧ ∀ (H' : Hp) (b : Bool), Same H H' → (b = true → ∃ as : List Str, t = tS as ∧ Names as ∧ (as.length : Int) ∈ ns ∧ as.Nodup) → Q (.bl b) H'
def spWholeX (K : PySem.W.Frag) : Sp := fun vs H Q _ => ∃ (v : V) (t : PyData), vs = [v] ∧ Dp K H v t ∧ Ord t ∧ ∀ b : Bool, (b = true → ∃ i, t = .int i) → Q (.bl b) H
def spBetwX (K : PySem.W.Frag) : Sp := fun vs H Q _ => ∃ (v : V) (t : PyData) (lo hi : Int), vs = [v, .int lo, .int hi] ∧ Dp K H v t ∧ Ord t ∧ ∀ b : Bool, (b = true → ∃ i, t = .int i ∧ lo ≤ i ∧ i ≤ hi) → Q (.bl b) H
section
variable {P : Program} {w : World} {K : PySem.W.Frag} {mg : Str → Option Value} {base : Heap}
theorem has_varsX (D : Def K mg "_are_variables" ["value", "counts"] (top 37)) (T : Txt mg) (C1 : Has P w K mg base 1 "is_name" ["text"] (spIsName K)) : Has P w K mg base 2 "_are_variables" ["value", "counts"] (spVarsX K) := D.has fun f fd F => by
  obtain ⟨f1, fd1, G_is_name, g_is_name, k_is_name, b_is_name⟩ := C1
  refine F.ok sc_are_variables (fun vs H Q E h => ?_) (fun cdv A outer s H vs Q E hr h => ?_)
  · obtain ⟨v, as, c, ns, rfl, _⟩ := h; rfl
  · obtain ⟨v, t, c, ns, rfl, dp, o, hc, q⟩ := h
    have R_is_name : Room 1 _ := hr.mono (by decide)
    refine ⟨_, PSs.nox (pss_cons (ps_if (PW.pt (pw_or (pt_not (pt_val (pe_callB call_isi (by rfl) T.n_isinstance (by decide +kernel) (pa_cons (pv 0) (pa_cons (pe_bltn (v := .ty "tuple") (by rfl) T.n_tuple (by decide +kernel) rfl) pa_nil))))) (pw_or1 (pt_cmpR op_notIn_seq (pe_callB call_len_seq (by rfl) T.n_len PySem.boot_len (pa_cons (pv 0) pa_nil)) (pv 1) (by rfl))))) (pss_one (ps_ret pe_bl)) pss_nil) (pss_one (ps_ret (pe_callB (cr_all rfl) (by rfl) T.n_all (by decide +kernel) (pa_cons (pe_lc (own := [("variable", 2)]) rfl sc_are_variables.nd (pi_tup (pv 0)) (blkOk_by (N := ["value", "counts", "variable"]) (sc := defScope (top 37)) (by decide +kernel)) (fun _ _ _ _ _ => (pg_name (i := 2) sc_are_variables.nd rfl (Or.inl rfl))) (fun _ _ _ _ _ => pts_nil) (fun _ _ _ _ _ => (pe_call G_is_name R_is_name (by rfl) g_is_name k_is_name b_is_name .nil pass0 (pa_cons (pv 2) pa_nil)))) pa_nil))))), ?_⟩
    cases o with
    | tup l ho =>
      rename_i ts
      obtain ⟨a, ys, rfl, ht, hy⟩ := Dp.tup_inv dp
      have ly := DpAll.length hy
      refine ⟨_, rfl, _, _, _, _, _, rfl, .ty _, ty_tup ht, kit_ty (b := "tuple") (r := true) (by decide +kernel), _, rfl, iteF ?_⟩
      refine ⟨_, rfl, a, _, rfl, .inr ht, _, rfl, c, _, rfl, .inr hc, rfl, flat_ints ns, _, rfl, ?_⟩
      have el : inV (.int (ys.length : Nat)) (ns.map V.int) = decide ((ts.length : Int) ∈ ns) := by rw [inV_int, ly]
      by_cases hin : (ts.length : Int) ∈ ns
      · refine cF (k := !inV (.int (ys.length : Nat)) (ns.map V.int)) (by rw [el, decide_eq_true hin]; rfl) ?_
        refine ⟨_, rfl, a, rfl, ⟨_, ht⟩, fun L nL => ?_⟩
        refine lc_it (walk_tup (K := K) (a := a) (xs := ys)) (fun i H2 => ∃ bs : List Bool, H2 L = some (.lst (bs.map V.bl)) ∧ bs.length = i ∧ (bs.all id = true → ∀ d, d ∈ ts.take i → ∃ z, d = .str z ∧ Nm z) ∧ Same H H2)
          ⟨[], upd_same, rfl, (fun _ d hd => by simp at hd), same_upd nL⟩ (fun i H2 _ ⟨_, _, _, _, s2⟩ => Same.sqt s2 ht) ?_ ?_
        · rintro i y H2 H3 hi ⟨bs, hL, lb, ab, s2⟩ ⟨rfl, hyi⟩
          obtain ⟨d, hd, dpy⟩ := DpAll.get' hy hyi
          have mem := List.mem_of_getElem? hd
          refine ⟨rfl, _, rfl, ?_⟩
          dsimp only [tNil]
          refine name_use (Dp.same s2 dpy) (ho d mem) fun b hb => ?_
          have il : i < ts.length := (List.getElem?_eq_some_iff.mp hd).1
          refine ⟨bs.map V.bl, hL, hk_fit (by rw [List.length_map]; omega), bs ++ [b], ?_, by rw [List.length_append, lb]; rfl, fun e x hx => ?_, same_own s2 nL⟩
          · rw [upd_same, List.map_append]; rfl
          · rw [List.all_append] at e
            obtain ⟨e1, e2⟩ := Bool.and_eq_true_iff.mp e
            rw [List.take_add_one, hd] at hx
            rcases List.mem_append.mp hx with hx | hx
            · exact ab e1 x hx
            · rw [show x = d by simpa using hx]
              exact hb (by simpa using e2)
        · rintro H2 ⟨bs, hL, lb, ab, s2⟩
          refine ⟨L, bs, rfl, SqL.of hL, q H2 _ s2 fun e => ?_⟩
          rw [show ts.take ys.length = ts from List.take_of_length_le (by omega)] at ab
          obtain ⟨as, e1, n1⟩ := strs_of ts (ab e)
          exact ⟨as, by rw [e1]; rfl, n1, by rw [e1, List.length_map] at hin; exact hin⟩
      · refine cT (k := !inV (.int (ys.length : Nat)) (ns.map V.int)) (by rw [el, decide_eq_false hin]; rfl) (q H false (.refl H) fun z => nomatch z)
    | non => exact ⟨_, rfl, _, _, _, _, _, rfl, .ty _, dp_ty dp, kit_ty (b := "tuple") (r := false) (by decide +kernel), _, rfl, iteT (q H false (.refl H) fun z => nomatch z)⟩
    | bl b => exact ⟨_, rfl, _, _, _, _, _, rfl, .ty _, dp_ty dp, kit_ty (a := "bool") (b := "tuple") (r := false) (by decide +kernel), _, rfl, iteT (q H false (.refl H) fun z => nomatch z)⟩
    | int b => exact ⟨_, rfl, _, _, _, _, _, rfl, .ty _, dp_ty dp, kit_ty (a := "int") (b := "tuple") (r := false) (by decide +kernel), _, rfl, iteT (q H false (.refl H) fun z => nomatch z)⟩
    | str b => exact ⟨_, rfl, _, _, _, _, _, rfl, .ty _, dp_ty dp, kit_ty (a := "str") (b := "tuple") (r := false) (by decide +kernel), _, rfl, iteT (q H false (.refl H) fun z => nomatch z)⟩
    | lst _ _ => exact ⟨_, rfl, _, _, _, _, _, rfl, .ty _, dp_ty dp, kit_ty (a := "list") (b := "tuple") (r := false) (by decide +kernel), _, rfl, iteT (q H false (.refl H) fun z => nomatch z)⟩
theorem has_diffX (D : Def K mg "are_different" ["value", "counts"] (top 38)) (T : Txt mg) (C1 : Has P w K mg base 2 "_are_variables" ["value", "counts"] (spVarsX K)) : Has P w K mg base 3 "are_different" ["value", "counts"] (spDiffX K) := D.has fun f fd F => by
  obtain ⟨f1, fd1, G_are_variables, g_are_variables, k_are_variables, b_are_variables⟩ := C1
  refine F.ok sc_are_different (fun vs H Q E h => ?_) (fun cdv A outer s H vs Q E hr h => ?_)
  · obtain ⟨v, as, c, ns, rfl, _⟩ := h; rfl
  · obtain ⟨v, t, c, ns, rfl, dp, o, hc, sm, q⟩ := h
    have R_are_variables : Room 2 _ := hr.mono (by decide)
    refine ⟨_, PSs.nox (pss_one (ps_ret (pe_and (pe_call G_are_variables R_are_variables (by rfl) g_are_variables k_are_variables b_are_variables .nil pass0 (pa_cons (pv 0) (pa_cons (pv 1) pa_nil))) (pe_one (pe_cmpR op_eq (pe_callB call_lenSK (by rfl) T.n_len PySem.boot_len (pa_cons (pe_callTy (cr_setK rfl) (by rfl) T.n_set (by decide +kernel) (pa_cons (pv 0) pa_nil)) pa_nil)) (pe_callB call_len_seq (by rfl) T.n_len PySem.boot_len (pa_cons (pv 0) pa_nil)) (nomark _)))))), ?_⟩
    refine ⟨_, rfl, _, rfl, v, t, c, ns, rfl, dp, o, hc, fun H1 b s1 hb => ⟨_, rfl, ?_⟩⟩
    cases b with
    | false => exact iteF (q H1 false s1 fun z => nomatch z)
    | true =>
      refine iteT ?_
      obtain ⟨as, rfl, nm, few⟩ := hb rfl
      obtain ⟨t, rfl, ht⟩ := tS_inv (Dp.same s1 dp)
      have l1 : as.length ≤ 1000 := by
        have := sm _ few
        omega
      refine ⟨_, rfl, t, as.map Sum.inr, rfl, .inr (by rw [strs_kV]; exact ht), (by rw [List.length_map]; omega), fun p c2 np hc2 => ?_⟩
      have s2 := s1.trans (same_upd (o := SetK P w p (memK (as.map Sum.inr)) c2) np)
      refine ⟨p, _, _, rfl, upd_same, _, rfl, t, _, rfl, .inr (Same.sqt (same_upd np) ht), rfl, q _ _ s2 fun e => ⟨as, rfl, nm, few, ?_⟩⟩
      have z := hc2.all
      rw [nodup_inr, List.length_map] at z
      have h2 : (c2 : Int) = ((as.map V.str).length : Nat) := V.int.inj (of_decide_eq_true e)
      rw [List.length_map] at h2
      exact z.mp (by omega)
theorem has_wholeX (D : Def K mg "is_whole" ["value"] (top 9)) (T : Txt mg) : Has P w K mg base 1 "is_whole" ["value"] (spWholeX K) := D.has fun f fd F => by
  refine F.ok sc_is_whole (fun vs H Q E h => ?_) (fun cdv A outer s H vs Q E hr h => ?_)
  · obtain ⟨v, t, rfl, _⟩ := h; rfl
  · obtain ⟨v, t, rfl, dp, o, q⟩ := h
    refine ⟨_, PSs.nox (pss_one (ps_ret (pe_and (pe_callB call_isi (by rfl) T.n_isinstance (by decide +kernel) (pa_cons (pv 0) (pa_cons (pe_bltn (v := .ty "int") (by rfl) T.n_int (by decide +kernel) rfl) pa_nil))) (pe_one (pe_not (pe_callB call_isi (by rfl) T.n_isinstance (by decide +kernel) (pa_cons (pv 0) (pa_cons (pe_bltn (v := .ty "bool") (by rfl) T.n_bool (by decide +kernel) rfl) pa_nil)))))))), ?_⟩
    cases o with
    | int i => exact isi_q rfl (dp_ty dp) (m := "int") (b := true) (by decide +kernel) ⟨_, rfl, iteT (isi_q rfl (dp_ty dp) (m := "int") (b := false) (by decide +kernel) ⟨_, rfl, q _ fun _ => ⟨i, rfl⟩⟩)⟩
    | bl b => exact isi_q rfl (dp_ty dp) (m := "bool") (b := true) (by decide +kernel) ⟨_, rfl, iteT (isi_q rfl (dp_ty dp) (m := "bool") (b := true) (by decide +kernel) ⟨_, rfl, q _ fun z => nomatch z⟩)⟩
    | str z => exact isi_q rfl (dp_ty dp) (m := "str") (b := false) (by decide +kernel) ⟨_, rfl, iteF (q _ fun z => nomatch z)⟩
    | non => exact isi_q rfl (dp_ty dp) (m := "NoneType") (b := false) (by decide +kernel) ⟨_, rfl, iteF (q _ fun z => nomatch z)⟩
    | lst _ _ => exact isi_q rfl (dp_ty dp) (m := "list") (b := false) (by decide +kernel) ⟨_, rfl, iteF (q _ fun z => nomatch z)⟩
    | tup _ _ => exact isi_q rfl (dp_ty dp) (m := "tuple") (b := false) (by decide +kernel) ⟨_, rfl, iteF (q _ fun z => nomatch z)⟩
theorem has_betwX (D : Def K mg "is_between" ["value", "low", "high"] (top 10)) (C1 : Has P w K mg base 1 "is_whole" ["value"] (spWholeX K)) : Has P w K mg base 2 "is_between" ["value", "low", "high"] (spBetwX K) := D.has fun f fd F => by
  obtain ⟨f1, fd1, G_is_whole, g_is_whole, k_is_whole, b_is_whole⟩ := C1
  refine F.ok sc_is_between (fun vs H Q E h => ?_) (fun cdv A outer s H vs Q E hr h => ?_)
  · obtain ⟨v, t, lo, hi, rfl, _⟩ := h; rfl
  · obtain ⟨v, t, lo, hi, rfl, dp, o, q⟩ := h
    have R_is_whole : Room 1 _ := hr.mono (by decide)
    refine ⟨_, PSs.nox (pss_one (ps_ret (pe_and (pe_call G_is_whole R_is_whole (by rfl) g_is_whole k_is_whole b_is_whole .nil pass0 (pa_cons (pv 0) pa_nil)) (pe_one (pe_chain op_le op_le (pv 1) (pv 0) (pv 2)))))), ?_⟩
    refine ⟨_, rfl, v, t, rfl, dp, o, fun b hb => ⟨_, rfl, ?_⟩⟩
    cases b with
    | false => exact iteF (q _ fun z => nomatch z)
    | true =>
      obtain ⟨i, rfl⟩ := hb rfl
      obtain rfl := Dp.int_inv dp
      refine iteT ⟨_, rfl, _, rfl, _, _, rfl, rfl, _, rfl, ?_⟩
      by_cases e : lo ≤ i
      · exact cT (decide_eq_true e) ⟨_, rfl, _, _, rfl, rfl, q _ fun z => ⟨i, rfl, e, of_decide_eq_true z⟩⟩
      · exact cF (decide_eq_false e) (q _ fun z => nomatch z)
/-- a test of heads, of any data as long as the head's word says -/
def spTestX (K : PySem.W.Frag) (x : Str) : Sp := fun vs H Q _ => ∃ (v : V) (k : Kd) (ds : List PyData), vs = [v] ∧ Dp K H v (.tuple (.str k.word :: ds)) ∧ ds.length + 1 = k.many ∧ (∀ d, d ∈ ds → Ord d) ∧ k.test = x ∧
  ∀ (H' : Hp) (b : Bool), Same H H' → (b = true → ∃ (h : Hd) (ps : List PyData), ds = h.rest ps ∧ h.kd = k ∧ h.Ok ps.length) → Q (.bl b) H'
theorem len2 {α : Type} {l : List α} (h : l.length = 2) : ∃ a b, l = [a, b] := by
  match l, h with
  | [a, b], _ => exact ⟨a, b, rfl⟩
theorem len3 {α : Type} {l : List α} (h : l.length = 3) : ∃ a b c, l = [a, b, c] := by
  match l, h with
  | [a, b, c], _ => exact ⟨a, b, c, rfl⟩
theorem len4 {α : Type} {l : List α} (h : l.length = 4) : ∃ a b c d, l = [a, b, c, d] := by
  match l, h with
  | [a, b, c, d], _ => exact ⟨a, b, c, d, rfl⟩
theorem tup2 {H : Hp} {v : V} {w : Str} {a b : PyData} (dp : Dp K H v (.tuple [.str w, a, b])) : ∃ t v1 v2, v = .ref t ∧ SqT K H t [.str w, v1, v2] ∧ Dp K H v1 a ∧ Dp K H v2 b := by
  obtain ⟨t, xs, rfl, hT, hx⟩ := Dp.tup_inv dp
  obtain ⟨v0, ws, rfl, h0, hx⟩ := DpAll.cons_inv hx
  obtain ⟨v1, ws, rfl, h1, hx⟩ := DpAll.cons_inv hx
  obtain ⟨v2, ws, rfl, h2, hx⟩ := DpAll.cons_inv hx
  obtain rfl := DpAll.nil_inv hx
  rw [Dp.str_inv h0] at hT
  exact ⟨t, v1, v2, rfl, hT, h1, h2⟩
theorem tup3 {H : Hp} {v : V} {w : Str} {a b c : PyData} (dp : Dp K H v (.tuple [.str w, a, b, c])) : ∃ t v1 v2 v3, v = .ref t ∧ SqT K H t [.str w, v1, v2, v3] ∧ Dp K H v1 a ∧ Dp K H v2 b ∧ Dp K H v3 c := by
  obtain ⟨t, xs, rfl, hT, hx⟩ := Dp.tup_inv dp
  obtain ⟨v0, ws, rfl, h0, hx⟩ := DpAll.cons_inv hx
  obtain ⟨v1, ws, rfl, h1, hx⟩ := DpAll.cons_inv hx
  obtain ⟨v2, ws, rfl, h2, hx⟩ := DpAll.cons_inv hx
  obtain ⟨v3, ws, rfl, h3, hx⟩ := DpAll.cons_inv hx
  obtain rfl := DpAll.nil_inv hx
  rw [Dp.str_inv h0] at hT
  exact ⟨t, v1, v2, v3, rfl, hT, h1, h2, h3⟩
theorem tup4 {H : Hp} {v : V} {w : Str} {a b c d : PyData} (dp : Dp K H v (.tuple [.str w, a, b, c, d])) : ∃ t v1 v2 v3 v4, v = .ref t ∧ SqT K H t [.str w, v1, v2, v3, v4] ∧ Dp K H v1 a ∧ Dp K H v2 b ∧ Dp K H v3 c ∧ Dp K H v4 d := by
  obtain ⟨t, xs, rfl, hT, hx⟩ := Dp.tup_inv dp
  obtain ⟨v0, ws, rfl, h0, hx⟩ := DpAll.cons_inv hx
  obtain ⟨v1, ws, rfl, h1, hx⟩ := DpAll.cons_inv hx
  obtain ⟨v2, ws, rfl, h2, hx⟩ := DpAll.cons_inv hx
  obtain ⟨v3, ws, rfl, h3, hx⟩ := DpAll.cons_inv hx
  obtain ⟨v4, ws, rfl, h4, hx⟩ := DpAll.cons_inv hx
  obtain rfl := DpAll.nil_inv hx
  rw [Dp.str_inv h0] at hT
  exact ⟨t, v1, v2, v3, v4, rfl, hT, h1, h2, h3, h4⟩
theorem own6 : ∀ i, i ∈ ([1, 2, 3, 4, 5, 6] : List Int) → i ≤ 1000 := fun i h => by
  simp only [List.mem_cons, List.not_mem_nil, or_false] at h
  omega
theorem tc4 : ∀ i, i ∈ ([2, 4, 6, 8] : List Int) → i ≤ 1000 := fun i h => by
  simp only [List.mem_cons, List.not_mem_nil, or_false] at h
  omega
theorem counts7 {n : Nat} (h : (n : Int) ∈ ([0, 1, 2, 3, 4, 5, 6] : List Int)) : n ≤ 6 := by
  simp only [List.mem_cons, List.not_mem_nil, or_false] at h
  omega
theorem counts6 {n : Nat} (h : (n : Int) ∈ ([1, 2, 3, 4, 5, 6] : List Int)) : 1 ≤ n ∧ n ≤ 6 := by
  simp only [List.mem_cons, List.not_mem_nil, or_false] at h
  omega
theorem counts4 {n : Nat} (h : (n : Int) ∈ ([2, 4, 6, 8] : List Int)) : n = 2 ∨ n = 4 ∨ n = 6 ∨ n = 8 := by
  simp only [List.mem_cons, List.not_mem_nil, or_false] at h
  omega
theorem has_relX (D : Def K mg "_is_rel" ["value"] (top 39)) (S : Shp K w mg) (C1 : Has P w K mg base 1 "is_name" ["text"] (spIsName K)) (C2 : Has P w K mg base 2 "_are_variables" ["value", "counts"] (spVarsX K)) : Has P w K mg base 4 "_is_rel" ["value"] (spTestX K "_is_rel") := D.has fun f fd F => by
  obtain ⟨f1, fd1, G_is_name, g_is_name, k_is_name, b_is_name⟩ := C1
  obtain ⟨f2, fd2, G_are_variables, g_are_variables, k_are_variables, b_are_variables⟩ := C2
  have c_REL_COUNTS := S.relG
  refine F.ok sc_is_rel (fun vs H Q E h => ?_) (fun cdv A outer s H vs Q E hr h => ?_)
  · obtain ⟨v, k, ds, rfl, _⟩ := h; rfl
  · obtain ⟨v, k, ds, rfl, dp, len, os, tn, q⟩ := h
    have R_is_name : Room 1 _ := hr.mono (by decide)
    have R_are_variables : Room 2 _ := hr.mono (by decide)
    refine ⟨_, PSs.nox (pss_one (ps_ret (pe_and (pe_call G_is_name R_is_name (by rfl) g_is_name k_is_name b_is_name .nil pass0 (pa_cons (pe_ix ix_tup (pv 0) pe_int (fun _ _ => rfl)) pa_nil)) (pe_one (pe_call G_are_variables R_are_variables (by rfl) g_are_variables k_are_variables b_are_variables .nil pass0 (pa_cons (pe_ix ix_tup (pv 0) pe_int (fun _ _ => rfl)) (pa_cons (pe_glob (v := .ref (He.ga K "REL_COUNTS")) (by rfl) c_REL_COUNTS rfl) pa_nil))))))), ?_⟩
    obtain rfl := (kd_tn _).1 tn
    obtain ⟨d1, d2, rfl⟩ := len2 (show ds.length = 2 from Nat.succ.inj len)
    obtain ⟨a, v1, v2, rfl, hT, h1, h2⟩ := tup2 dp
    refine ⟨_, rfl, a, _, _, _, rfl, rfl, hT, atI_nat (j := 1) rfl, ?_⟩
    dsimp only [tNil]
    refine name_use h1 (os _ (List.mem_cons_self ..)) fun b hb => ⟨_, rfl, ?_⟩
    cases b with
    | false => exact iteF (q H _ (.refl H) fun z => nomatch z)
    | true =>
      obtain ⟨n, rfl, nn⟩ := hb rfl
      refine iteT ⟨_, rfl, a, _, _, _, rfl, rfl, hT, atI_nat (j := 2) rfl, v2, d2, _, [0, 1, 2, 3, 4, 5, 6], rfl, h2, os _ (List.mem_cons_of_mem _ (List.mem_cons_self ..)), S.relC _, fun H1 b s1 hb => q H1 b s1 fun e => ?_⟩
      obtain ⟨as, rfl, na, la⟩ := hb e
      exact ⟨.rel n as, [], rfl, rfl, nn, counts7 la, na, rfl⟩
theorem has_comparisonX (D : Def K mg "_is_comparison" ["value"] (top 40)) (C1 : Has P w K mg base 1 "is_name" ["text"] (spIsName K)) : Has P w K mg base 4 "_is_comparison" ["value"] (spTestX K "_is_comparison") := D.has fun f fd F => by
  obtain ⟨f1, fd1, G_is_name, g_is_name, k_is_name, b_is_name⟩ := C1
  refine F.ok sc_is_comparison (fun vs H Q E h => ?_) (fun cdv A outer s H vs Q E hr h => ?_)
  · obtain ⟨v, k, ds, rfl, _⟩ := h; rfl
  · obtain ⟨v, k, ds, rfl, dp, len, os, tn, q⟩ := h
    have R_is_name : Room 1 _ := hr.mono (by decide)
    refine ⟨_, PSs.nox (pss_one (ps_ret (pe_and (pe_call G_is_name R_is_name (by rfl) g_is_name k_is_name b_is_name .nil pass0 (pa_cons (pe_ix ix_tup (pv 0) pe_int (fun _ _ => rfl)) pa_nil)) (pe_one (pe_call G_is_name R_is_name (by rfl) g_is_name k_is_name b_is_name .nil pass0 (pa_cons (pe_ix ix_tup (pv 0) pe_int (fun _ _ => rfl)) pa_nil)))))), ?_⟩
    have kk := (kd_tn _).2.1 tn
    obtain ⟨d1, d2, rfl⟩ := len2 (show ds.length = 2 by rcases kk with rfl | rfl <;> exact Nat.succ.inj len)
    obtain ⟨a, v1, v2, rfl, hT, h1, h2⟩ := tup2 dp
    refine ⟨_, rfl, a, _, _, _, rfl, rfl, hT, atI_nat (j := 1) rfl, ?_⟩
    dsimp only [tNil]
    refine name_use h1 (os _ (List.mem_cons_self ..)) fun b hb => ⟨_, rfl, ?_⟩
    cases b with
    | false => exact iteF (q H _ (.refl H) fun z => nomatch z)
    | true =>
      obtain ⟨n, rfl, nn⟩ := hb rfl
      refine iteT ⟨_, rfl, a, _, _, _, rfl, rfl, hT, atI_nat (j := 2) rfl, ?_⟩
      dsimp only [tNil]
      refine name_use h2 (os _ (List.mem_cons_of_mem _ (List.mem_cons_self ..))) fun b hb => q H b (.refl H) fun e => ?_
      obtain ⟨m, rfl, nm⟩ := hb e
      rcases kk with rfl | rfl
      · exact ⟨.eq n m, [], rfl, rfl, nn, nm, rfl⟩
      · exact ⟨.less n m, [], rfl, rfl, nn, nm, rfl⟩
theorem kd_neg : ∀ k : Kd, k.test = "_is_negation" → k = .no := by intro k; cases k <;> decide +kernel
theorem has_negationX (D : Def K mg "_is_negation" ["_value"] (top 41)) : Has P w K mg base 4 "_is_negation" ["_value"] (spTestX K "_is_negation") := D.has fun f fd F => by
  refine F.ok sc_is_negation (fun vs H Q E h => ?_) (fun cdv A outer s H vs Q E hr h => ?_)
  · obtain ⟨v, k, ds, rfl, _⟩ := h; rfl
  · obtain ⟨v, k, ds, rfl, dp, len, os, tn, q⟩ := h
    refine ⟨_, PSs.nox (pss_one (ps_ret pe_bl)), ?_⟩
    obtain rfl := kd_neg _ tn
    obtain ⟨d, rfl⟩ := List.length_eq_one_iff.mp (show ds.length = 1 from Nat.succ.inj len)
    exact q H true (.refl H) fun _ => ⟨.no, [d], rfl, rfl, rfl⟩
theorem has_joinedX (D : Def K mg "_is_joined" ["value"] (top 42)) (T : Txt mg) (S : Shp K w mg) : Has P w K mg base 4 "_is_joined" ["value"] (spTestX K "_is_joined") := D.has fun f fd F => by
  obtain ⟨t1, c_MOST_JOINED⟩ := S.joined
  refine F.ok sc_is_joined (fun vs H Q E h => ?_) (fun cdv A outer s H vs Q E hr h => ?_)
  · obtain ⟨v, k, ds, rfl, _⟩ := h; rfl
  · obtain ⟨v, k, ds, rfl, dp, len, os, tn, q⟩ := h
    refine ⟨_, PSs.nox (pss_one (ps_ret (pe_and (pe_callB call_isi (by rfl) T.n_isinstance (by decide +kernel) (pa_cons (pe_ix ix_tup (pv 0) pe_int (fun _ _ => rfl)) (pa_cons (pe_bltn (v := .ty "tuple") (by rfl) T.n_tuple (by decide +kernel) rfl) pa_nil))) (pe_one (pe_cmpR op_le (pe_callB call_len_seq (by rfl) T.n_len PySem.boot_len (pa_cons (pe_ix ix_tup (pv 0) pe_int (fun _ _ => rfl)) pa_nil)) (pe_glob (v := .int 40) (by rfl) c_MOST_JOINED ⟨_, rfl⟩) (nomark _)))))), ?_⟩
    have kk := (kd_tn _).2.2.1 tn
    obtain ⟨d, rfl⟩ := List.length_eq_one_iff.mp (show ds.length = 1 by rcases kk with rfl | rfl <;> exact Nat.succ.inj len)
    obtain ⟨a, xs, rfl, hT, hx⟩ := Dp.tup_inv dp
    obtain ⟨v0, ws, rfl, h0, hx⟩ := DpAll.cons_inv hx
    obtain ⟨v1, ws, rfl, h1, hx⟩ := DpAll.cons_inv hx
    obtain rfl := DpAll.nil_inv hx
    rw [Dp.str_inv h0] at hT
    have od := os d (List.mem_cons_self ..)
    cases od with
    | @tup ts l ho =>
      obtain ⟨b, ys, rfl, hb, hy⟩ := Dp.tup_inv h1
      refine ⟨_, rfl, a, _, _, _, rfl, rfl, hT, atI_nat (j := 1) rfl, _, _, _, _, _, rfl, .ty _, ty_tup hb, kit_ty (b := "tuple") (r := true) (by decide +kernel), _, rfl, iteT ?_⟩
      refine ⟨_, rfl, a, _, _, _, rfl, rfl, hT, atI_nat (j := 1) rfl, b, _, rfl, .inr hb, _, _, rfl, rfl, q H _ (.refl H) fun e => ?_⟩
      have l40 : ts.length ≤ 40 := by
        have e2 : ((ys.length : Nat) : Int) ≤ 40 := of_decide_eq_true e
        rw [DpAll.length hy] at e2
        omega
      rcases kk with rfl | rfl
      · exact ⟨.con, ts, rfl, rfl, l40⟩
      · exact ⟨.dis, ts, rfl, rfl, l40⟩
    | non => exact ⟨_, rfl, a, _, _, _, rfl, rfl, hT, atI_nat (j := 1) rfl, _, _, _, _, _, rfl, .ty _, dp_ty h1, kit_ty (b := "tuple") (r := false) (by decide +kernel), _, rfl, iteF (q H _ (.refl H) fun z => nomatch z)⟩
    | bl b => exact ⟨_, rfl, a, _, _, _, rfl, rfl, hT, atI_nat (j := 1) rfl, _, _, _, _, _, rfl, .ty _, dp_ty h1, kit_ty (a := "bool") (b := "tuple") (r := false) (by decide +kernel), _, rfl, iteF (q H _ (.refl H) fun z => nomatch z)⟩
    | int b => exact ⟨_, rfl, a, _, _, _, rfl, rfl, hT, atI_nat (j := 1) rfl, _, _, _, _, _, rfl, .ty _, dp_ty h1, kit_ty (a := "int") (b := "tuple") (r := false) (by decide +kernel), _, rfl, iteF (q H _ (.refl H) fun z => nomatch z)⟩
    | str b => exact ⟨_, rfl, a, _, _, _, rfl, rfl, hT, atI_nat (j := 1) rfl, _, _, _, _, _, rfl, .ty _, dp_ty h1, kit_ty (a := "str") (b := "tuple") (r := false) (by decide +kernel), _, rfl, iteF (q H _ (.refl H) fun z => nomatch z)⟩
    | lst _ _ => exact ⟨_, rfl, a, _, _, _, rfl, rfl, hT, atI_nat (j := 1) rfl, _, _, _, _, _, rfl, .ty _, dp_ty h1, kit_ty (a := "list") (b := "tuple") (r := false) (by decide +kernel), _, rfl, iteF (q H _ (.refl H) fun z => nomatch z)⟩
theorem has_quantX (D : Def K mg "_is_quantified" ["value"] (top 43)) (S : Shp K w mg) (C3 : Has P w K mg base 3 "are_different" ["value", "counts"] (spDiffX K)) : Has P w K mg base 4 "_is_quantified" ["value"] (spTestX K "_is_quantified") := D.has fun f fd F => by
  obtain ⟨f3, fd3, G_are_different, g_are_different, k_are_different, b_are_different⟩ := C3
  have c_OWN_COUNTS := S.ownG
  refine F.ok sc_is_quantified (fun vs H Q E h => ?_) (fun cdv A outer s H vs Q E hr h => ?_)
  · obtain ⟨v, k, ds, rfl, _⟩ := h; rfl
  · obtain ⟨v, k, ds, rfl, dp, len, os, tn, q⟩ := h
    have R_are_different : Room 3 _ := hr.mono (by decide)
    refine ⟨_, PSs.nox (pss_one (ps_ret (pe_call G_are_different R_are_different (by rfl) g_are_different k_are_different b_are_different .nil pass0 (pa_cons (pe_ix ix_tup (pv 0) pe_int (fun _ _ => rfl)) (pa_cons (pe_glob (v := .ref (He.ga K "OWN_COUNTS")) (by rfl) c_OWN_COUNTS rfl) pa_nil))))), ?_⟩
    have kk := (kd_tn _).2.2.2.1 tn
    obtain ⟨d1, d2, rfl⟩ := len2 (show ds.length = 2 by rcases kk with rfl | rfl <;> exact Nat.succ.inj len)
    obtain ⟨a, v1, v2, rfl, hT, h1, h2⟩ := tup2 dp
    refine ⟨_, rfl, a, _, _, _, rfl, rfl, hT, atI_nat (j := 1) rfl, v1, d1, _, [1, 2, 3, 4, 5, 6], rfl, h1, os _ (List.mem_cons_self ..), S.ownC _, own6, fun H1 b s1 hb => q H1 b s1 fun e => ?_⟩
    obtain ⟨us, rfl, nu, lu, du⟩ := hb e
    have two := counts6 lu
    rcases kk with rfl | rfl
    · exact ⟨.ex us, [d2], rfl, rfl, ⟨two.1, two.2, nu, du⟩, rfl⟩
    · exact ⟨.al us, [d2], rfl, rfl, ⟨two.1, two.2, nu, du⟩, rfl⟩
theorem has_fixX (D : Def K mg "_is_fixed_point" ["value"] (top 44)) (T : Txt mg) (S : Shp K w mg) (C1 : Has P w K mg base 1 "is_name" ["text"] (spIsName K)) (C2 : Has P w K mg base 2 "_are_variables" ["value", "counts"] (spVarsX K))
    (C3 : Has P w K mg base 3 "are_different" ["value", "counts"] (spDiffX K)) : Has P w K mg base 4 "_is_fixed_point" ["value"] (spTestX K "_is_fixed_point") := D.has fun f fd F => by
  obtain ⟨f1, fd1, G_is_name, g_is_name, k_is_name, b_is_name⟩ := C1
  obtain ⟨f2, fd2, G_are_variables, g_are_variables, k_are_variables, b_are_variables⟩ := C2
  obtain ⟨f3, fd3, G_are_different, g_are_different, k_are_different, b_are_different⟩ := C3
  have c_OWN_COUNTS := S.ownG
  refine F.ok sc_is_fixed_point (fun vs H Q E h => ?_) (fun cdv A outer s H vs Q E hr h => ?_)
  · obtain ⟨v, k, ds, rfl, _⟩ := h; rfl
  · obtain ⟨v, k, ds, rfl, dp, len, os, tn, q⟩ := h
    have R_is_name : Room 1 _ := hr.mono (by decide)
    have R_are_variables : Room 2 _ := hr.mono (by decide)
    have R_are_different : Room 3 _ := hr.mono (by decide)
    refine ⟨_, PSs.nox (pss_cons (ps_if (PW.pt (pw_or (pt_not (pt_val (pe_call G_is_name R_is_name (by rfl) g_is_name k_is_name b_is_name .nil pass0 (pa_cons (pe_ix ix_tup (pv 0) pe_int (fun _ _ => rfl)) pa_nil)))) (pw_or1 (pt_not (pt_val (pe_call G_are_different R_are_different (by rfl) g_are_different k_are_different b_are_different .nil pass0 (pa_cons (pe_ix ix_tup (pv 0) pe_int (fun _ _ => rfl)) (pa_cons (pe_glob (v := .ref (He.ga K "OWN_COUNTS")) (by rfl) c_OWN_COUNTS rfl) pa_nil)))))))) (pss_one (ps_ret pe_bl)) pss_nil) (pss_one (ps_ret (pe_call G_are_variables R_are_variables (by rfl) g_are_variables k_are_variables b_are_variables .nil pass0 (pa_cons (pe_ix ix_tup (pv 0) pe_int (fun _ _ => rfl)) (pa_cons (pe_tup (pa_cons (pe_callB call_len_seq (by rfl) T.n_len PySem.boot_len (pa_cons (pe_ix ix_tup (pv 0) pe_int (fun _ _ => rfl)) pa_nil)) pa_nil)) pa_nil)))))), ?_⟩
    have kk := (kd_tn _).2.2.2.2.1 tn
    obtain ⟨d1, d2, d3, d4, rfl⟩ := len4 (show ds.length = 4 by rcases kk with rfl | rfl <;> exact Nat.succ.inj len)
    obtain ⟨a, v1, v2, v3, v4, rfl, hT, h1, h2, h3, h4⟩ := tup4 dp
    have o1 := os d1 (by simp)
    have o2 := os d2 (by simp)
    have o4 := os d4 (by simp)
    refine ⟨_, rfl, a, _, _, _, rfl, rfl, hT, atI_nat (j := 1) rfl, ?_⟩
    dsimp only [tNil]
    refine name_use h1 o1 fun b hb => ⟨_, rfl, ?_⟩
    cases b with
    | false => exact cT (k := !false) rfl (q H _ (.refl H) fun z => nomatch z)
    | true =>
      obtain ⟨n, rfl, nn⟩ := hb rfl
      refine cF (k := !true) rfl ⟨_, rfl, a, _, _, _, rfl, rfl, hT, atI_nat (j := 2) rfl, v2, d2, _, [1, 2, 3, 4, 5, 6], rfl, h2, o2, S.ownC _, own6, fun H1 b s1 hb => ⟨_, rfl, ?_⟩⟩
      cases b with
      | false => exact cT (k := !false) rfl (q H1 _ s1 fun z => nomatch z)
      | true =>
        refine cF (k := !true) rfl ?_
        obtain ⟨us, rfl, nu, lu, du⟩ := hb rfl
        have two := counts6 lu
        have hT1 := Same.sqt s1 hT
        obtain ⟨t2, rfl, ht2⟩ := tS_inv (Dp.same s1 h2)
        refine ⟨_, rfl, a, _, _, _, rfl, rfl, hT1, atI_nat (j := 4) rfl, _, rfl, a, _, _, _, rfl, rfl, hT1, atI_nat (j := 2) rfl, t2, _, rfl, .inr ht2, (by show 1 ≤ sizeLine; decide), fun p np => ?_⟩
        refine ⟨v4, d4, p, [((us.map V.str).length : Nat)], rfl, Dp.same (s1.trans (same_upd np)) h4, o4, SqT.of upd_same, fun H2 b s2 hb => q H2 b ((s1.trans (same_upd np)).trans s2) fun e => ?_⟩
        obtain ⟨as, rfl, na, la⟩ := hb e
        have el : as.length = us.length := by
          have := List.mem_singleton.mp la
          rw [List.length_map] at this
          omega
        rcases kk with rfl | rfl
        · exact ⟨.lfp n us as, [d3], rfl, rfl, nn, ⟨two.1, two.2, nu, du⟩, el, na, rfl⟩
        · exact ⟨.pfp n us as, [d3], rfl, rfl, nn, ⟨two.1, two.2, nu, du⟩, el, na, rfl⟩
theorem has_cloX (D : Def K mg "_is_closure" ["value"] (top 45)) (T : Txt mg) (S : Shp K w mg) (C2 : Has P w K mg base 2 "_are_variables" ["value", "counts"] (spVarsX K))
    (C3 : Has P w K mg base 3 "are_different" ["value", "counts"] (spDiffX K)) : Has P w K mg base 4 "_is_closure" ["value"] (spTestX K "_is_closure") := D.has fun f fd F => by
  obtain ⟨f2, fd2, G_are_variables, g_are_variables, k_are_variables, b_are_variables⟩ := C2
  obtain ⟨f3, fd3, G_are_different, g_are_different, k_are_different, b_are_different⟩ := C3
  have c_TC_COUNTS := S.tcG
  refine F.ok sc_is_closure (fun vs H Q E h => ?_) (fun cdv A outer s H vs Q E hr h => ?_)
  · obtain ⟨v, k, ds, rfl, _⟩ := h; rfl
  · obtain ⟨v, k, ds, rfl, dp, len, os, tn, q⟩ := h
    have R_are_variables : Room 2 _ := hr.mono (by decide)
    have R_are_different : Room 3 _ := hr.mono (by decide)
    refine ⟨_, PSs.nox (pss_one (ps_ret (pe_and (pe_call G_are_different R_are_different (by rfl) g_are_different k_are_different b_are_different .nil pass0 (pa_cons (pe_ix ix_tup (pv 0) pe_int (fun _ _ => rfl)) (pa_cons (pe_glob (v := .ref (He.ga K "TC_COUNTS")) (by rfl) c_TC_COUNTS rfl) pa_nil))) (pe_one (pe_call G_are_variables R_are_variables (by rfl) g_are_variables k_are_variables b_are_variables .nil pass0 (pa_cons (pe_ix ix_tup (pv 0) pe_int (fun _ _ => rfl)) (pa_cons (pe_tup (pa_cons (pe_callB call_len_seq (by rfl) T.n_len PySem.boot_len (pa_cons (pe_ix ix_tup (pv 0) pe_int (fun _ _ => rfl)) pa_nil)) pa_nil)) pa_nil))))))), ?_⟩
    obtain rfl := (kd_tn _).2.2.2.2.2.1 tn
    obtain ⟨d1, d2, d3, rfl⟩ := len3 (show ds.length = 3 from Nat.succ.inj len)
    obtain ⟨a, v1, v2, v3, rfl, hT, h1, h2, h3⟩ := tup3 dp
    have o1 := os d1 (by simp)
    have o3 := os d3 (by simp)
    refine ⟨_, rfl, a, _, _, _, rfl, rfl, hT, atI_nat (j := 1) rfl, v1, d1, _, [2, 4, 6, 8], rfl, h1, o1, S.tcC _, tc4, fun H1 b s1 hb => ⟨_, rfl, ?_⟩⟩
    cases b with
    | false => exact iteF (q H1 _ s1 fun z => nomatch z)
    | true =>
      refine iteT ?_
      obtain ⟨us, rfl, nu, lu, du⟩ := hb rfl
      have hT1 := Same.sqt s1 hT
      obtain ⟨t2, rfl, ht2⟩ := tS_inv (Dp.same s1 h1)
      refine ⟨_, rfl, a, _, _, _, rfl, rfl, hT1, atI_nat (j := 3) rfl, _, rfl, a, _, _, _, rfl, rfl, hT1, atI_nat (j := 1) rfl, t2, _, rfl, .inr ht2, (by show 1 ≤ sizeLine; decide), fun p np => ?_⟩
      refine ⟨v3, d3, p, [((us.map V.str).length : Nat)], rfl, Dp.same (s1.trans (same_upd np)) h3, o3, SqT.of upd_same, fun H2 b s2 hb => q H2 b ((s1.trans (same_upd np)).trans s2) fun e => ?_⟩
      obtain ⟨as, rfl, na, la⟩ := hb e
      have el : as.length = us.length := by
        have := List.mem_singleton.mp la
        rw [List.length_map] at this
        omega
      exact ⟨.tc us as, [d2], rfl, rfl, counts4 lu, nu, du, el, na, rfl⟩
theorem has_guessX (D : Def K mg "_is_guess" ["value"] (top 46)) (S : Shp K w mg) (C1 : Has P w K mg base 1 "is_name" ["text"] (spIsName K)) (C2 : Has P w K mg base 2 "is_between" ["value", "low", "high"] (spBetwX K)) : Has P w K mg base 4 "_is_guess" ["value"] (spTestX K "_is_guess") := D.has fun f fd F => by
  obtain ⟨f1, fd1, G_is_name, g_is_name, k_is_name, b_is_name⟩ := C1
  obtain ⟨f2, fd2, G_is_between, g_is_between, k_is_between, b_is_between⟩ := C2
  obtain ⟨t1, c_LARGEST_GUESS⟩ := S.guess
  refine F.ok sc_is_guess (fun vs H Q E h => ?_) (fun cdv A outer s H vs Q E hr h => ?_)
  · obtain ⟨v, k, ds, rfl, _⟩ := h; rfl
  · obtain ⟨v, k, ds, rfl, dp, len, os, tn, q⟩ := h
    have R_is_name : Room 1 _ := hr.mono (by decide)
    have R_is_between : Room 2 _ := hr.mono (by decide)
    refine ⟨_, PSs.nox (pss_one (ps_ret (pe_and (pe_call G_is_name R_is_name (by rfl) g_is_name k_is_name b_is_name .nil pass0 (pa_cons (pe_ix ix_tup (pv 0) pe_int (fun _ _ => rfl)) pa_nil)) (pe_one (pe_call G_is_between R_is_between (by rfl) g_is_between k_is_between b_is_between .nil pass0 (pa_cons (pe_ix ix_tup (pv 0) pe_int (fun _ _ => rfl)) (pa_cons pe_int (pa_cons (pe_glob (v := .int 3) (by rfl) c_LARGEST_GUESS ⟨_, rfl⟩) pa_nil)))))))), ?_⟩
    obtain rfl := (kd_tn _).2.2.2.2.2.2 tn
    obtain ⟨d1, d2, d3, rfl⟩ := len3 (show ds.length = 3 from Nat.succ.inj len)
    obtain ⟨a, v1, v2, v3, rfl, hT, h1, h2, h3⟩ := tup3 dp
    have o1 := os d1 (by simp)
    have o2 := os d2 (by simp)
    refine ⟨_, rfl, a, _, _, _, rfl, rfl, hT, atI_nat (j := 1) rfl, ?_⟩
    dsimp only [tNil]
    refine name_use h1 o1 fun b hb => ⟨_, rfl, ?_⟩
    cases b with
    | false => exact iteF (q H _ (.refl H) fun z => nomatch z)
    | true =>
      obtain ⟨n, rfl, nn⟩ := hb rfl
      refine iteT ⟨_, rfl, a, _, _, _, rfl, rfl, hT, atI_nat (j := 2) rfl, v2, d2, 0, 3, rfl, h2, o2, fun b hb => q H b (.refl H) fun e => ?_⟩
      obtain ⟨i, rfl, i0, i3⟩ := hb e
      obtain ⟨j, rfl⟩ : ∃ j : Nat, i = (j : Int) := ⟨i.toNat, by omega⟩
      exact ⟨.gs n j, [d3], rfl, rfl, nn, by omega, rfl⟩
end
/-! ### data of any kind: is it a formula -/
def spShapeX (K : PySem.W.Frag) : Sp := fun vs H Q _ => ∃ (v : V) (t : PyData), vs = [v] ∧ Dp K H v t ∧ Ord t ∧ (∀ w ds, t = .tuple (.str w :: ds) → w ∈ words12 ++ (["rell"] : List Str)) ∧
  ∀ (H' : Hp) (b : Bool), Same H H' → (b = true → ∃ (h : Hd) (ps : List PyData), t = h.data ps ∧ h.Ok ps.length) → Q (.bl b) H'
theorem word_of {w : Str} (h : w ∈ words12) : ∃ k : Kd, k.word = w := by
  simp only [words12, List.mem_cons, List.not_mem_nil, or_false] at h
  rcases h with rfl | rfl | rfl | rfl | rfl | rfl | rfl | rfl | rfl | rfl | rfl | rfl
  · exact ⟨.rel, rfl⟩
  · exact ⟨.eq, rfl⟩
  · exact ⟨.less, rfl⟩
  · exact ⟨.no, rfl⟩
  · exact ⟨.con, rfl⟩
  · exact ⟨.dis, rfl⟩
  · exact ⟨.ex, rfl⟩
  · exact ⟨.al, rfl⟩
  · exact ⟨.lfp, rfl⟩
  · exact ⟨.pfp, rfl⟩
  · exact ⟨.tc, rfl⟩
  · exact ⟨.gs, rfl⟩
structure TestsX (P : Program) (w : World) (K : PySem.W.Frag) (mg : Str → Option Value) (base : Heap) : Prop where
  at_ : ∀ k : Kd, mg k.test = some (.ref (He.ga K k.test))
  has : ∀ k : Kd, ∃ ps, Has P w K mg base 4 k.test ps (spTestX K k.test)
theorem many_pos : ∀ k : Kd, 2 ≤ k.many := by intro k; cases k <;> decide
section
variable {P : Program} {w : World} {K : PySem.W.Frag} {mg : Str → Option Value} {base : Heap}
theorem has_shapeX (D : Def K mg "is_shape" ["value"] (top 48)) (T : Txt mg) (S : Shp K w mg) (LM : Miss K "LENGTHS" ["rell"]) (C : TestsX P w K mg base) : Has P w K mg base 5 "is_shape" ["value"] (spShapeX K) := by
  have c_LENGTHS := S.lens.g
  have c_TESTS := S.tests.g
  -- what is no tuple whose first thing is one of the words
  refine D.has fun f fd F => F.ok sc_is_shape (fun vs H Q E h => ?_) (fun cdv A outer s H vs Q E hr h => ?_)
  · obtain ⟨v, t, rfl, _⟩ := h; rfl
  · obtain ⟨v, t, rfl, dp, o, hw, q⟩ := h
    -- the kind that its first word has, if it has one
    obtain ⟨k0, hk0⟩ : ∃ k0 : Kd, ∀ w ds, t = .tuple (.str w :: ds) → w ∈ words12 → k0.word = w := by
      by_cases e : ∃ w ds, t = .tuple (.str w :: ds) ∧ w ∈ words12
      · obtain ⟨w, ds, rfl, m⟩ := e
        obtain ⟨k, e⟩ := word_of m
        exact ⟨k, fun w2 ds2 e2 _ => by
          cases e2
          exact e⟩
      · exact ⟨.eq, fun w ds e2 m => absurd ⟨w, ds, e2, m⟩ e⟩
    obtain ⟨ps1, f1, fd1, G1, g1, k1, b1⟩ := C.has k0
    have ef : f1 = He.ga K k0.test := by
      have := g1.symm.trans (C.at_ k0)
      injection this with this
      injection this
    have R1 : Room 4 _ := hr.mono (by decide)
    refine ⟨_, PSs.nox (pss_cons (ps_if (PW.pt (pw_or (pt_not (pt_val (pe_callB call_isi (by rfl) T.n_isinstance (by decide +kernel) (pa_cons (pv 0) (pa_cons (pe_bltn (v := .ty "tuple") (by rfl) T.n_tuple (by decide +kernel) rfl) pa_nil))))) (pw_or (pt_not (pt_truth (pv 0) (by intro _; rfl))) (pw_or1 (pt_not (pt_val (pe_callB call_isi (by rfl) T.n_isinstance (by decide +kernel) (pa_cons (pe_ix ix_tup (pv 0) pe_int (fun _ _ => rfl)) (pa_cons (pe_bltn (v := .ty "str") (by rfl) T.n_str (by decide +kernel) rfl) pa_nil))))))))) (pss_one (ps_ret pe_bl)) pss_nil) (pss_cons (ps_if (pt_cmpR op_ne (pe_kget (pe_glob (v := .ref (He.ga K "LENGTHS")) (by rfl) c_LENGTHS rfl) (pe_ix ix_tup (pv 0) pe_int (fun _ _ => rfl)) ⟨rfl, rfl, rfl, rfl⟩) (pe_callB call_len_seq (by rfl) T.n_len PySem.boot_len (pa_cons (pv 0) pa_nil)) (nomark _)) (pss_one (ps_ret pe_bl)) pss_nil) (pss_cons (ps_set (i := 1) sc_is_shape.nd rfl (Or.inl rfl) (pe_ix ix_kdict (pe_glob (v := .ref (He.ga K "TESTS")) (by rfl) c_TESTS rfl) (pe_ix ix_tup (pv 0) pe_int (fun _ _ => rfl)) (fun _ _ => rfl))) (pss_one (ps_ret (pe_callL (i := 1) G1 R1 rfl (Or.inl rfl) k1 b1 .nil pass0 (pa_cons (pv 0) pa_nil))))))), ?_⟩
    cases o with
    | non => exact ⟨_, rfl, _, _, _, _, _, rfl, .ty _, dp_ty dp, kit_ty (b := "tuple") (r := false) (by decide +kernel), _, rfl, iteT (q H false (.refl H) fun z => nomatch z)⟩
    | bl b => exact ⟨_, rfl, _, _, _, _, _, rfl, .ty _, dp_ty dp, kit_ty (a := "bool") (b := "tuple") (r := false) (by decide +kernel), _, rfl, iteT (q H false (.refl H) fun z => nomatch z)⟩
    | int b => exact ⟨_, rfl, _, _, _, _, _, rfl, .ty _, dp_ty dp, kit_ty (a := "int") (b := "tuple") (r := false) (by decide +kernel), _, rfl, iteT (q H false (.refl H) fun z => nomatch z)⟩
    | str b => exact ⟨_, rfl, _, _, _, _, _, rfl, .ty _, dp_ty dp, kit_ty (a := "str") (b := "tuple") (r := false) (by decide +kernel), _, rfl, iteT (q H false (.refl H) fun z => nomatch z)⟩
    | lst _ _ => exact ⟨_, rfl, _, _, _, _, _, rfl, .ty _, dp_ty dp, kit_ty (a := "list") (b := "tuple") (r := false) (by decide +kernel), _, rfl, iteT (q H false (.refl H) fun z => nomatch z)⟩
    | @tup ts l ho =>
      obtain ⟨a, xs, rfl, hT, hxA⟩ := Dp.tup_inv dp
      refine ⟨_, rfl, _, _, _, _, _, rfl, .ty _, ty_tup hT, kit_ty (b := "tuple") (r := true) (by decide +kernel), _, rfl, iteF ?_⟩
      cases ts with
      | nil =>
        obtain rfl := DpAll.nil_inv hxA
        exact ⟨_, rfl, false, .inr (.inl ⟨_, hT, rfl⟩), iteT (q H false (.refl H) fun z => nomatch z)⟩
      | cons t0 ds =>
        obtain ⟨v0, ws, rfl, h0, hxB⟩ := DpAll.cons_inv hxA
        have lws := DpAll.length hxB
        refine ⟨_, rfl, true, .inr (.inl ⟨_, hT, rfl⟩), iteF ?_⟩
        cases ho t0 (List.mem_cons_self ..) with
        | non => exact ⟨_, rfl, a, _, _, _, rfl, rfl, hT, atI_nat (j := 0) rfl, _, _, _, _, _, rfl, .ty _, dp_ty h0, kit_ty (b := "str") (r := false) (by decide +kernel), _, rfl, iteT (q H false (.refl H) fun z => nomatch z)⟩
        | bl b => exact ⟨_, rfl, a, _, _, _, rfl, rfl, hT, atI_nat (j := 0) rfl, _, _, _, _, _, rfl, .ty _, dp_ty h0, kit_ty (a := "bool") (b := "str") (r := false) (by decide +kernel), _, rfl, iteT (q H false (.refl H) fun z => nomatch z)⟩
        | int b => exact ⟨_, rfl, a, _, _, _, rfl, rfl, hT, atI_nat (j := 0) rfl, _, _, _, _, _, rfl, .ty _, dp_ty h0, kit_ty (a := "int") (b := "str") (r := false) (by decide +kernel), _, rfl, iteT (q H false (.refl H) fun z => nomatch z)⟩
        | lst _ _ => exact ⟨_, rfl, a, _, _, _, rfl, rfl, hT, atI_nat (j := 0) rfl, _, _, _, _, _, rfl, .ty _, dp_ty h0, kit_ty (a := "list") (b := "str") (r := false) (by decide +kernel), _, rfl, iteT (q H false (.refl H) fun z => nomatch z)⟩
        | tup _ _ => exact ⟨_, rfl, a, _, _, _, rfl, rfl, hT, atI_nat (j := 0) rfl, _, _, _, _, _, rfl, .ty _, dp_ty h0, kit_ty (a := "tuple") (b := "str") (r := false) (by decide +kernel), _, rfl, iteT (q H false (.refl H) fun z => nomatch z)⟩
        | @str w hz =>
          obtain rfl := Dp.str_inv h0
          refine ⟨_, rfl, a, _, _, _, rfl, rfl, hT, atI_nat (j := 0) rfl, _, _, _, _, _, rfl, .ty _, .base (.str _), kit_ty (b := "str") (r := true) (by decide +kernel), _, rfl, iteF ?_⟩
          obtain ⟨es, n, DL⟩ := S.lens.d
          rcases List.mem_append.mp (hw w ds rfl) with m | m
          · obtain rfl := hk0 w ds rfl m
            obtain ⟨u, n1, ru⟩ := S.lens.there _ _ (len_mem k0)
            refine ⟨_, es, n, rfl, DL, _, rfl, a, _, _, _, rfl, rfl, hT, atI_nat (j := 0) rfl, _, _, .int (k0.many : Nat), rfl, n1, ru, _, rfl, a, _, rfl, .inr hT, rfl, _, rfl, ?_⟩
            by_cases el : ds.length + 1 = k0.many
            · have e1 : decide (V.int (k0.many : Nat) = V.int (((V.str k0.word :: ws).length : Nat) : Int)) = true := decide_eq_true (by rw [List.length_cons, lws, el])
              refine cF (k := !decide (V.int (k0.many : Nat) = V.int (((V.str k0.word :: ws).length : Nat) : Int))) (by rw [e1]; rfl) ?_
              refine ⟨_, rfl, a, _, _, _, rfl, rfl, hT, atI_nat (j := 0) rfl, _, _, _, rfl, rfl, S.tests.dct (test_mem K k0), ?_⟩
              refine ⟨?_, _, rfl, _, k0, ds, rfl, dp, el, (fun d hd => ho d (List.mem_cons_of_mem _ hd)), rfl, fun H' b s hb => q H' b s fun e => ?_⟩
              · rw [ef]
                rfl
              · obtain ⟨h, ps, rfl, rfl, ok⟩ := hb e
                exact ⟨h, ps, rfl, ok⟩
            · have e1 : decide (V.int (k0.many : Nat) = V.int (((V.str k0.word :: ws).length : Nat) : Int)) = false := decide_eq_false fun z => el (by
                have := V.int.inj z
                rw [List.length_cons, lws] at this
                omega)
              exact cT (k := !decide (V.int (k0.many : Nat) = V.int (((V.str k0.word :: ws).length : Nat) : Int))) (by rw [e1]; rfl) (q H false (.refl H) fun z => nomatch z)
          · obtain rfl := List.mem_singleton.mp m
            refine ⟨_, es, n, rfl, DL, _, rfl, a, _, _, _, rfl, rfl, hT, atI_nat (j := 0) rfl, _, none, .non, rfl, LM _ (List.mem_singleton.mpr rfl), rfl, _, rfl, a, _, rfl, .inr hT, rfl, _, rfl, ?_⟩
            exact cT (k := !decide (V.non = V.int (((V.str ("rell" : Str) :: ws).length : Nat) : Int))) (by rw [decide_eq_false (fun z => nomatch z)]; rfl) (q H false (.refl H) fun z => nomatch z)
/-- data whose heads are words that the tables tell of -/
inductive Raw : PyData → Prop
  | mk {t : PyData} (o : Ord t) (hw : ∀ w ds, t = .tuple (.str w :: ds) → w ∈ words12 ++ (["rell"] : List Str)) (ps : ∀ h ps, t = Hd.data h ps → h.Ok ps.length → ∀ p, p ∈ ps → Raw p) : Raw t
theorem maxN_all {xs : List Nat} {b : Nat} (h : ∀ x, x ∈ xs → x ≤ b) : maxN xs ≤ b := by
  induction xs with
  | nil => exact Nat.zero_le _
  | cons x xs ih =>
    show max x (maxN xs) ≤ b
    have := h x (List.mem_cons_self ..)
    have := ih fun y hy => h y (List.mem_cons_of_mem _ hy)
    omega
def spCSR (K : PySem.W.Frag) (n : Nat) : Sp := fun vs H Q E => ∃ (v : V) (l p : Int) (t : PyData), vs = [v, .int l, .int p] ∧ Dp K H v t ∧ Raw t ∧ (0 ≤ l ∧ l < n) ∧ (∀ (H' : Hp) (f : Fm), Same H H' → t = f.data → f.Ok → (f.dep : Int) ≤ l → (f.cnt : Int) ≤ p → Q (.int (p - f.cnt)) H') ∧
  (∀ (H' : Hp), Same H H' → E (.ref (He.ga K "BadFormula")) none H')
theorem has_check_shapesR (D : Def K mg "_check_shapes" ["value", "levels_left", "parts_left"] (top 83)) (BF : XC K mg "BadFormula") (C1 : Has P w K mg base 5 "is_shape" ["value"] (spShapeX K)) (C2 : Has P w K mg base 1 "inner" ["formula"] (spInner K)) :
    ∀ n : Nat, HasX (L2N.CX P w) P w K mg base (6 + n) "_check_shapes" ["value", "levels_left", "parts_left"] (spCSR K n) := by
  obtain ⟨f1, fd1, G_is_shape, g_is_shape, k_is_shape, b_is_shape⟩ := C1
  obtain ⟨f2, fd2, G_inner, g_inner, k_inner, b_inner⟩ := C2
  intro n
  induction n with
  | zero =>
    refine D.has fun f fd F => F.ok sc_check_shapes (fun vs H Q E h => ?_) (fun cdv A outer s H vs Q E hr h => ?_)
    · obtain ⟨v, l, p, t, rfl, _⟩ := h; rfl
    · obtain ⟨v, l, p, t, rfl, _, _, h0, _⟩ := h
      omega
  | succ n ih =>
    obtain ⟨f3, fd3, G_check_shapes, g_check_shapes, k_check_shapes, b_check_shapes⟩ := ih
    refine D.has fun f fd F => F.ok sc_check_shapes (fun vs H Q E h => ?_) (fun cdv A outer s H vs Q E hr h => ?_)
    · obtain ⟨v, l, p, t, rfl, _⟩ := h; rfl
    · obtain ⟨v, l, p, t, rfl, dp, ⟨o, hw, rps⟩, hl, q, qe⟩ := h
      have R_is_shape : Room 5 _ := hr.mono (Nat.le_trans (by decide) (Nat.le_add_right 6 n))
      have R_inner : Room 1 _ := hr.mono (Nat.le_trans (by decide) (Nat.le_add_right 6 n))
      have R_check_shapes : Room (6 + n) _ := hr
      refine ⟨_, (pss_cons (ps_if (PW.pt (pw_or (pt_cmpR op_lt (pv 1) pe_int (nomark _)) (pw_or1 (pt_cmpR op_lt (pv 2) pe_int (nomark _))))) (pss_one (ps_raiseXN BF rfl (L2N.takes_of rfl rfl rfl rfl) rfl)) pss_nil) (pss_cons (ps_if (pt_not (pt_val (pe_call G_is_shape R_is_shape (by rfl) g_is_shape k_is_shape b_is_shape .nil pass0 (pa_cons (pv 0) pa_nil)))) (pss_one (ps_raiseXN BF rfl (L2N.takes_of rfl rfl rfl rfl) rfl)) pss_nil) (pss_cons (ps_aug (i := 2) sc_check_shapes.nd rfl (Or.inl rfl) pe_int ip_sub) (pss_cons (ps_for (passes_of rfl) rfl (pi_tup (pe_call G_inner R_inner (by rfl) g_inner k_inner b_inner .nil pass0 (pa_cons (pv 0) pa_nil))) (pg_name (i := 3) sc_check_shapes.nd rfl (Or.inl rfl)) (pss_one (ps_set (i := 2) sc_check_shapes.nd rfl (Or.inl rfl) (pe_call G_check_shapes R_check_shapes (by rfl) g_check_shapes k_check_shapes b_check_shapes .nil (L2N.passes_call (L2N.takes_of rfl rfl rfl rfl) (fun _ _ _ _ h => h)) (pa_cons (pv 3) (pa_cons (pe_op op_sub (pv 1) pe_int) (pa_cons (pv 2) pa_nil))))))) (pss_one (ps_ret (pv 2))))))), ?_⟩
      refine ⟨_, rfl, _, _, rfl, rfl, _, rfl, ?_⟩
      by_cases l1 : l < 1
      · exact cT (k := decide (l < 1)) (decide_eq_true l1) (cT (k := true) rfl (qe H (.refl H)))
      refine cF (k := decide (l < 1)) (decide_eq_false l1) ⟨_, rfl, _, _, rfl, rfl, _, rfl, ?_⟩
      by_cases p1 : p < 1
      · exact cT (k := decide (p < 1)) (decide_eq_true p1) (qe H (.refl H))
      refine cF (k := decide (p < 1)) (decide_eq_false p1) ?_
      refine ⟨_, rfl, v, t, rfl, dp, o, hw, fun H1 b s1 hb => ⟨_, rfl, ?_⟩⟩
      cases b with
      | false => exact iteT (qe H1 s1)
      | true =>
        refine iteF ?_
        obtain ⟨h, ps, rfl, fit⟩ := hb rfl
        refine ⟨_, rfl, _, _, rfl, rfl, ?_⟩
        refine ⟨_, rfl, v, h, _, rfl, Dp.same s1 dp, fit.fits, fun H2 r s2 hr2 => ?_⟩
        obtain ⟨b, ys, rfl, hb, hy⟩ := Dp.tup_inv hr2
        refine ⟨b, rfl, ⟨_, hb⟩, for_tup (K := K) (a := b) (xs := ys) (fun i σ H3 => ∃ (y3 : Option V) (fs : List Fm), σ = [some v, some (.int l), some (.int (p - 1 - (sumN (fs.map Fm.cnt) : Nat))), y3] ∧ Same H2 H3 ∧ ((sumN (fs.map Fm.cnt) : Nat) : Int) ≤ p - 1 ∧ fs.map Fm.data = ps.take i ∧ ∀ f, f ∈ fs → f.Ok ∧ (f.dep : Int) ≤ l - 1)
          ⟨none, [], by show _ = [some v, some (.int l), some (.int (p - 1 - ((0 : Nat) : Int))), none]; rw [show (p - 1 - ((0 : Nat) : Int)) = p - 1 by omega]; rfl, .refl _, by show ((0 : Nat) : Int) ≤ p - 1; omega, rfl, fun f hf => nomatch hf⟩ (fun i σ H3 _ ⟨_, _, _, s3, _⟩ => Same.sqt s3 hb) ?_ ?_⟩
        · rintro i y σ H3 hi ⟨y3, fs, rfl, s3, le3, ef, of⟩
          obtain ⟨d, hd, dpy⟩ := DpAll.get' hy hi
          have mem := List.mem_of_getElem? hd
          refine ⟨_, rfl, _, rfl, _, _, rfl, rfl, _, rfl, y, l - 1, _, d, rfl, Dp.same s3 dpy, rps h ps rfl fit d mem, by omega, fun H4 g s4 eg og dg cg => ?_, fun H4 s4 => qe H4 (((s1.trans s2).trans s3).trans s4)⟩
          have es : sumN ((fs ++ [g]).map Fm.cnt) = sumN (fs.map Fm.cnt) + g.cnt := by
            rw [List.map_append]
            exact sumN_append _ _
          refine ⟨some y, fs ++ [g], ?_, s3.trans s4, by rw [es]; omega, ?_, fun f hf => ?_⟩
          · rw [es]
            have e5 : p - 1 - ((sumN (fs.map Fm.cnt) : Nat) : Int) - (g.cnt : Int) = p - 1 - ((sumN (fs.map Fm.cnt) + g.cnt : Nat) : Int) := by omega
            rw [e5]
            rfl
          · rw [List.map_append, ef, List.take_add_one, hd, eg]; rfl
          · rcases List.mem_append.mp hf with hf | hf
            · exact of f hf
            · rw [List.mem_singleton.mp hf]; exact ⟨og, dg⟩
        · rintro σ H3 ⟨y3, fs, rfl, s3, le3, ef, of⟩
          have ey : ys.length = ps.length := DpAll.length hy
          rw [List.take_of_length_le (by omega)] at ef
          have lf : fs.length = ps.length := by rw [← ef, List.length_map]
          refine ⟨_, rfl, ?_⟩
          have hc1 : (Fm.mk h fs).cnt = 1 + sumN (fs.map Fm.cnt) := Fm.cnt_mk h fs
          have hd1 : (Fm.mk h fs).dep = 1 + maxN (fs.map Fm.dep) := Fm.dep_mk h fs
          have md : maxN (fs.map Fm.dep) ≤ (l - 1).toNat := maxN_all fun x hx => by
            obtain ⟨f, hf, rfl⟩ := List.mem_map.mp hx
            have := (of f hf).2
            omega
          have e6 : p - 1 - ((sumN (fs.map Fm.cnt) : Nat) : Int) = p - (((Fm.mk h fs).cnt : Nat) : Int) := by rw [hc1]; omega
          show Q (.int (p - 1 - ((sumN (fs.map Fm.cnt) : Nat) : Int))) H3
          rw [e6]
          exact q H3 (.mk h fs) ((s1.trans s2).trans s3) (by rw [Fm.data_mk, ef]) (.mk (by rw [lf]; exact fit) fun f hf => (of f hf).1) (by rw [hd1]; omega) (by rw [hc1]; omega)
end
/-! ### data of any kind: names with two numbers of arguments, fixed points that are not positive -/
/-- the same name has the same number everywhere in it -/
def Fm.Con (f : Fm) : Prop := ∀ Γ : ArE, (∀ q, q ∈ f.syms → Γ q.1 = some q.2) → f.Typed Γ
theorem con_mk {h : Hd} {ps : List Fm} (nr : h.kd ≠ .rel) (cs : ∀ g, g ∈ ps → g.Con) (b : ∀ n k, h.bound = some (n, k) → ∀ g, g ∈ ps → ∀ q, q ∈ g.syms → q.1 = n → q.2 = k) : (Fm.mk h ps).Con := fun Γ hΓ => by
  refine .other nr fun g hg => cs g hg _ fun q hq => ?_
  unfold Hd.env
  cases hb : h.bound with
  | none => exact hΓ q ((Fm.syms_mem nr).mpr ⟨(by unfold Hd.bname; rw [hb]; exact fun z => nomatch z), g, hg, hq⟩)
  | some z =>
    obtain ⟨n, k⟩ := z
    show (if q.1 = n then some k else Γ q.1) = some q.2
    by_cases e : q.1 = n
    · rw [if_pos e, b n k hb g hg q hq e]
    · rw [if_neg e]
      refine hΓ q ((Fm.syms_mem nr).mpr ⟨?_, g, hg, hq⟩)
      unfold Hd.bname
      rw [hb]
      exact fun z => e (Option.some.inj z).symm
def spArR (K : PySem.W.Frag) (n : Nat) : Sp := fun vs H Q E => ∃ (v : V) (f : Fm), vs = [v] ∧ Dp K H v f.data ∧ f.Ok ∧ f.dep ≤ n ∧ f.cnt ≤ 2000 ∧
  (∀ (H' : Hp) (d : Addr) (l : List (Str × Nat)), Same H H' → H d = none → H' d = some (.dK (l.map enc)) → DictOf l f.syms → f.Con → Q (.ref d) H') ∧ (∀ (H' : Hp), Same H H' → E (.ref (He.ga K "BadFormula")) none H')
section
variable {P : Program} {w : World} {K : PySem.W.Frag} {mg : Str → Option Value} {base : Heap}
theorem has_aritiesR (D : Def K mg "arities_in" ["formula"] (top 84)) (T : Txt mg) (BF : XC K mg "BadFormula") (C1 : Has P w K mg base 1 "bound_name" ["formula"] (spBName K)) (C2 : Has P w K mg base 1 "inner" ["formula"] (spInner K)) (C3 : Has P w K mg base 1 "bound_arity" ["formula"] (spBArity K)) :
    ∀ n : Nat, HasX (L2N.CX P w) P w K mg base (2 + n) "arities_in" ["formula"] (spArR K n) := by
  obtain ⟨f1, fd1, G_bound_name, g_bound_name, k_bound_name, b_bound_name⟩ := C1
  obtain ⟨f2, fd2, G_inner, g_inner, k_inner, b_inner⟩ := C2
  obtain ⟨f4, fd4, G_bound_arity, g_bound_arity, k_bound_arity, b_bound_arity⟩ := C3
  intro n
  induction n with
  | zero =>
    refine D.has fun f fd F => F.ok sc_arities (fun vs H Q E h => ?_) (fun cdv A outer s H vs Q E hr h => ?_)
    · obtain ⟨v, f, rfl, _⟩ := h; rfl
    · obtain ⟨v, f, rfl, _, _, h0, _⟩ := h
      have := dep_pos f
      omega
  | succ n ih =>
    obtain ⟨f3, fd3, G_arities_in, g_arities_in, k_arities_in, b_arities_in⟩ := ih
    refine D.has fun f fd F => F.ok sc_arities (fun vs H Q E h => ?_) (fun cdv A outer s H vs Q E hr h => ?_)
    · obtain ⟨v, f, rfl, _⟩ := h; rfl
    · obtain ⟨v, f, rfl, dp, ok, hn, hc, q, qe⟩ := h
      have R_bound_name : Room 1 _ := hr.mono (Nat.le_trans (by decide) (Nat.le_add_right 2 n))
      have R_bound_arity : Room 1 _ := hr.mono (Nat.le_trans (by decide) (Nat.le_add_right 2 n))
      have R_inner : Room 1 _ := hr.mono (Nat.le_trans (by decide) (Nat.le_add_right 2 n))
      have R_arities_in : Room (2 + n) _ := hr
      refine ⟨_, (pss_cons (ps_if (pt_cmpR op_eq (pe_ix ix_tup (pv 0) pe_int (fun _ _ => rfl)) pe_str (nomark _)) (pss_one (ps_ret (pe_disp (pps_cons (pe_ix ix_tup (pv 0) pe_int (fun _ _ => rfl)) (pe_callB call_len_seq (by rfl) T.n_len PySem.boot_len (pa_cons (pe_ix ix_tup (pv 0) pe_int (fun _ _ => rfl)) pa_nil)) pps_nil) (by rfl) (by rfl) (fun z => by cases z) (by decide)))) pss_nil) (pss_cons (ps_set (i := 1) sc_arities.nd rfl (Or.inl rfl) pe_dnewK) (pss_cons (ps_for (passes_of rfl) rfl (pi_tup (pe_call G_inner R_inner (by rfl) g_inner k_inner b_inner .nil pass0 (pa_cons (pv 0) pa_nil))) (pg_name (i := 2) sc_arities.nd rfl (Or.inl rfl)) (pss_cons (ps_set (i := 3) sc_arities.nd rfl (Or.inl rfl) (pe_call G_arities_in R_arities_in (by rfl) g_arities_in k_arities_in b_arities_in .nil (L2N.passes_call (L2N.takes_of rfl rfl rfl rfl) (fun _ _ _ _ h => h)) (pa_cons (pv 2) pa_nil))) (pss_one (ps_lock (ps_for (passes_of rfl) rfl (pi_keys (pv 3)) (pg_name (i := 4) sc_arities.nd rfl (Or.inl rfl)) (pss_one (ps_if (pt_cmpR op_ne (pe_dsetd (pv 1) (pv 4) (pe_dget (hu_of hr) (pv 3) (pv 4) (fun _ _ => rfl)) ⟨rfl, rfl, rfl, rfl⟩) (pe_dget (hu_of hr) (pv 3) (pv 4) (fun _ _ => rfl)) (nomark _)) (pss_one (ps_raiseXN BF rfl (L2N.takes_of rfl rfl rfl rfl) rfl)) pss_nil))))))) (pss_cons (ps_set (i := 5) sc_arities.nd rfl (Or.inl rfl) (pe_call G_bound_name R_bound_name (by rfl) g_bound_name k_bound_name b_bound_name .nil pass0 (pa_cons (pv 0) pa_nil))) (pss_cons (ps_if (pt_cmp (pc_dinN (hu_of hr) (pv 5) (pv 1))) (pss_one (ps_if (pt_cmpR op_ne (pe_dpop1 (pv 1) (pv 5) ⟨rfl, rfl, rfl, rfl⟩) (pe_call G_bound_arity R_bound_arity (by rfl) g_bound_arity k_bound_arity b_bound_arity .nil pass0 (pa_cons (pv 0) pa_nil)) (nomark _)) (pss_one (ps_raiseXN BF rfl (L2N.takes_of rfl rfl rfl rfl) rfl)) pss_nil)) pss_nil) (pss_one (ps_ret (pv 1)))))))), ?_⟩
      obtain ⟨h, ps⟩ := f
      rw [Fm.data_mk] at dp
      have fit : h.Ok (ps.map Fm.data).length := by rw [List.length_map]; exact ok.hd_
      obtain ⟨a, xs, rfl, hT, hx⟩ := hd_inv dp
      refine ⟨_, rfl, a, _, _, _, rfl, rfl, hT, atI_nat (j := 0) rfl, rfl, _, rfl, ?_⟩
      by_cases kr : h.kd = .rel
      · refine cT (k := decide (V.str h.word = V.str "rel")) (by rw [kw_rel, decide_eq_true kr]) ?_
        cases h with
        | rel m as =>
          obtain ⟨v1, ws1, rfl, h1, hx⟩ := DpAll.cons_inv hx
          obtain ⟨v2, ws2, rfl, h2, _⟩ := DpAll.cons_inv hx
          rw [Dp.str_inv h1] at hT
          obtain ⟨t2, rfl, ht2⟩ := tS_inv h2
          intro p np
          have sp := same_upd (o := .dK []) np
          refine ⟨_, rfl, a, _, _, _, rfl, rfl, Same.sqt sp hT, atI_nat (j := 1) rfl, _, rfl, a, _, _, _, rfl, rfl, Same.sqt sp hT, atI_nat (j := 2) rfl, t2, _, rfl, .inr (Same.sqt sp ht2), upd_same, [enc (m, (as.map V.str).length)], rfl, (by show 1 ≤ 15; decide), ?_⟩
          refine q _ p [(m, as.length)] (fun b o eb => ?_) np ?_ ?_ ?_
          · rw [upd_ne (ne_of_none eb np)]
            exact sp _ _ eb
          · rw [upd_same, List.length_map]
            rfl
          · rw [Fm.syms_rel]
            exact ⟨by simp, fun _ => Iff.rfl⟩
          · exact fun Γ hΓ => .rel (hΓ (m, as.length) (by rw [Fm.syms_rel]; exact List.mem_singleton.mpr rfl))
        | _ => cases kr
      · refine cF (k := decide (V.str h.word = V.str "rel")) (by rw [kw_rel, decide_eq_false kr]) ?_
        -- found = {}
        intro d nd
        have s0 := same_upd (o := .dK []) nd
        have hd0 : (upd H d (.dK [])) d = some (.dK (([] : List (Str × Nat)).map enc)) := upd_same
        revert s0 hd0
        generalize upd H d (.dK []) = H0
        intro s0 hd0
        refine ⟨_, rfl, _, h, _, rfl, Dp.same s0 dp, fit.fits, fun H2 r s2 hr2 => ?_⟩
        obtain ⟨b, ys, rfl, hb2, hy⟩ := Dp.tup_inv hr2
        have s02 := s0.trans s2
        have ndb : ∀ {x : Addr} {o : HO}, H x = some o → x ≠ d := fun e z => by rw [z, nd] at e; cases e
        have n2 : NotSeq H2 d := ⟨_, s2 _ _ hd0⟩
        have same3 : ∀ {H3 : Hp}, Kp d H2 H3 → Same H H3 := fun k c o e => k c o (s02 c o e) (ndb e)
        have lenE : ∀ {l : List (Str × Nat)} {i : Nat}, DictOf l ((ps.take i).map Fm.syms).flatten → l.length ≤ 2000 := fun {l i} dd => by
          have e1 := dd.len
          have e2 : ((ps.take i).map Fm.syms).flatten.length ≤ (ps.map Fm.syms).flatten.length := by
            have z : (ps.map Fm.syms).flatten = ((ps.take i).map Fm.syms).flatten ++ ((ps.drop i).map Fm.syms).flatten := by rw [← List.flatten_append, ← List.map_append, List.take_append_drop]
            rw [z, List.length_append]
            omega
          have e3 := sum_lens ps fun p _ => syms_cnt p
          rw [Fm.cnt_mk] at hc
          omega
        refine ⟨b, rfl, ⟨_, hb2⟩, for_tup (K := K) (a := b) (xs := ys) (fun i σ H3 => ∃ (y2 y3 y4 : Option V) (l : List (Str × Nat)), σ = [some (.ref a), some (.ref d), y2, y3, y4, none] ∧ Kp d H2 H3 ∧ H3 d = some (.dK (List.map enc l)) ∧ DictOf l ((ps.take i).map Fm.syms).flatten ∧ ∀ g, g ∈ ps.take i → g.Con)
          ⟨none, none, none, [], rfl, .refl _ _, s2 _ _ hd0, ⟨List.nodup_nil, fun p => by simp⟩, fun g hg => by simp at hg⟩ (fun i σ H3 _ ⟨_, _, _, _, _, k3, _⟩ => k3.sqt' n2 hb2) ?_ ?_⟩
        · rintro i y σ H3 hi ⟨y2, y3, y4, l, rfl, k3, hd3, dl, cl⟩
          obtain ⟨dd, hdd, dpy⟩ := DpAll.get' hy hi
          obtain ⟨g, hg, rfl⟩ := get_map hdd
          have mem := List.mem_of_getElem? hg
          have dep1 : g.dep < (Fm.mk h ps).dep := dep_part mem
          have cnt1 : g.cnt ≤ 2000 := by
            have := le_sumN (List.mem_map_of_mem (f := Fm.cnt) mem)
            rw [Fm.cnt_mk] at hc
            omega
          refine ⟨_, rfl, y, g, rfl, Dp.kpD k3 n2 dpy, ok.part mem, by omega, cnt1, fun H4 e l2 s4 ne he d2 cg => ?_, fun H4 s4 => qe H4 ((same3 k3).trans s4)⟩
          have ned : e ≠ d := fun z => by rw [z, hd3] at ne; cases ne
          have l2len : l2.length ≤ 2000 := by
            have := d2.len
            have := syms_cnt g
            omega
          refine ⟨e, .dK (l2.map enc), he, trivial, fun od => ?_⟩
          refine ⟨_, rfl, e, od, rfl, .inl ⟨_, upd_same, for_it walk_keys (fun j σ H5 => ∃ (y4 : Option V) (l' : List (Str × Nat)), σ = [some (.ref a), some (.ref d), some y, some (.ref e), y4, none] ∧ H5 e = some (.frz od (.dK (l2.map enc))) ∧ (∀ c o, H4 c = some o → c ≠ d → c ≠ e → H5 c = some o) ∧
            H5 d = some (.dK (l'.map enc)) ∧ DictOf l' (((ps.take i).map Fm.syms).flatten ++ l2.take j))
            ⟨y4, l, rfl, upd_same, fun c o ec nc ne2 => by rw [upd_ne ne2]; exact ec, by rw [upd_ne ned.symm]; exact s4 _ _ hd3, by rw [List.take_zero, List.append_nil]; exact dl⟩ (fun j σ H5 _ ⟨_, _, _, q1, _⟩ => q1) ?_ ?_⟩⟩
          · rintro j x σ H5 H6 hj ⟨y4, l', rfl, he5, k5, hd5, dl'⟩ ⟨rfl, kk, vv, hkv, rfl⟩
            obtain ⟨p, hp, ep⟩ := get_map hkv
            have ek : kk = Sum.inr p.1 := congrArg Prod.fst ep
            subst ek
            have pm := List.mem_of_getElem? hp
            have vp : valV (l2.map enc) (Sum.inr p.1) = some (.int (p.2 : Nat)) := val_of d2.nd pm
            have s05 : Same H H6 := fun c o ec => by
              have e3 := same3 k3 c o ec
              exact k5 c o (s4 _ _ e3) (ndb ec) (ne_of_none e3 ne)
            have tk : l2.take (j + 1) = l2.take j ++ [p] := by rw [List.take_add_one, hp]; rfl
            have lens : l'.length < sizeLine := by
              have e1 := dl'.len
              rw [List.length_append] at e1
              have e2 : ((ps.take i).map Fm.syms).flatten.length ≤ 2000 := by
                have z : (ps.map Fm.syms).flatten = ((ps.take i).map Fm.syms).flatten ++ ((ps.drop i).map Fm.syms).flatten := by rw [← List.flatten_append, ← List.map_append, List.take_append_drop]
                have e3 := sum_lens ps fun p _ => syms_cnt p
                rw [Fm.cnt_mk] at hc
                rw [z, List.length_append] at e3
                omega
              have e4 := List.length_take_le j l2
              exact Nat.lt_of_le_of_lt (show l'.length ≤ 4000 by have := List.length_take_le' j l2; omega) (by decide)
            have get2 : ∀ H7 : Hp, H7 e = some (.frz od (.dK (l2.map enc))) → DGet H7 e (.str p.1) (some (.int (p.2 : Nat))) := fun H7 e7 => .inl ⟨_, Sum.inr p.1, .inr ⟨od, e7⟩, rfl, vp.symm⟩
            refine ⟨_, rfl, d, rfl, .inl ⟨_, Rd.of hd5⟩, _, rfl, _, rfl, _, rfl, e, _, rfl, get2 _ he5, _, Sum.inr p.1, hd5, rfl, by rw [List.length_map]; exact lens, fun v hv => ?_, fun hv => ?_⟩
            · obtain ⟨a2, ha2, rfl⟩ := val_enc hv
              refine ⟨_, rfl, _, rfl, e, _, rfl, get2 _ he5, rfl, _, rfl, ?_⟩
              by_cases e22 : a2 = p.2
              case neg => exact cT (k := !decide (V.int (a2 : Nat) = V.int (p.2 : Nat))) (nd_t fun z => e22 (by have := V.int.inj z; omega)) (qe _ s05)
              refine cF (k := !decide (V.int (a2 : Nat) = V.int (p.2 : Nat))) (by rw [e22, decide_eq_true rfl]; rfl) ?_
              refine ⟨_, l', rfl, he5, k5, hd5, ?_⟩
              rw [tk, ← List.append_assoc]
              rw [e22] at ha2
              exact dl'.keep ha2
            · have hn2 := val_enc_none.mp hv
              rw [putK_new _ hv]
              have e23 : (l'.map enc) ++ [((Sum.inr p.1 : Key), V.int (p.2 : Nat))] = (l' ++ [p]).map enc := by rw [List.map_append]; rfl
              rw [e23]
              have he6 : (upd H6 d (.dK ((l' ++ [p]).map enc))) e = some (.frz od (.dK (l2.map enc))) := by rw [upd_ne ned]; exact he5
              refine ⟨_, rfl, _, rfl, e, _, rfl, get2 _ he6, rfl, _, rfl, ?_⟩
              refine cF (k := !decide (V.int (p.2 : Nat) = V.int (p.2 : Nat))) (by rw [decide_eq_true rfl]; rfl) ?_
              refine ⟨_, l' ++ [p], rfl, he6, fun c o ec nc ne2 => by rw [upd_ne nc]; exact k5 c o ec nc ne2, upd_same, ?_⟩
              rw [tk, ← List.append_assoc]
              exact dl'.add hn2
          · rintro σ H5 ⟨y4, l', rfl, he5, k5, hd5, dl'⟩
            refine ⟨he5, _, _, _, l', rfl, fun c o ec nc => ?_, ?_, ?_, fun g2 hg2 => ?_⟩
            · have e3 := k3 c o ec nc
              have nce : c ≠ e := ne_of_none e3 ne
              rw [upd_ne nce]
              exact k5 c o (s4 _ _ e3) nc nce
            · rw [upd_ne ned.symm]
              exact hd5
            · have tl : l2.take (l2.map enc).length = l2 := List.take_of_length_le (by rw [List.length_map]; exact Nat.le_refl _)
              rw [tl] at dl'
              rw [take_flat hg]
              exact dl'.as fun p => by rw [List.mem_append, List.mem_append, d2.mem]
            · rw [List.take_add_one, hg] at hg2
              rcases List.mem_append.mp hg2 with hg2 | hg2
              · exact cl g2 hg2
              · rw [show g2 = g by simpa using hg2]; exact cg
        · rintro σ H3 ⟨y2, y3, y4, l, rfl, k3, hd3, dl, cl⟩
          have ey : ys.length = ps.length := by rw [DpAll.length hy, List.length_map]
          rw [List.take_of_length_le (show ps.length ≤ ys.length by omega)] at dl cl
          have s3 := same3 k3
          refine ⟨_, rfl, _, h, _, rfl, Dp.same s3 dp, fit.fits, fun H6 r1 s6 er => ?_⟩
          have er : r1 = match h.bound with | some (n, _) => V.str n | none => .non := er
          have hd6 := s6 _ _ hd3
          have s36 := s3.trans s6
          have fin : h.bname = none → Q (.ref d) H6 := fun hb => q H6 d l s36 nd hd6 (dl.as fun p => by
            rw [Fm.syms_mem kr, hb]
            constructor
            · intro z
              obtain ⟨lz, hlz, hz⟩ := List.mem_flatten.mp z
              obtain ⟨g2, hg2, rfl⟩ := List.mem_map.mp hlz
              exact ⟨(fun z => nomatch z), g2, hg2, hz⟩
            · rintro ⟨_, g2, hg2, hz⟩
              exact List.mem_flatten.mpr ⟨_, List.mem_map.mpr ⟨g2, hg2, rfl⟩, hz⟩) (con_mk kr cl fun n k e => by unfold Hd.bname at hb; rw [e] at hb; cases hb)
          have inL : ∀ g2, g2 ∈ ps → ∀ p, p ∈ g2.syms → p ∈ l := fun g2 hg2 p hz => (dl.mem p).mpr (List.mem_flatten.mpr ⟨_, List.mem_map.mpr ⟨g2, hg2, rfl⟩, hz⟩)
          cases hbd : h.bound with
          | none =>
            rw [hbd] at er
            subst er
            refine ⟨_, rfl, _, rfl, .inr ⟨d, _, rfl, rfl, Rd.of hd6, _, rfl, iteF ?_⟩⟩
            exact ⟨_, rfl, fin (by unfold Hd.bname; rw [hbd]; rfl)⟩
          | some z =>
            obtain ⟨n0, k0⟩ := z
            rw [hbd] at er
            have hbn : h.bname = some n0 := by unfold Hd.bname; rw [hbd]; rfl
            subst er
            refine ⟨_, rfl, _, rfl, .inl ⟨d, _, rfl, DGet.k (k := Sum.inr n0) hd6, _, rfl, ?_⟩⟩
            cases hv : valV (l.map enc) (Sum.inr n0) with
            | none =>
              have nin := val_enc_none.mp hv
              refine cF (k := (none : Option V).isSome) rfl ⟨_, rfl, q H6 d l s36 nd hd6 (dl.as fun p => ?_) (con_mk kr cl fun n k e g2 hg2 p hp e1 => absurd (List.mem_map.mpr ⟨p, inL g2 hg2 p hp, by rw [e1]; rw [hbd] at e; exact (congrArg Prod.fst (Option.some.inj e)).symm⟩) nin)⟩
              rw [Fm.syms_mem kr, hbn]
              constructor
              · intro z
                have pl : p ∈ l := (dl.mem p).mpr z
                obtain ⟨lz, hlz, hz⟩ := List.mem_flatten.mp z
                obtain ⟨g2, hg2, rfl⟩ := List.mem_map.mp hlz
                exact ⟨fun z => nin (List.mem_map.mpr ⟨p, pl, (Option.some.inj z).symm⟩), g2, hg2, hz⟩
              · rintro ⟨_, g2, hg2, hz⟩
                exact List.mem_flatten.mpr ⟨_, List.mem_map.mpr ⟨g2, hg2, rfl⟩, hz⟩
            | some v =>
              obtain ⟨a2, ha2, rfl⟩ := val_enc hv
              refine cT (k := (some (V.int (a2 : Nat))).isSome) rfl ?_
              have s37 : Same H (upd H6 d (.dK (dropK (l.map enc) (Sum.inr n0)))) := fun c o e => by rw [upd_ne (ndb e)]; exact s36 c o e
              refine ⟨_, rfl, d, rfl, .inl ⟨_, Rd.of hd6⟩, _, rfl, _, Sum.inr n0, _, hd6, rfl, hv, ?_⟩
              refine ⟨_, rfl, _, h, _, n0, k0, rfl, Dp.same s37 dp, hbd, fun H7 s7 => ⟨rfl, _, rfl, ?_⟩⟩
              by_cases ea : a2 = k0
              case neg => exact cT (k := !decide (V.int (a2 : Nat) = V.int (k0 : Nat))) (nd_t fun z => ea (by have := V.int.inj z; omega)) (qe _ (s37.trans s7))
              refine cF (k := !decide (V.int (a2 : Nat) = V.int (k0 : Nat))) (by rw [ea, decide_eq_true rfl]; rfl) ?_
              refine ⟨_, rfl, q H7 d (l.filter fun p => !decide (p.1 = n0)) (s37.trans s7) nd ?_ ⟨?_, fun p => ?_⟩ (con_mk kr cl fun n k e g2 hg2 p hp e1 => ?_)⟩
              · rw [← drop_enc]
                exact s7 _ _ upd_same
              · exact List.Nodup.sublist ((List.filter_sublist (p := fun p => !decide (p.1 = n0)) (l := l)).map _) dl.nd
              · rw [List.mem_filter, dl.mem, Fm.syms_mem kr, hbn]
                constructor
                · rintro ⟨z, zn⟩
                  obtain ⟨lz, hlz, hz⟩ := List.mem_flatten.mp z
                  obtain ⟨g2, hg2, rfl⟩ := List.mem_map.mp hlz
                  refine ⟨fun z => ?_, g2, hg2, hz⟩
                  have e9 : n0 = p.1 := Option.some.inj z
                  rw [e9] at zn
                  simp at zn
                · rintro ⟨zn, g2, hg2, hz⟩
                  refine ⟨List.mem_flatten.mpr ⟨_, List.mem_map.mpr ⟨g2, hg2, rfl⟩, hz⟩, ?_⟩
                  have e9 : ¬ p.1 = n0 := fun z => zn (by rw [z])
                  simp [e9]
              · rw [hbd] at e
                have e2 := Option.some.inj e
                have e3 : n0 = n := congrArg Prod.fst e2
                have e4 : k0 = k := congrArg Prod.snd e2
                have m := inL g2 hg2 p hp
                rw [← e4, ← ea]
                exact nodup_val dl.nd (n := n0) (by rw [e3, ← e1]; exact m) ha2
end
section
variable {P : Program} {w : World} {K : PySem.W.Frag} {mg : Str → Option Value} {base : Heap}
def spCFR (K : PySem.W.Frag) (n : Nat) : Sp := fun vs H Q E => ∃ (v : V) (f : Fm), vs = [v] ∧ Dp K H v f.data ∧ f.Ok ∧ f.dep ≤ n ∧ (∀ (H' : Hp), Same H H' → f.PosOk → Q .non H') ∧ (∀ (H' : Hp), Same H H' → E (.ref (He.ga K "BadFormula")) none H')
theorem has_fixedR (D : Def K mg "_check_fixed_points" ["formula"] (top 86)) (BF : XC K mg "BadFormula") (C1 : ∀ n, Has P w K mg base (2 + n) "is_positive_in" ["formula", "name", "sign"] (spPos K n)) (C2 : Has P w K mg base 1 "inner" ["formula"] (spInner K)) :
    ∀ n : Nat, HasX (L2N.CX P w) P w K mg base (3 + n) "_check_fixed_points" ["formula"] (spCFR K n) := by
  obtain ⟨f2, fd2, G_inner, g_inner, k_inner, b_inner⟩ := C2
  intro n
  induction n with
  | zero =>
    refine D.has fun f fd F => F.ok sc_check_fixed_points (fun vs H Q E h => ?_) (fun cdv A outer s H vs Q E hr h => ?_)
    · obtain ⟨v, f, rfl, _⟩ := h; rfl
    · obtain ⟨v, f, rfl, _, _, h0, _⟩ := h
      have := dep_pos f
      omega
  | succ n ih =>
    obtain ⟨f1, fd1, G_is_positive_in, g_is_positive_in, k_is_positive_in, b_is_positive_in⟩ := C1 n
    obtain ⟨f3, fd3, G_check_fixed_points, g_check_fixed_points, k_check_fixed_points, b_check_fixed_points⟩ := ih
    refine D.has fun f fd F => F.ok sc_check_fixed_points (fun vs H Q E h => ?_) (fun cdv A outer s H vs Q E hr h => ?_)
    · obtain ⟨v, f, rfl, _⟩ := h; rfl
    · obtain ⟨v, f, rfl, dp, ok, hn, q, qe⟩ := h
      have R_is_positive_in : Room (2 + n) _ := hr.mono (Nat.add_le_add_right (by decide) n)
      have R_inner : Room 1 _ := hr.mono (Nat.le_trans (by decide) (Nat.le_add_right 3 n))
      have R_check_fixed_points : Room (3 + n) _ := hr
      refine ⟨_, (pss_cons (ps_if (PW.pt (pw_and (pt_cmpR op_eq (pe_ix ix_tup (pv 0) pe_int (fun _ _ => rfl)) pe_str (nomark _)) (pw_and1 (pt_not (pt_val (pe_call G_is_positive_in R_is_positive_in (by rfl) g_is_positive_in k_is_positive_in b_is_positive_in .nil pass0 (pa_cons (pe_ix ix_tup (pv 0) pe_int (fun _ _ => rfl)) (pa_cons (pe_ix ix_tup (pv 0) pe_int (fun _ _ => rfl)) (pa_cons pe_int pa_nil))))))))) (pss_one (ps_raiseXN BF rfl (L2N.takes_of rfl rfl rfl rfl) rfl)) pss_nil) (pss_one (ps_for (passes_of rfl) rfl (pi_tup (pe_call G_inner R_inner (by rfl) g_inner k_inner b_inner .nil pass0 (pa_cons (pv 0) pa_nil))) (pg_name (i := 1) sc_check_fixed_points.nd rfl (Or.inl rfl)) (pss_one (ps_expr (pe_call G_check_fixed_points R_check_fixed_points (by rfl) g_check_fixed_points k_check_fixed_points b_check_fixed_points .nil (L2N.passes_call (L2N.takes_of rfl rfl rfl rfl) (fun _ _ _ _ h => h)) (pa_cons (pv 1) pa_nil))))))), ?_⟩
      obtain ⟨h, ps⟩ := f
      rw [Fm.data_mk] at dp
      have fit : h.Ok (ps.map Fm.data).length := by rw [List.length_map]; exact ok.hd_
      obtain ⟨a, xs, rfl, hT, hx⟩ := hd_inv dp
      have go : ∀ (H1 : Hp), Same H H1 → (∀ m us as, h = .lfp m us as → ∀ g, g ∈ ps → g.pos m 1 = true) → tFor (iTup K (tCall (spInner K) [] E0 (tCons (tVar 0) tNil))) (gName 1) (tDrop (tCallS (spCFR K n) (WE fun c o _ G => E c o G) (tCons (tVar 1) tNil))) { nx := fun _ H' => Q .non H', rt := Q } [some (.ref a), none] H1 := by
        intro H1 s1 hpos
        refine ⟨_, rfl, _, h, _, rfl, Dp.same s1 dp, fit.fits, fun H2 r s2 hr2 => ?_⟩
        obtain ⟨b, ys, rfl, hb2, hy⟩ := Dp.tup_inv hr2
        refine ⟨b, rfl, ⟨_, hb2⟩, for_tup (K := K) (a := b) (xs := ys) (fun i σ H3 => ∃ y3, σ = [some (.ref a), y3] ∧ Same H2 H3 ∧ ∀ g, g ∈ ps.take i → g.PosOk) ⟨none, rfl, .refl _, fun g hg => by simp at hg⟩ (fun i σ H3 _ ⟨_, _, s3, _⟩ => Same.sqt s3 hb2) ?_ ?_⟩
        · rintro i y σ H3 hi ⟨y3, rfl, s3, pg⟩
          obtain ⟨d, hd, dpy⟩ := DpAll.get' hy hi
          obtain ⟨g, hg, rfl⟩ := get_map hd
          have mem := List.mem_of_getElem? hg
          have dl : g.dep < (Fm.mk h ps).dep := dep_part mem
          refine ⟨_, rfl, y, g, rfl, Dp.same s3 dpy, ok.part mem, by omega, fun H4 s4 po => ⟨_, rfl, s3.trans s4, fun g2 hg2 => ?_⟩, fun H4 s4 => qe H4 (((s1.trans s2).trans s3).trans s4)⟩
          rw [List.take_add_one, hg] at hg2
          rcases List.mem_append.mp hg2 with hg2 | hg2
          · exact pg g2 hg2
          · rw [show g2 = g by simpa using hg2]; exact po
        · rintro σ H3 ⟨y3, rfl, s3, pg⟩
          have ey : ys.length = ps.length := by rw [DpAll.length hy, List.length_map]
          rw [List.take_of_length_le (by omega)] at pg
          exact q H3 ((s1.trans s2).trans s3) (.mk hpos pg)
      refine ⟨_, rfl, a, _, _, _, rfl, rfl, hT, atI_nat (j := 0) rfl, rfl, _, rfl, ?_⟩
      by_cases kl : h.kd = .lfp
      · refine cT (k := decide (V.str h.word = V.str "lfp")) (by rw [kw_lfp, decide_eq_true kl]) ?_
        cases h with
        | lfp m us as =>
          have l1 : (ps.map Fm.data).length = 1 := fit.fits 1 rfl
          rw [List.length_map] at l1
          obtain ⟨g, rfl⟩ := List.length_eq_one_iff.mp l1
          obtain ⟨v1, ws1, rfl, h1, hx⟩ := DpAll.cons_inv hx
          obtain ⟨v2, ws2, rfl, h2, hx⟩ := DpAll.cons_inv hx
          obtain ⟨v3, ws3, rfl, h3, hx⟩ := DpAll.cons_inv hx
          rw [Dp.str_inv h1] at hT
          have mem : g ∈ [g] := List.mem_singleton.mpr rfl
          have dl : g.dep < (Fm.mk (.lfp m us as) [g]).dep := dep_part mem
          refine ⟨_, rfl, a, _, _, _, rfl, rfl, hT, atI_nat (j := 3) rfl, _, rfl, a, _, _, _, rfl, rfl, hT, atI_nat (j := 1) rfl, v3, m, 1, g, rfl, h3, ok.part mem, by omega, fun H1 s1 => ⟨_, rfl, ?_⟩⟩
          cases hp : g.pos m 1 with
          | false => exact cT (k := !false) rfl (qe H1 s1)
          | true =>
            refine cF (k := !true) rfl (go H1 s1 fun m2 us2 as2 e g2 hg2 => ?_)
            cases e
            rw [List.mem_singleton.mp hg2]
            exact hp
        | _ => cases kl
      · exact cF (k := decide (V.str h.word = V.str "lfp")) (by rw [kw_lfp, decide_eq_false kl]) (go H (.refl H) fun m us as e => by rw [e] at kl; exact absurd rfl kl)
/-- what a function of a formula does with data of any kind: raise BadFormula, if it is none -/
def spCheckR (K : PySem.W.Frag) : Sp := fun vs H Q E => ∃ (v : V) (t : PyData), vs = [v] ∧ Dp K H v t ∧ Raw t ∧ (∀ (H' : Hp) (f : Fm), Same H H' → t = f.data → f.Wf → Q .non H') ∧ (∀ (H' : Hp), Same H H' → E (.ref (He.ga K "BadFormula")) none H')
theorem has_check_formulaR (D : Def K mg "check_formula" ["formula"] (top 87)) (k1 : ∃ t, mg "MOST_DEEP" = some (.int 40 t)) (k2 : ∃ t, mg "MOST_PARTS" = some (.int 2000 t))
    (C1 : ∀ n, HasX (L2N.CX P w) P w K mg base (6 + n) "_check_shapes" ["value", "levels_left", "parts_left"] (spCSR K n)) (C2 : ∀ n, HasX (L2N.CX P w) P w K mg base (2 + n) "arities_in" ["formula"] (spArR K n)) (C3 : ∀ n, HasX (L2N.CX P w) P w K mg base (3 + n) "_check_fixed_points" ["formula"] (spCFR K n)) :
    HasX (L2N.CX P w) P w K mg base 48 "check_formula" ["formula"] (spCheckR K) := D.has fun f fd F => by
  obtain ⟨f1, fd1, G_check_shapes, g_check_shapes, k_check_shapes, b_check_shapes⟩ := C1 41
  obtain ⟨f2, fd2, G_arities_in, g_arities_in, k_arities_in, b_arities_in⟩ := C2 40
  obtain ⟨f3, fd3, G_check_fixed_points, g_check_fixed_points, k_check_fixed_points, b_check_fixed_points⟩ := C3 40
  obtain ⟨t1, c_MOST_DEEP⟩ := k1
  obtain ⟨t2, c_MOST_PARTS⟩ := k2
  refine F.ok sc_check_formula (fun vs H Q E h => ?_) (fun cdv A outer s H vs Q E hr h => ?_)
  · obtain ⟨v, t, rfl, _⟩ := h; rfl
  · obtain ⟨v, t, rfl, dp, rw_, q, qe⟩ := h
    have R_check_shapes : Room (6 + 41) _ := hr.mono (by decide)
    have R_arities_in : Room (2 + 40) _ := hr.mono (by decide)
    have R_check_fixed_points : Room (3 + 40) _ := hr.mono (by decide)
    refine ⟨_, (pss_cons (ps_expr (pe_call G_check_shapes R_check_shapes (by rfl) g_check_shapes k_check_shapes b_check_shapes .nil (L2N.passes_call (L2N.takes_of rfl rfl rfl rfl) (fun _ _ _ _ h => h)) (pa_cons (pv 0) (pa_cons (pe_glob (v := .int 40) (by rfl) c_MOST_DEEP ⟨_, rfl⟩) (pa_cons (pe_glob (v := .int 2000) (by rfl) c_MOST_PARTS ⟨_, rfl⟩) pa_nil))))) (pss_cons (ps_expr (pe_call G_arities_in R_arities_in (by rfl) g_arities_in k_arities_in b_arities_in .nil (L2N.passes_call (L2N.takes_of rfl rfl rfl rfl) (fun _ _ _ _ h => h)) (pa_cons (pv 0) pa_nil))) (pss_one (ps_expr (pe_call G_check_fixed_points R_check_fixed_points (by rfl) g_check_fixed_points k_check_fixed_points b_check_fixed_points .nil (L2N.passes_call (L2N.takes_of rfl rfl rfl rfl) (fun _ _ _ _ h => h)) (pa_cons (pv 0) pa_nil)))))), ?_⟩
    refine ⟨_, rfl, v, 40, 2000, t, rfl, dp, rw_, by decide, fun H1 f s1 e ok dep cnt => ?_, qe⟩
    subst e
    have d40 : f.dep ≤ 40 := by omega
    have c20 : f.cnt ≤ 2000 := by omega
    refine ⟨_, rfl, v, f, rfl, Dp.same s1 dp, ok, d40, c20, fun H2 d l s2 _ _ dl con => ?_, fun H2 s2 => qe H2 (s1.trans s2)⟩
    refine ⟨_, rfl, v, f, rfl, Dp.same (s1.trans s2) dp, ok, d40, fun H3 s3 po => ?_, fun H3 s3 => qe H3 ((s1.trans s2).trans s3)⟩
    refine q H3 f ((s1.trans s2).trans s3) rfl ⟨ok, d40, c20, po, fun n => (l.find? fun p => decide (p.1 = n)).map (·.2), con _ fun q hq => ?_⟩
    have m := (dl.mem q).mpr hq
    have fs : (l.find? fun p => decide (p.1 = q.1)).isSome = true := List.find?_isSome.mpr ⟨q, m, decide_eq_true rfl⟩
    obtain ⟨p, hp⟩ := Option.isSome_iff_exists.mp fs
    have h1 : p.1 = q.1 := of_decide_eq_true (List.find?_some (p := fun p : Str × Nat => decide (p.1 = q.1)) hp)
    have h2 := List.mem_of_find?_eq_some hp
    show ((l.find? fun p => decide (p.1 = q.1)).map (·.2)) = some q.2
    rw [hp]
    exact congrArg some (nodup_val dl.nd (n := q.1) (by rw [← h1]; exact h2) m)
end
/-! ### what the law's formulas are -/
def sgOf (m : Nat) : Option Int := match m with
  | 0 => none
  | 1 => some 1
  | 2 => some (-1)
  | _ => some 0
def five : List Str := ["e", "p", "q", "r", "s", "t"]
def Hd.vars (h : Hd) : List Str := h.own ++ h.args
def Hd.rn (h : Hd) : List Str := match h with
  | .rel n _ => [n]
  | .lfp n _ _ => [n]
  | .pfp n _ _ => [n]
  | .gs n _ => [n]
  | _ => []
/-- all variables that occur, all names of relations that occur -/
def Fm.vars : Fm → List Str := Fm.fold fun h xs => h.vars ++ xs.flatten
def Fm.rns : Fm → List Str := Fm.fold fun h xs => h.rn ++ xs.flatten
theorem Fm.vars_mk (h : Hd) (ps : List Fm) : (Fm.mk h ps).vars = h.vars ++ (ps.map Fm.vars).flatten := Fm.fold_mk _ h ps
theorem Fm.rns_mk (h : Hd) (ps : List Fm) : (Fm.mk h ps).rns = h.rn ++ (ps.map Fm.rns).flatten := Fm.fold_mk _ h ps
structure Occ (pool : List Str) (f : Fm) : Prop where
  vs : ∀ x, x ∈ f.vars → x ∈ pool
  rs : ∀ x, x ∈ f.rns → x ∈ five
theorem Occ.part {pool : List Str} {h : Hd} {ps : List Fm} {p : Fm} (o : Occ pool (.mk h ps)) (hp : p ∈ ps) : Occ pool p :=
  ⟨fun x hx => o.vs x (by rw [Fm.vars_mk]; exact List.mem_append_right _ (List.mem_flatten.mpr ⟨_, List.mem_map.mpr ⟨p, hp, rfl⟩, hx⟩)),
   fun x hx => o.rs x (by rw [Fm.rns_mk]; exact List.mem_append_right _ (List.mem_flatten.mpr ⟨_, List.mem_map.mpr ⟨p, hp, rfl⟩, hx⟩))⟩
theorem Occ.mk' {pool : List Str} {h : Hd} {ps : List Fm} (a : ∀ x, x ∈ h.vars → x ∈ pool) (b : ∀ x, x ∈ h.rn → x ∈ five) (c : ∀ p, p ∈ ps → Occ pool p) : Occ pool (.mk h ps) := by
  refine ⟨fun x hx => ?_, fun x hx => ?_⟩
  · rw [Fm.vars_mk] at hx
    rcases List.mem_append.mp hx with hx | hx
    · exact a x hx
    · obtain ⟨l, hl, hx⟩ := List.mem_flatten.mp hx
      obtain ⟨p, hp, rfl⟩ := List.mem_map.mp hl
      exact (c p hp).vs x hx
  · rw [Fm.rns_mk] at hx
    rcases List.mem_append.mp hx with hx | hx
    · exact b x hx
    · obtain ⟨l, hl, hx⟩ := List.mem_flatten.mp hx
      obtain ⟨p, hp, rfl⟩ := List.mem_map.mp hl
      exact (c p hp).rs x hx
structure NOk (ns : List NE) (Γ : ArE) : Prop where
  nm : ∀ p, p ∈ ns → Nm p.1
  ar : ∀ p, p ∈ ns → p.2.1 ≤ 3
  md : ∀ p, p ∈ ns → p.2.2 ≤ 3
  fit : ∀ p, p ∈ ns → Γ p.1 = some p.2.1
  uni : ∀ p q, p ∈ ns → q ∈ ns → p.1 = q.1 → p = q
  fv : ∀ p, p ∈ ns → p.1 ∈ five
theorem mode_le {a b c e m : Nat} (ha : a ≤ 3) (hb : b ≤ 3) (hc : c ≤ 3) (he : e ≤ 3) : mode4 a b c e m ≤ 3 := by
  unfold mode4
  split <;> assumption
theorem NOk.map {ns : List NE} {Γ : ArE} (F : Nat → Nat) (hF : ∀ m, F m ≤ 3) (k : NOk ns Γ) : NOk (ns.map fun p => (p.1, p.2.1, F p.2.2)) Γ := by
  have inv : ∀ p, p ∈ (ns.map fun p : NE => (p.1, p.2.1, F p.2.2)) → ∃ q, q ∈ ns ∧ p = (q.1, q.2.1, F q.2.2) := fun p hp => by
    obtain ⟨q, hq, e⟩ := List.mem_map.mp hp
    exact ⟨q, hq, e.symm⟩
  refine ⟨fun p hp => ?_, fun p hp => ?_, fun p hp => ?_, fun p hp => ?_, fun p q hp hq e => ?_, fun p hp => ?_⟩
  · obtain ⟨q, hq, rfl⟩ := inv p hp; exact k.nm q hq
  · obtain ⟨q, hq, rfl⟩ := inv p hp; exact k.ar q hq
  · obtain ⟨q, hq, rfl⟩ := inv p hp; exact hF _
  · obtain ⟨q, hq, rfl⟩ := inv p hp; exact k.fit q hq
  · obtain ⟨p0, hp0, rfl⟩ := inv p hp
    obtain ⟨q0, hq0, rfl⟩ := inv q hq
    rw [k.uni p0 q0 hp0 hq0 e]
  · obtain ⟨q, hq, rfl⟩ := inv p hp; exact k.fv q hq
theorem NOk.turned {ns : List NE} {Γ : ArE} (k : NOk ns Γ) : NOk (turned ns) Γ := k.map _ fun m => mode_le (by decide) (by decide) (by decide) (by decide)
theorem NOk.barred {ns : List NE} {Γ : ArE} (k : NOk ns Γ) : NOk (barred ns) Γ := k.map _ fun m => mode_le (by decide) (by decide) (by decide) (by decide)
theorem mem_within {ns : List NE} {p q : NE} : q ∈ within ns p ↔ (q ∈ ns ∧ q.1 ≠ p.1) ∨ q = p := by
  unfold within
  rw [List.mem_append, List.mem_filter, List.mem_singleton]
  simp
theorem NOk.within {ns : List NE} {Γ Δ : ArE} {p : NE} (k : NOk ns Γ) (hn : Nm p.1) (h5 : p.1 ∈ five) (ha : p.2.1 ≤ 3) (hm : p.2.2 ≤ 3) (hΔ : ∀ x, Δ x = if x = p.1 then some p.2.1 else Γ x) : NOk (within ns p) Δ := by
  refine ⟨fun q hq => ?_, fun q hq => ?_, fun q hq => ?_, fun q hq => ?_, fun q r hq hr e => ?_, fun q hq => ?_⟩
  · rcases mem_within.mp hq with ⟨h, _⟩ | rfl
    · exact k.nm q h
    · exact hn
  · rcases mem_within.mp hq with ⟨h, _⟩ | rfl
    · exact k.ar q h
    · exact ha
  · rcases mem_within.mp hq with ⟨h, _⟩ | rfl
    · exact k.md q h
    · exact hm
  · rw [hΔ]
    rcases mem_within.mp hq with ⟨h, n⟩ | rfl
    · rw [if_neg n]; exact k.fit q h
    · rw [if_pos rfl]
  · rcases mem_within.mp hq with ⟨h, n⟩ | rfl
    · rcases mem_within.mp hr with ⟨h2, n2⟩ | rfl
      · exact k.uni q r h h2 e
      · exact absurd e n
    · rcases mem_within.mp hr with ⟨h2, n2⟩ | rfl
      · exact absurd e.symm n2
      · rfl
  · rcases mem_within.mp hq with ⟨h, _⟩ | rfl
    · exact k.fv q h
    · exact h5
structure Gen (pool : List Str) (ns : List NE) (Γ : ArE) (f : Fm) (n : Nat) : Prop where
  ok : f.Ok
  ty : f.Typed Γ
  po : f.PosOk
  md : ∀ p, p ∈ ns → ∀ s, sgOf p.2.2 = some s → f.pos p.1 s = true
  dep : f.dep ≤ n
  cnt : 2 * f.cnt + 1 ≤ 3 ^ n
  oc : Occ pool f
theorem Gen.mono {pool : List Str} {ns : List NE} {Γ : ArE} {f : Fm} {n m : Nat} (g : Gen pool ns Γ f n) (h : n ≤ m) : Gen pool ns Γ f m :=
  ⟨g.ok, g.ty, g.po, g.md, Nat.le_trans g.dep h, Nat.le_trans g.cnt (Nat.pow_le_pow_right (by decide) h), g.oc⟩
theorem Gen.rel {pool : List Str} {ns : List NE} {Γ : ArE} {p : NE} {as : List Str} (k : NOk ns Γ) (hp : p ∈ ns) (u : p.2.2 < 2) (len : as.length = p.2.1) (hs : Names as) (hv : ∀ x, x ∈ as → x ∈ pool) : Gen pool ns Γ (.mk (.rel p.1 as) []) 1 := by
  refine ⟨.mk ⟨k.nm p hp, ?_, hs, rfl⟩ (fun q hq => nomatch hq), .rel (by rw [len]; exact k.fit p hp), .mk (fun n us as e => by cases e) (fun q hq => nomatch hq), fun q hq s hs => ?_, by rw [Fm.dep_mk]; exact Nat.le_refl _, by rw [Fm.cnt_mk]; exact Nat.le_refl _, .mk' hv (fun x hx => by rw [List.mem_singleton.mp hx]; exact k.fv p hp) (fun q hq => nomatch hq)⟩
  · have := k.ar p hp
    omega
  · rw [Fm.pos_rel]
    by_cases e : p.1 = q.1
    · have e2 := k.uni p q hp hq e
      subst e2
      obtain ⟨a, b, m⟩ := p
      have u : m < 2 := u
      match m, u with
      | 0, _ => cases hs
      | 1, _ =>
        have : s = 1 := (Option.some.inj hs).symm
        rw [this]; rfl
    · rw [decide_eq_false e]
      exact Bool.or_true _
theorem Gen.cmp {pool : List Str} {ns : List NE} {Γ : ArE} {h : Hd} (c : (∃ x y, h = .eq x y ∧ (Nm x ∧ x ∈ pool) ∧ Nm y ∧ y ∈ pool) ∨ (∃ x y, h = .less x y ∧ (Nm x ∧ x ∈ pool) ∧ Nm y ∧ y ∈ pool)) : Gen pool ns Γ (.mk h []) 1 := by
  have nr : h.kd ≠ .rel := by rcases c with ⟨x, y, rfl, _⟩ | ⟨x, y, rfl, _⟩ <;> exact fun z => nomatch z
  refine ⟨.mk ?_ (fun q hq => nomatch hq), .other nr (fun q hq => nomatch hq), .mk (fun n us as e => ?_) (fun q hq => nomatch hq), fun q hq s hs => ?_, by rw [Fm.dep_mk]; exact Nat.le_refl _, by rw [Fm.cnt_mk]; exact Nat.le_refl _, .mk' (fun z hz => ?_) (fun z hz => ?_) (fun q hq => nomatch hq)⟩
  · rcases c with ⟨x, y, rfl, h1, h2⟩ | ⟨x, y, rfl, h1, h2⟩ <;> exact ⟨h1.1, h2.1, rfl⟩
  · rcases c with ⟨x, y, rfl, h1, h2⟩ | ⟨x, y, rfl, h1, h2⟩ <;> cases e
  · rw [Fm.pos_other nr]
    split <;> rfl
  · rcases c with ⟨x, y, rfl, h1, h2⟩ | ⟨x, y, rfl, h1, h2⟩
    · have hz : z ∈ [x, y] := hz
      rcases List.mem_cons.mp hz with rfl | hz
      · exact h1.2
      · rw [List.mem_singleton.mp hz]; exact h2.2
    · have hz : z ∈ [x, y] := hz
      rcases List.mem_cons.mp hz with rfl | hz
      · exact h1.2
      · rw [List.mem_singleton.mp hz]; exact h2.2
  · rcases c with ⟨x, y, rfl, h1, h2⟩ | ⟨x, y, rfl, h1, h2⟩ <;> exact nomatch hz
theorem sum_gen {n : Nat} : ∀ (ps : List Fm), (∀ p, p ∈ ps → 2 * p.cnt + 1 ≤ 3 ^ n) → 2 * sumN (ps.map Fm.cnt) + ps.length ≤ ps.length * 3 ^ n
  | [], _ => Nat.zero_le _
  | p :: ps, h => by
    have a := h p (List.mem_cons_self ..)
    have b := sum_gen ps fun q hq => h q (List.mem_cons_of_mem _ hq)
    show 2 * (p.cnt + sumN (ps.map Fm.cnt)) + (ps.length + 1) ≤ (ps.length + 1) * 3 ^ n
    rw [Nat.add_mul, Nat.one_mul]
    omega
theorem maxN_le {n : Nat} : ∀ (xs : List Nat), (∀ x, x ∈ xs → x ≤ n) → maxN xs ≤ n
  | [], _ => Nat.zero_le _
  | x :: xs, h => Nat.max_le.mpr ⟨h x (List.mem_cons_self ..), maxN_le xs fun y hy => h y (List.mem_cons_of_mem _ hy)⟩
theorem Gen.step {pool : List Str} {ns ns' : List NE} {Γ : ArE} {h : Hd} {ps : List Fm} {n : Nat} (nr : h.kd ≠ .rel) (rn5 : ∀ x, x ∈ h.rn → x ∈ five) (ok : h.Ok ps.length) (hv : ∀ x, x ∈ h.vars → x ∈ pool) (hg : ∀ g, g ∈ ps → Gen pool ns' (h.env Γ) g n) (len : ps.length ≤ 3)
    (hl : ∀ m us as, h = .lfp m us as → ∃ q, q ∈ ns' ∧ q.1 = m ∧ sgOf q.2.2 = some 1)
    (tr : ∀ p, p ∈ ns → h.bname ≠ some p.1 → ∀ s, sgOf p.2.2 = some s → ∃ q, q ∈ ns' ∧ q.1 = p.1 ∧ sgOf q.2.2 = some (h.sgn s)) : Gen pool ns Γ (.mk h ps) (n + 1) := by
  refine ⟨.mk ok fun p hp => (hg p hp).ok, .other nr fun p hp => (hg p hp).ty, .mk (fun m us as e p hp => ?_) fun p hp => (hg p hp).po, fun p hp s hs => ?_, ?_, ?_, .mk' hv rn5 fun p hp => (hg p hp).oc⟩
  · obtain ⟨q, hq, e1, e2⟩ := hl m us as e
    rw [← e1]
    exact (hg p hp).md q hq 1 e2
  · rw [Fm.pos_other nr]
    by_cases hb : h.bname = some p.1
    · rw [if_pos hb]
    · rw [if_neg hb]
      refine List.all_eq_true.mpr fun g hgm => ?_
      obtain ⟨q, hq, e1, e2⟩ := tr p hp hb s hs
      rw [← e1]
      exact (hg g hgm).md q hq _ e2
  · rw [Fm.dep_mk]
    have := maxN_le (n := n) (ps.map Fm.dep) fun x hx => by
      obtain ⟨g, hgm, rfl⟩ := List.mem_map.mp hx
      exact (hg g hgm).dep
    omega
  · rw [Fm.cnt_mk]
    have h1 := sum_gen ps fun p hp => (hg p hp).cnt
    have h2 : 1 ≤ 3 ^ n := Nat.one_le_pow _ _ (by decide)
    rw [Nat.pow_succ]
    generalize sumN (ps.map Fm.cnt) = S at h1 ⊢
    generalize 3 ^ n = T at h1 h2 ⊢
    match hL : ps.length, len with
    | 0, _ => rw [hL] at h1; omega
    | 1, _ => rw [hL] at h1; omega
    | 2, _ => rw [hL] at h1; omega
    | 3, _ => rw [hL] at h1; omega
theorem sgOf_turn {m : Nat} {s : Int} (h : sgOf m = some s) : sgOf (mode4 0 2 1 3 m) = some (-s) := by
  match m with
  | 0 => cases h
  | 1 => rw [← Option.some.inj h]; rfl
  | 2 => rw [← Option.some.inj h]; rfl
  | _ + 3 => rw [← Option.some.inj h]; rfl
theorem sgOf_bar {m : Nat} {s : Int} (h : sgOf m = some s) : sgOf (mode4 0 3 3 3 m) = some 0 := by
  match m with
  | 0 => cases h
  | 1 => rfl
  | 2 => rfl
  | _ + 3 => rfl
theorem Gen.no {pool : List Str} {ns : List NE} {Γ : ArE} {g : Fm} {n : Nat} (hg : Gen pool (turned ns) Γ g n) : Gen pool ns Γ (.mk .no [g]) (n + 1) :=
  .step (ns' := SaysoV.turned ns) (fun z => nomatch z) (fun x hx => nomatch hx) rfl (fun x hx => nomatch hx) (fun f hf => by rw [List.mem_singleton.mp hf]; exact hg) (show 1 ≤ 3 by decide) (fun m us as e => by cases e) fun p hp _ s hs => ⟨(p.1, p.2.1, mode4 0 2 1 3 p.2.2), List.mem_map.mpr ⟨p, hp, rfl⟩, rfl, sgOf_turn hs⟩
theorem Gen.con {pool : List Str} {ns : List NE} {Γ : ArE} {h : Hd} {ps : List Fm} {n : Nat} (c : h = .con ∨ h = .dis) (hg : ∀ g, g ∈ ps → Gen pool ns Γ g n) (len : ps.length ≤ 3) : Gen pool ns Γ (.mk h ps) (n + 1) := by
  refine .step (ns' := ns) ?_ (by rcases c with rfl | rfl <;> exact fun x hx => nomatch hx) ?_ ?_ (fun f hf => ?_) len ?_ ?_
  · rcases c with rfl | rfl <;> exact fun z => nomatch z
  · rcases c with rfl | rfl <;> exact Nat.le_trans len (by decide)
  · rcases c with rfl | rfl <;> exact fun x hx => nomatch hx
  · rcases c with rfl | rfl <;> exact hg f hf
  · rcases c with rfl | rfl <;> exact fun m us as e => by cases e
  · rcases c with rfl | rfl <;> exact fun p hp _ s hs => ⟨p, hp, rfl, hs⟩
theorem Gen.quant {pool : List Str} {ns : List NE} {Γ : ArE} {h : Hd} {vs : List Str} {g : Fm} {n : Nat} (c : h = .ex vs ∨ h = .al vs) (o : OwnOk vs) (hv : ∀ x, x ∈ vs → x ∈ pool) (hg : Gen pool ns Γ g n) : Gen pool ns Γ (.mk h [g]) (n + 1) := by
  refine .step (ns' := ns) ?_ (by rcases c with rfl | rfl <;> exact fun x hx => nomatch hx) ?_ ?_ (fun f hf => ?_) (show 1 ≤ 3 by decide) ?_ ?_
  · rcases c with rfl | rfl <;> exact fun z => nomatch z
  · rcases c with rfl | rfl <;> exact ⟨o, rfl⟩
  · intro x hx
    refine hv x ?_
    rcases c with rfl | rfl
    · have hx : x ∈ vs ++ [] := hx
      rwa [List.append_nil] at hx
    · have hx : x ∈ vs ++ [] := hx
      rwa [List.append_nil] at hx
  · rw [List.mem_singleton.mp hf]
    rcases c with rfl | rfl <;> exact hg
  · rcases c with rfl | rfl <;> exact fun m us as e => by cases e
  · rcases c with rfl | rfl <;> exact fun p hp _ s hs => ⟨p, hp, rfl, hs⟩
theorem Gen.tc {pool : List Str} {ns : List NE} {Γ : ArE} {vs as : List Str} {g : Fm} {n : Nat} (l2 : vs.length = 2) (nv : Names vs) (nd : vs.Nodup) (la : as.length = 2) (na : Names as) (hv : ∀ x, x ∈ vs → x ∈ pool) (hw : ∀ x, x ∈ as → x ∈ pool) (hg : Gen pool ns Γ g n) : Gen pool ns Γ (.mk (.tc vs as) [g]) (n + 1) :=
  .step (ns' := ns) (fun z => nomatch z) (fun x hx => nomatch hx) ⟨.inl l2, nv, nd, by rw [l2, la], na, rfl⟩ (fun x hx => (List.mem_append.mp (show x ∈ vs ++ as from hx)).elim (hv x) (hw x)) (fun f hf => by rw [List.mem_singleton.mp hf]; exact hg) (show 1 ≤ 3 by decide) (fun m us as e => by cases e) fun p hp _ s hs => ⟨p, hp, rfl, hs⟩
theorem Gen.lfp {pool : List Str} {ns : List NE} {Γ : ArE} {name : Str} {vs as : List Str} {g : Fm} {n : Nat} (nn : Nm name) (n5 : name ∈ five) (o : OwnOk vs) (la : as.length = vs.length) (na : Names as) (hv : ∀ x, x ∈ vs → x ∈ pool) (hw : ∀ x, x ∈ as → x ∈ pool) (hg : Gen pool (SaysoV.within ns (name, vs.length, 1)) (Hd.env (.lfp name vs as) Γ) g n) : Gen pool ns Γ (.mk (.lfp name vs as) [g]) (n + 1) :=
  .step (fun z => nomatch z) (fun x hx => by rw [List.mem_singleton.mp hx]; exact n5) ⟨nn, o, la, na, rfl⟩ (fun x hx => (List.mem_append.mp (show x ∈ vs ++ as from hx)).elim (hv x) (hw x)) (fun f hf => by rw [List.mem_singleton.mp hf]; exact hg) (show 1 ≤ 3 by decide)
    (fun m us as e => ⟨_, mem_within.mpr (.inr rfl), by injection e, rfl⟩)
    fun p hp hb s hs => ⟨p, mem_within.mpr (.inl ⟨hp, fun e => hb (congrArg some e.symm)⟩), rfl, hs⟩
theorem Gen.pfp {pool : List Str} {ns : List NE} {Γ : ArE} {name : Str} {vs as : List Str} {g : Fm} {n : Nat} (nn : Nm name) (n5 : name ∈ five) (o : OwnOk vs) (la : as.length = vs.length) (na : Names as) (hv : ∀ x, x ∈ vs → x ∈ pool) (hw : ∀ x, x ∈ as → x ∈ pool) (hg : Gen pool (SaysoV.within (SaysoV.barred ns) (name, vs.length, 0)) (Hd.env (.pfp name vs as) Γ) g n) : Gen pool ns Γ (.mk (.pfp name vs as) [g]) (n + 1) :=
  .step (fun z => nomatch z) (fun x hx => by rw [List.mem_singleton.mp hx]; exact n5) ⟨nn, o, la, na, rfl⟩ (fun x hx => (List.mem_append.mp (show x ∈ vs ++ as from hx)).elim (hv x) (hw x)) (fun f hf => by rw [List.mem_singleton.mp hf]; exact hg) (show 1 ≤ 3 by decide)
    (fun m us as e => by cases e)
    fun p hp hb s hs => ⟨(p.1, p.2.1, mode4 0 3 3 3 p.2.2), mem_within.mpr (.inl ⟨List.mem_map.mpr ⟨p, hp, rfl⟩, fun e => hb (congrArg some e.symm)⟩), rfl, sgOf_bar hs⟩
theorem Gen.gs {pool : List Str} {ns : List NE} {Γ : ArE} {name : Str} {k : Nat} {g : Fm} {n : Nat} (nn : Nm name) (n5 : name ∈ five) (hk : k ≤ 3) (hg : Gen pool (SaysoV.within ns (name, k, 0)) (Hd.env (.gs name k) Γ) g n) : Gen pool ns Γ (.mk (.gs name k) [g]) (n + 1) :=
  .step (fun z => nomatch z) (fun x hx => by rw [List.mem_singleton.mp hx]; exact n5) ⟨nn, hk, rfl⟩ (fun x hx => nomatch hx) (fun f hf => by rw [List.mem_singleton.mp hf]; exact hg) (show 1 ≤ 3 by decide)
    (fun m us as e => by cases e)
    fun p hp hb s hs => ⟨p, mem_within.mpr (.inl ⟨hp, fun e => hb (congrArg some e.symm)⟩), rfl, hs⟩
/-! ### the heap under draws -/
def Far (xs : List V) : Prop := ∀ (l : Addr) (n : Int), xs ≠ [.ref l, .int n]
theorem far_strs (as : List Str) : Far (as.map V.str) := fun l n e => by
  cases as with
  | nil => cases e
  | cons a r => injection e with h _; cases h
section
variable {K : PySem.W.Frag} {H H' : Hp} {d l : Addr}
theorem far_dp {xs : List V} {ts : List PyData} (h : DpAll K H xs ts) (g : good (.list ts) = true) : Far xs := fun l n e => by
  rw [e] at h
  rw [no_ints h] at g
  cases g
theorem SqL.kpA {a : Addr} {xs : List V} (h : SqL K H a xs) (far : Far xs) (r : DrA H d l) (k : Kp d H H') : SqL K H' a xs := by
  obtain ⟨n, ms, h1, _⟩ := r
  exact wo_sub.seq ((wo_kp k).seq (SqL.wo h1 (far l n) h))
end
theorem DpAll.inMem {K : PySem.W.Frag} {H : Hp} {xs : List V} {ts : List PyData} {v : V} (h : DpAll K H xs ts) (m : v ∈ xs) : ∃ t, t ∈ ts ∧ Dp K H v t := by
  obtain ⟨i, hi⟩ := List.mem_iff_getElem?.mp m
  obtain ⟨t, ht, e⟩ := DpAll.get' h hi
  exact ⟨t, List.mem_of_getElem? ht, e⟩
theorem atI_mod {xs : List V} (z : Int) (h : 0 < xs.length) : ∃ v, v ∈ xs ∧ atI xs (z % (xs.length : Int)) = some v := by
  have i0 : 0 ≤ z % (xs.length : Int) := Int.emod_nonneg _ (by omega)
  have i1 : z % (xs.length : Int) < (xs.length : Int) := Int.emod_lt_of_pos _ (by omega)
  obtain ⟨j, hj⟩ : ∃ j : Nat, z % (xs.length : Int) = (j : Int) := ⟨(z % (xs.length : Int)).toNat, by omega⟩
  rw [hj] at i1 ⊢
  have hl : j < xs.length := by omega
  exact ⟨xs[j], List.getElem_mem hl, atI_nat (List.getElem?_eq_getElem hl)⟩
theorem atI_str {as : List Str} (z : Int) (h : 0 < as.length) : ∃ x, x ∈ as ∧ atI (as.map V.str) (z % ((as.map V.str).length : Int)) = some (.str x) := by
  obtain ⟨v, hv, e⟩ := atI_mod (xs := as.map V.str) z (by rw [List.length_map]; exact h)
  obtain ⟨x, hx, rfl⟩ := List.mem_map.mp hv
  exact ⟨x, hx, e⟩
theorem swap2 {B G : Prop} (f : B → G) (b : B) : G := f b
structure Pool (pool : List Str) : Prop where
  nm : Names pool
  nd : pool.Nodup
  one : 1 ≤ pool.length
  few : pool.length ≤ 20
def spAtom (K : PySem.W.Frag) : Sp := fun vs H Q _ => ∃ (d l : Addr) (vp vn : V) (pool : List Str) (ns : List NE) (Γ : ArE), vs = [.ref d, vp, vn] ∧ DrA H d l ∧ Dp K H vp (.list (pool.map PyData.str)) ∧ Dp K H vn (nsD ns) ∧ NOk ns Γ ∧ Pool pool ∧ ns.length ≤ 100 ∧
  ∀ (H' : Hp) (r : V) (f : Fm), DrA H' d l → Kp d H H' → Dp K H' r f.data → Gen pool ns Γ f 1 → Q r H'
section
variable {P : Program} {w : World} {K : PySem.W.Frag} {mg : Str → Option Value} {base : Heap}
theorem sc_atom : FnScope ["draws", "pool", "names", "usable", "pick", "one", "word", "k"] ["draws", "pool", "names"] (defScope (top 127)) := ⟨rfl, rfl, rfl, by decide +kernel, rfl, by decide +kernel, by decide +kernel⟩
theorem has_atom (D : Def K mg "_law_atom" ["draws", "pool", "names"] (top 127)) (T : Txt mg) (C1 : Has P w K mg base 2 "_law_draw" ["draws"] spDraw) : Has P w K mg base 3 "_law_atom" ["draws", "pool", "names"] (spAtom K) := D.has fun f fd F => by
  obtain ⟨f1, fd1, G_law_draw, g_law_draw, k_law_draw, b_law_draw⟩ := C1
  refine F.ok sc_atom (fun vs H Q E h => ?_) (fun cdv A outer s H vs Q E hr h => ?_)
  · obtain ⟨d, l, vp, vn, pool, ns, Γ, rfl, _⟩ := h; rfl
  · obtain ⟨d, l, vp, vn, pool, ns, Γ, rfl, dr, dp, dn, ok, po, hl, q⟩ := h
    have R_law_draw : Room 2 _ := hr.mono (by decide)
    refine ⟨_, PSs.nox (pss_cons (ps_setLc (i := 3) (own := [("one", 5)]) rfl sc_atom.nd rfl rfl (sw_true rfl rfl rfl (by decide +kernel)) (pi_list (pv 2)) (blkOk_by (N := ["draws", "pool", "names", "usable", "pick", "one", "word", "k"]) (sc := defScope (top 127)) (by decide +kernel)) (fun _ _ _ _ _ => (pg_name (i := 5) sc_atom.nd rfl (Or.inl rfl))) (fun _ _ _ _ _ => (pts_one (pt_cmpR op_lt (pe_ix (ix_tupK (K := K) rfl) (pv 5) pe_int (fun _ _ => rfl)) pe_int (nomark _)))) (fun _ _ _ _ _ => (pv 5))) (pss_cons (ps_set (i := 4) sc_atom.nd rfl (Or.inl rfl) (pe_op op_mod (pe_call G_law_draw R_law_draw (by rfl) g_law_draw k_law_draw b_law_draw .nil pass0 (pa_cons (pv 0) pa_nil)) pe_int)) (pss_cons (ps_if (PW.pt (pw_and (pt_cmpR op_lt (pv 4) pe_int (nomark _)) (pw_and1 (pt_cmpR op_gt (pe_callB call_len_seq (by rfl) T.n_len PySem.boot_len (pa_cons (pv 3) pa_nil)) pe_int (nomark _))))) (pss_cons (ps_set (i := 5) sc_atom.nd rfl (Or.inl rfl) (pe_ix ix_list (pv 3) (pe_op op_mod (pe_call G_law_draw R_law_draw (by rfl) g_law_draw k_law_draw b_law_draw .nil pass0 (pa_cons (pv 0) pa_nil)) (pe_callB call_len_seq (by rfl) T.n_len PySem.boot_len (pa_cons (pv 3) pa_nil))) (fun _ _ => rfl))) (pss_one (ps_ret (pe_tup (pa_cons pe_str (pa_cons (pe_ix ix_tup (pv 5) pe_int (fun _ _ => rfl)) (pa_cons (pe_callTy call_tuple_of (by rfl) T.n_tuple (by decide +kernel) (pa_cons (pe_lc (own := [("k", 7)]) rfl sc_atom.nd (pi_range1 (by rfl) T.n_range (pa_cons (pe_ix ix_tup (pv 5) pe_int (fun _ _ => rfl)) pa_nil)) (blkOk_by (N := ["draws", "pool", "names", "usable", "pick", "one", "word", "k"]) (sc := defScope (top 127)) (by decide +kernel)) (fun _ _ _ _ _ => (pg_name (i := 7) sc_atom.nd rfl (Or.inl rfl))) (fun _ _ _ _ _ => pts_nil) (fun _ _ _ _ _ => (pe_ix (ix_listK (K := K) rfl) (pv 1) (pe_op op_mod (pe_call G_law_draw R_law_draw (by rfl) g_law_draw k_law_draw b_law_draw .nil pass0 (pa_cons (pv 0) pa_nil)) (pe_callB (call_len_seqK (K := K) rfl) (by rfl) T.n_len PySem.boot_len (pa_cons (pv 1) pa_nil))) (fun _ _ => rfl)))) pa_nil)) pa_nil))))))) pss_nil) (pss_cons (ps_set (i := 6) sc_atom.nd rfl (Or.inl rfl) (pe_ix ix_list (pe_lst (pa_cons pe_str (pa_cons pe_str pa_nil))) (pe_op op_mod (pe_call G_law_draw R_law_draw (by rfl) g_law_draw k_law_draw b_law_draw .nil pass0 (pa_cons (pv 0) pa_nil)) pe_int) (fun _ _ => rfl))) (pss_one (ps_ret (pe_tup (pa_cons (pv 6) (pa_cons (pe_ix ix_list (pv 1) (pe_op op_mod (pe_call G_law_draw R_law_draw (by rfl) g_law_draw k_law_draw b_law_draw .nil pass0 (pa_cons (pv 0) pa_nil)) (pe_callB call_len_seq (by rfl) T.n_len PySem.boot_len (pa_cons (pv 1) pa_nil))) (fun _ _ => rfl)) (pa_cons (pe_ix ix_list (pv 1) (pe_op op_mod (pe_call G_law_draw R_law_draw (by rfl) g_law_draw k_law_draw b_law_draw .nil pass0 (pa_cons (pv 0) pa_nil)) (pe_callB call_len_seq (by rfl) T.n_len PySem.boot_len (pa_cons (pv 1) pa_nil))) (fun _ _ => rfl)) pa_nil)))))))))), ?_⟩
    obtain ⟨b, rfl, hb⟩ := strsL dp
    obtain ⟨a, xs, rfl, ha, hx⟩ := Dp.lst_inv dn
    have p0 : 0 < pool.length := by have := po.one; omega
    -- usable
    refine ⟨_, rfl, a, rfl, ⟨_, ha⟩, fun L nL => ?_⟩
    refine lc_it (walk_list (K := K) (a := a) (xs := xs)) (fun i H2 => ∃ acc, H2 L = some (.lst acc) ∧ DpAll K H acc (((ns.take i).filter fun p : NE => decide (p.2.2 < 2)).map nD) ∧ Same H H2) ⟨[], upd_same, .nil, same_upd nL⟩ (fun i H2 _ ⟨_, _, _, s2⟩ => s2.seq ha) ?_ ?_
    · rintro i y H2 H3 hi ⟨acc, hL, hacc, s2⟩ ⟨rfl, hy⟩
      obtain ⟨dd, hd, dpy⟩ := DpAll.get' hx hy
      obtain ⟨p, hp, rfl⟩ := get_map hd
      obtain ⟨t, rfl, ht⟩ := nD_inv dpy
      refine ⟨rfl, _, rfl, t, _, _, _, rfl, rfl, Same.sqt s2 ht, atI_nat (j := 2) rfl, _, _, rfl, rfl, _, rfl, ?_⟩
      have ef := filter_snoc (p := fun p : NE => decide (p.2.2 < 2)) hp
      by_cases e : p.2.2 < 2
      · refine cT (k := decide ((p.2.2 : Int) < 2)) (decide_eq_true (by omega)) ⟨_, rfl, _, hL, ?_, ?_⟩
        · have e1 := DpAll.length hacc
          rw [List.length_map] at e1
          have e2 := List.length_filter_le (fun p : NE => decide (p.2.2 < 2)) (ns.take i)
          have e3 := List.length_take_le' i ns
          exact small1000 (by omega)
        · refine ⟨_, upd_same, ?_, fun b o eb => by rw [upd_ne (ne_of_none eb nL)]; exact s2 _ _ eb⟩
          rw [show (if decide (p.2.2 < 2) = true then [p] else []) = [p] by simp [e]] at ef
          rw [ef, List.map_append]
          exact DpAll.snoc hacc (nD_of ht)
      · refine cF (k := decide ((p.2.2 : Int) < 2)) (decide_eq_false (by omega)) ⟨acc, hL, ?_, s2⟩
        rw [show (if decide (p.2.2 < 2) = true then [p] else []) = [] by simp [e], List.append_nil] at ef
        rw [ef]
        exact hacc
    · rintro H2 ⟨acc, hL, hacc, s2⟩
      have el : xs.length = ns.length := by rw [DpAll.length hx, List.length_map]
      rw [List.take_of_length_le (show ns.length ≤ xs.length by omega)] at hacc
      have dr2 := dr.same s2
      have nd : L ≠ d ∧ L ≠ l := dr.ne nL
      refine ⟨_, rfl, d, l, rfl, dr2, fun z1 H3 _ _ dr3 k3 => ?_⟩
      refine ⟨_, _, rfl, rfl, (by show (0 : Int) < 5; decide), ?_⟩
      have hL3 := k3 _ _ hL nd.1
      have k03 : Kp d H H3 := (Kp.of s2).trans k3
      have Z : DpAll K H3 acc ((ns.filter fun p : NE => decide (p.2.2 < 2)).map nD) := DpAll.kl (.dr k03 dr) hacc (ns_noL _)
      have hb3 := SqL.kpA hb (far_strs _) dr k03
      by_cases hc : z1 % 5 < 3 ∧ 0 < acc.length
      · refine ⟨_, rfl, _, _, rfl, rfl, _, rfl, ite2 (fun e => ?_) (fun e => absurd (decide_eq_true hc.1) e)⟩
        refine ⟨_, rfl, L, _, rfl, .inl (SqL.of hL3), _, _, rfl, rfl, _, rfl, ?_⟩
        refine cT (k := decide ((0 : Int) < (acc.length : Nat))) (decide_eq_true (by omega)) ?_
        refine ⟨_, rfl, _, rfl, d, l, rfl, dr3, fun z2 H4 _ _ dr4 k4 => ?_⟩
        have hL4 := k4 _ _ hL3 nd.1
        obtain ⟨v, hv, hat⟩ := atI_mod z2 hc.2
        obtain ⟨t1, ht1, dv⟩ := DpAll.inMem Z hv
        obtain ⟨p, hp, rfl⟩ := List.mem_map.mp ht1
        obtain ⟨hp1, hp2⟩ := List.mem_filter.mp hp
        obtain ⟨t, rfl, ht⟩ := nD_inv (Dp.kl (.dr k4 dr3) dv (noL_nD p))
        refine ⟨_, rfl, L, _, rfl, .inl (SqL.of hL4), _, _, rfl, rfl, (by omega), L, _, _, _, rfl, rfl, SqL.of hL4, hat, ?_⟩
        have a3 := ok.ar p hp1
        refine ⟨_, rfl, t, _, _, _, rfl, rfl, ht, atI_nat (j := 0) rfl, ?_⟩
        refine ⟨_, rfl, t, _, _, _, rfl, rfl, ht, atI_nat (j := 1) rfl, p.2.1, rfl, by omega, by omega, fun M nM => ?_⟩
        have k04 := k03.trans k4
        have hb4 := SqL.kpA hb (far_strs _) dr k04
        obtain ⟨nMd, nMl⟩ := dr4.ne nM
        refine lc_it walk_range (fun i H5 => ∃ as : List Str, DrA H5 d l ∧ Kp d H4 H5 ∧ H5 M = some (.lst (as.map V.str)) ∧ as.length = i ∧ ∀ x, x ∈ as → x ∈ pool) ⟨[], dr4.same (same_upd nM), .of (same_upd nM), upd_same, rfl, fun x hx => nomatch hx⟩ (fun _ _ _ _ => trivial) ?_ ?_
        · rintro i y H5 H6 hi ⟨as, dr5, k5, hM, len, hs⟩ ⟨rfl, rfl⟩
          refine ⟨rfl, _, rfl, _, rfl, d, l, rfl, dr5, fun z6 H7 _ _ dr7 k7 => ?_⟩
          have hb7 := SqL.kpA hb4 (far_strs _) dr4 (k5.trans k7)
          obtain ⟨x, hx, hax⟩ := atI_str (as := pool) z6 p0
          have hM7 := k7 _ _ hM nMd
          refine ⟨_, rfl, b, _, rfl, .inl hb7, _, _, rfl, rfl, (by rw [List.length_map]; omega), b, _, _, _, rfl, rfl, hb7, hax, _, hM7, ?_, as ++ [x], dr7.kp Kp.upd ⟨nMd, nMl⟩, kp_own (k5.trans k7) nM, ?_, ?_, ?_⟩
          · rw [List.length_map]
            exact small1000 (by omega)
          · rw [upd_same, List.map_append]; rfl
          · rw [List.length_append, len]; rfl
          · intro y hy
            rcases List.mem_append.mp hy with hy | hy
            · exact hs y hy
            · rw [List.mem_singleton.mp hy]; exact hx
        · rintro H5 ⟨as, dr5, k5, hM, len, hs⟩
          refine ⟨M, _, rfl, .inl ⟨SqL.of hM, fun u nu => ?_⟩⟩
          refine ⟨(by show 3 ≤ sizeLine; decide), fun r nr => ?_⟩
          have s7 := same_upd (o := .tup (as.map V.str)) nu
          have s8 := same_upd (o := .tup [.str "rel", .str p.1, .ref u]) nr
          refine q _ _ (.mk (.rel p.1 as) []) (dr5.same (s7.trans s8)) ((k04.trans k5).trans (.of (s7.trans s8))) ?_ (.rel ok hp1 (by simpa using hp2) len (fun x hx => po.nm x (hs x hx)) hs)
          rw [Fm.data_mk]
          exact .tup (.inl (.inl upd_same)) (.cons (.str _) (.cons (.str _) (.cons (tS_of (Same.sqt s8 (.inl (.inl upd_same)))) .nil)))
      · refine swap2 (fun rest => ⟨_, rfl, _, _, rfl, rfl, _, rfl, ite2 (fun e => ⟨_, rfl, L, _, rfl, .inl (SqL.of hL3), _, _, rfl, rfl, _, rfl, cF (k := decide ((0 : Int) < (acc.length : Nat))) (decide_eq_false fun z => hc ⟨of_decide_eq_true e, by omega⟩) rest⟩) (fun e => iteF rest)⟩) ?_
        refine ⟨(by show 2 ≤ sizeLine; decide), fun c nc => ?_⟩
        have s3 := same_upd (o := .lst ((["eq", "less"] : List Str).map V.str)) nc
        have dr3' := dr3.same s3
        have nc3 := dr3.ne nc
        refine ⟨_, rfl, d, l, rfl, dr3', fun z2 H4 _ _ dr4 k4 => ?_⟩
        obtain ⟨wd, hw, hat⟩ := atI_str (as := ["eq", "less"]) z2 (by decide)
        have hc4 := k4 _ _ upd_same nc3.1
        refine ⟨_, _, rfl, rfl, (by show (0 : Int) < 2; decide), c, _, _, _, rfl, rfl, SqL.of hc4, hat, ?_⟩
        have k04 := (k03.trans (.of s3)).trans k4
        have hb4 := SqL.kpA hb (far_strs _) dr k04
        refine ⟨_, rfl, _, rfl, _, rfl, d, l, rfl, dr4, fun z5 H5 _ _ dr5 k5 => ?_⟩
        obtain ⟨x, hx, hax⟩ := atI_str (as := pool) z5 p0
        have hb5 := SqL.kpA hb4 (far_strs _) dr4 k5
        refine ⟨_, rfl, b, _, rfl, .inl hb5, _, _, rfl, rfl, (by rw [List.length_map]; omega), b, _, _, _, rfl, rfl, hb5, hax, ?_⟩
        refine ⟨_, rfl, _, rfl, d, l, rfl, dr5, fun z6 H6 _ _ dr6 k6 => ?_⟩
        obtain ⟨y, hy, hay⟩ := atI_str (as := pool) z6 p0
        have hb6 := SqL.kpA hb5 (far_strs _) dr5 k6
        refine ⟨_, rfl, b, _, rfl, .inl hb6, _, _, rfl, rfl, (by rw [List.length_map]; omega), b, _, _, _, rfl, rfl, hb6, hay, ?_⟩
        refine ⟨(by show 3 ≤ sizeLine; decide), fun r nr => ?_⟩
        have s8 := same_upd (o := .tup [.str wd, .str x, .str y]) nr
        have k06 := (k04.trans k5).trans k6
        rcases List.mem_cons.mp hw with rfl | hw
        · refine q _ _ (.mk (.eq x y) []) (dr6.same s8) (k06.trans (.of s8)) ?_ (.cmp (.inl ⟨x, y, rfl, ⟨po.nm x hx, hx⟩, po.nm y hy, hy⟩))
          rw [Fm.data_mk]
          exact .tup (.inl (.inl upd_same)) (.cons (.str _) (.cons (.str _) (.cons (.str _) .nil)))
        · rw [List.mem_singleton.mp hw] at s8 ⊢
          refine q _ _ (.mk (.less x y) []) (dr6.same s8) (k06.trans (.of s8)) ?_ (.cmp (.inr ⟨x, y, rfl, ⟨po.nm x hx, hx⟩, po.nm y hy, hy⟩))
          rw [Fm.data_mk]
          exact .tup (.inl (.inl upd_same)) (.cons (.str _) (.cons (.str _) (.cons (.str _) .nil)))
end
/-! ### the law's formulas are made -/
def kindsL : List Str := ["some", "all", "lfp", "pfp", "tc", "guess"]
/-- the list of kinds: some of the six -/
def Dk (K : PySem.W.Frag) (H : Hp) (v : V) : Prop := ∃ kl : List Str, 0 < kl.length ∧ (∀ x, x ∈ kl → x ∈ kindsL) ∧ Dp K H v (.list (kl.map PyData.str))
theorem Dk.kpA {K : PySem.W.Frag} {H H' : Hp} {d l : Addr} {v : V} (h : Dk K H v) (r : DrA H d l) (k : Kp d H H') : Dk K H' v := by
  obtain ⟨kl, a, b, c⟩ := h
  exact ⟨kl, a, b, Dp.kpA c r (good_strl _) k⟩
structure GA (K : PySem.W.Frag) (H : Hp) (d l : Addr) (vp vn vk : V) (pool : List Str) (ns : List NE) (Γ : ArE) (n : Nat) : Prop where
  dr : DrA H d l
  dp : Dp K H vp (.list (pool.map PyData.str))
  dn : Dp K H vn (nsD ns)
  dk : Dk K H vk
  ok : NOk ns Γ
  po : Pool pool
  few : ns.length + n ≤ 60
theorem GA.kp {K : PySem.W.Frag} {H H' : Hp} {d l : Addr} {vp vn vk : V} {pool : List Str} {ns : List NE} {Γ : ArE} {n : Nat} (g : GA K H d l vp vn vk pool ns Γ n) (k : Kp d H H') (dr : DrA H' d l) : GA K H' d l vp vn vk pool ns Γ n :=
  ⟨dr, Dp.kpA g.dp g.dr (good_strl _) k, Dp.kpA g.dn g.dr (good_nsD _) k, g.dk.kpA g.dr k, g.ok, g.po, g.few⟩
theorem GA.same {K : PySem.W.Frag} {H H' : Hp} {d l : Addr} {vp vn vk : V} {pool : List Str} {ns : List NE} {Γ : ArE} {n : Nat} (g : GA K H d l vp vn vk pool ns Γ n) (k : Same H H') : GA K H' d l vp vn vk pool ns Γ n := g.kp (.of k) (g.dr.same k)
theorem strsR {K : PySem.W.Frag} {H : Hp} {a : Addr} {as : List Str} (h : Dp K H (.ref a) (.list (as.map PyData.str))) : SqL K H a (as.map V.str) := by
  obtain ⟨b, e, h⟩ := strsL h
  cases e
  exact h
def spForm (K : PySem.W.Frag) (n : Nat) : Sp := fun vs H Q _ => ∃ (d l : Addr) (k : Int) (vp vn vk : V) (pool : List Str) (ns : List NE) (Γ : ArE) (m : Nat), vs = [.ref d, .int k, vp, vn, vk] ∧ k = (m : Nat) ∧ (1 ≤ m ∧ m ≤ n) ∧ GA K H d l vp vn vk pool ns Γ m ∧
  ∀ (H' : Hp) (r : V) (f : Fm), DrA H' d l → Kp d H H' → Dp K H' r f.data → Gen pool ns Γ f m → Q r H'
def spBound (K : PySem.W.Frag) (n : Nat) : Sp := fun vs H Q _ => ∃ (d l : Addr) (k : Int) (vp vn vk : V) (pool : List Str) (ns : List NE) (Γ : ArE) (m : Nat), vs = [.ref d, .int k, vp, vn, vk] ∧ k = (m : Nat) ∧ (2 ≤ m ∧ m ≤ n) ∧ GA K H d l vp vn vk pool ns Γ m ∧
  ∀ (H' : Hp) (r : V) (f : Fm), DrA H' d l → Kp d H H' → Dp K H' r f.data → Gen pool ns Γ f m → Q r H'
theorem within_len (ns : List NE) (p : NE) : (within ns p).length ≤ ns.length + 1 := by
  unfold within
  rw [List.length_append]
  have := List.length_filter_le (fun q : NE => !decide (q.1 = p.1)) ns
  show _ + 1 ≤ _
  omega
theorem barred_len (ns : List NE) : (barred ns).length = ns.length := List.length_map ..
theorem turned_len (ns : List NE) : (turned ns).length = ns.length := List.length_map ..
def nmB (z : Str) : Bool := decide (1 ≤ z.length) && decide (z.length ≤ 12) && (z.cps.toList[0]?).all (fun c => decide (c ∈ lets.cps.toList)) && !inV (.str z) resv && z.cps.toList.all (fun c => decide (c ∈ both.cps.toList))
theorem nm_of {z : Str} (h : nmB z = true) : Nm z := by
  unfold nmB at h
  simp only [Bool.and_eq_true, decide_eq_true_eq, Bool.not_eq_true', List.all_eq_true] at h
  obtain ⟨⟨⟨⟨h1, h2⟩, h3⟩, h4⟩, h5⟩ := h
  refine ⟨h1, h2, fun c hc => ?_, h4, h5⟩
  rw [hc] at h3
  simpa using h3
section
variable {P : Program} {w : World} {K : PySem.W.Frag} {mg : Str → Option Value} {base : Heap}
theorem sc_bound : FnScope ["draws", "deep", "pool", "names", "kinds", "pick", "args", "given", "name", "inner_v", "arity", "x"] ["draws", "deep", "pool", "names", "kinds"] (defScope (top 131)) := ⟨rfl, rfl, rfl, by decide +kernel, rfl, by decide +kernel, by decide +kernel⟩
theorem has_bound {n : Nat} (D : Def K mg "_law_bound" ["draws", "deep", "pool", "names", "kinds"] (top 131)) (T : Txt mg) (C1 : Has P w K mg base 2 "_law_draw" ["draws"] spDraw) (C2 : Has P w K mg base 3 "_law_some_of" ["draws", "pool", "many"] (spSomeOf K))
    (C3 : Has P w K mg base 1 "_law_within" ["names", "name", "arity", "mode"] (spWithin K)) (C4 : Has P w K mg base 1 "_law_barred" ["names"] (spMode K barred)) (C5 : Has P w K mg base (4 + 2 * n) "_law_formula" ["draws", "deep", "pool", "names", "kinds"] (spForm K n)) :
    Has P w K mg base (4 + 2 * n + 1) "_law_bound" ["draws", "deep", "pool", "names", "kinds"] (spBound K (n + 1)) := D.has fun f fd F => by
  obtain ⟨f1, fd1, G_law_draw, g_law_draw, k_law_draw, b_law_draw⟩ := C1
  obtain ⟨f2, fd2, G_law_some_of, g_law_some_of, k_law_some_of, b_law_some_of⟩ := C2
  obtain ⟨f3, fd3, G_law_within, g_law_within, k_law_within, b_law_within⟩ := C3
  obtain ⟨f4, fd4, G_law_barred, g_law_barred, k_law_barred, b_law_barred⟩ := C4
  obtain ⟨f5, fd5, G_law_formula, g_law_formula, k_law_formula, b_law_formula⟩ := C5
  refine F.ok sc_bound (fun vs H Q E h => ?_) (fun cdv A outer s H vs Q E hr h => ?_)
  · obtain ⟨d, l, k, vp, vn, vk, pool, ns, Γ, m, rfl, _⟩ := h; rfl
  · obtain ⟨d, l, k, vp, vn, vk, pool, ns, Γ, m0, rfl, hk, h2, ga, q⟩ := h
    obtain ⟨m, rfl⟩ : ∃ m, m0 = m + 1 := ⟨m0 - 1, by omega⟩
    have R_law_draw : Room 2 _ := hr.mono (Nat.le_trans (by decide) (Nat.le_add_right 4 (2 * n)))
    have R_law_some_of : Room 3 _ := hr.mono (Nat.le_trans (by decide) (Nat.le_add_right 4 (2 * n)))
    have R_law_within : Room 1 _ := hr.mono (Nat.le_trans (by decide) (Nat.le_add_right 4 (2 * n)))
    have R_law_barred : Room 1 _ := hr.mono (Nat.le_trans (by decide) (Nat.le_add_right 4 (2 * n)))
    have R_law_formula : Room (4 + 2 * n) _ := hr
    refine ⟨_, PSs.nox (pss_cons (ps_set (i := 5) sc_bound.nd rfl (Or.inl rfl) (pe_ix ix_list (pv 4) (pe_op op_mod (pe_call G_law_draw R_law_draw (by rfl) g_law_draw k_law_draw b_law_draw .nil pass0 (pa_cons (pv 0) pa_nil)) (pe_callB call_len_seq (by rfl) T.n_len PySem.boot_len (pa_cons (pv 4) pa_nil))) (fun _ _ => rfl))) (Evl.pss_cut (ps_if (PW.pt (pw_and (pt_cmpR op_eq (pe_callB call_len_seq (by rfl) T.n_len PySem.boot_len (pa_cons (pv 2) pa_nil)) pe_int (nomark _)) (pw_and1 (pt_cmpR op_eq (pv 5) pe_str (nomark _))))) (pss_one (ps_set (i := 5) sc_bound.nd rfl (Or.inl rfl) pe_str)) pss_nil) (pss_cons (ps_set (i := 6) sc_bound.nd rfl (Or.inl rfl) (pe_call G_law_some_of R_law_some_of (by rfl) g_law_some_of k_law_some_of b_law_some_of .nil pass0 (pa_cons (pv 0) (pa_cons (pv 2) (pa_cons (pe_callB (call_min2 rfl) (by rfl) T.n_min (by decide +kernel) (pa_cons (pe_callB call_len_seq (by rfl) T.n_len PySem.boot_len (pa_cons (pv 2) pa_nil)) (pa_cons (pe_ix ix_list (pe_lst (pa_cons pe_int (pa_cons pe_int (pa_cons pe_int (pa_cons pe_int (pa_cons pe_int (pa_cons pe_int pa_nil))))))) (pe_op op_mod (pe_call G_law_draw R_law_draw (by rfl) g_law_draw k_law_draw b_law_draw .nil pass0 (pa_cons (pv 0) pa_nil)) pe_int) (fun _ _ => rfl)) pa_nil))) pa_nil))))) (pss_cons (ps_set (i := 7) sc_bound.nd rfl (Or.inl rfl) (pe_callTy call_tuple_of (by rfl) T.n_tuple (by decide +kernel) (pa_cons (pe_lc (own := [("x", 11)]) rfl sc_bound.nd (pi_list (pv 6)) (blkOk_by (N := ["draws", "deep", "pool", "names", "kinds", "pick", "args", "given", "name", "inner_v", "arity", "x"]) (sc := defScope (top 131)) (by decide +kernel)) (fun _ _ _ _ _ => (pg_name (i := 11) sc_bound.nd rfl (Or.inl rfl))) (fun _ _ _ _ _ => pts_nil) (fun _ _ _ _ _ => (pe_ix (ix_listK (K := K) rfl) (pv 2) (pe_op op_mod (pe_call G_law_draw R_law_draw (by rfl) g_law_draw k_law_draw b_law_draw .nil pass0 (pa_cons (pv 0) pa_nil)) (pe_callB (call_len_seqK (K := K) rfl) (by rfl) T.n_len PySem.boot_len (pa_cons (pv 2) pa_nil))) (fun _ _ => rfl)))) pa_nil))) (pss_cons (ps_set (i := 8) sc_bound.nd rfl (Or.inl rfl) (pe_ix ix_list (pe_lst (pa_cons pe_str (pa_cons pe_str (pa_cons pe_str pa_nil)))) (pe_op op_mod (pe_call G_law_draw R_law_draw (by rfl) g_law_draw k_law_draw b_law_draw .nil pass0 (pa_cons (pv 0) pa_nil)) pe_int) (fun _ _ => rfl))) (pss_cons (ps_if (PW.pt (pw_or (pt_cmpR op_eq (pv 5) pe_str (nomark _)) (pw_or1 (pt_cmpR op_eq (pv 5) pe_str (nomark _))))) (pss_one (ps_ret (pe_tup (pa_cons (pv 5) (pa_cons (pe_callTy call_tuple_of (by rfl) T.n_tuple (by decide +kernel) (pa_cons (pv 6) pa_nil)) (pa_cons (pe_call G_law_formula R_law_formula (by rfl) g_law_formula k_law_formula b_law_formula .nil pass0 (pa_cons (pv 0) (pa_cons (pe_op op_sub (pv 1) pe_int) (pa_cons (pv 2) (pa_cons (pv 3) (pa_cons (pv 4) pa_nil)))))) pa_nil)))))) pss_nil) (pss_cons (ps_if (pt_cmpR op_eq (pv 5) pe_str (nomark _)) (pss_cons (ps_set (i := 9) sc_bound.nd rfl (Or.inl rfl) (pe_call G_law_within R_law_within (by rfl) g_law_within k_law_within b_law_within .nil pass0 (pa_cons (pv 3) (pa_cons (pv 8) (pa_cons (pe_callB call_len_seq (by rfl) T.n_len PySem.boot_len (pa_cons (pv 6) pa_nil)) (pa_cons pe_int pa_nil)))))) (pss_one (ps_ret (pe_tup (pa_cons pe_str (pa_cons (pv 8) (pa_cons (pe_callTy call_tuple_of (by rfl) T.n_tuple (by decide +kernel) (pa_cons (pv 6) pa_nil)) (pa_cons (pe_call G_law_formula R_law_formula (by rfl) g_law_formula k_law_formula b_law_formula .nil pass0 (pa_cons (pv 0) (pa_cons (pe_op op_sub (pv 1) pe_int) (pa_cons (pv 2) (pa_cons (pv 9) (pa_cons (pv 4) pa_nil)))))) (pa_cons (pv 7) pa_nil))))))))) pss_nil) (pss_cons (ps_if (pt_cmpR op_eq (pv 5) pe_str (nomark _)) (pss_cons (ps_set (i := 9) sc_bound.nd rfl (Or.inl rfl) (pe_call G_law_within R_law_within (by rfl) g_law_within k_law_within b_law_within .nil pass0 (pa_cons (pe_call G_law_barred R_law_barred (by rfl) g_law_barred k_law_barred b_law_barred .nil pass0 (pa_cons (pv 3) pa_nil)) (pa_cons (pv 8) (pa_cons (pe_callB call_len_seq (by rfl) T.n_len PySem.boot_len (pa_cons (pv 6) pa_nil)) (pa_cons pe_int pa_nil)))))) (pss_one (ps_ret (pe_tup (pa_cons pe_str (pa_cons (pv 8) (pa_cons (pe_callTy call_tuple_of (by rfl) T.n_tuple (by decide +kernel) (pa_cons (pv 6) pa_nil)) (pa_cons (pe_call G_law_formula R_law_formula (by rfl) g_law_formula k_law_formula b_law_formula .nil pass0 (pa_cons (pv 0) (pa_cons (pe_op op_sub (pv 1) pe_int) (pa_cons (pv 2) (pa_cons (pv 9) (pa_cons (pv 4) pa_nil)))))) (pa_cons (pv 7) pa_nil))))))))) pss_nil) (pss_cons (ps_if (pt_cmpR op_eq (pv 5) pe_str (nomark _)) (pss_cons (ps_set (i := 6) sc_bound.nd rfl (Or.inl rfl) (pe_call G_law_some_of R_law_some_of (by rfl) g_law_some_of k_law_some_of b_law_some_of .nil pass0 (pa_cons (pv 0) (pa_cons (pv 2) (pa_cons pe_int pa_nil))))) (pss_cons (ps_set (i := 7) sc_bound.nd rfl (Or.inl rfl) (pe_tup (pa_cons (pe_ix ix_list (pv 2) (pe_op op_mod (pe_call G_law_draw R_law_draw (by rfl) g_law_draw k_law_draw b_law_draw .nil pass0 (pa_cons (pv 0) pa_nil)) (pe_callB call_len_seq (by rfl) T.n_len PySem.boot_len (pa_cons (pv 2) pa_nil))) (fun _ _ => rfl)) (pa_cons (pe_ix ix_list (pv 2) (pe_op op_mod (pe_call G_law_draw R_law_draw (by rfl) g_law_draw k_law_draw b_law_draw .nil pass0 (pa_cons (pv 0) pa_nil)) (pe_callB call_len_seq (by rfl) T.n_len PySem.boot_len (pa_cons (pv 2) pa_nil))) (fun _ _ => rfl)) pa_nil)))) (pss_one (ps_ret (pe_tup (pa_cons pe_str (pa_cons (pe_callTy call_tuple_of (by rfl) T.n_tuple (by decide +kernel) (pa_cons (pv 6) pa_nil)) (pa_cons (pe_call G_law_formula R_law_formula (by rfl) g_law_formula k_law_formula b_law_formula .nil pass0 (pa_cons (pv 0) (pa_cons (pe_op op_sub (pv 1) pe_int) (pa_cons (pv 2) (pa_cons (pv 3) (pa_cons (pv 4) pa_nil)))))) (pa_cons (pv 7) pa_nil))))))))) pss_nil) (pss_cons (ps_set (i := 10) sc_bound.nd rfl (Or.inl rfl) (pe_op op_mod (pe_call G_law_draw R_law_draw (by rfl) g_law_draw k_law_draw b_law_draw .nil pass0 (pa_cons (pv 0) pa_nil)) pe_int)) (pss_cons (ps_set (i := 9) sc_bound.nd rfl (Or.inl rfl) (pe_call G_law_within R_law_within (by rfl) g_law_within k_law_within b_law_within .nil pass0 (pa_cons (pv 3) (pa_cons (pv 8) (pa_cons (pv 10) (pa_cons pe_int pa_nil)))))) (pss_one (ps_ret (pe_tup (pa_cons pe_str (pa_cons (pv 8) (pa_cons (pv 10) (pa_cons (pe_call G_law_formula R_law_formula (by rfl) g_law_formula k_law_formula b_law_formula .nil pass0 (pa_cons (pv 0) (pa_cons (pe_op op_sub (pv 1) pe_int) (pa_cons (pv 2) (pa_cons (pv 9) (pa_cons (pv 4) pa_nil)))))) pa_nil)))))))))))))))))), ?_⟩
    obtain ⟨bp, rfl, _⟩ := strsL ga.dp
    obtain ⟨kl, kl0, klS, dk0⟩ := ga.dk
    obtain ⟨bk, rfl, hbk⟩ := strsL dk0
    have p1 := ga.po.one
    have p20 := ga.po.few
    have lp : (pool.map V.str).length = pool.length := List.length_map ..
    -- pick
    refine ⟨_, rfl, _, rfl, d, l, rfl, ga.dr, fun z1 H1 _ _ dr1 k1 => ?_⟩
    have ga1 := ga.kp k1 dr1
    obtain ⟨pick, hpick0, hat⟩ := atI_str (as := kl) z1 kl0
    have hpick := klS pick hpick0
    have hbk1 := SqL.kpA hbk (far_strs _) ga.dr k1
    refine ⟨_, rfl, bk, _, rfl, .inl hbk1, _, _, rfl, rfl, (by rw [List.length_map]; omega), bk, _, _, _, rfl, rfl, hbk1, hat, ?_⟩
    refine ⟨fun σ H3 => H3 = H1 ∧ ∃ pk : Str, σ = [some (.ref d), some (.int k), some (.ref bp), some vn, some (.ref bk), some (.str pk), none, none, none, none, none, none] ∧ pk ∈ kindsL ∧ (pk = "tc" → 2 ≤ pool.length), ?_, ?_⟩
    · refine ⟨_, rfl, bp, _, rfl, .inl (strsR ga1.dp), rfl, _, rfl, ?_⟩
      by_cases e1 : pool.length = 1
      · refine cT (k := decide (V.int ((pool.map V.str).length : Nat) = V.int 1)) (decide_eq_true (by rw [lp, e1]; rfl)) ⟨_, rfl, rfl, _, rfl, ?_⟩
        by_cases e2 : pick = "tc"
        · exact cT (k := decide (V.str pick = V.str "tc")) (decide_eq_true (by rw [e2])) ⟨rfl, "some", rfl, by decide, fun z => absurd z (by decide +kernel)⟩
        · exact cF (k := decide (V.str pick = V.str "tc")) (decide_eq_false fun z => e2 (V.str.inj z)) ⟨rfl, pick, rfl, hpick, fun z => absurd z e2⟩
      · exact cF (k := decide (V.int ((pool.map V.str).length : Nat) = V.int 1)) (decide_eq_false fun z => e1 (by have := V.int.inj z; rw [lp] at this; omega)) (iteF ⟨rfl, pick, rfl, hpick, fun _ => by omega⟩)
    rintro σ H3 ⟨rfl, pk, rfl, hpk, htc⟩
    revert hpk htc
    generalize pk = pick
    intro hpick htc
    -- args
    refine ⟨_, rfl, _, rfl, _, rfl, bp, _, rfl, .inl (strsR ga1.dp), ?_⟩
    refine ⟨(by show 6 ≤ sizeLine; decide), fun c nc => ?_⟩
    have ga2 := ga1.same (same_upd (o := .lst [.int 1, .int 1, .int 1, .int 2, .int 2, .int 3]) nc)
    have ncd := (dr1.ne nc).1
    refine ⟨_, rfl, d, l, rfl, ga2.dr, fun z2 H2 _ _ dr2 k2 => ?_⟩
    have ga3 := ga2.kp k2 dr2
    have kk3 : Kp d H H2 := (k1.trans (.of (same_upd nc))).trans k2
    obtain ⟨v6, hv6, hat6⟩ := atI_mod (xs := [.int 1, .int 1, .int 1, .int 2, .int 2, .int 3]) z2 (by decide)
    obtain ⟨j, rfl, j1, j3⟩ : ∃ j : Nat, v6 = .int (j : Int) ∧ 1 ≤ j ∧ j ≤ 3 := by
      simp only [List.mem_cons, List.not_mem_nil, or_false] at hv6
      rcases hv6 with rfl | rfl | rfl | rfl | rfl | rfl
      · exact ⟨1, rfl, by decide, by decide⟩
      · exact ⟨1, rfl, by decide, by decide⟩
      · exact ⟨1, rfl, by decide, by decide⟩
      · exact ⟨2, rfl, by decide, by decide⟩
      · exact ⟨2, rfl, by decide, by decide⟩
      · exact ⟨3, rfl, by decide, by decide⟩
    refine ⟨_, _, rfl, rfl, (by show (0 : Int) < 6; decide), c, _, _, _, rfl, rfl, SqL.of (k2 _ _ upd_same ncd), hat6, ?_⟩
    have em : (if (j : Int) < ((pool.map V.str).length : Int) then (j : Int) else ((pool.map V.str).length : Int)) = ((min j pool.length : Nat) : Int) := by
      rw [lp]
      split <;> omega
    refine ⟨_, _, rfl, ?_⟩
    refine ⟨d, l, .ref bp, pool, min j pool.length, by rw [em]; rfl, dr2, Dp.wod dr2 ga3.dp (good_strl _), Nat.min_le_right _ _, p20, fun H3 ra ch dr3 k3 dch lch sub nd => ?_⟩
    have ga4 := ga3.kp k3 dr3
    have kk4 := kk3.trans k3
    have hra : SqL K H3 ra (ch.map V.str) := strsR (Dp.same wo_sub dch)
    have own : OwnOk ch := ⟨by omega, by omega, fun x hx => ga.po.nm x (sub x hx), nd ga.po.nd⟩
    have lc : (ch.map V.str).length = ch.length := List.length_map ..
    -- given
    refine ⟨_, rfl, ra, rfl, ⟨_, hra⟩, fun M nM => ?_⟩
    obtain ⟨nMd, nMl⟩ := dr3.ne nM
    refine lc_it (walk_list (K := K) (a := ra) (xs := ch.map V.str)) (fun i H5 => ∃ as : List Str, DrA H5 d l ∧ Kp d H3 H5 ∧ H5 M = some (.lst (as.map V.str)) ∧ as.length = i ∧ ∀ x, x ∈ as → x ∈ pool) ⟨[], dr3.same (same_upd nM), .of (same_upd nM), upd_same, rfl, fun x hx => nomatch hx⟩ (fun i H5 _ ⟨_, _, k5, _⟩ => SqL.kpA hra (far_strs _) dr3 k5) ?_ ?_
    · rintro i y H5 H6 hi ⟨as, dr5, k5, hM, len, hs⟩ ⟨rfl, _⟩
      refine ⟨rfl, _, rfl, _, rfl, d, l, rfl, dr5, fun z6 H7 _ _ dr7 k7 => ?_⟩
      have ga7 := ga4.kp (k5.trans k7) dr7
      obtain ⟨x, hx, hax⟩ := atI_str (as := pool) z6 (by omega)
      have hM7 := k7 _ _ hM nMd
      refine ⟨_, rfl, bp, _, rfl, .inl (strsR ga7.dp), _, _, rfl, rfl, (by omega), bp, _, _, _, rfl, rfl, strsR ga7.dp, hax, _, hM7, ?_, as ++ [x], dr7.kp Kp.upd ⟨nMd, nMl⟩, kp_own (k5.trans k7) nM, ?_, ?_, ?_⟩
      · rw [List.length_map]
        exact small1000 (by omega)
      · rw [upd_same, List.map_append]; rfl
      · rw [List.length_append, len]; rfl
      · intro y hy
        rcases List.mem_append.mp hy with hy | hy
        · exact hs y hy
        · rw [List.mem_singleton.mp hy]; exact hx
    · rintro H5 ⟨as, dr5, k5, hM, len, hva⟩
      have nas : Names as := fun x hx => ga.po.nm x (hva x hx)
      rw [lc] at len
      refine ⟨M, _, rfl, .inl ⟨SqL.of hM, fun u nu => ?_⟩⟩
      have su := same_upd (o := .tup (as.map V.str)) nu
      -- name
      refine ⟨(by show 3 ≤ sizeLine; decide), fun c2 nc2 => ?_⟩
      have sc2 := same_upd (o := .lst ((["r", "s", "e"] : List Str).map V.str)) nc2
      have dr6 := (dr5.same su).same sc2
      have nc2d := ((dr5.same su).ne nc2).1
      refine ⟨_, rfl, d, l, rfl, dr6, fun z3 H7 _ _ dr7 k7 => ?_⟩
      obtain ⟨nm, hnm, hatn⟩ := atI_str (as := ["r", "s", "e"]) z3 (by decide)
      have nmN : Nm nm := by
        simp only [List.mem_cons, List.not_mem_nil, or_false] at hnm
        rcases hnm with rfl | rfl | rfl <;> exact nm_of (by decide +kernel)
      have nm5 : nm ∈ five := by
        simp only [List.mem_cons, List.not_mem_nil, or_false] at hnm
        rcases hnm with rfl | rfl | rfl <;> decide +kernel
      refine ⟨_, _, rfl, rfl, (by show (0 : Int) < 3; decide), c2, _, _, _, rfl, rfl, SqL.of (k7 _ _ upd_same nc2d), hatn, ?_⟩
      have k37 : Kp d H3 H7 := ((k5.trans (.of su)).trans (.of sc2)).trans k7
      have kk7 := kk4.trans k37
      have ga7 := ga4.kp k37 dr7
      have hra7 : SqL K H7 ra (ch.map V.str) := SqL.kpA hra (far_strs _) dr3 k37
      have hu7 : SqT K H7 u (as.map V.str) := SqT.kl (.dr k7 dr6) (Same.sqt sc2 (.inl (.inl upd_same)))
      clear hatn hat6 hat hra hM
      have n1 : 1 ≤ m ∧ m ≤ n := by omega
      have f60 := ga.few
      simp only [kindsL, List.mem_cons, List.not_mem_nil, or_false] at hpick
      rcases hpick with rfl | rfl | rfl | rfl | rfl | rfl
      · refine ⟨_, rfl, rfl, _, rfl, cT (k := decide (V.str "some" = V.str "some")) (by decide +kernel) (iteT ?_)⟩
        refine ⟨_, rfl, _, rfl, ra, _, rfl, .inl ⟨hra7, fun u2 nu2 => ?_⟩⟩
        have su2 := same_upd (o := .tup (ch.map V.str)) nu2
        have ga8 := ga7.same su2
        refine ⟨_, rfl, _, rfl, _, _, rfl, rfl, _, rfl, _, rfl, _, rfl, d, l, _, .ref bp, vn, .ref bk, pool, ns, Γ, m, rfl, by omega, n1, ⟨ga8.dr, ga8.dp, ga8.dn, ga8.dk, ga8.ok, ga8.po, by omega⟩, fun H8 rf g dr8 k8 dg hg => ?_⟩
        refine ⟨(by show 3 ≤ sizeLine; decide), fun rr nr => ?_⟩
        have s8 := same_upd (o := .tup [.str "some", .ref u2, rf]) nr
        refine q _ _ (.mk (.ex ch) [g]) (dr8.same s8) (((kk7.trans (.of su2)).trans k8).trans (.of s8)) ?_ (.quant (.inl rfl) own sub hg)
        rw [Fm.data_mk]
        exact .tup (.inl (.inl upd_same)) (.cons (.str _) (.cons (tS_of (Same.sqt s8 (SqT.kl (.dr k8 ga8.dr) (.inl (.inl upd_same))))) (.cons (Dp.same s8 dg) .nil)))
      · refine ⟨_, rfl, rfl, _, rfl, cF (k := decide (V.str "all" = V.str "some")) (by decide +kernel) ⟨_, rfl, rfl, _, rfl, cT (k := decide (V.str "all" = V.str "all")) (by decide +kernel) ?_⟩⟩
        refine ⟨_, rfl, _, rfl, ra, _, rfl, .inl ⟨hra7, fun u2 nu2 => ?_⟩⟩
        have su2 := same_upd (o := .tup (ch.map V.str)) nu2
        have ga8 := ga7.same su2
        refine ⟨_, rfl, _, rfl, _, _, rfl, rfl, _, rfl, _, rfl, _, rfl, d, l, _, .ref bp, vn, .ref bk, pool, ns, Γ, m, rfl, by omega, n1, ⟨ga8.dr, ga8.dp, ga8.dn, ga8.dk, ga8.ok, ga8.po, by omega⟩, fun H8 rf g dr8 k8 dg hg => ?_⟩
        refine ⟨(by show 3 ≤ sizeLine; decide), fun rr nr => ?_⟩
        have s8 := same_upd (o := .tup [.str "all", .ref u2, rf]) nr
        refine q _ _ (.mk (.al ch) [g]) (dr8.same s8) (((kk7.trans (.of su2)).trans k8).trans (.of s8)) ?_ (.quant (.inr rfl) own sub hg)
        rw [Fm.data_mk]
        exact .tup (.inl (.inl upd_same)) (.cons (.str _) (.cons (tS_of (Same.sqt s8 (SqT.kl (.dr k8 ga8.dr) (.inl (.inl upd_same))))) (.cons (Dp.same s8 dg) .nil)))
      · refine ⟨_, rfl, rfl, _, rfl, cF (k := decide (V.str "lfp" = V.str "some")) (by decide +kernel) ⟨_, rfl, rfl, _, rfl, cF (k := decide (V.str "lfp" = V.str "all")) (by decide +kernel) ?_⟩⟩
        refine ⟨_, rfl, rfl, _, rfl, cT (k := decide (V.str "lfp" = V.str "lfp")) (by decide +kernel) ?_⟩
        refine ⟨_, rfl, _, rfl, _, rfl, ra, _, rfl, .inl hra7, ?_⟩
        refine ⟨vn, nm, (ch.map V.str).length, 1, ns, rfl, ga7.dn, by omega, fun H8 ri s8 di => ?_⟩
        rw [lc] at di
        have ga8 := ga7.same s8
        have wl := within_len ns (nm, ch.length, 1)
        refine ⟨_, rfl, _, rfl, ra, _, rfl, .inl ⟨s8.seq hra7, fun u2 nu2 => ?_⟩⟩
        have su2 := same_upd (o := .tup (ch.map V.str)) nu2
        have ga9 := ga8.same su2
        refine ⟨_, rfl, _, rfl, _, _, rfl, rfl, _, rfl, _, rfl, _, rfl, d, l, _, .ref bp, ri, .ref bk, pool, within ns (nm, ch.length, 1), Hd.env (.lfp nm ch as) Γ, m, rfl, by omega, n1, ⟨ga9.dr, ga9.dp, Dp.same su2 di, ga9.dk, ga9.ok.within nmN nm5 (by show ch.length ≤ 3; omega) (by show 1 ≤ 3; decide) (fun x => rfl), ga9.po, by omega⟩, fun H9 rf g dr9 k9 dg hg => ?_⟩
        refine ⟨_, rfl, (by show 5 ≤ sizeLine; decide), fun rr nr => ?_⟩
        have s9 := same_upd (o := .tup [.str "lfp", .str nm, .ref u2, rf, .ref u]) nr
        refine q _ _ (.mk (.lfp nm ch as) [g]) (dr9.same s9) ((((kk7.trans (.of s8)).trans (.of su2)).trans k9).trans (.of s9)) ?_ (.lfp nmN nm5 own len nas sub hva hg)
        rw [Fm.data_mk]
        exact .tup (.inl (.inl upd_same)) (.cons (.str _) (.cons (.str _) (.cons (tS_of (Same.sqt s9 (SqT.kl (.dr k9 ga9.dr) (.inl (.inl upd_same))))) (.cons (Dp.same s9 dg) (.cons (tS_of (Same.sqt s9 (SqT.kl (.dr k9 ga9.dr) (Same.sqt su2 (Same.sqt s8 hu7))))) .nil)))))
      · refine ⟨_, rfl, rfl, _, rfl, cF (k := decide (V.str "pfp" = V.str "some")) (by decide +kernel) ⟨_, rfl, rfl, _, rfl, cF (k := decide (V.str "pfp" = V.str "all")) (by decide +kernel) ?_⟩⟩
        refine ⟨_, rfl, rfl, _, rfl, cF (k := decide (V.str "pfp" = V.str "lfp")) (by decide +kernel) ?_⟩
        refine ⟨_, rfl, rfl, _, rfl, cT (k := decide (V.str "pfp" = V.str "pfp")) (by decide +kernel) ?_⟩
        refine ⟨_, rfl, vn, ns, rfl, ga7.dn, by omega, ga7.ok.md, fun H7b rb s7b db => ?_⟩
        refine ⟨_, rfl, _, rfl, ra, _, rfl, .inl (s7b.seq hra7), ?_⟩
        have bl := barred_len ns
        refine ⟨rb, nm, (ch.map V.str).length, 0, barred ns, rfl, db, by omega, fun H8 ri s8b di => ?_⟩
        have s8 := s7b.trans s8b
        rw [lc] at di
        have ga8 := ga7.same s8
        have wl := within_len (barred ns) (nm, ch.length, 0)
        refine ⟨_, rfl, _, rfl, ra, _, rfl, .inl ⟨s8.seq hra7, fun u2 nu2 => ?_⟩⟩
        have su2 := same_upd (o := .tup (ch.map V.str)) nu2
        have ga9 := ga8.same su2
        refine ⟨_, rfl, _, rfl, _, _, rfl, rfl, _, rfl, _, rfl, _, rfl, d, l, _, .ref bp, ri, .ref bk, pool, within (barred ns) (nm, ch.length, 0), Hd.env (.pfp nm ch as) Γ, m, rfl, by omega, n1, ⟨ga9.dr, ga9.dp, Dp.same su2 di, ga9.dk, ga9.ok.barred.within nmN nm5 (by show ch.length ≤ 3; omega) (by show 0 ≤ 3; decide) (fun x => rfl), ga9.po, by omega⟩, fun H9 rf g dr9 k9 dg hg => ?_⟩
        refine ⟨_, rfl, (by show 5 ≤ sizeLine; decide), fun rr nr => ?_⟩
        have s9 := same_upd (o := .tup [.str "pfp", .str nm, .ref u2, rf, .ref u]) nr
        refine q _ _ (.mk (.pfp nm ch as) [g]) (dr9.same s9) ((((kk7.trans (.of s8)).trans (.of su2)).trans k9).trans (.of s9)) ?_ (.pfp nmN nm5 own len nas sub hva hg)
        rw [Fm.data_mk]
        exact .tup (.inl (.inl upd_same)) (.cons (.str _) (.cons (.str _) (.cons (tS_of (Same.sqt s9 (SqT.kl (.dr k9 ga9.dr) (.inl (.inl upd_same))))) (.cons (Dp.same s9 dg) (.cons (tS_of (Same.sqt s9 (SqT.kl (.dr k9 ga9.dr) (Same.sqt su2 (Same.sqt s8 hu7))))) .nil)))))
      · refine ⟨_, rfl, rfl, _, rfl, cF (k := decide (V.str "tc" = V.str "some")) (by decide +kernel) ⟨_, rfl, rfl, _, rfl, cF (k := decide (V.str "tc" = V.str "all")) (by decide +kernel) ?_⟩⟩
        refine ⟨_, rfl, rfl, _, rfl, cF (k := decide (V.str "tc" = V.str "lfp")) (by decide +kernel) ?_⟩
        refine ⟨_, rfl, rfl, _, rfl, cF (k := decide (V.str "tc" = V.str "pfp")) (by decide +kernel) ?_⟩
        refine ⟨_, rfl, rfl, _, rfl, cT (k := decide (V.str "tc" = V.str "tc")) (by decide +kernel) ?_⟩
        refine ⟨_, rfl, _, rfl, d, l, .ref bp, pool, 2, rfl, ga7.dr, Dp.wod ga7.dr ga7.dp (good_strl _), htc rfl, p20, fun H8 ra2 ch2 dr8 k8 dch2 lch2 sub2 nd2 => ?_⟩
        have ga8 := ga7.kp k8 dr8
        have hra8 : SqL K H8 ra2 (ch2.map V.str) := strsR (Dp.same wo_sub dch2)
        refine ⟨_, rfl, _, rfl, d, l, rfl, dr8, fun z5 H9 _ _ dr9 k9 => ?_⟩
        have ga9 := ga8.kp k9 dr9
        obtain ⟨x, hx, hax⟩ := atI_str (as := pool) z5 (by omega)
        refine ⟨_, rfl, bp, _, rfl, .inl (strsR ga9.dp), _, _, rfl, rfl, (by omega), bp, _, _, _, rfl, rfl, strsR ga9.dp, hax, ?_⟩
        refine ⟨_, rfl, _, rfl, d, l, rfl, dr9, fun z6 H10 _ _ dr10 k10 => ?_⟩
        have ga10 := ga9.kp k10 dr10
        obtain ⟨y, hy, hay⟩ := atI_str (as := pool) z6 (by omega)
        refine ⟨_, rfl, bp, _, rfl, .inl (strsR ga10.dp), _, _, rfl, rfl, (by omega), bp, _, _, _, rfl, rfl, strsR ga10.dp, hay, ?_⟩
        refine ⟨(by show 2 ≤ sizeLine; decide), fun ug nug => ?_⟩
        have sg := same_upd (o := .tup [.str x, .str y]) nug
        have ga11 := ga10.same sg
        have k8_11 : Kp d H8 _ := (k9.trans k10).trans (.of sg)
        refine ⟨_, rfl, ra2, _, rfl, .inl ⟨SqL.kpA hra8 (far_strs _) dr8 k8_11, fun u2 nu2 => ?_⟩⟩
        have su2 := same_upd (o := .tup (ch2.map V.str)) nu2
        have ga12 := ga11.same su2
        refine ⟨_, rfl, _, rfl, _, _, rfl, rfl, _, rfl, _, rfl, _, rfl, d, l, _, .ref bp, vn, .ref bk, pool, ns, Γ, m, rfl, by omega, n1, ⟨ga12.dr, ga12.dp, ga12.dn, ga12.dk, ga12.ok, ga12.po, by omega⟩, fun H13 rf g dr13 k13 dg hg => ?_⟩
        refine ⟨_, rfl, (by show 4 ≤ sizeLine; decide), fun rr nr => ?_⟩
        have s9 := same_upd (o := .tup [.str "tc", .ref u2, rf, .ref ug]) nr
        have xy : ∀ z, z ∈ [x, y] → z ∈ pool := fun z hz => by
          rcases List.mem_cons.mp hz with rfl | hz
          · exact hx
          · rw [List.mem_singleton.mp hz]; exact hy
        refine q _ _ (.mk (.tc ch2 [x, y]) [g]) (dr13.same s9) (((((kk7.trans k8).trans k8_11).trans (.of su2)).trans k13).trans (.of s9)) ?_ (.tc lch2 (fun z hz => ga.po.nm z (sub2 z hz)) (nd2 ga.po.nd) rfl (fun z hz => ga.po.nm z (xy z hz)) sub2 xy hg)
        rw [Fm.data_mk]
        exact .tup (.inl (.inl upd_same)) (.cons (.str _) (.cons (tS_of (Same.sqt s9 (SqT.kl (.dr k13 ga12.dr) (.inl (.inl upd_same))))) (.cons (Dp.same s9 dg) (.cons (tS_of (as := [x, y]) (Same.sqt s9 (SqT.kl (.dr k13 ga12.dr) (Same.sqt su2 (.inl (.inl upd_same)))))) .nil))))
      · refine ⟨_, rfl, rfl, _, rfl, cF (k := decide (V.str "guess" = V.str "some")) (by decide +kernel) ⟨_, rfl, rfl, _, rfl, cF (k := decide (V.str "guess" = V.str "all")) (by decide +kernel) ?_⟩⟩
        refine ⟨_, rfl, rfl, _, rfl, cF (k := decide (V.str "guess" = V.str "lfp")) (by decide +kernel) ?_⟩
        refine ⟨_, rfl, rfl, _, rfl, cF (k := decide (V.str "guess" = V.str "pfp")) (by decide +kernel) ?_⟩
        refine ⟨_, rfl, rfl, _, rfl, cF (k := decide (V.str "guess" = V.str "tc")) (by decide +kernel) ?_⟩
        refine ⟨_, rfl, d, l, rfl, ga7.dr, fun z4 H8 _ _ dr8 k8 => ?_⟩
        have ga8 := ga7.kp k8 dr8
        refine ⟨_, _, rfl, rfl, (by show (0 : Int) < 2; decide), ?_⟩
        obtain ⟨ka, hka, ka1⟩ : ∃ k : Nat, z4 % 2 = (k : Int) ∧ k ≤ 1 := ⟨(z4 % 2).toNat, by omega, by omega⟩
        show gName 10 (V.int (z4 % 2)) _ _ _
        rw [hka]
        refine ⟨_, rfl, _, rfl, _, rfl, ?_⟩
        refine ⟨vn, nm, ka, 0, ns, rfl, ga8.dn, by omega, fun H9 ri s9 di => ?_⟩
        have ga9 := ga8.same s9
        have wl := within_len ns (nm, ka, 0)
        refine ⟨_, rfl, _, rfl, ?_⟩
        refine ⟨_, rfl, _, rfl, _, _, rfl, rfl, _, rfl, _, rfl, _, rfl, d, l, _, .ref bp, ri, .ref bk, pool, within ns (nm, ka, 0), Hd.env (.gs nm ka) Γ, m, rfl, by omega, n1, ⟨ga9.dr, ga9.dp, di, ga9.dk, ga9.ok.within nmN nm5 (by show ka ≤ 3; omega) (by show 0 ≤ 3; decide) (fun x => rfl), ga9.po, by omega⟩, fun H10 rf g dr10 k10 dg hg => ?_⟩
        refine ⟨(by show 4 ≤ sizeLine; decide), fun rr nr => ?_⟩
        have s10 := same_upd (o := .tup [.str "guess", .str nm, .int (ka : Nat), rf]) nr
        refine q _ _ (.mk (.gs nm ka) [g]) (dr10.same s10) ((((kk7.trans k8).trans (.of s9)).trans k10).trans (.of s10)) ?_ (.gs nmN nm5 (by omega) hg)
        rw [Fm.data_mk]
        exact .tup (.inl (.inl upd_same)) (.cons (.str _) (.cons (.str _) (.cons (.int _) (.cons (Dp.same s10 dg) .nil))))
end
def spNamesL (K : PySem.W.Frag) : Sp := fun vs H Q _ => ∃ (d l : Addr), vs = [.ref d] ∧ DrA H d l ∧ ∀ (H' : Hp) (r : V) (ns : List NE) (Γ : ArE), DrA H' d l → Kp d H H' → Dp K H' r (nsD ns) → NOk ns Γ → ns.length ≤ 3 → Q r H'
def namesL : List NE := [(("e" : Str), 2, 0), (("p" : Str), 1, 0), (("q" : Str), 0, 0)]
def envL : ArE := fun x => if x = "e" then some 2 else if x = "p" then some 1 else some 0
theorem namesL_ok : NOk namesL envL := by
  have c : ∀ p, p ∈ namesL → p = (("e" : Str), 2, 0) ∨ p = (("p" : Str), 1, 0) ∨ p = (("q" : Str), 0, 0) := fun p hp => by simpa [namesL] using hp
  refine ⟨fun p hp => ?_, fun p hp => ?_, fun p hp => ?_, fun p hp => ?_, fun p q hp hq e => ?_, fun p hp => ?_⟩
  · rcases c p hp with rfl | rfl | rfl <;> exact nm_of (by decide +kernel)
  · rcases c p hp with rfl | rfl | rfl <;> decide
  · rcases c p hp with rfl | rfl | rfl <;> decide
  · rcases c p hp with rfl | rfl | rfl <;> decide +kernel
  · rcases c p hp with rfl | rfl | rfl <;> rcases c q hq with rfl | rfl | rfl <;> first | rfl | exact absurd e (by decide +kernel)
  · rcases c p hp with rfl | rfl | rfl <;> decide +kernel
theorem NOk.sub {ns ms : List NE} {Γ : ArE} (k : NOk ns Γ) (h : ∀ p, p ∈ ms → p ∈ ns) : NOk ms Γ :=
  ⟨fun p hp => k.nm p (h p hp), fun p hp => k.ar p (h p hp), fun p hp => k.md p (h p hp), fun p hp => k.fit p (h p hp), fun p q hp hq e => k.uni p q (h p hp) (h q hq) e, fun p hp => k.fv p (h p hp)⟩
theorem cut_map {xs : List V} {j : Nat} (h : xs.length < 1000) (k : j ≤ xs.length) : cutV xs none (some ((j : Nat) : Int)) = xs.take j := by
  unfold cutV
  have e1 : HT.sIx xs.length 0 none = 0 := rfl
  have e2 : HT.sIx xs.length xs.length (some ((j : Nat) : Int)) = j := by
    simp only [HT.sIx]
    split <;> omega
  rw [e1, e2]
  rfl
section
variable {P : Program} {w : World} {K : PySem.W.Frag} {mg : Str → Option Value} {base : Heap}
theorem DpAll.takeN {H : Hp} : ∀ {vs : List V} {ts : List PyData} (j : Nat), DpAll K H vs ts → DpAll K H (vs.take j) (ts.take j)
  | _, _, 0, _ => by rw [List.take_zero, List.take_zero]; exact .nil
  | _, _, j + 1, .nil => .nil
  | _, _, j + 1, .cons a t => .cons a (DpAll.takeN j t)
theorem sc_names : FnScope ["draws"] ["draws"] (defScope (top 133)) := ⟨rfl, rfl, rfl, by decide +kernel, rfl, by decide +kernel, by decide +kernel⟩
theorem has_names (D : Def K mg "_law_names" ["draws"] (top 133)) (T : Txt mg) (C1 : Has P w K mg base 2 "_law_draw" ["draws"] spDraw) : Has P w K mg base 3 "_law_names" ["draws"] (spNamesL K) := D.has fun f fd F => by
  obtain ⟨f1, fd1, G_law_draw, g_law_draw, k_law_draw, b_law_draw⟩ := C1
  refine F.ok sc_names (fun vs H Q E h => ?_) (fun cdv A outer s H vs Q E hr h => ?_)
  · obtain ⟨d, l, rfl, _⟩ := h; rfl
  · obtain ⟨d, l, rfl, dr, q⟩ := h
    have R_law_draw : Room 2 _ := hr
    refine ⟨_, PSs.nox (pss_one (ps_ret (pe_slice sl_list (pe_lst (pa_cons (pe_tup (pa_cons pe_str (pa_cons pe_int (pa_cons pe_int pa_nil)))) (pa_cons (pe_tup (pa_cons pe_str (pa_cons pe_int (pa_cons pe_int pa_nil)))) (pa_cons (pe_tup (pa_cons pe_str (pa_cons pe_int (pa_cons pe_int pa_nil)))) pa_nil)))) po_none (po_some (pe_op op_add pe_int (pe_op op_mod (pe_call G_law_draw R_law_draw (by rfl) g_law_draw k_law_draw b_law_draw .nil pass0 (pa_cons (pv 0) pa_nil)) pe_int)))))), ?_⟩
    refine ⟨(by show 3 ≤ sizeLine; decide), fun t1 n1 => ⟨(by show 3 ≤ sizeLine; decide), fun t2 n2 => ⟨(by show 3 ≤ sizeLine; decide), fun t3 n3 => ?_⟩⟩⟩
    have s1 := same_upd (o := .tup [.str "e", .int 2, .int 0]) n1
    have s2 := same_upd (o := .tup [.str "p", .int 1, .int 0]) n2
    have s3 := same_upd (o := .tup [.str "q", .int 0, .int 0]) n3
    refine ⟨(by show 3 ≤ sizeLine; decide), fun c nc => ?_⟩
    have s4 := same_upd (o := .lst [.ref t1, .ref t2, .ref t3]) nc
    have s14 := ((s1.trans s2).trans s3).trans s4
    have dr4 := dr.same s14
    have nd := ((dr.same ((s1.trans s2).trans s3)).ne nc).1
    have dall : DpAll K _ [.ref t1, .ref t2, .ref t3] (namesL.map nD) := .cons (nD_of (p := ("e", 2, 0)) (Same.sqt (s2.trans s3) (.inl (.inl upd_same)))) (.cons (nD_of (p := ("p", 1, 0)) (Same.sqt s3 (.inl (.inl upd_same)))) (.cons (nD_of (p := ("q", 0, 0)) (.inl (.inl upd_same))) .nil))
    refine ⟨_, rfl, d, l, rfl, dr4, fun z H5 _ _ dr5 k5 => ?_⟩
    refine ⟨_, _, rfl, rfl, (by show (0 : Int) < 3; decide), ?_⟩
    obtain ⟨j, hj, j2⟩ : ∃ k : Nat, z % 3 = (k : Int) ∧ k ≤ 2 := ⟨(z % 3).toNat, by omega, by omega⟩
    refine ⟨_, _, rfl, rfl, ?_⟩
    refine ⟨((1 + j : Nat) : Int), congrArg V.int (by omega), c, _, rfl, SqL.of (k5 _ _ upd_same nd), fun r nr => ?_⟩
    have s6 := same_upd (o := .lst (cutV [.ref t1, .ref t2, .ref t3] none (some ((1 + j : Nat) : Int)))) nr
    refine q _ (.ref r) (namesL.take (1 + j)) envL (dr5.same s6) (((Kp.of s14).trans k5).trans (.of s6)) (.lst (.inl (.inl upd_same)) ?_) (namesL_ok.sub fun p hp => List.mem_of_mem_take hp) (List.length_take_le' _ _)
    have ec := cut_map (xs := [.ref t1, .ref t2, .ref t3]) (j := 1 + j) (by show 3 < 1000; decide) (by show 1 + j ≤ 3; omega)
    revert s6
    rw [ec, List.map_take]
    intro s6
    exact DpAll.takeN _ (DpAll.same s6 (DpAll.kl (.dr k5 dr4) (DpAll.same s4 dall) (ns_noL _)))
theorem sc_formula : FnScope ["draws", "deep", "pool", "names", "kinds", "pick", "word", "many", "k"] ["draws", "deep", "pool", "names", "kinds"] (defScope (top 132)) := ⟨rfl, rfl, rfl, by decide +kernel, rfl, by decide +kernel, by decide +kernel⟩
theorem has_formula (D : Def K mg "_law_formula" ["draws", "deep", "pool", "names", "kinds"] (top 132)) (T : Txt mg) (C1 : Has P w K mg base 2 "_law_draw" ["draws"] spDraw) (C2 : Has P w K mg base 3 "_law_atom" ["draws", "pool", "names"] (spAtom K))
    (C3 : Has P w K mg base 1 "_law_turned" ["names"] (spMode K turned)) (C4 : ∀ n, Has P w K mg base (4 + 2 * n) "_law_formula" ["draws", "deep", "pool", "names", "kinds"] (spForm K n) → Has P w K mg base (4 + 2 * n + 1) "_law_bound" ["draws", "deep", "pool", "names", "kinds"] (spBound K (n + 1))) :
    ∀ n : Nat, Has P w K mg base (4 + 2 * n) "_law_formula" ["draws", "deep", "pool", "names", "kinds"] (spForm K n) := by
  obtain ⟨f1, fd1, G_law_draw, g_law_draw, k_law_draw, b_law_draw⟩ := C1
  obtain ⟨f2, fd2, G_law_atom, g_law_atom, k_law_atom, b_law_atom⟩ := C2
  obtain ⟨f3, fd3, G_law_turned, g_law_turned, k_law_turned, b_law_turned⟩ := C3
  intro n
  induction n with
  | zero =>
    refine D.has fun f fd F => F.ok sc_formula (fun vs H Q E h => ?_) (fun cdv A outer s H vs Q E hr h => ?_)
    · obtain ⟨d, l, k, vp, vn, vk, pool, ns, Γ, m, rfl, _⟩ := h; rfl
    · obtain ⟨d, l, k, vp, vn, vk, pool, ns, Γ, m, rfl, _, h0, _⟩ := h
      omega
  | succ n ih =>
    obtain ⟨f5, fd5, G_law_bound, g_law_bound, k_law_bound, b_law_bound⟩ := C4 n ih
    obtain ⟨f4, fd4, G_law_formula, g_law_formula, k_law_formula, b_law_formula⟩ := ih
    show Has P w K mg base (4 + 2 * n + 1 + 1) "_law_formula" ["draws", "deep", "pool", "names", "kinds"] (spForm K (n + 1))
    refine D.has fun f fd F => F.ok sc_formula (fun vs H Q E h => ?_) (fun cdv A outer s H vs Q E hr h => ?_)
    · obtain ⟨d, l, k, vp, vn, vk, pool, ns, Γ, m, rfl, _⟩ := h; rfl
    · obtain ⟨d, l, k, vp, vn, vk, pool, ns, Γ, m0, rfl, hk, h1, ga, q⟩ := h
      obtain ⟨m, rfl⟩ : ∃ m, m0 = m + 1 := ⟨m0 - 1, by omega⟩
      have R_law_draw : Room 2 _ := hr.mono (Nat.le_trans (Nat.le_trans (by decide) (Nat.le_add_right 4 (2 * n))) (Nat.le_add_right _ 1))
      have R_law_atom : Room 3 _ := hr.mono (Nat.le_trans (Nat.le_trans (by decide) (Nat.le_add_right 4 (2 * n))) (Nat.le_add_right _ 1))
      have R_law_turned : Room 1 _ := hr.mono (Nat.le_trans (Nat.le_trans (by decide) (Nat.le_add_right 4 (2 * n))) (Nat.le_add_right _ 1))
      have R_law_formula : Room (4 + 2 * n) _ := hr.mono (Nat.le_add_right _ 1)
      have R_law_bound : Room (4 + 2 * n + 1) _ := hr
      refine ⟨_, PSs.nox (pss_cons (ps_set (i := 5) sc_formula.nd rfl (Or.inl rfl) (pe_op op_mod (pe_call G_law_draw R_law_draw (by rfl) g_law_draw k_law_draw b_law_draw .nil pass0 (pa_cons (pv 0) pa_nil)) pe_int)) (pss_cons (ps_if (PW.pt (pw_or (pt_cmpR op_le (pv 1) pe_int (nomark _)) (pw_or1 (pt_cmpR op_eq (pv 5) pe_int (nomark _))))) (pss_one (ps_ret (pe_call G_law_atom R_law_atom (by rfl) g_law_atom k_law_atom b_law_atom .nil pass0 (pa_cons (pv 0) (pa_cons (pv 2) (pa_cons (pv 3) pa_nil)))))) pss_nil) (pss_cons (ps_if (pt_cmpR op_eq (pv 5) pe_int (nomark _)) (pss_one (ps_ret (pe_tup (pa_cons pe_str (pa_cons (pe_call G_law_formula R_law_formula (by rfl) g_law_formula k_law_formula b_law_formula .nil pass0 (pa_cons (pv 0) (pa_cons (pe_op op_sub (pv 1) pe_int) (pa_cons (pv 2) (pa_cons (pe_call G_law_turned R_law_turned (by rfl) g_law_turned k_law_turned b_law_turned .nil pass0 (pa_cons (pv 3) pa_nil)) (pa_cons (pv 4) pa_nil)))))) pa_nil))))) pss_nil) (pss_cons (ps_if (pt_cmpR op_lt (pv 5) pe_int (nomark _)) (pss_cons (ps_set (i := 6) sc_formula.nd rfl (Or.inl rfl) (pe_ix ix_list (pe_lst (pa_cons pe_str (pa_cons pe_str pa_nil))) (pe_op op_mod (pe_call G_law_draw R_law_draw (by rfl) g_law_draw k_law_draw b_law_draw .nil pass0 (pa_cons (pv 0) pa_nil)) pe_int) (fun _ _ => rfl))) (pss_cons (ps_set (i := 7) sc_formula.nd rfl (Or.inl rfl) (pe_ix ix_list (pe_lst (pa_cons pe_int (pa_cons pe_int (pa_cons pe_int (pa_cons pe_int (pa_cons pe_int (pa_cons pe_int pa_nil))))))) (pe_op op_mod (pe_call G_law_draw R_law_draw (by rfl) g_law_draw k_law_draw b_law_draw .nil pass0 (pa_cons (pv 0) pa_nil)) pe_int) (fun _ _ => rfl))) (pss_one (ps_ret (pe_tup (pa_cons (pv 6) (pa_cons (pe_callTy call_tuple_of (by rfl) T.n_tuple (by decide +kernel) (pa_cons (pe_lc (own := [("k", 8)]) rfl sc_formula.nd (pi_range1 (by rfl) T.n_range (pa_cons (pv 7) pa_nil)) (blkOk_by (N := ["draws", "deep", "pool", "names", "kinds", "pick", "word", "many", "k"]) (sc := defScope (top 132)) (by decide +kernel)) (fun _ _ _ _ _ => (pg_name (i := 8) sc_formula.nd rfl (Or.inl rfl))) (fun _ _ _ _ _ => pts_nil) (fun _ _ _ _ _ => (pe_call G_law_formula R_law_formula (by rfl) g_law_formula k_law_formula b_law_formula .nil pass0 (pa_cons (pv 0) (pa_cons (pe_op op_sub (pv 1) pe_int) (pa_cons (pv 2) (pa_cons (pv 3) (pa_cons (pv 4) pa_nil)))))))) pa_nil)) pa_nil))))))) pss_nil) (pss_one (ps_ret (pe_call G_law_bound R_law_bound (by rfl) g_law_bound k_law_bound b_law_bound .nil pass0 (pa_cons (pv 0) (pa_cons (pv 1) (pa_cons (pv 2) (pa_cons (pv 3) (pa_cons (pv 4) pa_nil)))))))))))), ?_⟩
      have f60 := ga.few
      refine ⟨_, rfl, d, l, rfl, ga.dr, fun z1 H1 _ _ dr1 k1 => ?_⟩
      have ga1 := ga.kp k1 dr1
      refine ⟨_, _, rfl, rfl, (by show (0 : Int) < 6; decide), ?_⟩
      by_cases ha : m = 0 ∨ z1 % 6 = 0
      · -- an atom
        have atom : tCall (spAtom K) [] E0 (tCons (tVar 0) (tCons (tVar 2) (tCons (tVar 3) tNil))) [some (.ref d), some (.int k), some vp, some vn, some vk, some (.int (z1 % 6)), none, none, none] H1 Q := by
          refine ⟨_, rfl, _, rfl, _, rfl, d, l, vp, vn, pool, ns, Γ, rfl, dr1, ga1.dp, ga1.dn, ga1.ok, ga1.po, by omega, fun H2 r f dr2 k2 df gf => ?_⟩
          exact q H2 r f dr2 (k1.trans k2) df (gf.mono (by omega))
        by_cases hn : m = 0
        · refine ⟨_, rfl, _, _, rfl, rfl, _, rfl, cT (k := decide (k ≤ 1)) (decide_eq_true (by omega)) (iteT atom)⟩
        · have hz : z1 % 6 = 0 := ha.resolve_left hn
          refine ⟨_, rfl, _, _, rfl, rfl, _, rfl, cF (k := decide (k ≤ 1)) (decide_eq_false (by omega)) ⟨_, rfl, rfl, _, rfl, cT (k := decide (V.int (z1 % 6) = V.int 0)) (decide_eq_true (by rw [hz])) atom⟩⟩
      · have hn : m ≠ 0 := fun z => ha (.inl z)
        have hz : z1 % 6 ≠ 0 := fun z => ha (.inr z)
        refine ⟨_, rfl, _, _, rfl, rfl, _, rfl, cF (k := decide (k ≤ 1)) (decide_eq_false (by omega)) ⟨_, rfl, rfl, _, rfl, cF (k := decide (V.int (z1 % 6) = V.int 0)) (decide_eq_false fun z => hz (V.int.inj z)) ?_⟩⟩
        refine ⟨_, rfl, rfl, _, rfl, ?_⟩
        by_cases h1z : z1 % 6 = 1
        · refine cT (k := decide (V.int (z1 % 6) = V.int 1)) (decide_eq_true (by rw [h1z])) ?_
          refine ⟨_, rfl, _, rfl, _, _, rfl, rfl, _, rfl, _, rfl, vn, ns, rfl, ga1.dn, by omega, ga1.ok.md, fun H2 rt s2 dt => ?_⟩
          have ga2 := ga1.same s2
          have tl := turned_len ns
          refine ⟨_, rfl, d, l, _, vp, rt, vk, pool, turned ns, Γ, m, rfl, by omega, by omega, ⟨ga2.dr, ga2.dp, dt, ga2.dk, ga2.ok.turned, ga2.po, by omega⟩, fun H3 rf g dr3 k3 dg hg => ?_⟩
          refine ⟨(by show 2 ≤ sizeLine; decide), fun rr nr => ?_⟩
          have s4 := same_upd (o := .tup [.str "not", rf]) nr
          refine q _ _ (.mk .no [g]) (dr3.same s4) (((k1.trans (.of s2)).trans k3).trans (.of s4)) ?_ (.no hg)
          rw [Fm.data_mk]
          exact .tup (.inl (.inl upd_same)) (.cons (.str _) (.cons (Dp.same s4 dg) .nil))
        · refine cF (k := decide (V.int (z1 % 6) = V.int 1)) (decide_eq_false fun z => h1z (V.int.inj z)) ?_
          refine ⟨_, rfl, _, _, rfl, rfl, _, rfl, ?_⟩
          by_cases h4 : z1 % 6 < 4
          · refine cT (k := decide (z1 % 6 < 4)) (decide_eq_true h4) ?_
            -- word
            refine ⟨(by show 2 ≤ sizeLine; decide), fun c nc => ?_⟩
            have s2 := same_upd (o := .lst ((["and", "or"] : List Str).map V.str)) nc
            have ncd := (dr1.ne nc).1
            refine ⟨_, rfl, d, l, rfl, dr1.same s2, fun z2 H3 _ _ dr3 k3 => ?_⟩
            obtain ⟨wd, hw, hat⟩ := atI_str (as := ["and", "or"]) z2 (by decide)
            refine ⟨_, _, rfl, rfl, (by show (0 : Int) < 2; decide), c, _, _, _, rfl, rfl, SqL.of (k3 _ _ upd_same ncd), hat, ?_⟩
            -- many
            refine ⟨(by show 6 ≤ sizeLine; decide), fun c2 nc2 => ?_⟩
            have s4 := same_upd (o := .lst [.int 0, .int 1, .int 2, .int 2, .int 2, .int 3]) nc2
            have nc2d := (dr3.ne nc2).1
            refine ⟨_, rfl, d, l, rfl, dr3.same s4, fun z3 H5 _ _ dr5 k5 => ?_⟩
            obtain ⟨v6, hv6, hat6⟩ := atI_mod (xs := [.int 0, .int 1, .int 2, .int 2, .int 2, .int 3]) z3 (by decide)
            obtain ⟨j, rfl, j3⟩ : ∃ j : Nat, v6 = .int (j : Int) ∧ j ≤ 3 := by
              simp only [List.mem_cons, List.not_mem_nil, or_false] at hv6
              rcases hv6 with rfl | rfl | rfl | rfl | rfl | rfl
              · exact ⟨0, rfl, by decide⟩
              · exact ⟨1, rfl, by decide⟩
              · exact ⟨2, rfl, by decide⟩
              · exact ⟨2, rfl, by decide⟩
              · exact ⟨2, rfl, by decide⟩
              · exact ⟨3, rfl, by decide⟩
            refine ⟨_, _, rfl, rfl, (by show (0 : Int) < 6; decide), c2, _, _, _, rfl, rfl, SqL.of (k5 _ _ upd_same nc2d), hat6, ?_⟩
            have k15 : Kp d H1 H5 := (((Kp.of s2).trans k3).trans (.of s4)).trans k5
            have ga5 := ga1.kp k15 dr5
            -- the parts
            refine ⟨_, rfl, _, rfl, j, rfl, by omega, by omega, fun M nM => ?_⟩
            obtain ⟨nMd, nMl⟩ := dr5.ne nM
            refine lc_it walk_range (fun i H6 => ∃ (vs : List V) (gs : List Fm), DrA H6 d l ∧ Kp d H5 H6 ∧ H6 M = some (.lst vs) ∧ DpAll K H6 vs (gs.map Fm.data) ∧ gs.length = i ∧ ∀ g, g ∈ gs → Gen pool ns Γ g m) ⟨[], [], dr5.same (same_upd nM), .of (same_upd nM), upd_same, .nil, rfl, fun x hx => nomatch hx⟩ (fun _ _ _ _ => trivial) ?_ ?_
            · rintro i y H6 H7 hi ⟨vs, gs, dr6, k6, hM, hvs, len, hs⟩ ⟨rfl, rfl⟩
              have ga6 := ga5.kp k6 dr6
              refine ⟨rfl, _, rfl, _, rfl, _, _, rfl, rfl, _, rfl, _, rfl, _, rfl, d, l, _, vp, vn, vk, pool, ns, Γ, m, rfl, by omega, by omega, ⟨ga6.dr, ga6.dp, ga6.dn, ga6.dk, ga6.ok, ga6.po, by omega⟩, fun H8 rf g dr8 k8 dg hg => ?_⟩
              have hM8 := k8 _ _ hM nMd
              have lv := DpAll.length hvs
              rw [List.length_map] at lv
              refine ⟨_, hM8, small1000 (by omega), vs ++ [rf], gs ++ [g], dr8.kp Kp.upd ⟨nMd, nMl⟩, kp_own (k6.trans k8) nM, upd_same, ?_, by rw [List.length_append, len]; rfl, fun x hx => ?_⟩
              · rw [List.map_append]
                exact DpAll.kl (Kl.upd hM8) (DpAll.snoc (DpAll.kl (.dr k8 dr6) hvs (fms_noL _)) dg) (by rw [noLs_append, fms_noL, fms_noL]; rfl)
              · rcases List.mem_append.mp hx with hx | hx
                · exact hs x hx
                · rw [List.mem_singleton.mp hx]; exact hg
            · rintro H6 ⟨vs, gs, dr6, k6, hM, hvs, len, hs⟩
              refine ⟨M, _, rfl, .inl ⟨SqL.of hM, fun u nu => ?_⟩⟩
              refine ⟨(by show 2 ≤ sizeLine; decide), fun r nr => ?_⟩
              have s7 := same_upd (o := .tup vs) nu
              have s8 := same_upd (o := .tup [.str wd, .ref u]) nr
              have kk : Kp d H _ := ((k1.trans k15).trans k6).trans (.of (s7.trans s8))
              have dd : DpAll K (upd (upd H6 u (.tup vs)) r (.tup [.str wd, .ref u])) vs (gs.map Fm.data) := DpAll.same (s7.trans s8) hvs
              rcases List.mem_cons.mp hw with rfl | hw
              · refine q _ _ (.mk .con gs) (dr6.same (s7.trans s8)) kk ?_ (.con (.inl rfl) hs (by omega))
                rw [Fm.data_mk]
                exact .tup (.inl (.inl upd_same)) (.cons (.str _) (.cons (.tup (Same.sqt s8 (.inl (.inl upd_same))) dd) .nil))
              · have ew := List.mem_singleton.mp hw
                subst ew
                refine q _ _ (.mk .dis gs) (dr6.same (s7.trans s8)) kk ?_ (.con (.inr rfl) hs (by omega))
                rw [Fm.data_mk]
                exact .tup (.inl (.inl upd_same)) (.cons (.str _) (.cons (.tup (Same.sqt s8 (.inl (.inl upd_same))) dd) .nil))
          · refine cF (k := decide (z1 % 6 < 4)) (decide_eq_false h4) ?_
            refine ⟨_, rfl, _, rfl, _, rfl, _, rfl, _, rfl, d, l, _, vp, vn, vk, pool, ns, Γ, m + 1, rfl, hk, by omega, ga1, fun H3 rf g dr3 k3 dg hg => ?_⟩
            exact q H3 rf g dr3 (k1.trans k3) dg hg
end
theorem one_of {ps : List Fm} (h : ps.length = 1) : ∃ g, ps = [g] := by
  match ps, h with
  | [g], _ => exact ⟨g, rfl⟩
theorem Same.none {H H' : Hp} {r : Addr} (s : Same H H') (e : H' r = Option.none) : H r = Option.none := by
  cases q : H r with
  | none => rfl
  | some o => rw [s _ _ q] at e; cases e
theorem none_of {ps : List Fm} (h : ps.length = 0) : ps = [] := List.length_eq_zero_iff.mp h
/-- a look at a formula -/
def spLook (K : PySem.W.Frag) (R : Fm → PyData) : Sp := fun vs H Q _ => ∃ (v : V) (f : Fm), vs = [v] ∧ Dp K H v f.data ∧ f.Ok ∧ ∀ (H' : Hp) (r : V), Same H H' → Dp K H' r (R f) → Q r H'
def spParts (K : PySem.W.Frag) : Sp := fun vs H Q _ => ∃ (v : V) (f : Fm), vs = [v] ∧ Dp K H v f.data ∧ f.Ok ∧ ∀ (H' : Hp) (r : Addr) (ys : List V), Same H H' → H r = none → H' r = some (.lst ys) → DpAll K H' ys (f.parts.map Fm.data) → Q (.ref r) H'

/-! ### free variables -/
def frStep (h : Hd) (xs : List (List Str)) : List Str := (xs.flatten.filter fun x => !decide (x ∈ h.own)) ++ h.args
def Fm.frees : Fm → List Str := Fm.fold frStep
theorem Fm.frees_mem {h : Hd} {ps : List Fm} {x : Str} : x ∈ (Fm.mk h ps).frees ↔ (∃ g, g ∈ ps ∧ x ∈ g.frees ∧ x ∉ h.own) ∨ x ∈ h.args := by
  have e : (Fm.mk h ps).frees = frStep h (ps.map Fm.frees) := Fm.fold_mk frStep h ps
  rw [e]
  unfold frStep
  rw [List.mem_append, List.mem_filter, List.mem_flatten]
  constructor
  · rintro (⟨⟨l, hl, hx⟩, ho⟩ | ha)
    · obtain ⟨g, hg, rfl⟩ := List.mem_map.mp hl
      exact .inl ⟨g, hg, hx, by simpa using ho⟩
    · exact .inr ha
  · rintro (⟨g, hg, hx, ho⟩ | ha)
    · exact .inl ⟨⟨_, List.mem_map.mpr ⟨g, hg, rfl⟩, hx⟩, by simpa using ho⟩
    · exact .inr ha
theorem frees_vars : ∀ (f : Fm), ∀ x, x ∈ f.frees → x ∈ f.vars := Fm.ind fun h ps ih x hx => by
  rw [Fm.vars_mk]
  rcases Fm.frees_mem.mp hx with ⟨g, hg, hx, _⟩ | ha
  · exact List.mem_append_right _ (List.mem_flatten.mpr ⟨_, List.mem_map.mpr ⟨g, hg, rfl⟩, ih g hg x hx⟩)
  · exact List.mem_append_left _ (List.mem_append_right _ ha)
/-- few are free, also in each formula in it -/
inductive Fr20 : Fm → Prop
  | mk {h : Hd} {ps : List Fm} (a : ∃ l : List Str, l.length ≤ 40 ∧ ∀ x, x ∈ (Fm.mk h ps).frees → x ∈ l) (b : ∀ p, p ∈ ps → Fr20 p) : Fr20 (.mk h ps)
theorem Fr20.here {f : Fm} (k : Fr20 f) : ∃ l : List Str, l.length ≤ 40 ∧ ∀ x, x ∈ f.frees → x ∈ l := by cases k with | mk a _ => exact a
theorem Fr20.part {h : Hd} {ps : List Fm} (k : Fr20 (.mk h ps)) {p : Fm} (hp : p ∈ ps) : Fr20 p := by cases k with | mk _ b => exact b p hp
theorem Occ.fr : ∀ (f : Fm) {pool : List Str}, Occ pool f → pool.length ≤ 40 → Fr20 f := Fm.ind (P := fun f => ∀ {pool : List Str}, Occ pool f → pool.length ≤ 40 → Fr20 f) fun h ps ih pool o l =>
  .mk ⟨pool, l, fun x hx => o.vs x (frees_vars _ x hx)⟩ fun p hp => ih p hp (o.part hp) l
/-! texts in order -/
def leS (a b : Str) : Prop := a.cps.toList ≤ b.cps.toList
theorem leS_of {a b : Str} (h : ltCps b.cps.toList a.cps.toList = false) : leS a b := by
  rw [ltCps_eq] at h
  exact List.not_lt.mp (of_decide_eq_false h)
theorem leS_trans {a b c : Str} (h1 : leS a b) (h2 : leS b c) : leS a c := List.le_trans h1 h2
theorem leS_anti {a b : Str} (h1 : leS a b) (h2 : leS b a) : a = b := by
  have e : a.cps.toList = b.cps.toList := List.le_antisymm h1 h2
  obtain ⟨x⟩ := a
  obtain ⟨y⟩ := b
  have e2 : x = y := Array.toList_inj.mp e
  rw [e2]
theorem rising_pw : ∀ (p : Str) (l : List Str), risingS p l = true → (∀ x, x ∈ l → leS p x) ∧ l.Pairwise leS
  | p, [], _ => ⟨(fun x hx => by cases hx), List.Pairwise.nil⟩
  | p, x :: r, h => by
    have h2 : (!ltCps x.cps.toList p.cps.toList && risingS x r) = true := h
    obtain ⟨a, b⟩ := Bool.and_eq_true_iff.mp h2
    have px : leS p x := leS_of (by simpa using a)
    obtain ⟨c, d⟩ := rising_pw x r b
    refine ⟨fun y hy => ?_, List.pairwise_cons.mpr ⟨c, d⟩⟩
    rcases List.mem_cons.mp hy with rfl | hy
    · exact px
    · exact leS_trans px (c y hy)
theorem sorted_pw {l : List Str} (h : sortedS l = true) : l.Pairwise leS := by
  cases l with
  | nil => exact .nil
  | cons p r =>
    obtain ⟨a, b⟩ := rising_pw p r h
    exact List.pairwise_cons.mpr ⟨a, b⟩
theorem pw_uniq : ∀ (l m : List Str), l.Pairwise leS → m.Pairwise leS → l.Perm m → l = m
  | [], m, _, _, p => (List.nil_perm.mp p).symm
  | x :: l, [], _, _, p => by have := p.length_eq; cases this
  | x :: l, y :: m, hl, hm, p => by
    obtain ⟨a, b⟩ := List.pairwise_cons.mp hl
    obtain ⟨c, d⟩ := List.pairwise_cons.mp hm
    have e : x = y := by
      rcases List.mem_cons.mp (p.mem_iff.mp (List.mem_cons_self ..)) with e | hx
      · exact e
      · rcases List.mem_cons.mp (p.mem_iff.mpr (List.mem_cons_self ..)) with e | hy
        · exact e.symm
        · exact leS_anti (a y hy) (c x hx)
    subst e
    rw [pw_uniq l m b d p.cons_inv]
/-- ss: the different ones of xs in order -/
structure SetOf (ss xs : List Str) : Prop where
  nd : ss.Nodup
  so : sortedS ss = true
  mem : ∀ x, x ∈ ss ↔ x ∈ xs
theorem SetOf.uniq {ss tt xs : List Str} (a : SetOf ss xs) (b : SetOf tt xs) : ss = tt :=
  pw_uniq ss tt (sorted_pw a.so) (sorted_pw b.so) ((List.perm_ext_iff_of_nodup a.nd b.nd).mpr fun x => (a.mem x).trans (b.mem x).symm)
theorem inV_str {z : Str} : ∀ {ns : List Str}, inV (.str z) (ns.map V.str) = decide (z ∈ ns)
  | [] => by simp [inV]
  | n :: ns => by
    have ih := inV_str (z := z) (ns := ns)
    unfold inV at ih ⊢
    rw [List.map_cons, List.any_cons, ih]
    show ((n == z) || _) = _
    by_cases e : n = z
    · subst e; simp
    · have e2 : z ≠ n := fun z => e z.symm
      simp [e, e2]
def spFrees (K : PySem.W.Frag) (n : Nat) : Sp := fun vs H Q _ => ∃ (v : V) (f : Fm), vs = [v] ∧ Dp K H v f.data ∧ f.Ok ∧ Fr20 f ∧ f.dep ≤ n ∧
  ∀ (H' : Hp) (r : Addr) (ss : List Str), Same H H' → H r = none → H' r = some (.lst (ss.map V.str)) → SetOf ss f.frees → Q (.ref r) H'
theorem args_len {h : Hd} {n : Nat} (k : h.Ok n) : h.args.length ≤ 8 := by
  cases h with
  | rel n as => exact Nat.le_trans k.2.1 (by decide)
  | eq x y => show 2 ≤ 8; decide
  | less x y => show 2 ≤ 8; decide
  | lfp n us as => show as.length ≤ 8; have h1 := k.2.2.1; have h2 := k.2.1.2.1; omega
  | pfp n us as => show as.length ≤ 8; have h1 := k.2.2.1; have h2 := k.2.1.2.1; omega
  | tc us as => show as.length ≤ 8; have h1 := k.2.2.2.1; have h2 := k.1; omega
  | _ => exact Nat.zero_le _

/-! ### a dict that a call returned is locked for good, before one goes through it -/
def tFrz (t : TE) : TE := fun σ H Q =>
  t σ H fun x H1 => ∃ d u, H1 d = some u ∧ Mut (some u) ∧ ∀ od, Q x (upd H1 d (.frz od u))
theorem pe_frz {X : Cx} {e : Expr} {t : TE} (h : PE X e t) : PE X e (tFrz t) := ⟨fun pins s σ H Q I hw =>
  thn (h.run pins s σ H _ I hw) fun v s1 ⟨x, H1, I1, r, d, u, hd, mu, q⟩ => by
    obtain ⟨od, I2⟩ := I1.lock hd mu
    exact ⟨x, _, I2, r, q od⟩⟩
theorem sw_trueD {kx vx : Expr} {gs : List Comprehension} {scope : Scope} {pos py : Pos} {y : Str} {l : Nat} {env : Env} (a1 : env.scope.kind = .function) (a2 : env.scope.names.lookup y = some .local)
    (a3 : (py.line == pos.line) = true) (a4 : (scope.names.any fun (n, k) => n == y && (k == .local || k == .cell)) = false) : swapsWith (.DictComp kx vx gs scope pos) (some (.Name y py)) l env = pure true := by
  have b1 : env.kindOf y = some .local := a2
  have b2 : env.blockKind = .function := by
    unfold Env.blockKind
    rw [a1]
    rfl
  unfold swapsWith
  simp only [b1, b2, a4, Expr.pos, a3]
  rfl
section
variable {X : Cx}
theorem ps_setDc {i : Nat} {y : Str} {py : Pos} {kx vx tg iter : Expr} {ifs : List Expr} {scope : Scope} {own : List (Str × Nat)} {pos spos : Pos} {wi : TI} {g : TG} {tt : TT} {tk tv : TE}
    (hc : X.calm = true) (hN : X.N.Nodup) (hy : X.N[i]? = some y) (hyl : X.env.scope.names.lookup y = some .local)
    (hsw : swapsWith (.DictComp kx vx [⟨tg, iter, ifs, 0⟩] scope pos) (some (.Name y py)) spos.line X.env = pure true)
    (hi : PI X tg iter wi) (ok : BlkOk X.N X.env.scope scope own)
    (hg : ∀ (s : Shared) (H : Hp) (C : Addr) (cl : List (Str × Addr)) (fp : List Addr),
      PG (X.blk s H scope (compEnvC scope cl C X.env) fp) tg g)
    (ht : ∀ (s : Shared) (H : Hp) (C : Addr) (cl : List (Str × Addr)) (fp : List Addr),
      PTs (X.blk s H scope (compEnvC scope cl C X.env) fp) ifs tt)
    (hk : ∀ (s : Shared) (H : Hp) (C : Addr) (cl : List (Str × Addr)) (fp : List Addr),
      PE (X.blk s H scope (compEnvC scope cl C X.env) fp) kx tk)
    (he : ∀ (s : Shared) (H : Hp) (C : Addr) (cl : List (Str × Addr)) (fp : List Addr),
      PE (X.blk s H scope (compEnvC scope cl C X.env) fp) vx tv)
    (hs : ∀ x, foldedSetIterable iter X.env x = pure x := by intro _; rfl) :
    PS X (.Assign [.Name y py] (.DictComp kx vx [⟨tg, iter, ifs, 0⟩] scope pos) spos) (tAsg (tDc wi g tt tk tv (own.map (·.2))) (gName i)) := by
  refine ⟨fun pins s σ H D I hw => ?_⟩
  rw [exec_Assign_Name_used _ _ _ _ hsw]
  refine wpAny_bind (wpAny_standAt (wpAny_bind ?_))
  show wpAny _ X.A (do
    let _ ← comprehension (.DictComp kx vx [⟨tg, iter, ifs, 0⟩] scope pos) scope X.env (firstIterPos [⟨tg, iter, ifs, 0⟩] pos) newDict false (eval iter X.env) (some (assign (.Name y py) X.env))) _ _ s
  have hw : tDc wi g tt tk tv (own.map (·.2)) σ H (fun x H1 => gName i x σ H1 D.nx) := hw
  refine wpAny_bind (thn (dc_core (Qf := fun _ s' => SP X pins D .next s') hc hN I hi ok hg ht hk he hs hw fun L C s' m H' I' q hn f => ?_) fun _ s' z => wpAny_pure (wpAny_pure z))
  show wpAny _ _ (assign (.Name y py) X.env (.ref L)) _ _ _
  refine wpAny_assign_Name (store_ok2 (v := V.ref L) I' hN hy (.inl hyl) rfl (fun s2 I2 ⟨a, sb, ha⟩ => ?_) (.inr hyl))
  obtain ⟨g0, g1, g2, g3, g4, g5⟩ := f
  have cna : C ≠ a := by
    rcases ha with z | z
    · rw [z]
      exact g1
    · exact fun e => g4 y a z e.symm
  exact ⟨m, hn.sameBut sb cna, fun h3 sb3 => ⟨_, H', I2.turned (t' := s2.toks) (fun b o hb e => (sb3.2 b hb).trans e) g0 g1 g3 g4 g5, q⟩⟩
end
/-! ### the program's free variables -/
def encT (x : Str) : Key × V := (Sum.inr x, .bl true)
theorem keys_encT (l : List Str) : (l.map encT).map (·.1) = l.map Sum.inr := by rw [List.map_map]; rfl
theorem val_encT : ∀ {l : List Str} {x : Str}, valV (l.map encT) (Sum.inr x) = if x ∈ l then some (.bl true) else none
  | [], x => by simp [valV]
  | p :: l, x => by
    by_cases e : p = x
    · rw [List.map_cons, valV_pos (by show Sum.inr p = Sum.inr x; rw [e]), if_pos (by rw [e]; exact List.mem_cons_self ..)]
      rfl
    · rw [List.map_cons, valV_neg (by intro z; exact e (Sum.inr.inj z)), val_encT]
      have e2 : ¬ x = p := fun z => e z.symm
      simp [e2]
theorem put_encT {l : List Str} {x : Str} : ∃ m : List Str, putK (l.map encT) (Sum.inr x) (.bl true) = m.map encT ∧ (l.Nodup → m.Nodup) ∧ (∀ y, y ∈ m ↔ y ∈ l ∨ y = x) ∧ m.length ≤ l.length + 1 := by
  by_cases h : x ∈ l
  · refine ⟨l, ?_, id, fun y => ⟨.inl, fun o => o.elim id fun e => by rw [e]; exact h⟩, Nat.le_succ _⟩
    unfold putK
    rw [if_pos, List.map_map]
    · refine List.map_congr_left fun y _ => ?_
      show (if (encT y).1 = Sum.inr x then ((encT y).1, V.bl true) else encT y) = encT y
      split <;> rfl
    · rw [List.any_map]
      exact List.any_eq_true.mpr ⟨x, h, decide_eq_true rfl⟩
  · refine ⟨l ++ [x], ?_, fun nd => ?_, fun y => by simp, by rw [List.length_append]; exact Nat.le_refl _⟩
    · rw [putK_new _ (by rw [val_encT, if_neg h]), List.map_append]
      rfl
    · exact List.nodup_append.mpr ⟨nd, by simp, fun a ha b hb e => h (by rw [← List.mem_singleton.mp hb, ← e]; exact ha)⟩
def spFreeD (K : PySem.W.Frag) (n : Nat) : Sp := fun vs H Q _ => ∃ (v : V) (f : Fm), vs = [v] ∧ Dp K H v f.data ∧ f.Ok ∧ Fr20 f ∧ f.dep ≤ n ∧
  ∀ (H' : Hp) (r : Addr) (l : List Str), Same H H' → H r = none → H' r = some (.dK (l.map encT)) → l.Nodup → (∀ x, x ∈ l ↔ x ∈ f.frees) → Q (.ref r) H'
section
variable {P : Program} {w : World} {K : PySem.W.Frag} {mg : Str → Option Value} {base : Heap}
theorem sc_pfree : FnScope ["formula", "found", "part", "variable"] ["formula"] (defScope (top 89)) := ⟨rfl, rfl, rfl, by decide +kernel, rfl, by decide +kernel, by decide +kernel⟩
theorem has_pfree (D : Def K mg "_free" ["formula"] (top 89)) (T : Txt mg) (C1 : Has P w K mg base 1 "inner" ["formula"] (spInner K)) (C2 : Has P w K mg base 1 "own" ["formula"] (spOwn K)) (C3 : Has P w K mg base 1 "arguments" ["formula"] (spArgs K)) :
    ∀ n : Nat, Has P w K mg base (2 + n) "_free" ["formula"] (spFreeD K n) := by
  obtain ⟨f1, fd1, G_inner, g_inner, k_inner, b_inner⟩ := C1
  obtain ⟨f2, fd2, G_own, g_own, k_own, b_own⟩ := C2
  obtain ⟨f3, fd3, G_arguments, g_arguments, k_arguments, b_arguments⟩ := C3
  intro n
  induction n with
  | zero =>
    refine D.has fun f fd F => F.ok sc_pfree (fun vs H Q E h => ?_) (fun cdv A outer s H vs Q E hr h => ?_)
    · obtain ⟨v, f, rfl, _⟩ := h; rfl
    · obtain ⟨v, f, rfl, _, _, _, h0, _⟩ := h
      have := dep_pos f
      omega
  | succ n ih =>
    obtain ⟨f4, fd4, G_free, g_free, k_free, b_free⟩ := ih
    refine D.has fun f fd F => F.ok sc_pfree (fun vs H Q E h => ?_) (fun cdv A outer s H vs Q E hr h => ?_)
    · obtain ⟨v, f, rfl, _⟩ := h; rfl
    · obtain ⟨v, f, rfl, dp, ok, oc, hn, q⟩ := h
      have R_inner : Room 1 _ := hr.mono (Nat.le_trans (by decide) (Nat.le_add_right 2 n))
      have R_own : Room 1 _ := hr.mono (Nat.le_trans (by decide) (Nat.le_add_right 2 n))
      have R_arguments : Room 1 _ := hr.mono (Nat.le_trans (by decide) (Nat.le_add_right 2 n))
      have R_free : Room (2 + n) _ := hr
      refine ⟨_, PSs.nox (pss_cons (ps_setDc (i := 1) (own := [("variable", 3)]) rfl sc_pfree.nd rfl rfl (sw_trueD rfl rfl rfl (by decide +kernel)) (pi_tup (pe_call G_arguments R_arguments (by rfl) g_arguments k_arguments b_arguments .nil pass0 (pa_cons (pv 0) pa_nil))) (blkOk_by (N := ["formula", "found", "part", "variable"]) (sc := defScope (top 89)) (by decide +kernel)) (fun _ _ _ _ _ => (pg_name (i := 3) sc_pfree.nd rfl (Or.inl rfl))) (fun _ _ _ _ _ => pts_nil) (fun _ _ _ _ _ => (pv 3)) (fun _ _ _ _ _ => pe_bl)) (pss_cons (ps_for PassesOwn.never rfl (pi_tup (pe_call G_inner R_inner (by rfl) g_inner k_inner b_inner .nil pass0 (pa_cons (pv 0) pa_nil))) (pg_name (i := 2) sc_pfree.nd rfl (Or.inl rfl)) (pss_one (ps_for PassesOwn.never rfl (pi_keys (pe_frz (pe_call G_free R_free (by rfl) g_free k_free b_free .nil pass0 (pa_cons (pv 2) pa_nil)))) (pg_name (i := 3) sc_pfree.nd rfl (Or.inl rfl)) (pss_one (ps_if (pt_cmpR op_notIn_seq (pv 3) (pe_call G_own R_own (by rfl) g_own k_own b_own .nil pass0 (pa_cons (pv 0) pa_nil)) (by rfl)) (pss_one (ps_dput (hu_of hr) (pv 1) (pv 3) pe_bl rfl)) pss_nil))))) (pss_one (ps_ret (pv 1))))), ?_⟩
      obtain ⟨h, ps⟩ := f
      obtain ⟨pool, hp20, subp⟩ := oc.here
      have fit : h.Ok (ps.map Fm.data).length := by rw [List.length_map]; exact ok.hd_
      rw [Fm.data_mk] at dp
      have al : h.args.length ≤ 8 := args_len ok.hd_
      -- found
      refine ⟨_, rfl, v, h, _, rfl, dp, fit.fits, fun H1 t1 s1 d1 => ?_⟩
      obtain ⟨t, rfl, ht⟩ := tS_inv d1
      refine ⟨t, rfl, ⟨_, ht⟩, fun c nc => ?_⟩
      have nc0 : H c = none := Same.none s1 nc
      refine dc_tup (K := K) (a := t) (xs := h.args.map V.str) (fun i H2 => Same H1 H2 ∧ ∃ l : List Str, H2 c = some (.dK (l.map encT)) ∧ l.Nodup ∧ (∀ x, x ∈ l ↔ x ∈ h.args.take i) ∧ l.length ≤ i) ⟨same_upd nc, [], upd_same, List.nodup_nil, fun x => by simp, Nat.le_refl _⟩ (fun i H2 _ ⟨s2, _⟩ => Same.sqt s2 ht) ?_ ?_
      · rintro i z H2 hz ⟨s2, l, hc2, nd, ml, ll⟩
        obtain ⟨x, hx, rfl⟩ := get_map hz
        have hi : i < h.args.length := (List.getElem?_eq_some_iff.mp hx).1
        obtain ⟨m, em, ndm, mm, lm⟩ := put_encT (l := l) (x := x)
        refine ⟨rfl, _, rfl, _, Sum.inr x, rfl, hc2, ?_, fun b o eb => ?_, m, ?_, ndm nd, fun y => ?_, by omega⟩
        · rw [List.length_map]
          exact small1000 (by omega)
        · rw [upd_ne (ne_of_none eb nc)]
          exact s2 _ _ eb
        · rw [upd_same, em]
        · rw [mm, ml, List.take_add_one, hx, List.mem_append]
          simp
      · rintro H2 ⟨s2, l0, hc2, nd0, ml0, ll0⟩
        rw [List.length_map] at ll0 ml0
        rw [List.take_length] at ml0
        have s02 : Same H H2 := s1.trans s2
        have keepS : ∀ {H3 H4 : Hp}, Same H2 H3 → Kp c H3 H4 → Same H H4 := fun s k b o e => k b o (s b o (s02 b o e)) (ne_of_none e nc0)
        refine ⟨_, rfl, v, h, _, rfl, Dp.same s02 dp, fit.fits, fun H3 r s3 hr3 => ?_⟩
        obtain ⟨b, ys, rfl, hb, hy⟩ := Dp.tup_inv hr3
        have hc3 := s3 _ _ hc2
        have nq : NotSeq H3 c := ⟨_, hc3⟩
        refine ⟨b, rfl, ⟨_, hb⟩, for_tup (K := K) (a := b) (xs := ys) (fun i σ H4 => ∃ (y2 y3 : Option V) (l : List Str), σ = [some v, some (.ref c), y2, y3] ∧ Kp c H3 H4 ∧ H4 c = some (.dK (l.map encT)) ∧ l.Nodup ∧ ∀ x, x ∈ l ↔ (∃ g, g ∈ ps.take i ∧ x ∈ g.frees ∧ x ∉ h.own) ∨ x ∈ h.args)
          ⟨none, none, l0, rfl, .refl _ _, hc3, nd0, fun x => by rw [ml0]; simp⟩ (fun i σ H4 _ ⟨_, _, _, _, k4, _⟩ => k4.sqt' nq hb) ?_ ?_⟩
        · rintro i y σ H4 hi ⟨y2, y3, l, rfl, k4, hc4, nd, ml⟩
          obtain ⟨dd, hd, dpy⟩ := DpAll.get' hy hi
          obtain ⟨g, hg, rfl⟩ := get_map hd
          have mem := List.mem_of_getElem? hg
          have dl : g.dep < (Fm.mk h ps).dep := dep_part mem
          have sH4 : Same H H4 := keepS s3 k4
          refine ⟨_, rfl, y, g, rfl, Dp.kpD k4 nq dpy, ok.part mem, oc.part mem, by omega, fun H5 e l2 s5 ne he nd2 m2 => ?_⟩
          have nec : e ≠ c := fun z => by rw [z, hc4] at ne; cases ne
          refine ⟨e, .dK (l2.map encT), he, trivial, fun od => ?_⟩
          refine ⟨e, od, rfl, .inl ⟨_, upd_same, for_it walk_keys (fun j σ H6 => ∃ (y3 : Option V) (l' : List Str), σ = [some v, some (.ref c), some y, y3] ∧ H6 e = some (.frz od (.dK (l2.map encT))) ∧ (∀ b o, H4 b = some o → b ≠ c → H6 b = some o) ∧ H6 c = some (.dK (l'.map encT)) ∧ l'.Nodup ∧ ∀ x, x ∈ l' ↔ x ∈ l ∨ (x ∈ l2.take j ∧ x ∉ h.own))
            ⟨y3, l, rfl, upd_same, fun b o eb nb => by rw [upd_ne (ne_of_none eb ne)]; exact s5 _ _ eb, by rw [upd_ne nec.symm]; exact s5 _ _ hc4, nd, fun x => by simp⟩ (fun j σ H6 _ ⟨_, _, _, q1, _⟩ => q1) ?_ ?_⟩⟩
          · rintro j x σ H6 H7 hj ⟨y3, l', rfl, he6, k6, hc6, nd', ml'⟩ ⟨rfl, kk, vv, hkv, rfl⟩
            obtain ⟨p, hp, ep⟩ := get_map hkv
            have ek : kk = Sum.inr p := congrArg Prod.fst ep
            subst ek
            have tk : l2.take (j + 1) = l2.take j ++ [p] := by rw [List.take_add_one, hp]; rfl
            have l'20 : l'.length ≤ 40 := Nat.le_trans (sub_len l' pool nd' fun x hx => subp x (Fm.frees_mem.mpr (by
              rcases (ml' x).mp hx with z | ⟨z, zo⟩
              · rcases (ml x).mp z with ⟨g2, hg2, a, b⟩ | a
                · exact .inl ⟨g2, List.mem_of_mem_take hg2, a, b⟩
                · exact .inr a
              · exact .inl ⟨g, mem, (m2 x).mp (List.mem_of_mem_take z), zo⟩))) hp20
            have sH7 : Same H H7 := fun b o eb => k6 b o (sH4 b o eb) (ne_of_none eb nc0)
            refine ⟨_, rfl, _, rfl, v, h, _, rfl, Dp.same sH7 dp, fit.fits, fun H8 r8 s8 d8 => ?_⟩
            obtain ⟨t8, rfl, ht8⟩ := tS_inv d8
            refine ⟨t8, _, rfl, .inr ht8, rfl, flat_strs _, _, rfl, ?_⟩
            have eio : inV (.str p) (h.own.map V.str) = decide (p ∈ h.own) := inV_str
            by_cases ho : p ∈ h.own
            · refine cF (k := !inV (.str p) (h.own.map V.str)) (by rw [eio, decide_eq_true ho]; rfl) ⟨_, l', rfl, s8 _ _ he6, fun b o eb nb => s8 _ _ (k6 b o eb nb), s8 _ _ hc6, nd', fun x => ?_⟩
              rw [ml', tk, List.mem_append]
              constructor
              · rintro (a | ⟨a, b⟩)
                · exact .inl a
                · exact .inr ⟨.inl a, b⟩
              · rintro (a | ⟨a | a, b⟩)
                · exact .inl a
                · exact .inr ⟨a, b⟩
                · rw [List.mem_singleton.mp a] at b
                  exact absurd ho b
            · refine cT (k := !inV (.str p) (h.own.map V.str)) (by rw [eio, decide_eq_false ho]; rfl) ?_
              obtain ⟨m, em, ndm, mm, lm⟩ := put_encT (l := l') (x := p)
              refine ⟨_, rfl, _, rfl, c, _, rfl, DPut.k (k := Sum.inr p) (s8 _ _ hc6) (by rw [List.length_map]; exact small1000 (by omega)), ?_⟩
              rw [em]
              refine ⟨_, m, rfl, by rw [upd_ne nec]; exact s8 _ _ he6, fun b o eb nb => by rw [upd_ne nb]; exact s8 _ _ (k6 b o eb nb), upd_same, ndm nd', fun x => ?_⟩
              rw [mm, ml', tk, List.mem_append]
              constructor
              · rintro ((a | ⟨a, b⟩) | a)
                · exact .inl a
                · exact .inr ⟨.inl a, b⟩
                · rw [a]; exact .inr ⟨.inr (List.mem_singleton.mpr rfl), ho⟩
              · rintro (a | ⟨a | a, b⟩)
                · exact .inl (.inl a)
                · exact .inl (.inr ⟨a, b⟩)
                · exact .inr (List.mem_singleton.mp a)
          · rintro σ H6 ⟨y3, l', rfl, he6, k6, hc6, nd', ml'⟩
            refine ⟨_, _, l', rfl, fun b o eb nb => k6 b o (k4 b o eb nb) nb, hc6, nd', fun x => ?_⟩
            have hg : ps[i]? = some g := hg
            rw [ml', ml, List.take_of_length_le (show l2.length ≤ (l2.map encT).length by rw [List.length_map]; exact Nat.le_refl _), m2, List.take_add_one, hg]
            constructor
            · rintro ((⟨g2, hg2, a, b⟩ | a) | ⟨a, b⟩)
              · exact .inl ⟨g2, List.mem_append_left _ hg2, a, b⟩
              · exact .inr a
              · exact .inl ⟨g, List.mem_append_right _ (List.mem_singleton.mpr rfl), a, b⟩
            · rintro (⟨g2, hg2, a, b⟩ | a)
              · rcases List.mem_append.mp hg2 with hg2 | hg2
                · exact .inl (.inl ⟨g2, hg2, a, b⟩)
                · rw [List.mem_singleton.mp hg2] at a
                  exact .inr ⟨a, b⟩
              · exact .inl (.inr a)
        · rintro σ H4 ⟨y2, y3, l, rfl, k4, hc4, nd, ml⟩
          have eyl : ys.length = ps.length := by rw [DpAll.length hy, List.length_map]
          rw [List.take_of_length_le (show ps.length ≤ ys.length by omega)] at ml
          exact ⟨_, rfl, q H4 c l (keepS s3 k4) nc0 hc4 nd fun x => by rw [ml, Fm.frees_mem]⟩
end

/-! ### free, symbols -/
def spFreeL (K : PySem.W.Frag) : Sp := fun vs H Q _ => ∃ (v : V) (f : Fm), vs = [v] ∧ Dp K H v f.data ∧ f.Wf ∧ Fr20 f ∧
  ∀ (H' : Hp) (r : Addr) (ss : List Str), Same H H' → H' r = some (.lst (ss.map V.str)) → SetOf ss f.frees → Q (.ref r) H'
section
variable {P : Program} {w : World} {K : PySem.W.Frag} {mg : Str → Option Value} {base : Heap}
theorem sc_free1 : FnScope ["formula"] ["formula"] (defScope (top 90)) := ⟨rfl, rfl, rfl, by decide +kernel, rfl, by decide +kernel, by decide +kernel⟩
theorem has_free1 (D : Def K mg "free" ["formula"] (top 90)) (T : Txt mg) (C1 : Has P w K mg base 47 "check_formula" ["formula"] (spCheck K)) (C2 : ∀ n, Has P w K mg base (2 + n) "_free" ["formula"] (spFreeD K n)) : Has P w K mg base 48 "free" ["formula"] (spFreeL K) := D.has fun f fd F => by
  obtain ⟨f1, fd1, G_check_formula, g_check_formula, k_check_formula, b_check_formula⟩ := C1
  obtain ⟨f2, fd2, G_free, g_free, k_free, b_free⟩ := C2 40
  refine F.ok sc_free1 (fun vs H Q E h => ?_) (fun cdv A outer s H vs Q E hr h => ?_)
  · obtain ⟨v, f, rfl, _⟩ := h; rfl
  · obtain ⟨v, f, rfl, dp, wf, oc, q⟩ := h
    have R_check_formula : Room 47 _ := hr
    have R_free : Room (2 + 40) _ := hr.mono (by decide)
    refine ⟨_, PSs.nox (pss_cons (ps_expr (pe_call G_check_formula R_check_formula (by rfl) g_check_formula k_check_formula b_check_formula .nil pass0 (pa_cons (pv 0) pa_nil))) (pss_one (ps_ret (pe_callB (call_sortedD rfl) (by rfl) T.n_sorted (by decide +kernel) (pa_cons (pe_call G_free R_free (by rfl) g_free k_free b_free .nil pass0 (pa_cons (pv 0) pa_nil)) pa_nil))))), ?_⟩
    refine ⟨_, rfl, v, f, rfl, dp, wf, fun H1 r1 s1 _ => ?_⟩
    refine ⟨_, rfl, v, f, rfl, Dp.same s1 dp, wf.ok, oc, wf.dep, fun H2 d l s2 nd hd ndl ml => ?_⟩
    have l20 : l.length ≤ 40 := by
      obtain ⟨pool, hp, subp⟩ := oc.here
      exact Nat.le_trans (sub_len l pool ndl fun x hx => subp x ((ml x).mp hx)) hp
    refine ⟨d, l.map encT, l, rfl, Rd.of hd, keys_encT l, by omega, fun ys p pm so np => ?_⟩
    exact q _ p ys ((s1.trans s2).trans (same_upd np)) upd_same ⟨pm.nodup_iff.mpr ndl, so, fun x => by rw [pm.mem_iff, ml]⟩
end

/-! ### systems of definitions -/
structure Dfn where
  nm : Str
  vs : List Str
  b : Fm
def Dfn.data (d : Dfn) : PyData := .tuple [.str d.nm, tS d.vs, d.b.data]
def sysD (ds : List Dfn) : PyData := .list (ds.map Dfn.data)
/-- a definition, whatever other definitions there are -/
structure Dfn.Ok (d : Dfn) : Prop where
  nm : Nm d.nm
  own : OwnOk d.vs
  wf : d.b.Wf
  fr : ∀ x, x ∈ d.b.frees → x ∈ d.vs
/-- definitions agree -/
structure Agr (ds : List Dfn) : Prop where
  nd : (ds.map Dfn.nm).Nodup
  ar : ∃ Γ : ArE, ∀ d, d ∈ ds → Γ d.nm = some d.vs.length ∧ ∀ p, p ∈ d.b.syms → Γ p.1 = some p.2
  po : ∀ d, d ∈ ds → ∀ e, e ∈ ds → d.b.pos e.nm 1 = true
structure SysOk (ds : List Dfn) : Prop where
  lo : 1 ≤ ds.length
  hi : ds.length ≤ 24
  ok : ∀ d, d ∈ ds → d.Ok
  ag : Agr ds
theorem pos_nosym : ∀ (f : Fm) (n : Str), (∀ p, p ∈ f.syms → p.1 ≠ n) → ∀ s, f.pos n s = true := fun f => Fm.ind (P := fun f => ∀ n : Str, (∀ p, p ∈ f.syms → p.1 ≠ n) → ∀ s, f.pos n s = true) (fun h ps ih n hn s => by
  by_cases nr : h.kd = .rel
  · cases h with
    | rel m as =>
      rw [Fm.pos_rel]
      have := hn (m, as.length) (by rw [Fm.syms_rel]; exact List.mem_singleton.mpr rfl)
      rw [decide_eq_false this]
      exact Bool.or_true _
    | _ => cases nr
  · rw [Fm.pos_other nr]
    by_cases hb : h.bname = some n
    · rw [if_pos hb]
    · rw [if_neg hb]
      refine List.all_eq_true.mpr fun g hg => ih g hg n (fun p hp e => ?_) _
      exact hn p ((Fm.syms_mem nr).mpr ⟨by rw [e]; exact hb, g, hg, hp⟩) e) f
/-- data that a definition may be asked of -/
structure RawF (t : PyData) : Prop where
  raw : Raw t
  fr : ∀ f : Fm, t = f.data → f.Ok → Fr20 f
def spFreeR (K : PySem.W.Frag) : Sp := fun vs H Q E => ∃ (v : V) (t : PyData), vs = [v] ∧ Dp K H v t ∧ RawF t ∧ (∀ (H' : Hp) (r : Addr) (ss : List Str) (f : Fm), Same H H' → t = f.data → f.Wf → H' r = some (.lst (ss.map V.str)) → SetOf ss f.frees → Q (.ref r) H') ∧ (∀ (H' : Hp), Same H H' → E (.ref (He.ga K "BadFormula")) none H')
/-- data that a system may consist of -/
structure RawD (t : PyData) : Prop where
  o : Ord t
  b : ∀ a c e, t = .tuple [a, c, e] → RawF e
def spDefR (K : PySem.W.Frag) : Sp := fun vs H Q E => ∃ (v : V) (t : PyData), vs = [v] ∧ Dp K H v t ∧ RawD t ∧ (∀ (H' : Hp) (d : Dfn), Same H H' → t = d.data → d.Ok → Q .non H') ∧ (∀ (H' : Hp), Same H H' → E (.ref (He.ga K "BadFormula")) none H')
def spDefY (K : PySem.W.Frag) : Sp := fun vs H Q _ => ∃ (v : V) (d : Dfn), vs = [v] ∧ Dp K H v d.data ∧ d.Ok ∧ Fr20 d.b ∧ ∀ H' : Hp, Same H H' → Q .non H'
section
variable {P : Program} {w : World} {K : PySem.W.Frag} {mg : Str → Option Value} {base : Heap}
theorem has_freeR (D : Def K mg "free" ["formula"] (top 90)) (T : Txt mg) (C1 : HasX (L2N.CX P w) P w K mg base 48 "check_formula" ["formula"] (spCheckR K)) (C2 : ∀ n, Has P w K mg base (2 + n) "_free" ["formula"] (spFreeD K n)) : HasX (L2N.CX P w) P w K mg base 49 "free" ["formula"] (spFreeR K) := D.has fun f fd F => by
  obtain ⟨f1, fd1, G_check_formula, g_check_formula, k_check_formula, b_check_formula⟩ := C1
  obtain ⟨f2, fd2, G_free, g_free, k_free, b_free⟩ := C2 40
  refine F.ok sc_free1 (fun vs H Q E h => ?_) (fun cdv A outer s H vs Q E hr h => ?_)
  · obtain ⟨v, t, rfl, _⟩ := h; rfl
  · obtain ⟨v, t, rfl, dp, rf, q, qe⟩ := h
    have R_check_formula : Room 48 _ := hr
    have R_free : Room (2 + 40) _ := hr.mono (by decide)
    refine ⟨_, (pss_cons (ps_expr (pe_call G_check_formula R_check_formula (by rfl) g_check_formula k_check_formula b_check_formula .nil (L2N.passes_call (L2N.takes_of rfl rfl rfl rfl) (fun _ _ _ _ h => h)) (pa_cons (pv 0) pa_nil))) (pss_one (ps_ret (pe_callB (call_sortedD rfl) (by rfl) T.n_sorted (by decide +kernel) (pa_cons (pe_call G_free R_free (by rfl) g_free k_free b_free .nil pass0 (pa_cons (pv 0) pa_nil)) pa_nil))))), ?_⟩
    refine ⟨_, rfl, v, t, rfl, dp, rf.raw, fun H1 f s1 e wf => ?_, qe⟩
    subst e
    have oc := rf.fr f rfl wf.ok
    refine ⟨_, rfl, v, f, rfl, Dp.same s1 dp, wf.ok, oc, wf.dep, fun H2 d l s2 nd hd ndl ml => ?_⟩
    have l20 : l.length ≤ 40 := by
      obtain ⟨pool, hp, subp⟩ := oc.here
      exact Nat.le_trans (sub_len l pool ndl fun x hx => subp x ((ml x).mp hx)) hp
    refine ⟨d, l.map encT, l, rfl, Rd.of hd, keys_encT l, by omega, fun ys p pm so np => ?_⟩
    exact q _ p ys f ((s1.trans s2).trans (same_upd np)) rfl wf upd_same ⟨pm.nodup_iff.mpr ndl, so, fun x => by rw [pm.mem_iff, ml]⟩
theorem flatS (ws : List Str) : (ws.map V.str).all flatV = true := List.all_eq_true.mpr fun x hx => by
  obtain ⟨z, _, rfl⟩ := List.mem_map.mp hx
  rfl
theorem own6' : ∀ i, i ∈ ([1, 2, 3, 4, 5, 6] : List Int) → i ≤ 1000 := by decide
theorem sc_cdef : FnScope ["definition", "name", "variables", "body", "variable"] ["definition"] (defScope (top 110)) := ⟨rfl, rfl, rfl, by decide +kernel, rfl, by decide +kernel, by decide +kernel⟩
theorem has_cdefR (D : Def K mg "_check_definition" ["definition"] (top 110)) (T : Txt mg) (S : Shp K w mg) (BF : XC K mg "BadFormula") (C1 : Has P w K mg base 1 "is_name" ["text"] (spIsName K)) (C2 : Has P w K mg base 3 "are_different" ["value", "counts"] (spDiffX K)) (C3 : HasX (L2N.CX P w) P w K mg base 49 "free" ["formula"] (spFreeR K)) : HasX (L2N.CX P w) P w K mg base 50 "_check_definition" ["definition"] (spDefR K) := D.has fun f fd F => by
  obtain ⟨f1, fd1, G_is_name, g_is_name, k_is_name, b_is_name⟩ := C1
  obtain ⟨f2, fd2, G_are_different, g_are_different, k_are_different, b_are_different⟩ := C2
  obtain ⟨f3, fd3, G_free, g_free, k_free, b_free⟩ := C3
  have c_OWN_COUNTS := S.ownG
  refine F.ok sc_cdef (fun vs H Q E h => ?_) (fun cdv A outer s H vs Q E hr h => ?_)
  · obtain ⟨v, t, rfl, _⟩ := h; rfl
  · obtain ⟨v, t, rfl, dp, rd, q, qe⟩ := h
    have R_is_name : Room 1 _ := hr.mono (by decide)
    have R_are_different : Room 3 _ := hr.mono (by decide)
    have R_free : Room 49 _ := hr
    refine ⟨_, (pss_cons (ps_if (PW.pt (pw_or (pt_not (pt_val (pe_callB call_isi (by rfl) T.n_isinstance (by decide +kernel) (pa_cons (pv 0) (pa_cons (pe_bltn (v := .ty "tuple") (by rfl) T.n_tuple (by decide +kernel) rfl) pa_nil))))) (pw_or1 (pt_cmpR op_ne (pe_callB call_len_seq (by rfl) T.n_len PySem.boot_len (pa_cons (pv 0) pa_nil)) pe_int (nomark _))))) (pss_one (ps_raiseXN BF rfl (L2N.takes_of rfl rfl rfl rfl) rfl)) pss_nil) (pss_cons (ps_asg (pv 0) (pg_tup rfl (pgs_cons (pg_name (i := 1) sc_cdef.nd rfl (Or.inl rfl)) (pgs_cons (pg_name (i := 2) sc_cdef.nd rfl (Or.inl rfl)) (pgs_cons (pg_name (i := 3) sc_cdef.nd rfl (Or.inl rfl)) pgs_nil))))) (pss_cons (ps_if (PW.pt (pw_or (pt_not (pt_val (pe_call G_is_name R_is_name (by rfl) g_is_name k_is_name b_is_name .nil pass0 (pa_cons (pv 1) pa_nil)))) (pw_or1 (pt_not (pt_val (pe_call G_are_different R_are_different (by rfl) g_are_different k_are_different b_are_different .nil pass0 (pa_cons (pv 2) (pa_cons (pe_glob (v := .ref (He.ga K "OWN_COUNTS")) (by rfl) c_OWN_COUNTS rfl) pa_nil)))))))) (pss_one (ps_raiseXN BF rfl (L2N.takes_of rfl rfl rfl rfl) rfl)) pss_nil) (pss_one (ps_for (passes_of rfl) rfl (pi_list (pe_call G_free R_free (by rfl) g_free k_free b_free .nil (L2N.passes_call (L2N.takes_of rfl rfl rfl rfl) (fun _ _ _ _ h => h)) (pa_cons (pv 3) pa_nil))) (pg_name (i := 4) sc_cdef.nd rfl (Or.inl rfl)) (pss_one (ps_if (pt_cmpR op_notIn_seq (pv 4) (pv 2) (by rfl)) (pss_one (ps_raiseXN BF rfl (L2N.takes_of rfl rfl rfl rfl) rfl)) pss_nil))))))), ?_⟩
    cases rd.o with
    | non => exact ⟨_, rfl, _, _, _, _, _, rfl, .ty _, dp_ty dp, kit_ty (b := "tuple") (r := false) (by decide +kernel), _, rfl, iteT (qe H (.refl H))⟩
    | bl b => exact ⟨_, rfl, _, _, _, _, _, rfl, .ty _, dp_ty dp, kit_ty (a := "bool") (b := "tuple") (r := false) (by decide +kernel), _, rfl, iteT (qe H (.refl H))⟩
    | int b => exact ⟨_, rfl, _, _, _, _, _, rfl, .ty _, dp_ty dp, kit_ty (a := "int") (b := "tuple") (r := false) (by decide +kernel), _, rfl, iteT (qe H (.refl H))⟩
    | str b => exact ⟨_, rfl, _, _, _, _, _, rfl, .ty _, dp_ty dp, kit_ty (a := "str") (b := "tuple") (r := false) (by decide +kernel), _, rfl, iteT (qe H (.refl H))⟩
    | lst _ _ => exact ⟨_, rfl, _, _, _, _, _, rfl, .ty _, dp_ty dp, kit_ty (a := "list") (b := "tuple") (r := false) (by decide +kernel), _, rfl, iteT (qe H (.refl H))⟩
    | @tup ts l ho =>
      obtain ⟨a, xs, rfl, hT, hx⟩ := Dp.tup_inv dp
      have lx := DpAll.length hx
      refine ⟨_, rfl, _, _, _, _, _, rfl, .ty _, ty_tup hT, kit_ty (b := "tuple") (r := true) (by decide +kernel), _, rfl, iteF ?_⟩
      by_cases l3 : ts.length = 3
      · match ts, l3 with
        | [ta, tb, tc], _ =>
          obtain ⟨va, xs1, rfl, ha, hx1⟩ := DpAll.cons_inv hx
          obtain ⟨vb, xs2, rfl, hb, hx2⟩ := DpAll.cons_inv hx1
          obtain ⟨vc, xs3, rfl, hc, hx3⟩ := DpAll.cons_inv hx2
          obtain rfl := DpAll.nil_inv hx3
          have oa := ho ta (by simp)
          have ob := ho tb (by simp)
          have rf := rd.b ta tb tc rfl
          refine ⟨_, rfl, a, _, rfl, .inr hT, rfl, _, rfl, cF (k := !decide (V.int (([va, vb, vc].length : Nat) : Int) = V.int 3)) (nd_f rfl) ?_⟩
          refine ⟨_, rfl, a, _, rfl, hT, rfl, _, _, rfl, _, _, rfl, _, _, rfl, rfl, ?_⟩
          refine ⟨_, rfl, ?_⟩
          dsimp only [tNil]
          refine name_use ha oa fun b hb' => ⟨_, rfl, ?_⟩
          cases b with
          | false => exact cT (k := !false) rfl (qe H (.refl H))
          | true =>
            obtain ⟨n, rfl, nn⟩ := hb' rfl
            refine cF (k := !true) rfl ⟨_, rfl, vb, tb, _, [1, 2, 3, 4, 5, 6], rfl, hb, ob, S.ownC _, own6, fun H1 b s1 hb2 => ⟨_, rfl, ?_⟩⟩
            cases b with
            | false => exact cT (k := !false) rfl (qe H1 s1)
            | true =>
              refine cF (k := !true) rfl ?_
              obtain ⟨us, rfl, nu, lu, du⟩ := hb2 rfl
              have two := counts6 lu
              refine ⟨_, rfl, vc, tc, rfl, Dp.same s1 hc, rf, fun H2 r ss g s2 eg wf hr2 so => ?_, fun H2 s2 => qe H2 (s1.trans s2)⟩
              subst eg
              obtain ⟨t2, rfl, ht2⟩ := tS_inv (Dp.same (s1.trans s2) hb)
              obtain rfl := Dp.str_inv ha
              refine ⟨r, rfl, ⟨_, SqL.of hr2⟩, for_list (K := K) (a := r) (xs := ss.map V.str) (fun i σ H3 => ∃ y4 : Option V, σ = [some (.ref a), some (.str n), some (.ref t2), some vc, y4] ∧ H3 = H2 ∧ ∀ x, x ∈ ss.take i → x ∈ us) ⟨none, rfl, rfl, fun x hx => by simp at hx⟩ (fun i σ H3 _ ⟨_, _, e, _⟩ => by rw [e]; exact SqL.of hr2) ?_ ?_⟩
              · rintro i y σ H3 hi ⟨y4, rfl, rfl, sub⟩
                obtain ⟨x, hx', rfl⟩ := get_map hi
                refine ⟨_, rfl, _, rfl, t2, _, rfl, .inr ht2, rfl, flatS us, _, rfl, ?_⟩
                by_cases m : x ∈ us
                · refine cF (k := !inV (.str x) (us.map V.str)) (by rw [inV_str, decide_eq_true m]; rfl) ⟨_, rfl, rfl, fun z hz => ?_⟩
                  rw [List.take_add_one, hx'] at hz
                  rcases List.mem_append.mp hz with hz | hz
                  · exact sub z hz
                  · rw [List.mem_singleton.mp hz]; exact m
                · exact cT (k := !inV (.str x) (us.map V.str)) (by rw [inV_str, decide_eq_false m]; rfl) (qe _ (s1.trans s2))
              · rintro σ H3 ⟨y4, rfl, rfl, sub⟩
                rw [List.length_map, List.take_length] at sub
                exact q _ ⟨n, us, g⟩ (s1.trans s2) rfl ⟨nn, ⟨two.1, two.2, nu, du⟩, wf, fun x hx => sub x ((so.mem x).mpr hx)⟩
      · refine ⟨_, rfl, a, _, rfl, .inr hT, rfl, _, rfl, cT (k := !decide (V.int ((xs.length : Nat) : Int) = V.int 3)) (nd_t fun z => l3 (by have := V.int.inj z; omega)) (qe H (.refl H))⟩
end
/-! ### unpacking within a comprehension -/
section
variable {X : Cx} {K : PySem.W.Frag}
theorem op_catAK (h : X.K = K) : OpR X (binaryOp .Add) (rCatA K) := h ▸ op_catA
theorem call_tuple_ofK (h : X.K = K) : CallR X (.type "tuple") (fun xs H Q => ∃ p ys, xs = [.ref p] ∧ ((SqL K H p ys ∧ ∀ l, H l = none → Q (.ref l) (upd H l (.tup ys))) ∨ (SqT K H p ys ∧ Q (.ref p) H))) := h ▸ call_tuple_of
theorem call_list_ofK (h : X.K = K) : CallR X (.type "list") (fun xs H Q => ∃ p ys, xs = [.ref p] ∧ (SqL K H p ys ∨ SqT K H p ys) ∧ ∀ l, H l = none → Q (.ref l) (upd H l (.lst ys))) := h ▸ call_list_of
theorem pg_names2 {i j : Nat} {x y : Str} {p q pos : Pos} {k : Nat} (hK : X.K = K) (hc : X.calm = true) (hN : X.N.Nodup) (hi : X.N[i]? = some x) (hx : Loc X.env.scope x) (hj : X.N[j]? = some y) (hy : Loc X.env.scope y)
    (fx : X.fn x = true ∨ X.env.scope.names.lookup x = some .local := by first | exact .inl rfl | exact .inr rfl) (fy : X.fn y = true ∨ X.env.scope.names.lookup y = some .local := by first | exact .inl rfl | exact .inr rfl) :
    PG X (.Tuple [.Name x p, .Name y q] k pos) (gTup K 2 (gCons (gName i) (gCons (gName j) gNil))) := hK ▸ pg_tup hc (pgs_cons (pg_name hN hi hx fx) (pgs_cons (pg_name hN hj hy fy) pgs_nil))
theorem pg_names3 {i j l : Nat} {x y z : Str} {p q r pos : Pos} {k : Nat} (hK : X.K = K) (hc : X.calm = true) (hN : X.N.Nodup) (hi : X.N[i]? = some x) (hx : Loc X.env.scope x) (hj : X.N[j]? = some y) (hy : Loc X.env.scope y) (hl : X.N[l]? = some z) (hz : Loc X.env.scope z)
    (fx : X.fn x = true ∨ X.env.scope.names.lookup x = some .local := by first | exact .inl rfl | exact .inr rfl) (fy : X.fn y = true ∨ X.env.scope.names.lookup y = some .local := by first | exact .inl rfl | exact .inr rfl) (fz : X.fn z = true ∨ X.env.scope.names.lookup z = some .local := by first | exact .inl rfl | exact .inr rfl) :
    PG X (.Tuple [.Name x p, .Name y q, .Name z r] k pos) (gTup K 3 (gCons (gName i) (gCons (gName j) (gCons (gName l) gNil)))) := hK ▸ pg_tup hc (pgs_cons (pg_name hN hi hx fx) (pgs_cons (pg_name hN hj hy fy) (pgs_cons (pg_name hN hl hz fz) pgs_nil)))
end
/-! ### dict comprehensions over any walk -/
theorem dc_it {J : It} {n : Nat} {G : Hp → Prop} {Y : Nat → Hp → V → Hp → Prop} (wk : Walk J n G Y) {g : TG} {tt : TT} {tk tv : TE}
    {vs : List Nat} {σ : L2.St} {H1 : Hp} {D : Addr} {Qd : Hp → Prop}
    (Pv : Nat → Hp → Prop) (h0 : Pv 0 (upd H1 D (.dK []))) (hG : ∀ i H, i ≤ n → Pv i H → G H)
    (hs : ∀ i x H H', i < n → Pv i H → Y i H x H' → g x (wipe σ vs) H' fun a A => wipe a vs = wipe σ vs ∧ tt a A fun b B =>
      if b = true then tk a B fun y C => tv a C fun z F => ∃ kvs k, y = kV k ∧ F D = some (.dK kvs) ∧ kvs.length < sizeLine ∧ Pv (i + 1) (upd F D (.dK (putK kvs k z)))
      else Pv (i + 1) B)
    (hd : ∀ H, Pv n H → Qd H) :
    ∃ U : Nat → Nat → Hp → Prop, (∃ m, U 0 m (upd H1 D (.dK []))) ∧ ∀ i m H, U i m H → (J.stop i H ∧ Qd H) ∨
      (J.go i H ∧ ∃ Nx : Hp → Prop, (∀ H', Nx H' → ∃ m', m' < m ∧ U (i + 1) m' H') ∧
        ∀ x H', J.yld i H x H' → g x (wipe σ vs) H' fun a A => wipe a vs = wipe σ vs ∧ tt a A fun b B =>
          if b = true then tk a B fun y C => tv a C fun z F => ∃ kvs k, y = kV k ∧ F D = some (.dK kvs) ∧ kvs.length < sizeLine ∧ Nx (upd F D (.dK (putK kvs k z)))
          else Nx B) := by
  refine ⟨fun i m H => m = n - i ∧ i ≤ n ∧ Pv i H, ⟨n, by simp, Nat.zero_le _, h0⟩, ?_⟩
  rintro i m H ⟨rfl, hi, p⟩
  have q := hG i H hi p
  by_cases lt : i < n
  · exact .inr ⟨wk.goes i H lt q, Pv (i + 1), fun H' p' => ⟨n - (i + 1), by omega, rfl, lt, p'⟩, fun x H' y => hs i x H H' lt p (wk.yields i H x H' lt q y)⟩
  · have e : i = n := by omega
    subst e
    exact .inl ⟨wk.stops H q, hd H p⟩
section
variable {P : Program} {w : World} {K : PySem.W.Frag} {mg : Str → Option Value} {base : Heap}
theorem has_cdefY (D : Def K mg "_check_definition" ["definition"] (top 110)) (T : Txt mg) (S : Shp K w mg) (BF : XC K mg "BadFormula") (C1 : Has P w K mg base 1 "is_name" ["text"] (spIsName K)) (C2 : Has P w K mg base 3 "are_different" ["value", "counts"] (spAreDiff K)) (C3 : Has P w K mg base 48 "free" ["formula"] (spFreeL K)) : HasX (L2N.CX P w) P w K mg base 50 "_check_definition" ["definition"] (spDefY K) := D.has fun f fd F => by
  obtain ⟨f1, fd1, G_is_name, g_is_name, k_is_name, b_is_name⟩ := C1
  obtain ⟨f2, fd2, G_are_different, g_are_different, k_are_different, b_are_different⟩ := C2
  obtain ⟨f3, fd3, G_free, g_free, k_free, b_free⟩ := C3
  have c_OWN_COUNTS := S.ownG
  refine F.ok sc_cdef (fun vs H Q E h => ?_) (fun cdv A outer s H vs Q E hr h => ?_)
  · obtain ⟨v, t, rfl, _⟩ := h; rfl
  · obtain ⟨v, dd, rfl, dp, ok, fr, q⟩ := h
    have R_is_name : Room 1 _ := hr.mono (by decide)
    have R_are_different : Room 3 _ := hr.mono (by decide)
    have R_free : Room 48 _ := hr.mono (by decide)
    refine ⟨_, (pss_cons (ps_if (PW.pt (pw_or (pt_not (pt_val (pe_callB call_isi (by rfl) T.n_isinstance (by decide +kernel) (pa_cons (pv 0) (pa_cons (pe_bltn (v := .ty "tuple") (by rfl) T.n_tuple (by decide +kernel) rfl) pa_nil))))) (pw_or1 (pt_cmpR op_ne (pe_callB call_len_seq (by rfl) T.n_len PySem.boot_len (pa_cons (pv 0) pa_nil)) pe_int (nomark _))))) (pss_one (ps_raiseXN BF rfl (L2N.takes_of rfl rfl rfl rfl) rfl)) pss_nil) (pss_cons (ps_asg (pv 0) (pg_tup rfl (pgs_cons (pg_name (i := 1) sc_cdef.nd rfl (Or.inl rfl)) (pgs_cons (pg_name (i := 2) sc_cdef.nd rfl (Or.inl rfl)) (pgs_cons (pg_name (i := 3) sc_cdef.nd rfl (Or.inl rfl)) pgs_nil))))) (pss_cons (ps_if (PW.pt (pw_or (pt_not (pt_val (pe_call G_is_name R_is_name (by rfl) g_is_name k_is_name b_is_name .nil pass0 (pa_cons (pv 1) pa_nil)))) (pw_or1 (pt_not (pt_val (pe_call G_are_different R_are_different (by rfl) g_are_different k_are_different b_are_different .nil pass0 (pa_cons (pv 2) (pa_cons (pe_glob (v := .ref (He.ga K "OWN_COUNTS")) (by rfl) c_OWN_COUNTS rfl) pa_nil)))))))) (pss_one (ps_raiseXN BF rfl (L2N.takes_of rfl rfl rfl rfl) rfl)) pss_nil) (pss_one (ps_for (passes_of rfl) rfl (pi_list (pe_call G_free R_free (by rfl) g_free k_free b_free .nil pass0 (pa_cons (pv 3) pa_nil))) (pg_name (i := 4) sc_cdef.nd rfl (Or.inl rfl)) (pss_one (ps_if (pt_cmpR op_notIn_seq (pv 4) (pv 2) (by rfl)) (pss_one (ps_raiseXN BF rfl (L2N.takes_of rfl rfl rfl rfl) rfl)) pss_nil))))))), ?_⟩
    obtain ⟨n, us, g⟩ := dd
    obtain ⟨nn, ⟨o1, o6, on, od⟩, wf, sb⟩ := ok
    obtain ⟨a, xs, rfl, hT, hx⟩ := Dp.tup_inv dp
    obtain ⟨va, xs1, rfl, ha, hx1⟩ := DpAll.cons_inv hx
    obtain ⟨vb, xs2, rfl, hb, hx2⟩ := DpAll.cons_inv hx1
    obtain ⟨vc, xs3, rfl, hc, hx3⟩ := DpAll.cons_inv hx2
    obtain rfl := DpAll.nil_inv hx3
    obtain rfl := Dp.str_inv ha
    refine ⟨_, rfl, _, _, _, _, _, rfl, .ty _, ty_tup hT, kit_ty (b := "tuple") (r := true) (by decide +kernel), _, rfl, iteF ?_⟩
    refine ⟨_, rfl, a, _, rfl, .inr hT, rfl, _, rfl, cF (k := !decide (V.int (([.str n, vb, vc].length : Nat) : Int) = V.int 3)) (nd_f rfl) ?_⟩
    refine ⟨_, rfl, a, _, rfl, hT, rfl, _, _, rfl, _, _, rfl, _, _, rfl, rfl, ?_⟩
    refine ⟨_, rfl, .inl ⟨n, rfl, nn.short, _, rfl, ?_⟩⟩
    refine cF (k := !isNm n) (by rw [isNm_t nn]; rfl) ?_
    refine ⟨_, rfl, vb, us, _, [1, 2, 3, 4, 5, 6], rfl, hb, S.ownC _, names_short on, Nat.le_trans (show us.length ≤ 6 from o6) (by decide), fun H1 s1 => ⟨_, rfl, ?_⟩⟩
    have m : (us.length : Int) ∈ ([1, 2, 3, 4, 5, 6] : List Int) := by
      have o1 : 1 ≤ us.length := o1
      have o6 : us.length ≤ 6 := o6
      simp only [List.mem_cons, List.not_mem_nil, or_false]; omega
    refine cF (k := !_) (by rw [diff_t on m od]; rfl) ?_
    refine ⟨_, rfl, vc, g, rfl, Dp.same s1 hc, wf, fr, fun H2 r ss s2 hr2 so => ?_⟩
    obtain ⟨t2, rfl, ht2⟩ := tS_inv (Dp.same (s1.trans s2) hb)
    refine ⟨r, rfl, ⟨_, SqL.of hr2⟩, for_list (K := K) (a := r) (xs := ss.map V.str) (fun i σ H3 => ∃ y4 : Option V, σ = [some (.ref a), some (.str n), some (.ref t2), some vc, y4] ∧ H3 = H2) ⟨none, rfl, rfl⟩ (fun i σ H3 _ ⟨_, _, e⟩ => by rw [e]; exact SqL.of hr2) ?_ ?_⟩
    · rintro i y σ H3 hi ⟨y4, rfl, rfl⟩
      obtain ⟨x, hx', rfl⟩ := get_map hi
      have mx : x ∈ us := sb x ((so.mem x).mp (List.mem_of_getElem? hx'))
      refine ⟨_, rfl, _, rfl, t2, _, rfl, .inr ht2, rfl, flatS us, _, rfl, ?_⟩
      exact cF (k := !inV (.str x) (us.map V.str)) (by rw [inV_str, decide_eq_true mx]; rfl) ⟨_, rfl, rfl⟩
    · rintro σ H3 ⟨y4, rfl, rfl⟩
      exact q _ (s1.trans s2)
theorem sc_agr : FnScope ["system", "names", "arities", "_", "body", "name", "arity", "definition", "variables"] ["system"] (defScope (top 111)) := ⟨rfl, rfl, rfl, by decide +kernel, rfl, by decide +kernel, by decide +kernel⟩
theorem dfn_inv {H : Hp} {v : V} {d : Dfn} (h : Dp K H v d.data) : ∃ t v2 v3, v = .ref t ∧ SqT K H t [.str d.nm, v2, v3] ∧ Dp K H v2 (tS d.vs) ∧ Dp K H v3 d.b.data := by
  obtain ⟨a, xs, rfl, hT, hx⟩ := Dp.tup_inv h
  obtain ⟨va, xs1, rfl, ha, hx1⟩ := DpAll.cons_inv hx
  obtain ⟨vb, xs2, rfl, hb, hx2⟩ := DpAll.cons_inv hx1
  obtain ⟨vc, xs3, rfl, hc, hx3⟩ := DpAll.cons_inv hx2
  obtain rfl := DpAll.nil_inv hx3
  obtain rfl := Dp.str_inv ha
  exact ⟨a, vb, vc, rfl, hT, hb, hc⟩
def ar0 (d : Dfn) : Str × Nat := (d.nm, d.vs.length)
theorem ar0_fst (ds : List Dfn) : (ds.map ar0).map (·.1) = ds.map Dfn.nm := by rw [List.map_map]; rfl
/-- all symbols of the bodies -/
def bsyms (ds : List Dfn) : List (Str × Nat) := (ds.map fun d => d.b.syms).flatten
theorem mem_bsyms {ds : List Dfn} {p : Str × Nat} : p ∈ bsyms ds ↔ ∃ d, d ∈ ds ∧ p ∈ d.b.syms := by
  unfold bsyms
  rw [List.mem_flatten]
  constructor
  · rintro ⟨l, hl, hp⟩
    obtain ⟨d, hd, rfl⟩ := List.mem_map.mp hl
    exact ⟨d, hd, hp⟩
  · rintro ⟨d, hd, hp⟩
    exact ⟨_, List.mem_map.mpr ⟨d, hd, rfl⟩, hp⟩
theorem bsyms_take {ds : List Dfn} {i : Nat} {d : Dfn} (h : ds[i]? = some d) : bsyms (ds.take (i + 1)) = bsyms (ds.take i) ++ d.b.syms := by
  unfold bsyms
  rw [List.take_add_one, h, List.map_append, List.flatten_append]
  show _ ++ (d.b.syms ++ []) = _
  rw [List.append_nil]
theorem bsyms_len : ∀ (ds : List Dfn) (n : Nat), ds.length ≤ n → (∀ d, d ∈ ds → d.b.cnt ≤ 2000) → (bsyms ds).length ≤ n * 2000
  | [], n, _, _ => Nat.zero_le _
  | d :: ds, 0, h, _ => absurd h (by simp)
  | d :: ds, n + 1, h, c => by
    have a := bsyms_len ds n (Nat.le_of_succ_le_succ h) fun e he => c e (List.mem_cons_of_mem _ he)
    have b := syms_cnt d.b
    have e := c d (List.mem_cons_self ..)
    show (d.b.syms ++ bsyms ds).length ≤ _
    rw [List.length_append]
    omega
theorem Agr.one {ds : List Dfn} (g : Agr ds) {n : Str} {a b : Nat} (h1 : (n, a) ∈ ds.map ar0 ++ bsyms ds) (h2 : (n, b) ∈ ds.map ar0 ++ bsyms ds) : a = b := by
  obtain ⟨Γ, hΓ⟩ := g.ar
  have look : ∀ p, p ∈ ds.map ar0 ++ bsyms ds → Γ p.1 = some p.2 := fun p hp => by
    rcases List.mem_append.mp hp with hp | hp
    · obtain ⟨d, hd, rfl⟩ := List.mem_map.mp hp
      exact (hΓ d hd).1
    · obtain ⟨d, hd, hp⟩ := mem_bsyms.mp hp
      exact (hΓ d hd).2 p hp
  have e : (some a : Option Nat) = some b := (look (n, a) h1).symm.trans (look (n, b) h2)
  exact Option.some.inj e
theorem agr_of {ds : List Dfn} {l : List (Str × Nat)} (nd : (ds.map Dfn.nm).Nodup) (dl : DictOf l (ds.map ar0 ++ bsyms ds)) (po : ∀ d, d ∈ ds → ∀ e, e ∈ ds → (∃ k, (e.nm, k) ∈ d.b.syms) → d.b.pos e.nm 1 = true) : Agr ds := by
  have look : ∀ p, p ∈ ds.map ar0 ++ bsyms ds → (l.find? fun q => decide (q.1 = p.1)).map (·.2) = some p.2 := fun p hp => by
    have m := (dl.mem p).mpr hp
    have fs : (l.find? fun q => decide (q.1 = p.1)).isSome = true := List.find?_isSome.mpr ⟨p, m, decide_eq_true rfl⟩
    obtain ⟨q, hq⟩ := Option.isSome_iff_exists.mp fs
    have h1 : q.1 = p.1 := of_decide_eq_true (List.find?_some (p := fun q : Str × Nat => decide (q.1 = p.1)) hq)
    have h2 := List.mem_of_find?_eq_some hq
    rw [hq]
    exact congrArg some (nodup_val dl.nd (n := p.1) (by rw [← h1]; exact h2) m)
  refine ⟨nd, ⟨fun n => (l.find? fun q => decide (q.1 = n)).map (·.2), fun d hd => ⟨look (ar0 d) (List.mem_append_left _ (List.mem_map.mpr ⟨d, hd, rfl⟩)), fun p hp => look p (List.mem_append_right _ (mem_bsyms.mpr ⟨d, hd, hp⟩))⟩⟩, fun d hd e he => ?_⟩
  by_cases h : ∃ k, (e.nm, k) ∈ d.b.syms
  · exact po d hd e he h
  · exact pos_nosym d.b e.nm (fun p hp z => h ⟨p.2, by rw [← z]; exact hp⟩) 1
def spAgr (K : PySem.W.Frag) : Sp := fun us H Q E => ∃ (a : Addr) (xs : List V) (ds : List Dfn), us = [.ref a] ∧ SqL K H a xs ∧ DpAll K H xs (ds.map Dfn.data) ∧ ds.length ≤ 24 ∧ (∀ d, d ∈ ds → d.Ok) ∧ (∀ H' : Hp, Same H H' → Agr ds → Q .non H') ∧ (∀ H' : Hp, Same H H' → ¬ Agr ds → E (.ref (He.ga K "BadFormula")) none H')
theorem has_agr (D : Def K mg "_check_agreement" ["system"] (top 111)) (T : Txt mg) (BF : XC K mg "BadFormula") (C1 : ∀ n, Has P w K mg base (2 + n) "arities_in" ["formula"] (spAr K n)) (C2 : ∀ n, Has P w K mg base (2 + n) "is_positive_in" ["formula", "name", "sign"] (spPos K n)) : HasX (L2N.CX P w) P w K mg base 50 "_check_agreement" ["system"] (spAgr K) := D.has fun f fd F => by
  obtain ⟨f1, fd1, G_arities_in, g_arities_in, k_arities_in, b_arities_in⟩ := C1 40
  obtain ⟨f2, fd2, G_is_positive_in, g_is_positive_in, k_is_positive_in, b_is_positive_in⟩ := C2 40
  refine F.ok sc_agr (fun vs H Q E h => ?_) (fun cdv A outer s H vs Q E hr h => ?_)
  · obtain ⟨a, xs, ds, rfl, _⟩ := h; rfl
  · obtain ⟨a, xs, ds, rfl, hS, hx, l24, oks, q, qe⟩ := h
    have R_arities_in : Room (2 + 40) _ := hr.mono (by decide)
    have R_is_positive_in : Room (2 + 40) _ := hr.mono (by decide)
    have lx : xs.length = ds.length := by rw [DpAll.length hx, List.length_map]
    refine ⟨_, (pss_cons (ps_setLc (i := 1) (own := [("definition", 7)]) rfl sc_agr.nd rfl rfl (sw_true rfl rfl rfl (by decide +kernel)) (pi_list (pv 0)) (blkOk_by (N := ["system", "names", "arities", "_", "body", "name", "arity", "definition", "variables"]) (sc := defScope (top 111)) (by decide +kernel)) (fun _ _ _ _ _ => (pg_name (i := 7) sc_agr.nd rfl (Or.inl rfl))) (fun _ _ _ _ _ => pts_nil) (fun _ _ _ _ _ => (pe_ix (ix_tupK (K := K) rfl) (pv 7) pe_int (fun _ _ => rfl)))) (pss_cons (ps_if (pt_cmpR op_ne (pe_callB call_lenSK (by rfl) T.n_len PySem.boot_len (pa_cons (pe_callTy (cr_setK rfl) (by rfl) T.n_set (by decide +kernel) (pa_cons (pv 1) pa_nil)) pa_nil)) (pe_callB call_len_seq (by rfl) T.n_len PySem.boot_len (pa_cons (pv 1) pa_nil)) (nomark _)) (pss_one (ps_raiseXN BF rfl (L2N.takes_of rfl rfl rfl rfl) rfl)) pss_nil) (pss_cons (ps_setDc (i := 2) (own := [("name", 5), ("variables", 8), ("_", 3)]) rfl sc_agr.nd rfl rfl (sw_trueD rfl rfl rfl (by decide +kernel)) (pi_list (pv 0)) (blkOk_by (N := ["system", "names", "arities", "_", "body", "name", "arity", "definition", "variables"]) (sc := defScope (top 111)) (by decide +kernel)) (fun _ _ _ _ _ => (pg_names3 (K := K) rfl rfl sc_agr.nd (i := 5) rfl (Or.inl rfl) (j := 8) rfl (Or.inl rfl) (l := 3) rfl (Or.inl rfl))) (fun _ _ _ _ _ => pts_nil) (fun _ _ _ _ _ => (pv 5)) (fun _ _ _ _ _ => (pe_callB (call_len_seqK (K := K) rfl) (by rfl) T.n_len PySem.boot_len (pa_cons (pv 8) pa_nil)))) (pss_one (ps_for (passes_of rfl) rfl (pi_list (pv 0)) (pg_tup rfl (pgs_cons (pg_name (i := 3) sc_agr.nd rfl (Or.inl rfl)) (pgs_cons (pg_name (i := 3) sc_agr.nd rfl (Or.inl rfl)) (pgs_cons (pg_name (i := 4) sc_agr.nd rfl (Or.inl rfl)) pgs_nil)))) (pss_one (ps_for (passes_of rfl) rfl (pi_items (pe_frz (pe_call G_arities_in R_arities_in (by rfl) g_arities_in k_arities_in b_arities_in .nil pass0 (pa_cons (pv 4) pa_nil)))) (pg_tup rfl (pgs_cons (pg_name (i := 5) sc_agr.nd rfl (Or.inl rfl)) (pgs_cons (pg_name (i := 6) sc_agr.nd rfl (Or.inl rfl)) pgs_nil))) (pss_cons (ps_if (pt_cmpR op_ne (pe_dsetd (pv 2) (pv 5) (pv 6) ⟨rfl, rfl, rfl, rfl⟩) (pv 6) (nomark _)) (pss_one (ps_raiseXN BF rfl (L2N.takes_of rfl rfl rfl rfl) rfl)) pss_nil) (pss_one (ps_if (PW.pt (pw_and (pt_cmpR op_in_seq (pv 5) (pv 1) (by rfl)) (pw_and1 (pt_not (pt_val (pe_call G_is_positive_in R_is_positive_in (by rfl) g_is_positive_in k_is_positive_in b_is_positive_in .nil pass0 (pa_cons (pv 4) (pa_cons (pv 5) (pa_cons pe_int pa_nil))))))))) (pss_one (ps_raiseXN BF rfl (L2N.takes_of rfl rfl rfl rfl) rfl)) pss_nil)))))))))), ?_⟩
    -- the names
    refine ⟨_, rfl, a, rfl, ⟨_, hS⟩, fun L nL => ?_⟩
    refine lc_it (walk_list (K := K) (a := a) (xs := xs)) (fun i H2 => H2 L = some (.lst (((ds.take i).map Dfn.nm).map V.str)) ∧ Same H H2) ⟨upd_same, same_upd nL⟩ (fun i H2 _ ⟨_, s2⟩ => s2.seq hS) ?_ ?_
    · rintro i y H2 H3 hi ⟨hL, s2⟩ ⟨rfl, hy⟩
      obtain ⟨dd, hdd, dpy⟩ := DpAll.get' hx hy
      obtain ⟨g, hg, rfl⟩ := get_map hdd
      obtain ⟨t, v2, v3, rfl, ht, _, _⟩ := dfn_inv (Dp.same s2 dpy)
      refine ⟨rfl, _, rfl, t, _, _, _, rfl, rfl, ht, atI_nat (j := 0) rfl, _, hL, ?_, ?_, ?_⟩
      · rw [List.length_map, List.length_map]
        have := List.length_take_le' i ds
        exact small1000 (by omega)
      · rw [upd_same, List.take_add_one, hg, List.map_append, List.map_append]; rfl
      · intro b o eb
        rw [upd_ne (ne_of_none eb nL)]
        exact s2 _ _ eb
    rintro H2 ⟨hL, s2⟩
    rw [lx, List.take_length] at hL
    have hS2 := s2.seq hS
    -- they differ
    refine ⟨_, rfl, L, (ds.map Dfn.nm).map Sum.inr, rfl, .inl (by rw [strs_kV]; exact SqL.of hL), (by rw [List.length_map, List.length_map]; omega), fun p c2 np hc2 => ?_⟩
    have s3 := s2.trans (same_upd (o := SetK P w p (memK ((ds.map Dfn.nm).map Sum.inr)) c2) np)
    have npL : p ≠ L := fun z => by rw [z, hL] at np; cases np
    refine ⟨p, _, _, rfl, upd_same, _, rfl, L, _, rfl, .inl (SqL.of ((upd_ne npL.symm).trans hL)), rfl, _, rfl, ?_⟩
    have same_ : c2 = ((ds.map Dfn.nm).map V.str).length ↔ (ds.map Dfn.nm).Nodup := by
      have z := hc2.all
      rw [nodup_inr, List.length_map] at z
      rw [List.length_map]
      exact z
    by_cases nd : (ds.map Dfn.nm).Nodup
    case neg =>
      exact cT (k := !decide (V.int (c2 : Nat) = V.int (((ds.map Dfn.nm).map V.str).length : Nat))) (nd_t fun h => nd (same_.mp (by have := V.int.inj h; omega))) (qe _ s3 fun g => nd g.nd)
    refine cF (k := !decide (V.int (c2 : Nat) = V.int (((ds.map Dfn.nm).map V.str).length : Nat))) (nd_f (by rw [same_.mpr nd])) ?_
    have hL3 : (upd H2 p (SetK P w p (memK ((ds.map Dfn.nm).map Sum.inr)) c2)) L = some (.lst ((ds.map Dfn.nm).map V.str)) := by rw [upd_ne npL.symm]; exact hL
    -- how many variables each has
    refine ⟨_, rfl, a, rfl, ⟨_, s3.seq hS⟩, fun m nm => ?_⟩
    have nmL : m ≠ L := fun z => by subst z; exact nomatch (nm.symm.trans hL3)
    have nmH : ∀ b o, H b = some o → b ≠ m := fun b o e => ne_of_none (s3 _ _ e) nm
    refine dc_it (walk_list (K := K) (a := a) (xs := xs)) (fun i H4 => Same H H4 ∧ H4 L = some (.lst ((ds.map Dfn.nm).map V.str)) ∧ H4 m = some (.dK (((ds.take i).map ar0).map enc))) ⟨s3.trans (same_upd nm), by rw [upd_ne nmL.symm]; exact hL3, upd_same⟩ (fun i H4 _ ⟨s4, _⟩ => s4.seq hS) ?_ ?_
    · rintro i y H4 H5 hi ⟨s4, hL4, hm⟩ ⟨rfl, hy⟩
      obtain ⟨dd, hdd, dpy⟩ := DpAll.get' hx hy
      obtain ⟨g, hg, rfl⟩ := get_map hdd
      obtain ⟨t, v2, v3, rfl, ht, h2, h3⟩ := dfn_inv (Dp.same s4 dpy)
      obtain ⟨t2, rfl, ht2⟩ := tS_inv h2
      refine ⟨t, _, rfl, ht, rfl, _, _, rfl, _, _, rfl, _, _, rfl, rfl, ?_⟩
      rw [lx] at hi
      have fresh : ¬ g.nm ∈ ((ds.take i).map ar0).map (·.1) := by
        rw [ar0_fst]
        intro m1
        obtain ⟨d2, hd2, e2⟩ := List.mem_map.mp m1
        obtain ⟨j, hj, ej⟩ := List.mem_take_iff_getElem.mp hd2
        have hj2 : j < i := by omega
        have e3 : (ds.map Dfn.nm)[j]? = (ds.map Dfn.nm)[i]? := by
          rw [List.getElem?_map, List.getElem?_map, hg, List.getElem?_eq_getElem (by omega), ej]
          exact congrArg some e2
        have := (List.getElem?_inj (by rw [List.length_map]; omega) nd).mp e3
        omega
      have nv := val_enc_none.mpr fresh
      refine ⟨rfl, _, rfl, _, rfl, t2, _, rfl, .inr ht2, _, Sum.inr g.nm, rfl, hm, ?_, ?_, ?_, ?_⟩
      · rw [List.length_map, List.length_map]
        have := List.length_take_le' i ds
        exact small1000 (by omega)
      · intro b o eb
        rw [upd_ne (nmH b o eb)]
        exact s4 _ _ eb
      · rw [upd_ne nmL.symm]; exact hL4
      · rw [upd_same, putK_new _ nv, List.take_add_one, hg, List.map_append, List.map_append, List.length_map]
        rfl
    · rintro H4 ⟨s4, hL4, hm⟩
      rw [lx, List.take_length] at hm
      have base_nd : ((ds.map ar0).map (·.1)).Nodup := by rw [ar0_fst]; exact nd
      refine ⟨_, rfl, a, rfl, ⟨_, s4.seq hS⟩, for_list (K := K) (a := a) (xs := xs) (fun i σ H5 => ∃ (y3 y4 y5 y6 : Option V) (l : List (Str × Nat)), σ = [some (.ref a), some (.ref L), some (.ref m), y3, y4, y5, y6, none, none] ∧ Same H H5 ∧ H5 L = some (.lst ((ds.map Dfn.nm).map V.str)) ∧ H5 m = some (.dK (l.map enc)) ∧ DictOf l (ds.map ar0 ++ bsyms (ds.take i)) ∧ ∀ d, d ∈ ds.take i → ∀ e, e ∈ ds → (∃ k, (e.nm, k) ∈ d.b.syms) → d.b.pos e.nm 1 = true)
        ⟨none, none, none, none, _, rfl, s4, hL4, hm, ⟨base_nd, fun p => by rw [List.take_zero]; show _ ↔ p ∈ ds.map ar0 ++ []; rw [List.append_nil]⟩, fun d hd => by simp at hd⟩ (fun i σ H5 _ ⟨_, _, _, _, _, _, s5, _⟩ => s5.seq hS) ?_ ?_⟩
      · rintro i y σ H5 hi ⟨y3, y4, y5, y6, l, rfl, s5, hL5, hm5, dl, po⟩
        obtain ⟨dd, hdd, dpy⟩ := DpAll.get' hx hi
        obtain ⟨g, hg, rfl⟩ := get_map hdd
        have gm := List.mem_of_getElem? hg
        obtain ⟨t, v2, v3, rfl, ht0, h20, h30⟩ := dfn_inv dpy
        have ht := Same.sqt (K := K) s5 ht0
        have h2 := Dp.same s5 h20
        have h3 := Dp.same s5 h30
        have ok := oks g gm
        obtain ⟨Γ, ty⟩ := ok.wf.ty
        refine ⟨t, _, rfl, ht, rfl, _, _, rfl, _, _, rfl, _, _, rfl, rfl, ?_⟩
        refine ⟨_, rfl, v3, g.b, Γ, rfl, h3, ok.wf.ok, ty, ok.wf.dep, ok.wf.cnt, fun H6 e l2 s6 ne he d2 => ?_⟩
        refine ⟨e, .dK (l2.map enc), he, trivial, fun od => ⟨e, od, _, rfl, upd_same, ?_⟩⟩
        have neL : e ≠ L := fun z => by rw [z, hL5] at ne; cases ne
        have nem : e ≠ m := fun z => by rw [z, hm5] at ne; cases ne
        have s06 : Same H (upd H6 e (.frz od (.dK (l2.map enc)))) := fun b o eb => by
          rw [upd_ne (ne_of_none (s5 _ _ eb) ne)]
          exact s6 _ _ (s5 _ _ eb)
        have l2len : l2.length ≤ 2000 := by
          have := d2.len
          have := syms_cnt g.b
          have := ok.wf.cnt
          omega
        refine for_it walk_items (fun j σ H7 => ∃ (y5 y6 : Option V) (l' : List (Str × Nat)), σ = [some (.ref a), some (.ref L), some (.ref m), some v2, some v3, y5, y6, none, none] ∧ Same H H7 ∧ H7 L = some (.lst ((ds.map Dfn.nm).map V.str)) ∧ H7 m = some (.dK (l'.map enc)) ∧ H7 e = some (.frz od (.dK (l2.map enc))) ∧ DictOf l' (ds.map ar0 ++ (bsyms (ds.take i) ++ l2.take j)) ∧ ∀ p, p ∈ l2.take j → ∀ c, c ∈ ds → c.nm = p.1 → g.b.pos c.nm 1 = true)
          ⟨y5, y6, l, rfl, s06, by rw [upd_ne neL.symm]; exact s6 _ _ hL5, by rw [upd_ne nem.symm]; exact s6 _ _ hm5, upd_same, by rw [List.take_zero, List.append_nil]; exact dl, fun p hp => by simp at hp⟩ (fun j σ H7 _ ⟨_, _, _, _, _, _, _, z, _⟩ => z) ?_ ?_
        · rintro j y σ H7 H8 hj ⟨y5, y6, l', rfl, s7, hL7, hm7, he7, dl', po'⟩ ⟨U, x1, x2, rfl, nU, rfl, ex1, ex2⟩
          rw [List.length_map] at hj
          obtain ⟨p, hp⟩ : ∃ p, l2[j]? = some p := ⟨_, List.getElem?_eq_getElem hj⟩
          have ex1 : Option.map (fun kv => kV kv.1) ((l2.map enc)[j]?) = some x1 := ex1
          have ex2 : Option.map (fun kv => kv.2) ((l2.map enc)[j]?) = some x2 := ex2
          rw [List.getElem?_map, hp] at ex1 ex2
          obtain rfl := Option.some.inj ex1
          obtain rfl := Option.some.inj ex2
          have pm := List.mem_of_getElem? hp
          have ps := (d2.mem p).mp pm
          have pall : ∀ k, (p.1, k) ∈ l' → (p.1, k) ∈ ds.map ar0 ++ bsyms ds := fun k hk => by
            rcases List.mem_append.mp ((dl'.mem _).mp hk) with h1 | h1
            · exact List.mem_append_left _ h1
            · refine List.mem_append_right _ ?_
              rcases List.mem_append.mp h1 with h1 | h1
              · obtain ⟨d, hd, h1⟩ := mem_bsyms.mp h1
                exact mem_bsyms.mpr ⟨d, List.mem_of_mem_take hd, h1⟩
              · exact mem_bsyms.mpr ⟨g, gm, (d2.mem _).mp (List.mem_of_mem_take h1)⟩
          have pthis : (p.1, p.2) ∈ ds.map ar0 ++ bsyms ds := List.mem_append_right _ (mem_bsyms.mpr ⟨g, gm, ps⟩)
          have sU := same_upd (o := .tup [kV (enc p).1, (enc p).2]) nU
          have nUL : U ≠ L := fun z => by rw [z, hL7] at nU; cases nU
          have nUm : U ≠ m := fun z => by rw [z, hm7] at nU; cases nU
          have nUe : U ≠ e := fun z => by rw [z, he7] at nU; cases nU
          have s8 := s7.trans sU
          have hL8 := sU _ _ hL7
          have hm8 := sU _ _ hm7
          have he8 := sU _ _ he7
          have nHm : ∀ b o, H b = some o → b ≠ m := nmH
          have tk : l2.take (j + 1) = l2.take j ++ [p] := by rw [List.take_add_one, hp]; rfl
          have lens : l'.length < sizeLine := by
            have e1 := dl'.len
            rw [List.length_append, List.length_append, List.length_map] at e1
            have e2 : (bsyms (ds.take i)).length ≤ 24 * 2000 := bsyms_len (ds.take i) 24 (Nat.le_trans (List.length_take_le' i ds) l24) fun d hd => (oks d (List.mem_of_mem_take hd)).wf.cnt
            have e4 := List.length_take_le' j l2
            exact Nat.lt_of_le_of_lt (show l'.length ≤ 60000 by omega) (by decide)
          refine ⟨U, _, rfl, SqT.of upd_same, rfl, _, _, rfl, _, _, rfl, rfl, ?_⟩
          -- the rest of a turn, once the dict is as it is to be
          have turn : ∀ (H9 : Hp) (l3 : List (Str × Nat)), Same H H9 → H9 L = some (.lst ((ds.map Dfn.nm).map V.str)) → H9 m = some (.dK (l3.map enc)) → H9 e = some (.frz od (.dK (l2.map enc))) → DictOf l3 (ds.map ar0 ++ (bsyms (ds.take i) ++ l2.take (j + 1))) → g.b.pos p.1 1 = true ∨ (∀ c, c ∈ ds → c.nm ≠ p.1) → ∃ (y5 y6 : Option V) (l' : List (Str × Nat)), ([some (.ref a), some (.ref L), some (.ref m), some v2, some v3, some (.str p.1), some (.int (p.2 : Nat)), none, none] : L2.St) = [some (.ref a), some (.ref L), some (.ref m), some v2, some v3, y5, y6, none, none] ∧ Same H H9 ∧ H9 L = some (.lst ((ds.map Dfn.nm).map V.str)) ∧ H9 m = some (.dK (l'.map enc)) ∧ H9 e = some (.frz od (.dK (l2.map enc))) ∧ DictOf l' (ds.map ar0 ++ (bsyms (ds.take i) ++ l2.take (j + 1))) ∧ ∀ p, p ∈ l2.take (j + 1) → ∀ c, c ∈ ds → c.nm = p.1 → g.b.pos c.nm 1 = true := fun H9 l3 a1 a2 a3 a4 a5 a6 =>
            ⟨_, _, l3, rfl, a1, a2, a3, a4, a5, fun p2 hp2 c hc ec => by
              rw [tk] at hp2
              rcases List.mem_append.mp hp2 with hp2 | hp2
              · exact po' p2 hp2 c hc ec
              · rw [List.mem_singleton.mp hp2] at ec
                rcases a6 with a6 | a6
                · rw [ec]; exact a6
                · exact absurd ec (a6 c hc)⟩
          refine ⟨_, rfl, m, rfl, .inl ⟨_, Rd.of hm8⟩, _, rfl, _, rfl, _, Sum.inr p.1, hm8, rfl, by rw [List.length_map]; exact lens, fun v hv => ?_, fun hv => ?_⟩
          · obtain ⟨a2, ha2, rfl⟩ := val_enc hv
            refine ⟨_, rfl, rfl, _, rfl, ?_⟩
            by_cases e22 : a2 = p.2
            case neg => exact cT (k := !decide (V.int (a2 : Nat) = V.int (p.2 : Nat))) (nd_t fun z => e22 (by have := V.int.inj z; omega)) (qe _ s8 fun ag => e22 (ag.one (pall _ ha2) pthis))
            refine cF (k := !decide (V.int (a2 : Nat) = V.int (p.2 : Nat))) (by rw [e22, decide_eq_true rfl]; rfl) ?_
            have hl3 : DictOf l' (ds.map ar0 ++ (bsyms (ds.take i) ++ l2.take (j + 1))) := by
              rw [tk, ← List.append_assoc, ← List.append_assoc]
              have dk := DictOf.keep (p := p) dl' (by have z := ha2; rw [e22] at z; exact z)
              rw [← List.append_assoc] at dk
              exact dk
            have t9 := s8
            have hL9 := hL8
            have hm9 := hm8
            have he9 := he8
            refine ⟨_, rfl, _, rfl, L, _, rfl, .inl (SqL.of (hL9)), rfl, flatS _, _, rfl, ?_⟩
            by_cases mn : p.1 ∈ ds.map Dfn.nm
            case neg =>
              exact cF (k := inV (.str p.1) ((ds.map Dfn.nm).map V.str)) (by rw [inV_str, decide_eq_false mn]) (turn _ (l') (t9) (hL9) hm9 (he9) hl3 (.inr fun c hc ec => mn (List.mem_map.mpr ⟨c, hc, ec⟩)))
            refine cT (k := inV (.str p.1) ((ds.map Dfn.nm).map V.str)) (by rw [inV_str, decide_eq_true mn]) ?_
            refine ⟨_, rfl, _, rfl, v3, p.1, 1, g.b, rfl, Dp.same t9 h30, ok.wf.ok, ok.wf.dep, fun H10 s10 => ⟨_, rfl, ?_⟩⟩
            by_cases hp2 : g.b.pos p.1 1 = true
            case neg =>
              exact cT (k := !g.b.pos p.1 1) (by rw [Bool.not_eq_true _ |>.mp hp2]; rfl) (qe _ (t9.trans s10) fun ag => by
                obtain ⟨c, hc, ec⟩ := List.mem_map.mp mn
                rw [← ec] at hp2
                exact hp2 (ag.po g gm c hc))
            exact cF (k := !g.b.pos p.1 1) (by rw [hp2]; rfl) (turn _ (l') (t9.trans s10) (s10 _ _ (hL9)) (s10 _ _ hm9) (s10 _ _ (he9)) hl3 (.inl hp2))
          · have _t := trivial
            have fresh : ¬ p.1 ∈ l'.map (·.1) := val_enc_none.mp hv
            have hl3 : DictOf (l' ++ [p]) (ds.map ar0 ++ (bsyms (ds.take i) ++ l2.take (j + 1))) := by
              rw [tk, ← List.append_assoc, ← List.append_assoc]
              have dk := DictOf.add (a := p.2) dl' fresh
              rw [← List.append_assoc] at dk
              exact dk
            have nLm : L ≠ m := fun z => by subst z; cases (hL8.symm.trans hm8)
            have nem' : e ≠ m := nem
            have t9 : ∀ o : HO, Same H (upd (upd H7 U (.tup [kV (enc p).1, (enc p).2])) m o) := fun o b o2 eb => by
              rw [upd_ne (nHm b o2 eb)]
              exact s8 _ _ eb
            have hL9 : ∀ o : HO, (upd (upd H7 U (.tup [kV (enc p).1, (enc p).2])) m o) L = _ := fun o => (upd_ne nLm).trans hL8
            have he9 : ∀ o : HO, (upd (upd H7 U (.tup [kV (enc p).1, (enc p).2])) m o) e = _ := fun o => (upd_ne nem').trans he8
            have hm9 : (upd (upd H7 U (.tup [kV (enc p).1, (enc p).2])) m (.dK (putK (l'.map enc) (Sum.inr p.1) (enc p).2))) m = some (.dK ((l' ++ [p]).map enc)) := by
              rw [upd_same, putK_new _ hv, List.map_append]; rfl
            refine ⟨_, rfl, rfl, _, rfl, cF (k := !decide (V.int (p.2 : Nat) = V.int (p.2 : Nat))) (nd_f rfl) ?_⟩
            refine ⟨_, rfl, _, rfl, L, _, rfl, .inl (SqL.of (hL9 _)), rfl, flatS _, _, rfl, ?_⟩
            by_cases mn : p.1 ∈ ds.map Dfn.nm
            case neg =>
              exact cF (k := inV (.str p.1) ((ds.map Dfn.nm).map V.str)) (by rw [inV_str, decide_eq_false mn]) (turn _ (l' ++ [p]) (t9 _) (hL9 _) hm9 (he9 _) hl3 (.inr fun c hc ec => mn (List.mem_map.mpr ⟨c, hc, ec⟩)))
            refine cT (k := inV (.str p.1) ((ds.map Dfn.nm).map V.str)) (by rw [inV_str, decide_eq_true mn]) ?_
            refine ⟨_, rfl, _, rfl, v3, p.1, 1, g.b, rfl, Dp.same (t9 _) h30, ok.wf.ok, ok.wf.dep, fun H10 s10 => ⟨_, rfl, ?_⟩⟩
            by_cases hp2 : g.b.pos p.1 1 = true
            case neg =>
              exact cT (k := !g.b.pos p.1 1) (by rw [Bool.not_eq_true _ |>.mp hp2]; rfl) (qe _ ((t9 _).trans s10) fun ag => by
                obtain ⟨c, hc, ec⟩ := List.mem_map.mp mn
                rw [← ec] at hp2
                exact hp2 (ag.po g gm c hc))
            exact cF (k := !g.b.pos p.1 1) (by rw [hp2]; rfl) (turn _ (l' ++ [p]) ((t9 _).trans s10) (s10 _ _ (hL9 _)) (s10 _ _ hm9) (s10 _ _ (he9 _)) hl3 (.inl hp2))
        · rintro σ H7 ⟨y5, y6, l', rfl, s7, hL7, hm7, he7, dl', po'⟩
          have tl : l2.take (l2.map enc).length = l2 := List.take_of_length_le (by rw [List.length_map]; exact Nat.le_refl _)
          rw [tl] at dl' po'
          refine ⟨_, _, _, _, l', rfl, s7, hL7, hm7, dl'.as fun p => ?_, fun d hd c hc hk => ?_⟩
          · rw [bsyms_take hg]
            simp only [List.mem_append, d2.mem]
          · rw [List.take_add_one, hg] at hd
            rcases List.mem_append.mp hd with hd | hd
            · exact po d hd c hc hk
            · have : d = g := by simpa using hd
              subst this
              obtain ⟨k, hk⟩ := hk
              exact po' _ ((d2.mem _).mpr hk) c hc rfl
      · rintro σ H5 ⟨y3, y4, y5, y6, l, rfl, s5, hL5, hm5, dl, po⟩
        rw [lx, List.take_length] at dl po
        exact q _ s5 (agr_of nd dl po)
end
/-! ### check_system -/
/-- data that may be handed in as a system -/
structure RawS (t : PyData) : Prop where
  o : Ord t
  l : ∀ ts, t = .list ts → ∀ x, x ∈ ts → RawD x
def spSysY (K : PySem.W.Frag) : Sp := fun us H Q _ => ∃ (a : Addr) (xs : List V) (ds : List Dfn), us = [.ref a] ∧ SqL K H a xs ∧ DpAll K H xs (ds.map Dfn.data) ∧ SysOk ds ∧ (∀ d, d ∈ ds → Fr20 d.b) ∧ ∀ H' : Hp, Same H H' → Q .non H'
def spSysR (K : PySem.W.Frag) : Sp := fun us H Q E => ∃ (v : V) (t : PyData), us = [v] ∧ Dp K H v t ∧ RawS t ∧ (∀ (H' : Hp) (ds : List Dfn), Same H H' → t = sysD ds → SysOk ds → Q .non H') ∧ ∀ H' : Hp, Same H H' → E (.ref (He.ga K "BadFormula")) none H'
section
variable {K : PySem.W.Frag}
theorem ty_lst {H : Hp} {a : Addr} {xs : List V} (h : SqL K H a xs) : TyX K H (.ref a) (.type "list") := by
  rcases h with (h | ⟨o, h⟩) | ⟨o, its, n, hk, hc, _⟩
  · exact .base (.lst h)
  · exact .base (.frz h)
  · exact .kList hk hc
end
theorem sc_csys : FnScope ["system", "definition"] ["system"] (defScope (top 112)) := ⟨rfl, rfl, rfl, by decide +kernel, rfl, by decide +kernel, by decide +kernel⟩
section
variable {P : Program} {w : World} {K : PySem.W.Frag} {mg : Str → Option Value} {base : Heap}
theorem has_csysY (D : Def K mg "check_system" ["system"] (top 112)) (T : Txt mg) (BF : XC K mg "BadFormula") (k1 : ∃ t, mg "MOST_DEFINITIONS" = some (.int 24 t)) (C1 : HasX (L2N.CX P w) P w K mg base 50 "_check_definition" ["definition"] (spDefY K)) (C2 : HasX (L2N.CX P w) P w K mg base 50 "_check_agreement" ["system"] (spAgr K)) : HasX (L2N.CX P w) P w K mg base 51 "check_system" ["system"] (spSysY K) := D.has fun f fd F => by
  obtain ⟨f1, fd1, G_check_definition, g_check_definition, k_check_definition, b_check_definition⟩ := C1
  obtain ⟨f2, fd2, G_check_agreement, g_check_agreement, k_check_agreement, b_check_agreement⟩ := C2
  obtain ⟨t1, c_MOST_DEFINITIONS⟩ := k1
  refine F.ok sc_csys (fun vs H Q E h => ?_) (fun cdv A outer s H vs Q E hr h => ?_)
  · obtain ⟨a, xs, ds, rfl, _⟩ := h; rfl
  · obtain ⟨a, xs, ds, rfl, hS, hx, ok, fr, q⟩ := h
    have R_check_definition : Room 50 _ := hr
    have R_check_agreement : Room 50 _ := hr
    have lx : xs.length = ds.length := by rw [DpAll.length hx, List.length_map]
    refine ⟨_, (pss_cons (ps_if (PW.pt (pw_or (pt_not (pt_val (pe_callB call_isi (by rfl) T.n_isinstance (by decide +kernel) (pa_cons (pv 0) (pa_cons (pe_bltn (v := .ty "list") (by rfl) T.n_list (by decide +kernel) rfl) pa_nil))))) (pw_or1 (pt_not (pt_chain op_le op_le pe_int (pe_callB call_len_seq (by rfl) T.n_len PySem.boot_len (pa_cons (pv 0) pa_nil)) (pe_glob (v := .int 24) (by rfl) c_MOST_DEFINITIONS ⟨_, rfl⟩)))))) (pss_one (ps_raiseXN BF rfl (L2N.takes_of rfl rfl rfl rfl) rfl)) pss_nil) (pss_cons (ps_for (passes_of rfl) rfl (pi_list (pv 0)) (pg_name (i := 1) sc_csys.nd rfl (Or.inl rfl)) (pss_one (ps_expr (pe_call G_check_definition R_check_definition (by rfl) g_check_definition k_check_definition b_check_definition .nil (L2N.passes_call (L2N.takes_of rfl rfl rfl rfl) (fun _ _ _ _ h => h)) (pa_cons (pv 1) pa_nil))))) (pss_one (ps_expr (pe_call G_check_agreement R_check_agreement (by rfl) g_check_agreement k_check_agreement b_check_agreement .nil (L2N.passes_call (L2N.takes_of rfl rfl rfl rfl) (fun _ _ _ _ h => h)) (pa_cons (pv 0) pa_nil)))))), ?_⟩
    have lo := ok.lo
    have hi := ok.hi
    refine ⟨_, rfl, _, _, _, _, _, rfl, .ty _, ty_lst hS, kit_ty (b := "list") (r := true) (by decide +kernel), _, rfl, iteF ?_⟩
    refine ⟨_, rfl, a, _, rfl, .inl hS, _, _, rfl, rfl, _, rfl, ite2 (fun e => ?_) (fun e => absurd (decide_eq_true (show ((1 : Nat) : Int) ≤ (xs.length : Int) by omega)) e)⟩
    refine ⟨_, _, rfl, rfl, _, rfl, ?_⟩
    refine cF (nd_f (show (xs.length : Int) ≤ 24 by omega)) ?_
    refine ⟨_, rfl, a, rfl, ⟨_, hS⟩, for_list (K := K) (a := a) (xs := xs) (fun i σ H2 => ∃ y1 : Option V, σ = [some (.ref a), y1] ∧ Same H H2) ⟨none, rfl, .refl H⟩ (fun i σ H2 _ ⟨_, _, s2⟩ => s2.seq hS) ?_ ?_⟩
    · rintro i y σ H2 hi ⟨y1, rfl, s2⟩
      obtain ⟨dd, hdd, dpy⟩ := DpAll.get' hx hi
      obtain ⟨g, hg, rfl⟩ := get_map hdd
      have gm := List.mem_of_getElem? hg
      exact ⟨_, rfl, y, g, rfl, Dp.same s2 dpy, ok.ok g gm, fr g gm, fun H3 s3 => ⟨_, rfl, s2.trans s3⟩⟩
    · rintro σ H2 ⟨y1, rfl, s2⟩
      exact ⟨_, rfl, a, xs, ds, rfl, s2.seq hS, DpAll.same s2 hx, ok.hi, ok.ok, fun H3 s3 _ => q _ (s2.trans s3), fun H3 s3 no => absurd ok.ag no⟩
theorem has_csysR (D : Def K mg "check_system" ["system"] (top 112)) (T : Txt mg) (BF : XC K mg "BadFormula") (k1 : ∃ t, mg "MOST_DEFINITIONS" = some (.int 24 t)) (C1 : HasX (L2N.CX P w) P w K mg base 50 "_check_definition" ["definition"] (spDefR K)) (C2 : HasX (L2N.CX P w) P w K mg base 50 "_check_agreement" ["system"] (spAgr K)) : HasX (L2N.CX P w) P w K mg base 51 "check_system" ["system"] (spSysR K) := D.has fun f fd F => by
  obtain ⟨f1, fd1, G_check_definition, g_check_definition, k_check_definition, b_check_definition⟩ := C1
  obtain ⟨f2, fd2, G_check_agreement, g_check_agreement, k_check_agreement, b_check_agreement⟩ := C2
  obtain ⟨t1, c_MOST_DEFINITIONS⟩ := k1
  refine F.ok sc_csys (fun vs H Q E h => ?_) (fun cdv A outer s H vs Q E hr h => ?_)
  · obtain ⟨v, t, rfl, _⟩ := h; rfl
  · obtain ⟨v, t, rfl, dp, rs, q, qe⟩ := h
    have R_check_definition : Room 50 _ := hr
    have R_check_agreement : Room 50 _ := hr
    refine ⟨_, (pss_cons (ps_if (PW.pt (pw_or (pt_not (pt_val (pe_callB call_isi (by rfl) T.n_isinstance (by decide +kernel) (pa_cons (pv 0) (pa_cons (pe_bltn (v := .ty "list") (by rfl) T.n_list (by decide +kernel) rfl) pa_nil))))) (pw_or1 (pt_not (pt_chain op_le op_le pe_int (pe_callB call_len_seq (by rfl) T.n_len PySem.boot_len (pa_cons (pv 0) pa_nil)) (pe_glob (v := .int 24) (by rfl) c_MOST_DEFINITIONS ⟨_, rfl⟩)))))) (pss_one (ps_raiseXN BF rfl (L2N.takes_of rfl rfl rfl rfl) rfl)) pss_nil) (pss_cons (ps_for (passes_of rfl) rfl (pi_list (pv 0)) (pg_name (i := 1) sc_csys.nd rfl (Or.inl rfl)) (pss_one (ps_expr (pe_call G_check_definition R_check_definition (by rfl) g_check_definition k_check_definition b_check_definition .nil (L2N.passes_call (L2N.takes_of rfl rfl rfl rfl) (fun _ _ _ _ h => h)) (pa_cons (pv 1) pa_nil))))) (pss_one (ps_expr (pe_call G_check_agreement R_check_agreement (by rfl) g_check_agreement k_check_agreement b_check_agreement .nil (L2N.passes_call (L2N.takes_of rfl rfl rfl rfl) (fun _ _ _ _ h => h)) (pa_cons (pv 0) pa_nil)))))), ?_⟩
    cases rs.o with
    | non => exact ⟨_, rfl, _, _, _, _, _, rfl, .ty _, dp_ty dp, kit_ty (b := "list") (r := false) (by decide +kernel), _, rfl, iteT (qe H (.refl H))⟩
    | bl b => exact ⟨_, rfl, _, _, _, _, _, rfl, .ty _, dp_ty dp, kit_ty (a := "bool") (b := "list") (r := false) (by decide +kernel), _, rfl, iteT (qe H (.refl H))⟩
    | int b => exact ⟨_, rfl, _, _, _, _, _, rfl, .ty _, dp_ty dp, kit_ty (a := "int") (b := "list") (r := false) (by decide +kernel), _, rfl, iteT (qe H (.refl H))⟩
    | str b => exact ⟨_, rfl, _, _, _, _, _, rfl, .ty _, dp_ty dp, kit_ty (a := "str") (b := "list") (r := false) (by decide +kernel), _, rfl, iteT (qe H (.refl H))⟩
    | tup _ _ => exact ⟨_, rfl, _, _, _, _, _, rfl, .ty _, dp_ty dp, kit_ty (a := "tuple") (b := "list") (r := false) (by decide +kernel), _, rfl, iteT (qe H (.refl H))⟩
    | @lst ts l ho =>
      obtain ⟨a, xs, rfl, hS, hx⟩ := Dp.lst_inv dp
      have lx := DpAll.length hx
      refine ⟨_, rfl, _, _, _, _, _, rfl, .ty _, ty_lst hS, kit_ty (b := "list") (r := true) (by decide +kernel), _, rfl, iteF ?_⟩
      refine ⟨_, rfl, a, _, rfl, .inl hS, _, _, rfl, rfl, _, rfl, ite2 (fun e => ?_) (fun e => ⟨_, rfl, cT (k := !false) rfl (qe H (.refl H))⟩)⟩
      have lo : (1 : Int) ≤ (xs.length : Int) := of_decide_eq_true e
      refine ⟨_, _, rfl, rfl, _, rfl, ?_⟩
      by_cases hi : (xs.length : Int) ≤ 24
      case neg => exact cT (nd_t hi) (qe H (.refl H))
      refine cF (nd_f hi) ?_
      refine ⟨_, rfl, a, rfl, ⟨_, hS⟩, for_list (K := K) (a := a) (xs := xs) (fun i σ H2 => ∃ (y1 : Option V) (ds : List Dfn), σ = [some (.ref a), y1] ∧ Same H H2 ∧ ts.take i = ds.map Dfn.data ∧ ∀ d, d ∈ ds → d.Ok) ⟨none, [], rfl, .refl H, rfl, fun d hd => by cases hd⟩ (fun i σ H2 _ ⟨_, _, _, s2, _⟩ => s2.seq hS) ?_ ?_⟩
      · rintro i y σ H2 hi2 ⟨y1, ds, rfl, s2, et, oks⟩
        obtain ⟨dd, hdd, dpy⟩ := DpAll.get' hx hi2
        have gm := List.mem_of_getElem? hdd
        refine ⟨_, rfl, y, dd, rfl, Dp.same s2 dpy, rs.l ts rfl dd gm, fun H3 g s3 eg og => ⟨_, ds ++ [g], rfl, s2.trans s3, ?_, ?_⟩, fun H3 s3 => qe H3 (s2.trans s3)⟩
        · rw [List.take_add_one, hdd, et, eg, List.map_append]; rfl
        · intro d hd
          rcases List.mem_append.mp hd with hd | hd
          · exact oks d hd
          · rw [List.mem_singleton.mp hd]; exact og
      · rintro σ H2 ⟨y1, ds, rfl, s2, et, oks⟩
        rw [lx, List.take_length] at et
        subst et
        rw [List.length_map] at lx
        exact ⟨_, rfl, a, xs, ds, rfl, s2.seq hS, DpAll.same s2 hx, by omega, oks, fun H3 s3 ag => q _ ds (s2.trans s3) rfl ⟨by omega, by omega, oks, ag⟩, fun H3 s3 no => qe _ (s2.trans s3)⟩
end
/-! ### what begins with check_system raises, if its data is none -/
def spSysN (K : PySem.W.Frag) : Sp := fun us H _ E => ∃ (v u : V) (t : PyData), us = [v, u] ∧ Dp K H v t ∧ RawS t ∧ (∀ ds : List Dfn, SysOk ds → t ≠ sysD ds) ∧ ∀ H' : Hp, Same H H' → E (.ref (He.ga K "BadFormula")) none H'
section
variable {P : Program} {w : World} {K : PySem.W.Frag} {mg : Str → Option Value} {base : Heap}
theorem sc_check_solvable : FnScope ["system", "structure", "size", "counts", "work", "count", "_", "body", "variables"] ["system", "structure"] (defScope (top 114)) := ⟨rfl, rfl, rfl, by decide +kernel, rfl, by decide +kernel, by decide +kernel⟩
theorem none_check_solvable (D : Def K mg "_check_solvable" ["system", "structure"] (top 114)) (C1 : HasX (L2N.CX P w) P w K mg base 51 "check_system" ["system"] (spSysR K)) : HasX (L2N.CX P w) P w K mg base 52 "_check_solvable" ["system", "structure"] (spSysN K) := D.has fun f fd F => by
  obtain ⟨f1, fd1, G_1, g_1, k_1, b_1⟩ := C1
  refine F.ok sc_check_solvable (fun vs H Q E h => ?_) (fun cdv A outer s H vs Q E hr h => ?_)
  · obtain ⟨v, u, t, rfl, _⟩ := h; rfl
  · obtain ⟨v, u, t, rfl, dp, rs, no, qe⟩ := h
    have R_1 : Room 51 _ := hr
    refine ⟨_, pss_cons (ps_expr (pe_call G_1 R_1 (by rfl) g_1 k_1 b_1 .nil (L2N.passes_call (L2N.takes_of rfl rfl rfl rfl) (fun _ _ _ _ h => h)) (pa_cons (pv 0) pa_nil))) pss_never, ?_⟩
    exact ⟨_, rfl, v, t, rfl, dp, rs, fun H1 ds _ e ok => absurd e (no ds ok), qe⟩
theorem sc_solve : FnScope ["system", "structure", "stage"] ["system", "structure"] (defScope (top 116)) := ⟨rfl, rfl, rfl, by decide +kernel, rfl, by decide +kernel, by decide +kernel⟩
theorem none_solve (D : Def K mg "solve" ["system", "structure"] (top 116)) (C1 : HasX (L2N.CX P w) P w K mg base 52 "_check_solvable" ["system", "structure"] (spSysN K)) : HasX (L2N.CX P w) P w K mg base 53 "solve" ["system", "structure"] (spSysN K) := D.has fun f fd F => by
  obtain ⟨f1, fd1, G_1, g_1, k_1, b_1⟩ := C1
  refine F.ok sc_solve (fun vs H Q E h => ?_) (fun cdv A outer s H vs Q E hr h => ?_)
  · obtain ⟨v, u, t, rfl, _⟩ := h; rfl
  · obtain ⟨v, u, t, rfl, dp, rs, no, qe⟩ := h
    have R_1 : Room 52 _ := hr
    refine ⟨_, pss_cons (ps_expr (pe_call G_1 R_1 (by rfl) g_1 k_1 b_1 .nil (L2N.passes_call (L2N.takes_of rfl rfl rfl rfl) (fun _ _ _ _ h => h)) (pa_cons (pv 0) (pa_cons (pv 1) pa_nil)))) pss_never, ?_⟩
    exact ⟨_, rfl, _, rfl, v, u, t, rfl, dp, rs, no, qe⟩
theorem sc_stages : FnScope ["system", "structure", "stage", "found"] ["system", "structure"] (defScope (top 117)) := ⟨rfl, rfl, rfl, by decide +kernel, rfl, by decide +kernel, by decide +kernel⟩
theorem none_stages (D : Def K mg "stages" ["system", "structure"] (top 117)) (C1 : HasX (L2N.CX P w) P w K mg base 52 "_check_solvable" ["system", "structure"] (spSysN K)) : HasX (L2N.CX P w) P w K mg base 53 "stages" ["system", "structure"] (spSysN K) := D.has fun f fd F => by
  obtain ⟨f1, fd1, G_1, g_1, k_1, b_1⟩ := C1
  refine F.ok sc_stages (fun vs H Q E h => ?_) (fun cdv A outer s H vs Q E hr h => ?_)
  · obtain ⟨v, u, t, rfl, _⟩ := h; rfl
  · obtain ⟨v, u, t, rfl, dp, rs, no, qe⟩ := h
    have R_1 : Room 52 _ := hr
    refine ⟨_, pss_cons (ps_expr (pe_call G_1 R_1 (by rfl) g_1 k_1 b_1 .nil (L2N.passes_call (L2N.takes_of rfl rfl rfl rfl) (fun _ _ _ _ h => h)) (pa_cons (pv 0) (pa_cons (pv 1) pa_nil)))) pss_never, ?_⟩
    exact ⟨_, rfl, _, rfl, v, u, t, rfl, dp, rs, no, qe⟩
theorem sc_one_formula : FnScope ["system", "index", "name", "variables", "body", "source", "joined", "whole", "point", "differ"] ["system", "index"] (defScope (top 121)) := ⟨rfl, rfl, rfl, by decide +kernel, rfl, by decide +kernel, by decide +kernel⟩
theorem none_one_formula (D : Def K mg "one_formula" ["system", "index"] (top 121)) (C1 : HasX (L2N.CX P w) P w K mg base 51 "check_system" ["system"] (spSysR K)) : HasX (L2N.CX P w) P w K mg base 52 "one_formula" ["system", "index"] (spSysN K) := D.has fun f fd F => by
  obtain ⟨f1, fd1, G_1, g_1, k_1, b_1⟩ := C1
  refine F.ok sc_one_formula (fun vs H Q E h => ?_) (fun cdv A outer s H vs Q E hr h => ?_)
  · obtain ⟨v, u, t, rfl, _⟩ := h; rfl
  · obtain ⟨v, u, t, rfl, dp, rs, no, qe⟩ := h
    have R_1 : Room 51 _ := hr
    refine ⟨_, pss_cons (ps_expr (pe_call G_1 R_1 (by rfl) g_1 k_1 b_1 .nil (L2N.passes_call (L2N.takes_of rfl rfl rfl rfl) (fun _ _ _ _ h => h)) (pa_cons (pv 0) pa_nil))) pss_never, ?_⟩
    exact ⟨_, rfl, v, t, rfl, dp, rs, fun H1 ds _ e ok => absurd e (no ds ok), qe⟩
end
/-! ### Structure(2, []) -/
/-- an expression that is never reached -/
def eNever : TE := fun _ _ _ => False
theorem pe_never {X : Cx} {e : Expr} : PE X e eNever := ⟨fun _ _ _ _ _ _ h => h.elim⟩
section
variable {X : Cx}
theorem call_lenSB : CallR X (.builtin "len") (fun xs H Q => ∃ (a : Addr) (S : Bool → Bool) (n : Nat), xs = [V.ref a] ∧ H a = some (PpSet.SetBO X.w a S n) ∧ Q (.int n) H) := by
  intro pins s σ H xs us Q I r h
  obtain ⟨a, S, n, rfl, ha, q⟩ := h
  rw [Vals.ref1 r]
  obtain ⟨o, es, ep, t, ho, hex, hd, _, _, _, hb, hf, hn, _⟩ := PpSet.setBO_get I ha
  have fit : (es.size : Int) < 2 ^ 63 := by
    have h1 : es.size < 4096 := hb
    omega
  exact call_len_set ho hex hd hf fit ⟨.int n, H, I.tok _, ⟨_, by rw [hn]⟩, q⟩
end
/-- no relations -/
def spKept0 (K : PySem.W.Frag) : Sp := fun us H Q _ => ∃ (a : Addr), us = [.ref a, .int 2] ∧ SqL K H a [] ∧ ∀ (H' : Hp) (b : Addr), Same H H' → H' b = some (.lst []) → Q (.ref b) H'
section
variable {P : Program} {w : World} {K : PySem.W.Frag} {mg : Str → Option Value} {base : Heap}
theorem sc_kept : FnScope ["relations", "size", "kept", "relation"] ["relations", "size"] (defScope (top 25)) := ⟨rfl, rfl, rfl, by decide +kernel, rfl, by decide +kernel, by decide +kernel⟩
theorem has_kept0 (D : Def K mg "_kept_relations" ["relations", "size"] (top 25)) (T : Txt mg) (BS : XC K mg "BadStructure") (k1 : ∃ t, mg "MOST_RELATIONS" = some (.int 6 t)) : Has P w K mg base 1 "_kept_relations" ["relations", "size"] (spKept0 K) := D.has fun f fd F => by
  obtain ⟨t1, c_MOST_RELATIONS⟩ := k1
  refine F.ok sc_kept (fun vs H Q E h => ?_) (fun cdv A outer s H vs Q E hr h => ?_)
  · obtain ⟨a, rfl, _⟩ := h; rfl
  · obtain ⟨a, rfl, hS, q⟩ := h
    refine ⟨_, PSs.nox (pss_cons (ps_if (PW.pt (pw_or (pt_not (pt_val (pe_callB call_isi (by rfl) T.n_isinstance (by decide +kernel) (pa_cons (pv 0) (pa_cons (pe_bltn (v := .ty "list") (by rfl) T.n_list (by decide +kernel) rfl) pa_nil))))) (pw_or1 (pt_cmpR op_gt (pe_callB call_len_seq (by rfl) T.n_len PySem.boot_len (pa_cons (pv 0) pa_nil)) (pe_glob (v := .int 6) (by rfl) c_MOST_RELATIONS ⟨_, rfl⟩) (nomark _))))) pss_never pss_nil) (pss_cons (ps_setLc (i := 2) (own := [("relation", 3)]) rfl sc_kept.nd rfl rfl (sw_true rfl rfl rfl (by decide +kernel)) (pi_list (pv 0)) (blkOk_by (N := ["relations", "size", "kept", "relation"]) (sc := defScope (top 25)) (by decide +kernel)) (fun _ _ _ _ _ => (pg_name (i := 3) sc_kept.nd rfl (Or.inl rfl))) (fun _ _ _ _ _ => pts_nil) (fun _ _ _ _ _ => pe_never)) (pss_cons (ps_if (pt_cmpR op_ne (pe_callB call_lenSB (by rfl) T.n_len PySem.boot_len (pa_cons (PpSet.pe_sc (own := [("relation", 3)]) rfl sc_kept.nd (pi_list (pv 2)) (blkOk_by (N := ["relations", "size", "kept", "relation"]) (sc := defScope (top 25)) (by decide +kernel)) (fun _ _ _ _ _ => (pg_name (i := 3) sc_kept.nd rfl (Or.inl rfl))) (fun _ _ _ _ _ => pts_nil) (fun _ _ _ _ _ => pe_never)) pa_nil)) (pe_callB call_len_seq (by rfl) T.n_len PySem.boot_len (pa_cons (pv 2) pa_nil)) (nomark _)) pss_never pss_nil) (pss_one (ps_ret (pv 2)))))), ?_⟩
    refine ⟨_, rfl, _, _, _, _, _, rfl, .ty _, ty_lst hS, kit_ty (b := "list") (r := true) (by decide +kernel), _, rfl, iteF ?_⟩
    refine ⟨_, rfl, a, _, rfl, .inl hS, _, _, rfl, rfl, _, rfl, cF (k := decide ((6 : Int) < (([] : List V).length : Nat))) rfl ?_⟩
    refine ⟨_, rfl, a, rfl, ⟨_, hS⟩, fun L nL => ?_⟩
    refine lc_it (walk_list (K := K) (a := a) (xs := [])) (fun i H2 => H2 L = some (.lst []) ∧ Same H H2) ⟨upd_same, same_upd nL⟩ (fun i H2 _ ⟨_, s2⟩ => s2.seq hS) (fun i _ _ _ lt => absurd lt (Nat.not_lt_zero i)) ?_
    rintro H2 ⟨hL, s2⟩
    have hL' : SqL K H2 L [] := SqL.of hL
    refine ⟨_, rfl, L, rfl, ⟨_, hL'⟩, fun D nD => ?_⟩
    refine ⟨fun i m H3 => i = 0 ∧ H3 = upd H2 D (PpSet.SetBO w D (fun _ => false) 0), ⟨0, rfl, rfl⟩, ?_⟩
    rintro i m H3 ⟨rfl, rfl⟩
    have s3 : Same H2 (upd H2 D (PpSet.SetBO w D (fun _ => false) 0)) := same_upd nD
    refine .inl ⟨(walk_list (K := K) (a := L) (xs := [])).stops _ (s3.seq hL'), ?_⟩
    refine ⟨D, _, 0, rfl, upd_same, _, rfl, L, _, rfl, .inl (s3.seq hL'), rfl, _, rfl, cF (k := !decide (V.int (0 : Nat) = V.int (([] : List V).length : Nat))) (nd_f rfl) ?_⟩
    exact ⟨_, rfl, q _ L (s2.trans s3) (s3 _ _ hL)⟩
end
/-- a method as the top leaves it -/
def DefM (K : PySem.W.Frag) (c m q : Str) (ps : List Str) (st : Stmt) : Prop := ∃ f fd, FunD K m q (defArgs st) (defBody st) (defScope st) [] [] f fd ∧ Meth K (He.ga K c) m f ∧ Binds K fd ps []
def HasM (P : Program) (w : World) (K : PySem.W.Frag) (mg : Str → Option Value) (base : Heap) (k : Nat) (c m : Str) (ps : List Str) (sp : Sp) : Prop :=
  ∃ f fd, FnOk P w K mg base CX0 k f fd ps sp ∧ Meth K (He.ga K c) m f ∧ Binds K fd ps []
theorem DefM.has {P : Program} {w : World} {K : PySem.W.Frag} {mg : Str → Option Value} {base : Heap} {c m q : Str} {ps : List Str} {st : Stmt} {k : Nat} {sp : Sp} (D : DefM K c m q ps st)
    (h : ∀ f fd, FunD K m q (defArgs st) (defBody st) (defScope st) [] [] f fd → FnOk P w K mg base CX0 k f fd ps sp) : HasM P w K mg base k c m ps sp := by
  obtain ⟨f, fd, F, g, b⟩ := D
  exact ⟨f, fd, h f fd F, g, b⟩
theorem mk_init {P : Program} {w : World} {K : PySem.W.Frag} {mg : Str → Option Value} {base : Heap} {g : Addr} {ps : List Str} {sp : Sp} {k : Nat} (M : Mk K (He.ga K "Structure") g) (h : HasM P w K mg base k "Structure" "__init__" ps sp) : ∃ f fd, Mk K (He.ga K "Structure") f ∧ FnOk P w K mg base CX0 k f fd ps sp ∧ Binds K fd ps [] := by
  obtain ⟨f, fd, F, m, b⟩ := h
  have e := m.at_.symm.trans M.init
  injection e with e
  injection e with e
  injection e with e
  subst e
  exact ⟨f, fd, M, F, b⟩
structure StC (K : PySem.W.Frag) : Prop where
  cls : Cls K (He.ga K "Structure")
  ns : NoAttr K (He.ga K "Structure") "size"
  nr : NoAttr K (He.ga K "Structure") "relations"
def spStInit (K : PySem.W.Frag) : Sp := fun vs H Q _ => ∃ (s dx a : Addr), vs = [.ref s, .int 2, .ref a] ∧ H s = some (.ins (He.ga K "Structure") dx []) ∧ H a = some (.lst []) ∧ ∀ H' : Hp, (∀ b o, H b = some o → b ≠ s → H' b = some o) → Q .non H'
section
variable {P : Program} {w : World} {K : PySem.W.Frag} {mg : Str → Option Value} {base : Heap}
theorem sc_st_init : FnScope ["self", "size", "relations"] ["self", "size", "relations"] (defScope (inClass (top 26) 0)) := ⟨rfl, rfl, rfl, by decide +kernel, rfl, by decide +kernel, by decide +kernel⟩
theorem has_st_init (D : DefM K "Structure" "__init__" "Structure.__init__" ["self", "size", "relations"] (inClass (top 26) 0)) (SC : StC K) (k1 : ∃ t, mg "LARGEST_SIZE" = some (.int 16 t)) (C1 : Has P w K mg base 2 "is_between" ["value", "low", "high"] spBetween) (C2 : Has P w K mg base 1 "_kept_relations" ["relations", "size"] (spKept0 K)) : HasM P w K mg base 3 "Structure" "__init__" ["self", "size", "relations"] (spStInit K) := D.has fun f fd F => by
  obtain ⟨f1, fd1, G_is_between, g_is_between, k_is_between, b_is_between⟩ := C1
  obtain ⟨f2, fd2, G_kept_relations, g_kept_relations, k_kept_relations, b_kept_relations⟩ := C2
  obtain ⟨t1, c_LARGEST_SIZE⟩ := k1
  refine F.ok sc_st_init (fun vs H Q E h => ?_) (fun cdv A outer s H vs Q E hr h => ?_)
  · obtain ⟨s, dx, a, rfl, _⟩ := h; rfl
  · obtain ⟨s, dx, a, rfl, h1, hA, q⟩ := h
    have R_is_between : Room 2 _ := hr
    have R_kept_relations : Room 1 _ := hr.mono (by decide)
    refine ⟨_, PSs.nox (pss_cons (ps_if (pt_not (pt_val (pe_call G_is_between R_is_between (by rfl) g_is_between k_is_between b_is_between .nil pass0 (pa_cons (pv 1) (pa_cons pe_int (pa_cons (pe_glob (v := .int 16) (by rfl) c_LARGEST_SIZE ⟨_, rfl⟩) pa_nil)))))) pss_never pss_nil) (pss_cons (ps_fld (pv 0) (pv 1) rfl) (pss_one (ps_fld (pv 0) (pe_call G_kept_relations R_kept_relations (by rfl) g_kept_relations k_kept_relations b_kept_relations .nil pass0 (pa_cons (pv 2) (pa_cons (pv 1) pa_nil))) rfl)))), ?_⟩
    refine ⟨_, rfl, .int 2, 1, 16, rfl, rfl, ?_⟩
    refine ⟨_, rfl, cF (k := !btw 1 16 (V.int 2)) (by decide +kernel) ?_⟩
    refine ⟨_, rfl, _, rfl, s, _, dx, _, rfl, h1, SC.cls, SC.ns, (by show 0 < 1000; decide), ?_⟩
    have nas : a ≠ s := fun z => by rw [z, h1] at hA; cases hA
    refine ⟨_, rfl, _, rfl, a, rfl, SqL.of ((upd_ne nas).trans hA), fun H2 b s2 hb => ?_⟩
    refine ⟨_, rfl, s, _, dx, _, rfl, s2 _ _ upd_same, SC.cls, SC.nr, (by show 1 < 1000; decide), ?_⟩
    refine q _ fun c o ec nc => ?_
    rw [upd_ne nc]
    exact s2 _ _ ((upd_ne nc).trans ec)
end
/-! ### the law's calls -/
def spCallY (K : PySem.W.Frag) : Sp := fun us H Q _ => ∃ (a : Addr) (xs : List V) (ds : List Dfn), us = [.int 0, .ref a] ∧ SqL K H a xs ∧ DpAll K H xs (ds.map Dfn.data) ∧ SysOk ds ∧ (∀ d, d ∈ ds → Fr20 d.b) ∧ ∀ H' : Hp, Same H H' → Q .non H'
def spCallN (K : PySem.W.Frag) : Sp := fun us H _ E => ∃ (k : Nat) (v : V) (t : PyData), us = [.int (k : Nat), v] ∧ k ≤ 3 ∧ Dp K H v t ∧ RawS t ∧ (∀ ds : List Dfn, SysOk ds → t ≠ sysD ds) ∧ ∀ H' : Hp, Same H H' → E (.ref (He.ga K "BadFormula")) none H'
section
variable {P : Program} {w : World} {K : PySem.W.Frag} {mg : Str → Option Value} {base : Heap}
theorem sc_lcalled : FnScope ["which", "system"] ["which", "system"] (defScope (top 136)) := ⟨rfl, rfl, rfl, by decide +kernel, rfl, by decide +kernel, by decide +kernel⟩
theorem has_lcalledY (D : Def K mg "_law_called" ["which", "system"] (top 136)) (C0 : HasX (L2N.CX P w) P w K mg base 51 "check_system" ["system"] (spSysY K)) : HasX (L2N.CX P w) P w K mg base 55 "_law_called" ["which", "system"] (spCallY K) := D.has fun f fd F => by
  obtain ⟨f0, fd0, G_check_system, g_check_system, k_check_system, b_check_system⟩ := C0
  refine F.ok sc_lcalled (fun vs H Q E h => ?_) (fun cdv A outer s H vs Q E hr h => ?_)
  · obtain ⟨a, xs, ds, rfl, _⟩ := h; rfl
  · obtain ⟨a, xs, ds, rfl, hS, hx, ok, fr, q⟩ := h
    have R_check_system : Room 51 _ := hr.mono (by decide)
    refine ⟨_, (pss_one (ps_if (pt_cmpR op_eq (pv 0) pe_int (nomark _)) (pss_one (ps_expr (pe_call G_check_system R_check_system (by rfl) g_check_system k_check_system b_check_system .nil (L2N.passes_call (L2N.takes_of rfl rfl rfl rfl) (fun _ _ _ _ h => h)) (pa_cons (pv 1) pa_nil)))) pss_never)), ?_⟩
    refine ⟨_, rfl, rfl, _, rfl, cT (k := decide (V.int 0 = V.int 0)) rfl ?_⟩
    exact ⟨_, rfl, a, xs, ds, rfl, hS, hx, ok, fr, q⟩
theorem has_lcalledN (D : Def K mg "_law_called" ["which", "system"] (top 136)) (gC_Structure : mg "Structure" = some (.ref (He.ga K "Structure"))) (I : ∃ f fd, Mk K (He.ga K "Structure") f ∧ FnOk P w K mg base CX0 3 f fd ["self", "size", "relations"] (spStInit K) ∧ Binds K fd ["self", "size", "relations"] [])
    (C0 : HasX (L2N.CX P w) P w K mg base 51 "check_system" ["system"] (spSysR K)) (C1 : HasX (L2N.CX P w) P w K mg base 53 "solve" ["system", "structure"] (spSysN K)) (C2 : HasX (L2N.CX P w) P w K mg base 53 "stages" ["system", "structure"] (spSysN K)) (C3 : HasX (L2N.CX P w) P w K mg base 52 "one_formula" ["system", "index"] (spSysN K)) : HasX (L2N.CX P w) P w K mg base 55 "_law_called" ["which", "system"] (spCallN K) := D.has fun f fd F => by
  obtain ⟨f0, fd0, G_check_system, g_check_system, k_check_system, b_check_system⟩ := C0
  obtain ⟨f1, fd1, G_solve, g_solve, k_solve, b_solve⟩ := C1
  obtain ⟨f2, fd2, G_stages, g_stages, k_stages, b_stages⟩ := C2
  obtain ⟨f3, fd3, G_one_formula, g_one_formula, k_one_formula, b_one_formula⟩ := C3
  obtain ⟨f4, fd4, MK_Structure, GI_Structure, bI_Structure⟩ := I
  refine F.ok sc_lcalled (fun vs H Q E h => ?_) (fun cdv A outer s H vs Q E hr h => ?_)
  · obtain ⟨k, v, t, rfl, _⟩ := h; rfl
  · obtain ⟨k, v, t, rfl, k3, dp, rs, no, qe⟩ := h
    have R_check_system : Room 51 _ := hr.mono (by decide)
    have R_solve : Room 53 _ := hr.mono (by decide)
    have R_stages : Room 53 _ := hr.mono (by decide)
    have R_one_formula : Room 52 _ := hr.mono (by decide)
    have RI_Structure : Room (3 + 1) _ := hr.mono (by decide)
    refine ⟨_, (pss_one (ps_if (pt_cmpR op_eq (pv 0) pe_int (nomark _)) (pss_one (ps_expr (pe_call G_check_system R_check_system (by rfl) g_check_system k_check_system b_check_system .nil (L2N.passes_call (L2N.takes_of rfl rfl rfl rfl) (fun _ _ _ _ h => h)) (pa_cons (pv 1) pa_nil)))) (pss_one (ps_if (pt_cmpR op_eq (pv 0) pe_int (nomark _)) (pss_one (ps_expr (pe_call G_solve R_solve (by rfl) g_solve k_solve b_solve .nil (L2N.passes_call (L2N.takes_of rfl rfl rfl rfl) (fun _ _ _ _ h => h)) (pa_cons (pv 1) (pa_cons (pe_make MK_Structure GI_Structure RI_Structure (by rfl) gC_Structure bI_Structure .nil pass0 (pa_cons pe_int (pa_cons (pe_lst pa_nil) pa_nil))) pa_nil))))) (pss_one (ps_if (pt_cmpR op_eq (pv 0) pe_int (nomark _)) (pss_one (ps_expr (pe_call G_stages R_stages (by rfl) g_stages k_stages b_stages .nil (L2N.passes_call (L2N.takes_of rfl rfl rfl rfl) (fun _ _ _ _ h => h)) (pa_cons (pv 1) (pa_cons (pe_make MK_Structure GI_Structure RI_Structure (by rfl) gC_Structure bI_Structure .nil pass0 (pa_cons pe_int (pa_cons (pe_lst pa_nil) pa_nil))) pa_nil))))) (pss_one (ps_expr (pe_call G_one_formula R_one_formula (by rfl) g_one_formula k_one_formula b_one_formula .nil (L2N.passes_call (L2N.takes_of rfl rfl rfl rfl) (fun _ _ _ _ h => h)) (pa_cons (pv 1) (pa_cons pe_int pa_nil))))))))))), ?_⟩
    have kk : k = 0 ∨ k = 1 ∨ k = 2 ∨ k = 3 := by omega
    have mk : ∀ (H1 : Hp) (s dx a : Addr), Same H H1 → H1 s = none → H1 dx = none → dx ≠ s → H1 a = some (.lst []) → ∀ (Z : VK) (EE : XK), (∀ H2 : Hp, Same H H2 → Z .non H2) → spStInit K [.ref s, .int 2, .ref a] (upd (upd H1 dx (.own s)) s (.ins (He.ga K "Structure") dx [])) Z EE := fun H1 s dx a s1 ns nd ne ha Z EE z => by
      have nas : a ≠ s := fun e => by rw [e, ns] at ha; cases ha
      have nad : a ≠ dx := fun e => by rw [e, nd] at ha; cases ha
      refine ⟨s, dx, a, rfl, upd_same, by rw [upd_ne nas, upd_ne nad]; exact ha, fun H2 keep => z H2 fun b o eb => ?_⟩
      have e1 := s1 b o eb
      have nbs : b ≠ s := fun e => by rw [e, ns] at e1; cases e1
      have nbd : b ≠ dx := fun e => by rw [e, nd] at e1; cases e1
      exact keep b o (by rw [upd_ne nbs, upd_ne nbd]; exact e1) nbs
    rcases kk with rfl | rfl | rfl | rfl
    · refine ⟨_, rfl, rfl, _, rfl, cT (k := decide (V.int (0 : Nat) = V.int 0)) rfl ?_⟩
      exact ⟨_, rfl, v, t, rfl, dp, rs, fun H1 ds _ e ok => absurd e (no ds ok), qe⟩
    · refine ⟨_, rfl, rfl, _, rfl, cF (k := decide (V.int (1 : Nat) = V.int 0)) rfl ?_⟩
      refine ⟨_, rfl, rfl, _, rfl, cT (k := decide (V.int (1 : Nat) = V.int 1)) rfl ?_⟩
      refine ⟨_, rfl, Nat.zero_le _, fun a na s dx ns nd ne => ?_⟩
      refine mk (upd H a (.lst [])) s dx a (same_upd na) ns nd ne upd_same _ _ fun H2 s2 => ⟨rfl, ?_⟩
      exact ⟨v, .ref s, t, rfl, Dp.same s2 dp, rs, no, fun H3 s3 => qe H3 (s2.trans s3)⟩
    · refine ⟨_, rfl, rfl, _, rfl, cF (k := decide (V.int (2 : Nat) = V.int 0)) rfl ?_⟩
      refine ⟨_, rfl, rfl, _, rfl, cF (k := decide (V.int (2 : Nat) = V.int 1)) rfl ?_⟩
      refine ⟨_, rfl, rfl, _, rfl, cT (k := decide (V.int (2 : Nat) = V.int 2)) rfl ?_⟩
      refine ⟨_, rfl, Nat.zero_le _, fun a na s dx ns nd ne => ?_⟩
      refine mk (upd H a (.lst [])) s dx a (same_upd na) ns nd ne upd_same _ _ fun H2 s2 => ⟨rfl, ?_⟩
      exact ⟨v, .ref s, t, rfl, Dp.same s2 dp, rs, no, fun H3 s3 => qe H3 (s2.trans s3)⟩
    · refine ⟨_, rfl, rfl, _, rfl, cF (k := decide (V.int (3 : Nat) = V.int 0)) rfl ?_⟩
      refine ⟨_, rfl, rfl, _, rfl, cF (k := decide (V.int (3 : Nat) = V.int 1)) rfl ?_⟩
      refine ⟨_, rfl, rfl, _, rfl, cF (k := decide (V.int (3 : Nat) = V.int 2)) rfl ?_⟩
      exact ⟨_, rfl, v, .int 0, t, rfl, dp, rs, no, qe⟩
end
/-! ### _law_refused of systems -/
/-- isinstance(e, (c1, c2, ..)), e the exception that the suite holds -/
theorem call_isET {X : Cx} {a : Addr} {oe : Obj} {cls : Value} {d : Option Addr} {pn : List (Addr × Obj)} (zo : Zc cls d oe) (fo : ∃ vs, oe.data = .fields vs) :
    CallR (X.suite a ((a, oe) :: pn)) (.builtin "isinstance") (fun xs H Q => ∃ (D tp : Addr) (cs : List V) (ks : List Value) (b : Bool), cls = .ref D ∧ d = none ∧ ExcC X.K D ∧ xs = [.ref a, .ref tp] ∧ H tp = some (.tup cs) ∧ Paired ClsV cs ks ∧ PySem.W.kitAny X.K (.ref D) ks = some b ∧ Q (.bl b) H) := by
  intro ps τ σ G xs us W J r h
  obtain ⟨D, tp, cs, ks, b, rfl, rfl, C, rfl, hT, pr, e, q⟩ := h
  obtain ⟨w1, w2, rfl, r1, r2⟩ := vals2 r
  cases (show w2 = Value.ref tp from r2)
  cases (show w1 = Value.ref a from r1)
  obtain ⟨got, _⟩ := J.pin (a, oe) (List.mem_append.mpr (.inl List.mem_cons_self))
  obtain ⟨vs, ev⟩ := fo
  have at_ : PySem.W.InstAt τ.heap a oe D none := by
    obtain ⟨oc, od, oda, osl⟩ := oe
    obtain ⟨z1, z2⟩ := zo
    dsimp only at z1 z2 ev
    subst z1 z2 ev
    exact ⟨got, rfl, rfl, trivial⟩
  obtain ⟨_, its, rv, o, g1, g2, n, g3⟩ := (show ObjOk X.prog X.w G τ.heap tp (.tup cs) from J.hok tp _ hT)
  have same := ClsV.all pr rv
  subst same
  obtain ⟨oc, od, dt, sl⟩ := o
  simp only at g2 g3
  subst g2 g3
  exact PySem.W.kia_tup (PySem.W.handS_kitx_exc C.hg C.hk C.hs C.hd C.ha C.hn C.ht C.hm) J.kIn at_ g1 e (fun z => nomatch z) fun tk => ⟨.bl b, G, J.kept (t' := tk) fun _ _ z => z, rfl, q⟩
theorem cxN_c {P : Program} {w : World} {outer : List Env} {H : Hp} {s : Shared} {E : XK} {u : Value} {s' : Shared} (h : L2N.CX P w outer H s E u s') : L2.CX P w outer H s E u s' := by
  obtain ⟨a, B, H', cls, d, e, fl, r⟩ := h
  exact ⟨a, B, H', cls, d, e, L2H.flyingZ_imp (fun _ z => L2N.Zn.zc z) fl, r⟩
theorem passC {X : Cx} {E : XK} (p : Passes (L2.CX X.prog X.w) X E) : Passes (L2N.CX X.prog X.w) X E := fun ps σ H s e s' I c => p ps σ H s e s' I (cxN_c c)
theorem passCS {X : Cx} {σ : L2.St} {E : XK} (p : PassesAt (L2.CX X.prog X.w) X σ E) : PassesAt (L2N.CX X.prog X.w) X σ E := fun ps H s e s' I c => p ps H s e s' I (cxN_c c)
def spRefS (K : PySem.W.Frag) : Sp := fun us H Q _ =>
  (∃ (a : Addr) (xs : List V) (ds : List Dfn), us = [.int 0, .ref a] ∧ SqL K H a xs ∧ DpAll K H xs (ds.map Dfn.data) ∧ SysOk ds ∧ (∀ d, d ∈ ds → Fr20 d.b) ∧ ∀ H' : Hp, Same H H' → Q (.bl false) H') ∨
  (∃ (k : Nat) (v : V) (t : PyData), us = [.int (k : Nat), v] ∧ k ≤ 3 ∧ Dp K H v t ∧ RawS t ∧ (∀ ds : List Dfn, SysOk ds → t ≠ sysD ds) ∧ ∀ H' : Hp, Same H H' → Q (.bl true) H')
section
variable {P : Program} {w : World} {K : PySem.W.Frag} {mg : Str → Option Value} {base : Heap}
theorem sc_refused25 : FnScope ["which", "system", "e"] ["which", "system"] (defScope (top 137)) := ⟨rfl, rfl, rfl, by decide +kernel, rfl, by decide +kernel, by decide +kernel⟩
theorem has_refused25 (D : Def K mg "_law_refused" ["which", "system"] (top 137)) (T : Txt mg) (BF : XC K mg "BadFormula") (SE : mg "SaysoError" = some (.ref (He.ga K "SaysoError"))) (BA : mg "BadArgument" = some (.ref (He.ga K "BadArgument"))) (NF : mg "NotFitting" = some (.ref (He.ga K "NotFitting"))) (TL : mg "TooLarge" = some (.ref (He.ga K "TooLarge")))
    (u1 : PySem.W.kitOne K (.ref (He.ga K "BadFormula")) (.ref (He.ga K "SaysoError")) = some true) (u2 : PySem.W.kitOne K (.ref (He.ga K "BadFormula")) (.ref (He.ga K "BadArgument")) = some false) (u5 : PySem.W.kitOne K (.ref (He.ga K "BadFormula")) (.ref (He.ga K "NotFitting")) = some false) (u6 : PySem.W.kitOne K (.ref (He.ga K "BadFormula")) (.ref (He.ga K "TooLarge")) = some false)
    (CY : HasX (L2N.CX P w) P w K mg base 55 "_law_called" ["which", "system"] (spCallY K)) (CN : HasX (L2N.CX P w) P w K mg base 55 "_law_called" ["which", "system"] (spCallN K)) : Has P w K mg base 56 "_law_refused" ["which", "system"] (spRefS K) := D.has fun f fd F => by
  obtain ⟨f1, fd1, GY, gY, kY, bY⟩ := CY
  obtain ⟨f2, fd2, GN, gN, kN, bN⟩ := CN
  refine F.ok sc_refused25 (fun vs H Q E h => ?_) (fun cdv A outer s H vs Q E hr h => ?_)
  · rcases h with ⟨a, xs, ds, rfl, _⟩ | ⟨k, v, t, rfl, _⟩ <;> rfl
  · have RY : Room 55 _ := hr
    have RN : Room 55 _ := hr
    rcases h with ⟨a, xs, ds, rfl, hS, hx, ok, fr, q⟩ | ⟨k, v, t, rfl, k3, dp, rs, no, q⟩
    · refine ⟨_, PSs.nox (pss_cons (ps_try_as (i := 2) (tb := fun W => tDrop (tCallS (spCallY K) (WE W) (tCons (tVar 0) (tCons (tVar 1) tNil)))) (Wout := fun _ _ _ _ => False) rfl rfl sc_refused25.nd rfl rfl ⟨rfl, by decide, Or.inl BF.g⟩ takes0
        (fun W pn xe tk _ => pss_one (ps_expr (by exact (pe_callS GY RY rfl gY kY bY (fun σ => passCS (passAt tk σ)) (by exact (pa_cons (pv 0) (pa_cons (pv 1) pa_nil)))))))
        (fun a oe cls d pn hz hf => pss_never))
        (pss_one (ps_ret pe_bl))), ?_⟩
      exact ⟨_, rfl, _, rfl, a, xs, ds, rfl, hS, hx, ok, fr, fun H1 s1 => q H1 s1⟩
    · refine ⟨_, PSs.nox (pss_cons (ps_try_as (i := 2) (tb := fun W => tDrop (tCallS (spCallN K) (WE W) (tCons (tVar 0) (tCons (tVar 1) tNil)))) (Wout := fun _ _ _ _ => False) rfl rfl sc_refused25.nd rfl rfl ⟨rfl, by decide, Or.inl BF.g⟩ takes0
        (fun W pn xe tk _ => pss_one (ps_expr (by exact (pe_callS GN RN rfl gN kN bN (fun σ => passCS (passAt tk σ)) (by exact (pa_cons (pv 0) (pa_cons (pv 1) pa_nil)))))))
        (fun a oe cls d pn hz hf => pss_one (ps_ret (pe_and (pe_callB (call_isE' hz hf) (by rfl) T.n_isinstance (by decide +kernel) (pa_cons (pv 2) (pa_cons (pe_glob (v := .ref (He.ga K "SaysoError")) (by rfl) SE rfl) pa_nil))) (pe_one (pe_not (pe_callB (call_isET hz hf) (by rfl) T.n_isinstance (by decide +kernel) (pa_cons (pv 2) (pa_cons (pe_tup (pa_cons (pe_glob (v := .ref (He.ga K "BadArgument")) (by rfl) BA rfl) (pa_cons (pe_glob (v := .ref (He.ga K "NotFitting")) (by rfl) NF rfl) (pa_cons (pe_glob (v := .ref (He.ga K "TooLarge")) (by rfl) TL rfl) pa_nil)))) pa_nil)))))))))
        (pss_one (ps_ret pe_bl))), ?_⟩
      refine ⟨_, rfl, _, rfl, k, v, t, rfl, k3, dp, rs, no, fun H1 s1 => ?_⟩
      refine ⟨true, BF.e, fun _ a na => ?_, fun z => nomatch z⟩
      refine ⟨_, rfl, He.ga K "BadFormula", He.ga K "SaysoError", true, rfl, rfl, BF.i, rfl, u1, _, rfl, ?_⟩
      refine iteT ⟨_, rfl, (by show 3 ≤ sizeLine; decide), fun tp ntp => ?_⟩
      have st := same_upd (o := .tup [.ref (He.ga K "BadArgument"), .ref (He.ga K "NotFitting"), .ref (He.ga K "TooLarge")]) ntp
      refine ⟨He.ga K "BadFormula", tp, _, _, false, rfl, rfl, BF.i, rfl, upd_same, .cons (.own _) (.cons (.own _) (.cons (.own _) .nil)), kitAny_cons u2 (fun _ => kitAny_cons u5 (fun _ => kitAny_cons u6 (fun _ => rfl) (fun z => nomatch z)) (fun z => nomatch z)) (fun z => nomatch z), ?_⟩
      exact ⟨_, rfl, q _ (s1.trans st)⟩
end
/-! ### the law's systems -/
def sgN : List Str := ["r", "s", "t"]
def signs (as : List Nat) : List NE := List.zipWith (fun n a => (n, a, 1)) sgN as
def envS (as : List Nat) : ArE := fun x => if x = "r" then as[0]? else if x = "s" then as[1]? else if x = "t" then as[2]? else envL x
/-- one or two places each -/
structure Ars (as : List Nat) : Prop where
  len : as.length ≤ 3
  rg : ∀ a, a ∈ as → 1 ≤ a ∧ a ≤ 2
theorem Ars.cases {as : List Nat} (h : Ars as) : as = [] ∨ (∃ a, as = [a]) ∨ (∃ a b, as = [a, b]) ∨ ∃ a b c, as = [a, b, c] := by
  match as, h.len with
  | [], _ => exact .inl rfl
  | [a], _ => exact .inr (.inl ⟨a, rfl⟩)
  | [a, b], _ => exact .inr (.inr (.inl ⟨a, b, rfl⟩))
  | [a, b, c], _ => exact .inr (.inr (.inr ⟨a, b, c, rfl⟩))
  | _ :: _ :: _ :: _ :: _, h => exact absurd h (by simp)
theorem signs_len {as : List Nat} (h : Ars as) : (signs as).length = as.length := by
  unfold signs
  rw [List.length_zipWith]
  have := h.len
  show min 3 as.length = as.length
  omega
theorem signs_mem {as : List Nat} (h : Ars as) {p : NE} (hp : p ∈ signs as) : ∃ k, (k = 0 ∨ k = 1 ∨ k = 2) ∧ sgN[k]? = some p.1 ∧ as[k]? = some p.2.1 ∧ p.2.2 = 1 := by
  obtain ⟨i, hi⟩ := List.getElem?_of_mem hp
  unfold signs at hi
  rw [List.getElem?_zipWith] at hi
  have lt : i < 3 := by
    cases h2 : sgN[i]? with
    | none => rw [h2] at hi; cases hi
    | some z => exact (List.getElem?_eq_some_iff.mp h2).1
  cases h2 : sgN[i]? with
  | none => rw [h2] at hi; cases hi
  | some z =>
    cases h3 : as[i]? with
    | none => rw [h2, h3] at hi; cases hi
    | some a =>
      rw [h2, h3] at hi
      obtain rfl := Option.some.inj hi
      exact ⟨i, by omega, h2, h3, rfl⟩
theorem all_ok {as : List Nat} (h : Ars as) : NOk (namesL ++ signs as) (envS as) := by
  have c : ∀ p, p ∈ namesL → p = (("e" : Str), 2, 0) ∨ p = (("p" : Str), 1, 0) ∨ p = (("q" : Str), 0, 0) := fun p hp => by simpa [namesL] using hp
  have s : ∀ p, p ∈ signs as → ∃ a, 1 ≤ a ∧ a ≤ 2 ∧ ((p = (("r" : Str), a, 1) ∧ as[0]? = some a) ∨ (p = (("s" : Str), a, 1) ∧ as[1]? = some a) ∨ (p = (("t" : Str), a, 1) ∧ as[2]? = some a)) := fun p hp => by
    obtain ⟨k, hk, h1, h2, h3⟩ := signs_mem h hp
    obtain ⟨n, a, m⟩ := p
    cases h3
    have r := h.rg a (List.mem_of_getElem? h2)
    refine ⟨a, r.1, r.2, ?_⟩
    rcases hk with rfl | rfl | rfl
    · have e : ("r" : Str) = n := Option.some.inj h1
      subst e; exact .inl ⟨rfl, h2⟩
    · have e : ("s" : Str) = n := Option.some.inj h1
      subst e; exact .inr (.inl ⟨rfl, h2⟩)
    · have e : ("t" : Str) = n := Option.some.inj h1
      subst e; exact .inr (.inr ⟨rfl, h2⟩)
  have all : ∀ p, p ∈ namesL ++ signs as → (p = (("e" : Str), 2, 0) ∨ p = (("p" : Str), 1, 0) ∨ p = (("q" : Str), 0, 0)) ∨ ∃ a, 1 ≤ a ∧ a ≤ 2 ∧ ((p = (("r" : Str), a, 1) ∧ as[0]? = some a) ∨ (p = (("s" : Str), a, 1) ∧ as[1]? = some a) ∨ (p = (("t" : Str), a, 1) ∧ as[2]? = some a)) := fun p hp => by
    rcases List.mem_append.mp hp with hp | hp
    · exact .inl (c p hp)
    · exact .inr (s p hp)
  refine ⟨fun p hp => ?_, fun p hp => ?_, fun p hp => ?_, fun p hp => ?_, fun p q hp hq e => ?_, fun p hp => ?_⟩
  · rcases all p hp with (rfl | rfl | rfl) | ⟨a, a1, a2, ⟨rfl, g⟩ | ⟨rfl, g⟩ | ⟨rfl, g⟩⟩ <;> exact nm_of (by dsimp only; decide +kernel)
  · rcases all p hp with (rfl | rfl | rfl) | ⟨a, a1, a2, ⟨rfl, g⟩ | ⟨rfl, g⟩ | ⟨rfl, g⟩⟩ <;> first | decide | exact Nat.le_trans a2 (by decide)
  · rcases all p hp with (rfl | rfl | rfl) | ⟨a, a1, a2, ⟨rfl, g⟩ | ⟨rfl, g⟩ | ⟨rfl, g⟩⟩ <;> (dsimp only; decide)
  · rcases all p hp with (rfl | rfl | rfl) | ⟨a, a1, a2, ⟨rfl, g⟩ | ⟨rfl, g⟩ | ⟨rfl, g⟩⟩
    · show envS as "e" = some 2
      unfold envS
      rw [if_neg (by decide +kernel), if_neg (by decide +kernel), if_neg (by decide +kernel)]
      decide +kernel
    · show envS as "p" = some 1
      unfold envS
      rw [if_neg (by decide +kernel), if_neg (by decide +kernel), if_neg (by decide +kernel)]
      decide +kernel
    · show envS as "q" = some 0
      unfold envS
      rw [if_neg (by decide +kernel), if_neg (by decide +kernel), if_neg (by decide +kernel)]
      decide +kernel
    · show envS as "r" = some a
      unfold envS
      rw [if_pos rfl]; exact g
    · show envS as "s" = some a
      unfold envS
      rw [if_neg (by decide +kernel), if_pos rfl]; exact g
    · show envS as "t" = some a
      unfold envS
      rw [if_neg (by decide +kernel), if_neg (by decide +kernel), if_pos rfl]; exact g
  · rcases all p hp with (rfl | rfl | rfl) | ⟨a, a1, a2, ⟨rfl, g⟩ | ⟨rfl, g⟩ | ⟨rfl, g⟩⟩ <;> rcases all q hq with (rfl | rfl | rfl) | ⟨b, b1, b2, ⟨rfl, g'⟩ | ⟨rfl, g'⟩ | ⟨rfl, g'⟩⟩ <;> first | rfl | exact absurd e (by dsimp only; decide +kernel) | (rw [g] at g'; cases g'; rfl)
  · rcases all p hp with (rfl | rfl | rfl) | ⟨a, a1, a2, ⟨rfl, g⟩ | ⟨rfl, g⟩ | ⟨rfl, g⟩⟩ <;> (dsimp only; decide +kernel)
/-- what the bodies know -/
def NS (as : List Nat) : List NE := (("e" : Str), 2, 0) :: signs as
theorem NS_sub {as : List Nat} : ∀ p, p ∈ NS as → p ∈ namesL ++ signs as := fun p hp => by
  rcases List.mem_cons.mp hp with rfl | hp
  · exact List.mem_append_left _ (List.mem_cons_self ..)
  · exact List.mem_append_right _ hp
theorem NS_ok {as : List Nat} (h : Ars as) : NOk (NS as) (envS as) := (all_ok h).sub NS_sub
theorem tk_ok {as : List Nat} (h : Ars as) (j : Nat) : NOk (namesL.take j ++ signs as) (envS as) := (all_ok h).sub fun p hp => by
  rcases List.mem_append.mp hp with hp | hp
  · exact List.mem_append_left _ (List.mem_of_mem_take hp)
  · exact List.mem_append_right _ hp
theorem NS_tk {as : List Nat} {j : Nat} (hj : 1 ≤ j) : ∀ p, p ∈ NS as → p ∈ namesL.take j ++ signs as := fun p hp => by
  rcases List.mem_cons.mp hp with rfl | hp
  · refine List.mem_append_left _ ?_
    obtain ⟨k, rfl⟩ : ∃ k, j = k + 1 := ⟨j - 1, by omega⟩
    exact List.mem_cons_self ..
  · exact List.mem_append_right _ hp
theorem Gen.sub {pool pool' : List Str} {ns ns' : List NE} {Γ : ArE} {f : Fm} {n : Nat} (g : Gen pool ns Γ f n) (hp : ∀ x, x ∈ pool → x ∈ pool') (hn : ∀ p, p ∈ ns' → p ∈ ns) : Gen pool' ns' Γ f n :=
  ⟨g.ok, g.ty, g.po, fun p hp' => g.md p (hn p hp'), g.dep, g.cnt, fun x hx => hp x (g.oc.vs x hx), g.oc.rs⟩
/-- what becomes a definition's body -/
structure Bd (us : List Str) (as : List Nat) (f : Fm) (n : Nat) : Prop where
  g : Gen (us ++ [("w" : Str)]) (NS as) (envS as) f n
  fr : ∀ x, x ∈ f.frees → x ∈ us
theorem Bd.mono {us : List Str} {as : List Nat} {f : Fm} {n m : Nat} (b : Bd us as f n) (h : n ≤ m) : Bd us as f m := ⟨b.g.mono h, b.fr⟩
theorem Bd.of {us : List Str} {as : List Nat} {f : Fm} {n j : Nat} (hj : 1 ≤ j) (g : Gen us (namesL.take j ++ signs as) (envS as) f n) : Bd us as f n :=
  ⟨g.sub (fun x hx => List.mem_append_left _ hx) (NS_tk hj), fun x hx => g.oc.vs x (frees_vars f x hx)⟩
theorem ownW : OwnOk ["w"] := ⟨by decide, by decide, fun x hx => by rw [List.mem_singleton.mp hx]; exact nm_of (by decide +kernel), by decide +kernel⟩
theorem Bd.some {us : List Str} {as : List Nat} {f : Fm} {n j : Nat} (hj : 1 ≤ j) (g : Gen (us ++ [("w" : Str)]) (namesL.take j ++ signs as) (envS as) f n) : Bd us as (.mk (.ex ["w"]) [f]) (n + 1) := by
  refine ⟨.quant (.inl rfl) ownW (fun x hx => List.mem_append_right _ hx) (g.sub (fun x hx => hx) (NS_tk hj)), fun x hx => ?_⟩
  rcases Fm.frees_mem.mp hx with ⟨h, hh, hx, no⟩ | ha
  · rw [List.mem_singleton.mp hh] at hx
    rcases List.mem_append.mp (g.oc.vs x (frees_vars f x hx)) with h1 | h1
    · exact h1
    · exact absurd h1 no
  · cases ha
theorem Bd.con {us : List Str} {as : List Nat} {h : Hd} {ps : List Fm} {n : Nat} (c : h = .con ∨ h = .dis) (hg : ∀ g, g ∈ ps → Bd us as g n) (len : ps.length ≤ 3) : Bd us as (.mk h ps) (n + 1) := by
  refine ⟨.con c (fun g hp => (hg g hp).g) len, fun x hx => ?_⟩
  rcases Fm.frees_mem.mp hx with ⟨g, hh, hx, _⟩ | ha
  · exact (hg g hh).fr x hx
  · rcases c with rfl | rfl <;> cases ha
theorem Bd.rel {us : List Str} {as : List Nat} {p : NE} {vs : List Str} (h : Ars as) (nu : Names us) (hp : p ∈ NS as) (len : vs.length = p.2.1) (hv : ∀ x, x ∈ vs → x ∈ us) : Bd us as (.mk (.rel p.1 vs) []) 1 := by
  refine ⟨.rel (NS_ok h) hp ?_ len (fun x hx => nu x (hv x hx)) fun x hx => List.mem_append_left _ (hv x hx), fun x hx => ?_⟩
  · rcases List.mem_cons.mp hp with rfl | hp
    · exact (by decide : (0 : Nat) < 2)
    · obtain ⟨k, _, _, _, h3⟩ := signs_mem h hp
      rw [h3]; decide
  · rcases Fm.frees_mem.mp hx with ⟨g, hh, hx, _⟩ | ha
    · cases hh
    · exact hv x ha
/-- a system of the law under making -/
structure Mkg (as : List Nat) (ds : List Dfn) : Prop where
  n : ∀ (i : Nat) (d : Dfn), ds[i]? = Option.some d → sgN[i]? = Option.some d.nm ∧ as[i]? = Option.some d.vs.length ∧ OwnOk d.vs ∧ Bd d.vs as d.b 5
  xyz : ∀ d, d ∈ ds → ∀ x, x ∈ d.vs → x ∈ (["x", "y", "z"] : List Str)
theorem Bd.ok {us : List Str} {as : List Nat} {f : Fm} (b : Bd us as f 5) : f.Wf := by
  have c := b.g.cnt
  have d := b.g.dep
  have e2 : (3 : Nat) ^ 5 = 243 := by decide
  exact ⟨b.g.ok, by omega, by omega, b.g.po, envS as, b.g.ty⟩
theorem Mkg.sys {as : List Nat} {ds : List Dfn} (h : Ars as) (m : Mkg as ds) (l : ds.length = as.length) (one : 1 ≤ as.length) : SysOk ds ∧ ∀ d, d ∈ ds → Fr20 d.b := by
  have l3 := h.len
  have at_ : ∀ d, d ∈ ds → ∃ i, ds[i]? = Option.some d := fun d hd => List.getElem?_of_mem hd
  have nmOf : ∀ d, d ∈ ds → (d.nm, d.vs.length, 1) ∈ signs as := fun d hd => by
    obtain ⟨i, hi⟩ := at_ d hd
    obtain ⟨h1, h2, _⟩ := m.n i d hi
    refine List.mem_of_getElem? (i := i) ?_
    unfold signs
    rw [List.getElem?_zipWith, h1, h2]
  have okd : ∀ d, d ∈ ds → d.Ok := fun d hd => by
    obtain ⟨i, hi⟩ := at_ d hd
    obtain ⟨h1, h2, o, b⟩ := m.n i d hi
    exact ⟨(all_ok h).nm _ (List.mem_append_right _ (nmOf d hd)), o, b.ok, b.fr⟩
  refine ⟨⟨by omega, by omega, okd, ?_, ⟨envS as, fun d hd => ?_⟩, fun d hd e he => ?_⟩, fun d hd => ?_⟩
  · have e : ds.map Dfn.nm = sgN.take ds.length := by
      apply List.ext_getElem?
      intro i
      rw [List.getElem?_map, List.getElem?_take]
      by_cases lt : i < ds.length
      · rw [if_pos lt, List.getElem?_eq_getElem lt]
        exact (m.n i _ (List.getElem?_eq_getElem lt)).1.symm
      · rw [if_neg lt, List.getElem?_eq_none (by omega)]; rfl
    rw [e]
    exact (List.take_sublist _ _).nodup (by decide +kernel)
  · obtain ⟨i, hi⟩ := at_ d hd
    obtain ⟨h1, h2, o, b⟩ := m.n i d hi
    exact ⟨(all_ok h).fit _ (List.mem_append_right _ (nmOf d hd)), typed_sym d.b _ b.g.ty⟩
  · obtain ⟨i, hi⟩ := at_ d hd
    obtain ⟨h1, h2, o, b⟩ := m.n i d hi
    exact b.g.md _ (List.mem_cons_of_mem _ (nmOf e he)) 1 rfl
  · obtain ⟨i, hi⟩ := at_ d hd
    obtain ⟨h1, h2, o, b⟩ := m.n i d hi
    have o6 : d.vs.length ≤ 6 := o.2.1
    exact Occ.fr d.b b.g.oc (by rw [List.length_append]; show d.vs.length + 1 ≤ 40; omega)
/-! ### the law of k07: what it spoils -/
theorem nmB_of {z : Str} (h : Nm z) : nmB z = true := by
  unfold nmB
  simp only [Bool.and_eq_true, decide_eq_true_eq, Bool.not_eq_true', List.all_eq_true]
  refine ⟨⟨⟨⟨h.lo, h.hi⟩, ?_⟩, h.res⟩, fun c hc => h.all_ c hc⟩
  cases e : z.cps.toList[0]? with
  | none => rfl
  | some c => exact decide_eq_true (h.first c e)
theorem not_nm {z : Str} (h : nmB z = false) : ¬ Nm z := fun n => by rw [nmB_of n] at h; cases h
/-- no name -/
def NoNm (t : PyData) : Prop := ∀ z, t = .str z → ¬ Nm z
theorem nonm_str {z : Str} (h : nmB z = false) : NoNm (.str z) := fun y e => by
  injection e with e
  rw [← e]; exact not_nm h
theorem good_non : good .none = true := by rw [good]; all_goals (intros; contradiction)
def spBadName (K : PySem.W.Frag) : Sp := fun vs H Q _ => ∃ (d l : Addr), vs = [.ref d] ∧ DrA H d l ∧ ∀ (H' : Hp) (v : V) (t : PyData), DrA H' d l → Kp d H H' → Dp K H' v t → Ord t → good t = true → NoNm t → Q v H'
section
variable {P : Program} {w : World} {K : PySem.W.Frag} {mg : Str → Option Value} {base : Heap}
/-- what is never as many names as as -/
def NoVars (t : PyData) (n : Nat) : Prop := ∀ bs : List Str, t = tS bs → Names bs → bs.length ≠ n
def spBadList (K : PySem.W.Frag) : Sp := fun vs H Q _ => ∃ (d l : Addr) (v : V) (as : List Str), vs = [.ref d, v] ∧ DrA H d l ∧ Dp K H v (tS as) ∧ Names as ∧ as.length ≤ 8 ∧ ∀ (H' : Hp) (r : V) (t : PyData), DrA H' d l → Kp d H H' → Dp K H' r t → Ord t → good t = true → NoVars t as.length → Q r H'
theorem and_no2 {k : Bool} {A B : Prop} (h : k = true → B → A) (b : B) : if k = true then A else B := by
  cases k with
  | true => exact h rfl b
  | false => exact b
theorem strs_eq {a b : List Str} (h : a.map PyData.str = b.map PyData.str) : a = b := by
  have e := congrArg (List.map fun t : PyData => match t with | .str z => z | _ => "") h
  rw [List.map_map, List.map_map] at e
  have id_ : ∀ l : List Str, l.map ((fun t : PyData => match t with | .str z => z | _ => "") ∘ PyData.str) = l := fun l => by
    have f : ((fun t : PyData => match t with | .str z => z | _ => ("" : Str)) ∘ PyData.str) = id := rfl
    rw [f, List.map_id]
  rw [id_, id_] at e
  exact e
theorem tS_eq {a b : List Str} (h : tS a = tS b) : a = b := by
  unfold tS at h
  injection h with h
  exact strs_eq h
theorem cat_use {H : Hp} {a b : Addr} {xs ys : List V} {Q : VK} (hx : SqT K H a xs) (hy : SqT K H b ys) (n : xs.length + ys.length ≤ sizeLine) (q : ∀ (H' : Hp) (r : Addr), Same H H' → SqT K H' r (xs ++ ys) → Q (.ref r) H') : rCatA K (.ref a) (.ref b) H Q :=
  ⟨a, b, xs, ys, rfl, rfl, hx, hy, n, fun e => q H b (.refl H) (by rw [e]; exact hy), fun _ e => q H a (.refl H) (by rw [e, List.append_nil]; exact hx), fun _ _ p np => q _ p (same_upd np) (SqT.of upd_same)⟩
theorem cut_all {xs : List V} {lo hi : Option Int} (h : HT.sIx xs.length 0 lo = 0 ∧ HT.sIx xs.length xs.length hi = xs.length) : cutV xs lo hi = xs := by
  unfold cutV
  rw [h.1, h.2, List.drop_zero, Nat.sub_zero]
  exact List.take_length
theorem sl_use {H : Hp} {a : Addr} {xs : List V} {lo hi : Option Int} {Q : VK} (hx : SqT K H a xs) (q : ∀ (H' : Hp) (r : Addr), Same H H' → SqT K H' r (cutV xs lo hi) → Q (.ref r) H') : rSlA K (.ref a) lo hi H Q :=
  ⟨a, xs, rfl, hx, fun e => q H a (.refl H) (by rw [cut_all e]; exact hx), fun _ p np => q _ p (same_upd np) (SqT.of upd_same)⟩
theorem cut_init (xs : List V) : cutV xs none (some ((xs.length : Int) - 1)) = xs.dropLast := by
  rcases List.eq_nil_or_concat xs with rfl | ⟨l, c, rfl⟩
  · rfl
  · have e : (((l ++ [c]).length : Nat) : Int) - 1 = ((l.length : Nat) : Int) := by rw [List.length_append]; show ((l.length + 1 : Nat) : Int) - 1 = _; omega
    rw [List.concat_eq_append, e]
    unfold cutV
    rw [HT.sIx_nat, List.dropLast_concat]
    show (List.drop 0 (l ++ [c])).take (min l.length (l ++ [c]).length - 0) = l
    rw [List.drop_zero, List.length_append, Nat.min_eq_left (Nat.le_add_right _ _), Nat.sub_zero, List.take_left]
theorem cut_tail (xs : List V) : cutV xs (some 1) none = xs.drop 1 := by
  unfold cutV
  have e : HT.sIx xs.length 0 (some ((1 : Nat) : Int)) = min 1 xs.length := HT.sIx_nat ..
  show ((xs.drop (HT.sIx xs.length 0 (some ((1 : Nat) : Int)))).take (xs.length - HT.sIx xs.length 0 (some ((1 : Nat) : Int)))) = _
  rw [e]
  cases xs with
  | nil => rfl
  | cons x xs =>
    have e1 : min 1 (x :: xs).length = 1 := Nat.min_eq_left (Nat.succ_le_succ (Nat.zero_le _))
    rw [e1]
    exact List.take_of_length_le (by rw [List.length_drop]; exact Nat.le_refl _)
theorem dp_strs {H : Hp} {a : Addr} {as : List Str} (h : SqT K H a (as.map V.str)) : Dp K H (.ref a) (tS as) := tS_of h
theorem ord_names {as : List Str} (h : Names as) (l : as.length ≤ 100) : Ord (tS as) := .tup (by rw [List.length_map]; omega) fun t ht => by
  obtain ⟨z, hz, rfl⟩ := List.mem_map.mp ht
  exact .str (h z hz).short
end

/-! ### data of formulas: one formula each; it may be asked about -/
theorem word_inj : ∀ a b : Kd, a.word = b.word → a = b := by
  intro a b
  cases a <;> cases b <;> decide +kernel
theorem hd_inj {h k : Hd} {ds es : List PyData} (e : h.data ds = k.data es) (f : h.fits ds.length) (g : k.fits es.length) : h = k ∧ ds = es := by
  unfold Hd.data at e
  injection e with e
  injection e with e1 e2
  injection e1 with e1
  have ek := word_inj _ _ e1
  have zero : ∀ l : List PyData, l.length = 0 → l = [] := fun l => List.eq_nil_of_length_eq_zero
  cases h with
  | rel n as =>
    cases k with
    | rel m bs =>
      simp only [Hd.rest, List.cons.injEq, PyData.str.injEq, and_true] at e2
      rw [e2.1, tS_eq e2.2, zero ds (f 0 rfl), zero es (g 0 rfl)]
      exact ⟨rfl, rfl⟩
    | _ => cases ek
  | eq x y =>
    cases k with
    | eq a b =>
      simp only [Hd.rest, List.cons.injEq, PyData.str.injEq, and_true] at e2
      rw [e2.1, e2.2, zero ds (f 0 rfl), zero es (g 0 rfl)]
      exact ⟨rfl, rfl⟩
    | _ => cases ek
  | less x y =>
    cases k with
    | less a b =>
      simp only [Hd.rest, List.cons.injEq, PyData.str.injEq, and_true] at e2
      rw [e2.1, e2.2, zero ds (f 0 rfl), zero es (g 0 rfl)]
      exact ⟨rfl, rfl⟩
    | _ => cases ek
  | no => cases k with
    | no => exact ⟨rfl, e2⟩
    | _ => cases ek
  | con => cases k with
    | con =>
      simp only [Hd.rest, List.cons.injEq, PyData.tuple.injEq, and_true] at e2
      exact ⟨rfl, e2⟩
    | _ => cases ek
  | dis => cases k with
    | dis =>
      simp only [Hd.rest, List.cons.injEq, PyData.tuple.injEq, and_true] at e2
      exact ⟨rfl, e2⟩
    | _ => cases ek
  | ex vs => cases k with
    | ex us =>
      simp only [Hd.rest, List.cons.injEq] at e2
      rw [tS_eq e2.1]
      exact ⟨rfl, e2.2⟩
    | _ => cases ek
  | al vs => cases k with
    | al us =>
      simp only [Hd.rest, List.cons.injEq] at e2
      rw [tS_eq e2.1]
      exact ⟨rfl, e2.2⟩
    | _ => cases ek
  | lfp n vs as => cases k with
    | lfp m us bs =>
      simp only [Hd.rest, List.cons.injEq, PyData.str.injEq] at e2
      obtain ⟨x1, x2, x3⟩ := e2
      obtain ⟨y1, y2⟩ := List.append_inj' x3 rfl
      rw [x1, tS_eq x2, tS_eq (List.cons.inj y2).1]
      exact ⟨rfl, y1⟩
    | _ => cases ek
  | pfp n vs as => cases k with
    | pfp m us bs =>
      simp only [Hd.rest, List.cons.injEq, PyData.str.injEq] at e2
      obtain ⟨x1, x2, x3⟩ := e2
      obtain ⟨y1, y2⟩ := List.append_inj' x3 rfl
      rw [x1, tS_eq x2, tS_eq (List.cons.inj y2).1]
      exact ⟨rfl, y1⟩
    | _ => cases ek
  | tc vs as => cases k with
    | tc us bs =>
      simp only [Hd.rest, List.cons.injEq] at e2
      obtain ⟨x2, x3⟩ := e2
      obtain ⟨y1, y2⟩ := List.append_inj' x3 rfl
      rw [tS_eq x2, tS_eq (List.cons.inj y2).1]
      exact ⟨rfl, y1⟩
    | _ => cases ek
  | gs n j => cases k with
    | gs m i =>
      simp only [Hd.rest, List.cons.injEq, PyData.str.injEq, PyData.int.injEq] at e2
      obtain ⟨x1, x2, x3⟩ := e2
      have : j = i := by omega
      rw [x1, this]
      exact ⟨rfl, x3⟩
    | _ => cases ek
theorem data_inj : ∀ f : Fm, ∀ g : Fm, f.Ok → g.Ok → f.data = g.data → f = g := Fm.ind fun h ps ih g ok ok2 e => by
  obtain ⟨k, qs⟩ := g
  rw [Fm.data_mk, Fm.data_mk] at e
  obtain ⟨rfl, e2⟩ := hd_inj e (by rw [List.length_map]; exact ok.hd_.fits) (by rw [List.length_map]; exact ok2.hd_.fits)
  have eq : ps = qs := List.ext_getElem? fun i => by
    have e3 := congrArg (fun l => l[i]?) e2
    simp only [List.getElem?_map] at e3
    cases hp : ps[i]? with
    | none =>
      rw [hp] at e3
      cases hq : qs[i]? with
      | none => rfl
      | some q => rw [hq] at e3; cases e3
    | some p =>
      rw [hp] at e3
      cases hq : qs[i]? with
      | none => rw [hq] at e3; cases e3
      | some q =>
        rw [hq] at e3
        have e4 : p.data = q.data := Option.some.inj e3
        rw [ih p (List.mem_of_getElem? hp) q (ok.part (List.mem_of_getElem? hp)) (ok2.part (List.mem_of_getElem? hq)) e4]
  rw [eq]
theorem ord_word (k : Kd) : Ord (.str k.word) := .str (by cases k <;> decide +kernel)
theorem ord_cons {t : PyData} {ts : List PyData} {n : Nat} (a : Ord t) (l : ts.length ≤ n) (n1 : n + 1 ≤ 100000) (b : ∀ u, u ∈ ts → Ord u) : (t :: ts).length ≤ n + 1 ∧ ∀ u, u ∈ t :: ts → Ord u :=
  ⟨Nat.succ_le_succ l, fun u hu => (List.mem_cons.mp hu).elim (fun e => e ▸ a) (b u)⟩
theorem hd_few {h : Hd} {n : Nat} (k : h.Ok n) : n ≤ 40 := by
  cases h with
  | rel m as => have := k.2.2.2; omega
  | eq x y => have := k.2.2; omega
  | less x y => have := k.2.2; omega
  | no => have : n = 1 := k; omega
  | con => exact k
  | dis => exact k
  | ex vs => have := k.2; omega
  | al vs => have := k.2; omega
  | lfp m vs as => have := k.2.2.2.2; omega
  | pfp m vs as => have := k.2.2.2.2; omega
  | tc vs as => have := k.2.2.2.2.2; omega
  | gs m j => have := k.2.2; omega
theorem ord_tupN {ts : List PyData} (l : ts.length ≤ 1000) (b : ∀ u, u ∈ ts → Ord u) : Ord (.tuple ts) := .tup (by omega) b
theorem own_ord {vs : List Str} (o : OwnOk vs) : Ord (tS vs) := by
  obtain ⟨o1, o6, on, od⟩ := o
  exact ord_names on (by omega)
theorem nm_ord {z : Str} (h : Nm z) : Ord (.str z) := .str h.short
theorem hd_ord {h : Hd} {ds : List PyData} (k : h.Ok ds.length) (o : ∀ d, d ∈ ds → Ord d) : Ord (h.data ds) := by
  have few := hd_few k
  have w := ord_word h.kd
  unfold Hd.data
  have two : ∀ {a : PyData}, Ord a → Ord (.tuple (.str h.word :: a :: ds)) := fun {a} oa => ord_tupN (by rw [List.length_cons, List.length_cons]; omega) fun u hu => by
    rcases List.mem_cons.mp hu with rfl | hu
    · exact w
    · rcases List.mem_cons.mp hu with rfl | hu
      · exact oa
      · exact o u hu
  cases h with
  | rel n as =>
    refine ord_tupN (by show 3 ≤ 1000; decide) fun u hu => ?_
    rcases (show u = .str _ ∨ u = .str n ∨ u = tS as by simpa [Hd.rest] using hu) with rfl | rfl | rfl
    · exact w
    · exact nm_ord k.1
    · exact ord_names k.2.2.1 (by have := k.2.1; omega)
  | eq x y =>
    refine ord_tupN (by show 3 ≤ 1000; decide) fun u hu => ?_
    rcases (show u = .str _ ∨ u = .str x ∨ u = .str y by simpa [Hd.rest] using hu) with rfl | rfl | rfl
    · exact w
    · exact nm_ord k.1
    · exact nm_ord k.2.1
  | less x y =>
    refine ord_tupN (by show 3 ≤ 1000; decide) fun u hu => ?_
    rcases (show u = .str _ ∨ u = .str x ∨ u = .str y by simpa [Hd.rest] using hu) with rfl | rfl | rfl
    · exact w
    · exact nm_ord k.1
    · exact nm_ord k.2.1
  | no => exact ord_tupN (by show ds.length + 1 ≤ 1000; omega) fun u hu => (List.mem_cons.mp hu).elim (fun e => e ▸ w) (o u)
  | con =>
    refine ord_tupN (by show 2 ≤ 1000; decide) fun u hu => ?_
    rcases (show u = .str _ ∨ u = .tuple ds by simpa [Hd.rest] using hu) with rfl | rfl
    · exact w
    · exact ord_tupN (by omega) o
  | dis =>
    refine ord_tupN (by show 2 ≤ 1000; decide) fun u hu => ?_
    rcases (show u = .str _ ∨ u = .tuple ds by simpa [Hd.rest] using hu) with rfl | rfl
    · exact w
    · exact ord_tupN (by omega) o
  | ex vs => exact two (own_ord k.1)
  | al vs => exact two (own_ord k.1)
  | lfp n vs as =>
    refine ord_tupN (by simp only [Hd.rest, List.length_cons, List.length_append, List.length_nil]; omega) fun u hu => ?_
    rcases (show u = .str _ ∨ u = .str n ∨ u = tS vs ∨ u ∈ ds ∨ u = tS as by simpa [Hd.rest] using hu) with rfl | rfl | rfl | hu | rfl
    · exact w
    · exact nm_ord k.1
    · exact own_ord k.2.1
    · exact o u hu
    · exact ord_names k.2.2.2.1 (by have := k.2.2.1; have := k.2.1.2.1; omega)
  | pfp n vs as =>
    refine ord_tupN (by simp only [Hd.rest, List.length_cons, List.length_append, List.length_nil]; omega) fun u hu => ?_
    rcases (show u = .str _ ∨ u = .str n ∨ u = tS vs ∨ u ∈ ds ∨ u = tS as by simpa [Hd.rest] using hu) with rfl | rfl | rfl | hu | rfl
    · exact w
    · exact nm_ord k.1
    · exact own_ord k.2.1
    · exact o u hu
    · exact ord_names k.2.2.2.1 (by have := k.2.2.1; have := k.2.1.2.1; omega)
  | tc vs as =>
    refine ord_tupN (by simp only [Hd.rest, List.length_cons, List.length_append, List.length_nil]; omega) fun u hu => ?_
    rcases (show u = .str _ ∨ u = tS vs ∨ u ∈ ds ∨ u = tS as by simpa [Hd.rest] using hu) with rfl | rfl | hu | rfl
    · exact w
    · exact ord_names k.2.1 (by have := k.1; omega)
    · exact o u hu
    · exact ord_names k.2.2.2.2.1 (by have := k.1; have := k.2.2.2.1; omega)
  | gs n j =>
    refine ord_tupN (by simp only [Hd.rest, List.length_cons]; omega) fun u hu => ?_
    rcases (show u = .str _ ∨ u = .str n ∨ u = .int (j : Nat) ∨ u ∈ ds by simpa [Hd.rest] using hu) with rfl | rfl | rfl | hu
    · exact w
    · exact nm_ord k.1
    · exact .int _
    · exact o u hu
theorem raw_fm : ∀ f : Fm, f.Ok → Raw f.data := Fm.ind fun h ps ih ok => by
  rw [Fm.data_mk]
  have fit : h.Ok (ps.map Fm.data).length := by rw [List.length_map]; exact ok.hd_
  have kids : ∀ d, d ∈ ps.map Fm.data → Raw d := fun d hd => by
    obtain ⟨p, hp, rfl⟩ := List.mem_map.mp hd
    exact ih p hp (ok.part hp)
  refine .mk (hd_ord fit fun d hd => by cases kids d hd; assumption) (fun w ds e => ?_) fun k es e ke p hp => ?_
  · unfold Hd.data at e
    injection e with e
    injection e with e1 e2
    injection e1 with e1
    rw [← e1]
    refine List.mem_append_left _ ?_
    show h.kd.word ∈ words12
    generalize h.kd = k
    cases k <;> decide +kernel
  · obtain ⟨rfl, rfl⟩ := hd_inj e fit.fits ke.fits
    exact kids p hp
/-- what is the data of a formula that is not right is the data of none that is -/
theorem not_wf {f : Fm} (ok : f.Ok) (n : ¬ f.Wf) : ∀ g : Fm, g.Wf → f.data ≠ g.data := fun g wg e => n (by rw [data_inj f g ok wg.ok e]; exact wg)

/-! ### data that is made: what an expression makes, draws among it -/
structure Gd (t : PyData) : Prop where
  g : good t = true
  o : Ord t
def Is (t u : PyData) : Prop := u = t
def TupR (m : Nat) (R : List PyData → Prop) (t : PyData) : Prop := ∃ ts, t = .tuple ts ∧ ts.length ≤ m ∧ R ts
def LstR (m : Nat) (R : List PyData → Prop) (t : PyData) : Prop := ∃ ts, t = .list ts ∧ ts.length ≤ m ∧ R ts
def Iss (ts us : List PyData) : Prop := us = ts
def ConsR (R : PyData → Prop) (S : List PyData → Prop) (ts : List PyData) : Prop := ∃ t us, ts = t :: us ∧ R t ∧ S us
def AppR (R S : List PyData → Prop) (ts : List PyData) : Prop := ∃ us ws, ts = us ++ ws ∧ R us ∧ S ws
def cutD (ts : List PyData) (lo hi : Option Int) : List PyData := (ts.drop (HT.sIx ts.length 0 lo)).take (HT.sIx ts.length ts.length hi - HT.sIx ts.length 0 lo)
theorem cutD_len (ts : List PyData) (lo hi : Option Int) : (cutD ts lo hi).length ≤ ts.length := by
  unfold cutD
  rw [List.length_take, List.length_drop]
  omega
theorem DpAll.drop {K : PySem.W.Frag} {H : Hp} : ∀ {n : Nat} {vs : List V} {ts : List PyData}, DpAll K H vs ts → DpAll K H (vs.drop n) (ts.drop n)
  | 0, _, _, h => h
  | _ + 1, _, _, .nil => .nil
  | n + 1, _, _, .cons _ t => DpAll.drop (n := n) t
theorem DpAll.take {K : PySem.W.Frag} {H : Hp} : ∀ {n : Nat} {vs : List V} {ts : List PyData}, DpAll K H vs ts → DpAll K H (vs.take n) (ts.take n)
  | 0, _, _, _ => .nil
  | _ + 1, _, _, .nil => .nil
  | n + 1, _, _, .cons a t => .cons a (DpAll.take (n := n) t)
theorem dp_cut {K : PySem.W.Frag} {H : Hp} {vs : List V} {ts : List PyData} {lo hi : Option Int} (h : DpAll K H vs ts) : DpAll K H (cutV vs lo hi) (cutD ts lo hi) := by
  unfold cutV cutD
  rw [DpAll.length h]
  exact DpAll.take (DpAll.drop h)
theorem goods_mem : ∀ {ts : List PyData}, goods ts = true → ∀ t, t ∈ ts → good t = true
  | [], _, t, h => nomatch h
  | u :: ts, g, t, h => by
    rw [goods_cons] at g
    have g2 := Bool.and_eq_true_iff.mp g
    rcases List.mem_cons.mp h with rfl | h
    · exact g2.1
    · exact goods_mem g2.2 t h
theorem Gd.str {z : Str} (h : z.length ≤ sizeLine) : Gd (.str z) := ⟨good_str, .str h⟩
theorem Gd.int {z : Int} : Gd (.int z) := ⟨good_int, .int z⟩
theorem Gd.non : Gd .none := ⟨by rw [good]; all_goals (intros; contradiction), .non⟩
theorem Gd.bl {b : Bool} : Gd (.bool b) := ⟨by rw [good]; all_goals (intros; contradiction), .bl b⟩
theorem Gd.tup {ts : List PyData} (l : ts.length ≤ 100000) (h : ∀ t, t ∈ ts → Gd t) : Gd (.tuple ts) := ⟨good_tup (goods_all fun t ht => (h t ht).g), .tup l fun t ht => (h t ht).o⟩
theorem Gd.lst {ts : List PyData} (l : ts.length ≤ 100000) (i : int1 ts = true) (h : ∀ t, t ∈ ts → Gd t) : Gd (.list ts) :=
  ⟨by rw [good, i, goods_all fun t ht => (h t ht).g]; rfl, .lst l fun t ht => (h t ht).o⟩
theorem Gd.mem {ts : List PyData} (h : Gd (.tuple ts)) : ∀ t, t ∈ ts → Gd t := fun t ht => ⟨goods_mem (by have := h.g; rw [good] at this; exact this) t ht, by cases h.o with | tup _ o => exact o t ht⟩
theorem Gd.tS {as : List Str} (h : Names as) (l : as.length ≤ 100) : Gd (tS as) := ⟨good_tS as, by
  refine .tup (by rw [List.length_map]; omega) fun t ht => ?_
  obtain ⟨z, hz, rfl⟩ := List.mem_map.mp ht
  exact .str (h z hz).short⟩
section
variable {K : PySem.W.Frag} {d l : Addr} {H0 : Hp} {σ : L2.St}
def MkE (K : PySem.W.Frag) (d l : Addr) (H0 : Hp) (σ : L2.St) (te : TE) (R : PyData → Prop) : Prop :=
  ∀ H : Hp, DrA H d l → Kp d H0 H → ∀ Q : VK, (∀ (H' : Hp) (v : V) (t : PyData), DrA H' d l → Kp d H H' → Dp K H' v t → Gd t → R t → Q v H') → te σ H Q
def MkA (K : PySem.W.Frag) (d l : Addr) (H0 : Hp) (σ : L2.St) (ta : TA) (n : Nat) (R : List PyData → Prop) : Prop :=
  ∀ H : Hp, DrA H d l → Kp d H0 H → ∀ Q : List V → Hp → Prop, (∀ (H' : Hp) (vs : List V) (ts : List PyData), DrA H' d l → Kp d H H' → DpAll K H' vs ts → (∀ t, t ∈ ts → Gd t) → ts.length = n → R ts → Q vs H') → ta σ H Q
def MkO (d l : Addr) (H0 : Hp) (σ : L2.St) (to : TO) (o : Option Int) : Prop :=
  ∀ H : Hp, DrA H d l → Kp d H0 H → ∀ Q : Option Int → Hp → Prop, (∀ H' : Hp, DrA H' d l → Kp d H H' → Q o H') → to σ H Q
def MkI (d l : Addr) (H0 : Hp) (σ : L2.St) (te : TE) (z : Int) : Prop :=
  ∀ H : Hp, DrA H d l → Kp d H0 H → ∀ Q : VK, (∀ H' : Hp, DrA H' d l → Kp d H H' → Q (.int z) H') → te σ H Q
theorem MkE.go {te : TE} {R : PyData → Prop} {H : Hp} {Q : VK} (h : MkE K d l H0 σ te R) (dr : DrA H d l) (kp : Kp d H0 H) (q : ∀ (H' : Hp) (v : V) (t : PyData), DrA H' d l → Kp d H H' → Dp K H' v t → Gd t → R t → Q v H') : te σ H Q := h H dr kp Q q
theorem DpAll.kpG {H H' : Hp} : ∀ {vs : List V} {ts : List PyData}, DpAll K H vs ts → DrA H d l → (∀ t, t ∈ ts → Gd t) → Kp d H H' → DpAll K H' vs ts
  | _, _, .nil, _, _, _ => .nil
  | _, _, .cons a t, r, g, k => .cons (Dp.kpA a r (g _ (List.mem_cons_self ..)).g k) (DpAll.kpG t r (fun u hu => g u (List.mem_cons_of_mem _ hu)) k)
theorem mk_var {i : Nat} {v : V} {t : PyData} (h : σ[i]? = some (some v)) (dp : Dp K H0 v t) (g : Gd t) (r0 : DrA H0 d l) : MkE K d l H0 σ (tVar i) (Is t) :=
  fun H dr kp Q q => ⟨v, h, q H v t dr (Kp.refl d H) (Dp.kpA dp r0 g.g kp) g rfl⟩
theorem mk_str {z : Str} (h : z.length ≤ sizeLine) : MkE K d l H0 σ (tC (.str z)) (Is (.str z)) := fun H dr _ _ q => q H _ _ dr (Kp.refl d H) (.str z) (.str h) rfl
theorem mk_int {z : Int} : MkE K d l H0 σ (tC (.int z)) (Is (.int z)) := fun H dr _ _ q => q H _ _ dr (Kp.refl d H) (.int z) .int rfl
theorem mk_non : MkE K d l H0 σ (tC .non) (Is .none) := fun H dr _ _ q => q H _ _ dr (Kp.refl d H) .non .non rfl
theorem mk_bl {b : Bool} : MkE K d l H0 σ (tC (.bl b)) (Is (.bool b)) := fun H dr _ _ q => q H _ _ dr (Kp.refl d H) (.bl b) .bl rfl
theorem mk_nil : MkA K d l H0 σ tNil 0 (Iss []) := fun H dr _ _ q => q H [] [] dr (Kp.refl d H) .nil (fun t h => nomatch h) rfl rfl
theorem mk_cons {te : TE} {ta : TA} {n : Nat} {R : PyData → Prop} {S : List PyData → Prop} (h : MkE K d l H0 σ te R) (k : MkA K d l H0 σ ta n S) : MkA K d l H0 σ (tCons te ta) (n + 1) (ConsR R S) := fun H dr kp Q q =>
  h H dr kp _ fun H1 v t dr1 k1 dv g r => k H1 dr1 (kp.trans k1) _ fun H2 vs ts dr2 k2 dvs gs len s =>
    q H2 (v :: vs) (t :: ts) dr2 (k1.trans k2) (.cons (Dp.kpA dv dr1 g.g k2) dvs) (fun u hu => (List.mem_cons.mp hu).elim (fun e => e ▸ g) (gs u)) (congrArg Nat.succ len) ⟨t, ts, rfl, r, s⟩
theorem mk_tup {ta : TA} {n : Nat} {R : List PyData → Prop} (hn : n ≤ 1000) (h : MkA K d l H0 σ ta n R) : MkE K d l H0 σ (tTup ta) (TupR n R) := fun H dr kp Q q =>
  h H dr kp _ fun H1 vs ts dr1 k1 dvs gs len r => ⟨by rw [DpAll.length dvs, len]; exact Nat.le_trans hn (by decide), fun p np =>
    have sp := same_upd (o := .tup vs) np
    q _ (.ref p) (.tuple ts) (dr1.same sp) (k1.trans (.of sp)) (.tup (SqT.of upd_same) (DpAll.same sp dvs)) (.tup (by omega) gs) ⟨ts, rfl, Nat.le_of_eq len, r⟩⟩
theorem mk_lst {ta : TA} {n : Nat} {R : List PyData → Prop} (hn : n ≤ 1000) (hi : ∀ ts, R ts → int1 ts = true) (h : MkA K d l H0 σ ta n R) : MkE K d l H0 σ (tLst ta) (LstR n R) := fun H dr kp Q q =>
  h H dr kp _ fun H1 vs ts dr1 k1 dvs gs len r => ⟨by rw [DpAll.length dvs, len]; exact Nat.le_trans hn (by decide), fun p np =>
    have sp := same_upd (o := .lst vs) np
    q _ (.ref p) (.list ts) (dr1.same sp) (k1.trans (.of sp)) (.lst (SqL.of upd_same) (DpAll.same sp dvs)) (.lst (by omega) (hi ts r) gs) ⟨ts, rfl, Nat.le_of_eq len, r⟩⟩
/-- the items known, the whole known -/
theorem mk_is {te : TE} {ts : List PyData} {m : Nat} (hm : ts.length ≤ m) (h : MkE K d l H0 σ te (Is (.tuple ts))) : MkE K d l H0 σ te (TupR m (Iss ts)) := fun H dr kp Q q =>
  h H dr kp Q fun H1 v t dr1 k1 dv g r => q H1 v t dr1 k1 dv g ⟨ts, r, hm, rfl⟩
theorem mk_ix {te : TE} {ts : List PyData} {u : PyData} {j : Nat} {i : Int} (h : MkE K d l H0 σ te (Is (.tuple ts))) (hi : i = (j : Nat)) (e : ts[j]? = some u) : MkE K d l H0 σ (tOp (rIxT K) te (tC (.int i))) (Is u) := fun H dr kp Q q =>
  h H dr kp _ fun H1 v t dr1 k1 dv g r => by
    cases r
    subst hi
    obtain ⟨a, xs, rfl, hT, hx⟩ := Dp.tup_inv dv
    obtain ⟨w, hw, dw⟩ := DpAll.get hx e
    exact ⟨a, xs, _, w, rfl, rfl, hT, atI_nat hw, q H1 w u dr1 k1 dw (g.mem u (List.mem_of_getElem? e)) rfl⟩
theorem mk_sl {te : TE} {tl th : TO} {ts : List PyData} {lo hi : Option Int} (h : MkE K d l H0 σ te (Is (.tuple ts))) (hl : MkO d l H0 σ tl lo) (hh : MkO d l H0 σ th hi) : MkE K d l H0 σ (tSl (rSlA K) te tl th) (Is (.tuple (cutD ts lo hi))) := fun H dr kp Q q =>
  h H dr kp _ fun H1 v t dr1 k1 dv g r => hl H1 dr1 (kp.trans k1) _ fun H2 dr2 k2 => hh H2 dr2 ((kp.trans k1).trans k2) _ fun H3 dr3 k3 => by
    cases r
    have dv3 := Dp.kpA dv dr1 g.g (k2.trans k3)
    obtain ⟨a, xs, rfl, hT, hx⟩ := Dp.tup_inv dv3
    have gc : Gd (.tuple (cutD ts lo hi)) := .tup (Nat.le_trans (cutD_len ts lo hi) (by cases g.o with | tup l _ => exact l)) fun t ht => g.mem t (by
      unfold cutD at ht
      exact List.mem_of_mem_drop (List.mem_of_mem_take ht))
    have kk := (k1.trans k2).trans k3
    have len := DpAll.length hx
    refine ⟨a, xs, rfl, hT, fun e => ?_, fun _ p np => ?_⟩
    · refine q H3 _ _ dr3 kk ?_ gc rfl
      have e1 : cutD ts lo hi = ts := by
        unfold cutD
        rw [← len, e.1, e.2, List.drop_zero, Nat.sub_zero, len]
        exact List.take_length
      rw [e1]
      exact dv3
    · have sp := same_upd (o := .tup (cutV xs lo hi)) np
      exact q _ _ _ (dr3.same sp) (kk.trans (.of sp)) (.tup (SqT.of upd_same) (DpAll.same sp (dp_cut hx))) gc rfl
theorem mk_cat {ta tb : TE} {m n : Nat} {R S : List PyData → Prop} (ha : MkE K d l H0 σ ta (TupR m R)) (hb : MkE K d l H0 σ tb (TupR n S)) (hmn : m + n ≤ 100000) : MkE K d l H0 σ (tOp (rCatA K) ta tb) (TupR (m + n) (AppR R S)) := fun H dr kp Q q =>
  ha H dr kp _ fun H1 v t dr1 k1 dv g r => hb H1 dr1 (kp.trans k1) _ fun H2 v2 t2 dr2 k2 dv2 g2 r2 => by
    obtain ⟨ts, rfl, lt, hr⟩ := r
    obtain ⟨us, rfl, lu, hs⟩ := r2
    have dv1 := Dp.kpA dv dr1 g.g k2
    obtain ⟨a, xs, rfl, hT, hx⟩ := Dp.tup_inv dv1
    obtain ⟨b, ys, rfl, hT2, hy⟩ := Dp.tup_inv dv2
    have lx := DpAll.length hx
    have ly := DpAll.length hy
    refine cat_use hT hT2 (Nat.le_trans (by omega : xs.length + ys.length ≤ 100000) (by decide)) fun H3 r s3 hr3 => ?_
    refine q H3 _ (.tuple (ts ++ us)) (dr2.same s3) ((k1.trans k2).trans (.of s3)) (.tup hr3 (DpAll.append (DpAll.same s3 hx) (DpAll.same s3 hy))) (.tup (by rw [List.length_append]; omega) fun t ht => ?_) ⟨_, rfl, by rw [List.length_append]; omega, ts, us, rfl, hr, hs⟩
    rcases List.mem_append.mp ht with ht | ht
    · exact g.mem t ht
    · exact g2.mem t ht
theorem mk_rep {te : TE} {u : PyData} {z : Int} {n : Nat} (h : MkE K d l H0 σ te (Is (.tuple [u]))) (hz : z = (n : Nat)) (h1 : 2 ≤ n) (h2 : n ≤ 1000) : MkE K d l H0 σ (tOp (rRepT K) te (tC (.int z))) (Is (.tuple (List.replicate n u))) := fun H dr kp Q q =>
  h H dr kp _ fun H1 v t dr1 k1 dv g r => by
    cases r
    subst hz
    obtain ⟨a, xs, rfl, hT, hx⟩ := Dp.tup_inv dv
    obtain ⟨w, ws, rfl, dw, hx⟩ := DpAll.cons_inv hx
    obtain rfl := DpAll.nil_inv hx
    refine ⟨a, _, [w], rfl, rfl, hT, (fun z => by cases z), by omega, by omega, (by show 1 ≤ 1000; decide), fun p np => ?_⟩
    have e : (List.replicate ((n : Nat) : Int).toNat [w]).flatten = List.replicate n w := by
      rw [Int.toNat_natCast, List.flatten_replicate_singleton]
    rw [e]
    have sp := same_upd (o := .tup (List.replicate n w)) np
    have all : ∀ k : Nat, DpAll K (upd H1 p (.tup (List.replicate n w))) (List.replicate k w) (List.replicate k u) := fun k => by
      induction k with
      | zero => exact .nil
      | succ k ih => exact .cons (Dp.same sp dw) ih
    exact q _ _ _ (dr1.same sp) (k1.trans (.of sp)) (.tup (SqT.of upd_same) (all n)) (.tup (by rw [List.length_replicate]; omega) fun t ht => by
      rw [(List.mem_replicate.mp ht).2]
      exact g.mem u (List.mem_singleton.mpr rfl)) rfl
theorem mk_one {te : TE} {u : PyData} (h : MkE K d l H0 σ te (Is u)) : MkE K d l H0 σ (tTup (tCons te tNil)) (Is (.tuple [u])) := fun H dr kp Q q =>
  mk_tup (by decide) (mk_cons h mk_nil) H dr kp Q fun H1 v t dr1 k1 dv g r => q H1 v t dr1 k1 dv g (by
    obtain ⟨_, rfl, _, _, _, rfl, rfl, rfl⟩ := r
    rfl)
abbrev rLen7 (K : PySem.W.Frag) : List V → Hp → VK → Prop := fun xs H Q => ∃ p ys, xs = [.ref p] ∧ (SqL K H p ys ∨ SqT K H p ys) ∧ Q (.int ys.length) H
abbrev rLst7 (K : PySem.W.Frag) : List V → Hp → VK → Prop := fun xs H Q => ∃ p ys, xs = [.ref p] ∧ (SqL K H p ys ∨ SqT K H p ys) ∧ ∀ l, H l = none → Q (.ref l) (upd H l (.lst ys))
theorem mk_listof {te : TE} {ts : List PyData} (h : MkE K d l H0 σ te (Is (.tuple ts))) (hi : int1 ts = true) : MkE K d l H0 σ (tCB (rLst7 K) (tCons te tNil)) (Is (.list ts)) := fun H dr kp Q q =>
  h H dr kp _ fun H1 v t dr1 k1 dv g r => by
    cases r
    obtain ⟨a, xs, rfl, hT, hx⟩ := Dp.tup_inv dv
    refine ⟨a, xs, rfl, .inr hT, fun p np => ?_⟩
    have sp := same_upd (o := .lst xs) np
    exact q _ _ _ (dr1.same sp) (k1.trans (.of sp)) (.lst (SqL.of upd_same) (DpAll.same sp hx)) (.lst (by cases g.o with | tup l _ => exact l) hi g.mem) rfl
theorem mi_c {z : Int} : MkI d l H0 σ (tC (.int z)) z := fun H dr _ _ q => q H dr (Kp.refl d H)
theorem mi_var {i : Nat} {z : Int} (h : σ[i]? = some (some (.int z))) : MkI d l H0 σ (tVar i) z := fun H dr _ _ q => ⟨_, h, q H dr (Kp.refl d H)⟩
theorem mi_op {g : Int → Int → Int} {ta tb : TE} {x y : Int} (ha : MkI d l H0 σ ta x) (hb : MkI d l H0 σ tb y) : MkI d l H0 σ (tOp (rI0 fun i j => .int (g i j)) ta tb) (g x y) := fun H dr kp Q q =>
  ha H dr kp _ fun H1 dr1 k1 => hb H1 dr1 (kp.trans k1) _ fun H2 dr2 k2 => ⟨x, y, rfl, rfl, q H2 dr2 (k1.trans k2)⟩
theorem mi_len {te : TE} {ts : List PyData} (h : MkE K d l H0 σ te (Is (.tuple ts))) : MkI d l H0 σ (tCB (rLen7 K) (tCons te tNil)) (ts.length : Int) := fun H dr kp Q q =>
  h H dr kp _ fun H1 v t dr1 k1 dv g r => by
    cases r
    obtain ⟨a, xs, rfl, hT, hx⟩ := Dp.tup_inv dv
    refine ⟨a, xs, rfl, .inr hT, ?_⟩
    rw [DpAll.length hx]
    exact q H1 dr1 k1
theorem mo_none : MkO d l H0 σ tNoPart none := fun H dr _ _ q => q H dr (Kp.refl d H)
theorem mo_some {te : TE} {z : Int} (h : MkI d l H0 σ te z) : MkO d l H0 σ (tPart te) (some z) := fun H dr kp Q q => h H dr kp _ fun H1 dr1 k1 => ⟨z, rfl, q H1 dr1 k1⟩
abbrev rMod7 : R2 := rI (fun _ j => 0 < j) fun i j => .int (i % j)
/-- one of written things, drawn -/
theorem mk_pick {ta : TA} {n i : Nat} {z : Int} {S : List PyData → Prop} {E : XK} (h : MkA K d l H0 σ ta n S) (hd : σ[i]? = some (some (.ref d))) (hz : z = (n : Nat)) (h0 : 0 < n) (hn : n ≤ 1000) :
    MkE K d l H0 σ (tOp (rIxL K) (tLst ta) (tOp rMod7 (tCall spDraw [] E (tCons (tVar i) tNil)) (tC (.int z)))) (fun t => ∃ ts, S ts ∧ t ∈ ts) := fun H dr kp Q q =>
  h H dr kp _ fun H1 vs ts dr1 k1 dvs gs len r => ⟨by rw [DpAll.length dvs, len]; exact Nat.le_trans hn (by decide), fun p np => by
    have sp := same_upd (o := .lst vs) np
    refine ⟨_, hd, d, l, rfl, dr1.same sp, fun z1 H2 _ _ dr2 k2 => ?_⟩
    subst hz
    have lv := DpAll.length dvs
    obtain ⟨v, hv, ha⟩ := atI_mod (xs := vs) z1 (by omega)
    rw [lv, len] at ha
    refine ⟨_, _, rfl, rfl, by omega, p, vs, _, v, rfl, rfl, SqL.of (k2 _ _ upd_same (dr1.ne np).1), ha, ?_⟩
    have d2 := DpAll.kpG (DpAll.same sp dvs) (dr1.same sp) gs k2
    obtain ⟨t, ht, dt⟩ := DpAll.inMem d2 hv
    exact q H2 v t dr2 ((k1.trans (.of sp)).trans k2) dt (gs t ht) ⟨ts, r, ht⟩⟩
end
section
variable {K : PySem.W.Frag} {d l : Addr} {H0 : Hp} {σ : L2.St}
theorem mk_imp {te : TE} {R S : PyData → Prop} (e : ∀ t, R t → S t) (h : MkE K d l H0 σ te R) : MkE K d l H0 σ te S := fun H dr kp Q q =>
  h H dr kp Q fun H1 v t dr1 k1 dv g r => q H1 v t dr1 k1 dv g (e t r)
theorem mk_neg {i j : Int} (h : j = -i) : MkE K d l H0 σ (tUn (fun x H Q => ∃ i, x = .int i ∧ Q (.int (-i)) H) (tC (.int i))) (Is (.int j)) := fun H dr _ _ q => ⟨i, rfl, by subst h; exact q H _ _ dr (Kp.refl d H) (.int _) .int rfl⟩
end
section
variable {K : PySem.W.Frag} {d l : Addr} {H0 : Hp} {σ : L2.St}
/-- a draw % what is known -/
theorem mz_draw {i : Nat} {tb : TE} {n : Int} {E : XK} (hd : σ[i]? = some (some (.ref d))) (h : MkI d l H0 σ tb n) (hn : 0 < n) (H : Hp) (dr : DrA H d l) (kp : Kp d H0 H) (Q : VK) (q : ∀ (H' : Hp) (z : Int), DrA H' d l → Kp d H H' → 0 ≤ z → z < n → Q (.int z) H') :
    tOp rMod7 (tCall spDraw [] E (tCons (tVar i) tNil)) tb σ H Q :=
  ⟨_, hd, d, l, rfl, dr, fun z H1 _ _ dr1 k1 => h H1 dr1 (kp.trans k1) _ fun H2 dr2 k2 => ⟨z, n, rfl, rfl, hn, q H2 _ dr2 (k1.trans k2) (Int.emod_nonneg _ (by omega)) (Int.emod_lt_of_pos _ hn)⟩⟩
end
theorem int1_strs (as : List Str) : int1 (as.map PyData.str) = true := by
  cases as with
  | nil => rfl
  | cons a r => cases r <;> rfl
theorem int1_tups {ts : List PyData} (h : ∀ t, t ∈ ts → ∃ us, t = .tuple us) : int1 ts = true := by
  match ts, h with
  | [], _ => rfl
  | [_], _ => rfl
  | a :: b :: r, h =>
    obtain ⟨us, rfl⟩ := h b (List.mem_cons_of_mem _ (List.mem_cons_self ..))
    rfl
section
variable {K : PySem.W.Frag} {d l : Addr} {H0 : Hp} {σ : L2.St}
/-- name = what is made; and so on -/
theorem mk_seq {te : TE} {R : PyData → Prop} {i : Nat} {rest : TS} {D : Ends} {H : Hp} (h : MkE K d l H0 σ te R) (dr : DrA H d l) (kp : Kp d H0 H) (q : ∀ (H' : Hp) (v : V) (t : PyData), DrA H' d l → Kp d H H' → Dp K H' v t → Gd t → R t → rest D (σ.set i (some v)) H') : tSeq (tAsg te (gName i)) rest D σ H := h H dr kp _ q
end
/-! tests and statements over what is made -/
section
variable {K : PySem.W.Frag} {d l : Addr} {H0 : Hp} {σ : L2.St}
def MkT (d l : Addr) (H0 : Hp) (σ : L2.St) (tt : TT) (b : Bool) : Prop :=
  ∀ H : Hp, DrA H d l → Kp d H0 H → ∀ Q : Bool → Hp → Prop, (∀ H' : Hp, DrA H' d l → Kp d H H' → Q b H') → tt σ H Q
/-- one way or the other -/
def MkB (d l : Addr) (H0 : Hp) (σ : L2.St) (tt : TT) : Prop :=
  ∀ H : Hp, DrA H d l → Kp d H0 H → ∀ Q : Bool → Hp → Prop, (∀ (H' : Hp) (b : Bool), DrA H' d l → Kp d H H' → Q b H') → tt σ H Q
theorem mt_eq {te tf : TE} {w z : Str} (h : MkE K d l H0 σ te (Is (.str w))) (k : MkE K d l H0 σ tf (Is (.str z))) : MkT d l H0 σ (tTest (tOp rEq te tf)) (decide (w = z)) := fun H dr kp Q q =>
  h H dr kp _ fun H1 v t dr1 k1 dv g r => k H1 dr1 (kp.trans k1) _ fun H2 u s dr2 k2 du g2 r2 => by
    cases r
    cases r2
    rw [Dp.str_inv dv, Dp.str_inv du]
    have e : decide (V.str w = V.str z) = decide (w = z) := by
      by_cases e : w = z
      · rw [decide_eq_true e, decide_eq_true (congrArg V.str e)]
      · rw [decide_eq_false e, decide_eq_false fun x => e (V.str.inj x)]
    exact ⟨rfl, _, rfl, by rw [e]; exact q H2 dr2 (k1.trans k2)⟩
theorem strs_v {H : Hp} : ∀ {vs : List V} {ws : List Str}, DpAll K H vs (ws.map PyData.str) → vs = ws.map V.str := fun h => DpAll.strs h
theorem inV_strs (w : Str) (ws : List Str) : inV (.str w) (ws.map V.str) = decide (w ∈ ws) := by
  unfold inV
  rw [List.any_map]
  have e : ((fun y => eqV y (V.str w)) ∘ V.str) = fun y => decide (y = w) := by
    funext y
    show eqV (.str y) (.str w) = _
    simp only [eqV]
    rfl
  rw [e]
  by_cases h : w ∈ ws
  · rw [decide_eq_true h]
    exact List.any_eq_true.mpr ⟨w, h, decide_eq_true rfl⟩
  · rw [decide_eq_false h]
    exact List.any_eq_false.mpr fun y hy => by
      rw [decide_eq_true_eq]
      exact fun e => h (e ▸ hy)
theorem mt_in {te : TE} {ta : TA} {w : Str} {ws : List Str} {n : Nat} {R : List PyData → Prop} (h : MkE K d l H0 σ te (Is (.str w))) (k : MkA K d l H0 σ ta n R) (e : ∀ ts, R ts → ts = ws.map PyData.str) (hn : n ≤ 1000) : MkT d l H0 σ (tTest (tOp (rIn K false) te (tLst ta))) (decide (w ∈ ws)) := fun H dr kp Q q =>
  h H dr kp _ fun H1 v t dr1 k1 dv g r => k H1 dr1 (kp.trans k1) _ fun H2 us ts dr2 k2 dus g2 len r2 => by
    cases r
    have e2 := e ts r2
    subst e2
    rw [Dp.str_inv dv]
    have lu := DpAll.length dus
    have eu := strs_v dus
    subst eu
    refine ⟨by rw [lu, len]; exact Nat.le_trans hn (by decide), fun p np => ⟨p, _, rfl, .inl (SqL.of upd_same), rfl, ?_, _, rfl, ?_⟩⟩
    · exact List.all_eq_true.mpr fun x hx => by
        obtain ⟨z, _, rfl⟩ := List.mem_map.mp hx
        rfl
    · have sp := same_upd (o := .lst (ws.map V.str)) np
      show Q (inV (.str w) (ws.map V.str)) _
      rw [inV_strs]
      exact q _ (dr2.same sp) ((k1.trans k2).trans (.of sp))
theorem mt_and {t u : TT} {a b : Bool} (h : MkT d l H0 σ t a) (k : a = true → MkT d l H0 σ u b) : MkT d l H0 σ (tAnd t u) (a && b) := fun H dr kp Q q =>
  h H dr kp _ fun H1 dr1 k1 => by
    cases a with
    | true => exact iteT (k rfl H1 dr1 (kp.trans k1) _ fun H2 dr2 k2 => q H2 dr2 (k1.trans k2))
    | false => exact iteF (q H1 dr1 k1)
theorem mt_andF {t u : TT} {a : Bool} (h : MkT d l H0 σ t a) (ha : a = false) : MkT d l H0 σ (tAnd t u) false := fun H dr kp Q q =>
  h H dr kp _ fun H1 dr1 k1 => by subst ha; exact iteF (q H1 dr1 k1)
theorem mt_or {t u : TT} {a b : Bool} (h : MkT d l H0 σ t a) (k : a = false → MkT d l H0 σ u b) : MkT d l H0 σ (tOr t u) (a || b) := fun H dr kp Q q =>
  h H dr kp _ fun H1 dr1 k1 => by
    cases a with
    | true => exact iteT (q H1 dr1 k1)
    | false => exact iteF (k rfl H1 dr1 (kp.trans k1) _ fun H2 dr2 k2 => q H2 dr2 (k1.trans k2))
theorem mt_ints {g : Int → Int → Bool} {ta tb : TE} {x y : Int} (ha : MkI d l H0 σ ta x) (hb : MkI d l H0 σ tb y) : MkT d l H0 σ (tTest (tOp (rI0 fun i j => .bl (g i j)) ta tb)) (g x y) := fun H dr kp Q q =>
  ha H dr kp _ fun H1 dr1 k1 => hb H1 dr1 (kp.trans k1) _ fun H2 dr2 k2 => ⟨x, y, rfl, rfl, _, rfl, q H2 dr2 (k1.trans k2)⟩
theorem mb_draw {i : Nat} {n z : Int} {E : XK} {g : Int → Int → Bool} (hd : σ[i]? = some (some (.ref d))) (hn : 0 < n) : MkB d l H0 σ (tTest (tOp (rI0 fun i j => .bl (g i j)) (tOp rMod7 (tCall spDraw [] E (tCons (tVar i) tNil)) (tC (.int n))) (tC (.int z)))) := fun H dr kp Q q =>
  mz_draw hd mi_c hn H dr kp _ fun H1 y dr1 k1 _ _ => ⟨y, z, rfl, rfl, _, rfl, q H1 _ dr1 k1⟩
theorem mb_drawE {i : Nat} {n z : Int} {E : XK} (hd : σ[i]? = some (some (.ref d))) (hn : 0 < n) : MkB d l H0 σ (tTest (tOp rEq (tOp rMod7 (tCall spDraw [] E (tCons (tVar i) tNil)) (tC (.int n))) (tC (.int z)))) := fun H dr kp Q q =>
  mz_draw hd mi_c hn H dr kp _ fun H1 y dr1 k1 _ _ => ⟨rfl, _, rfl, q H1 _ dr1 k1⟩
variable {c : TT} {t u rest : TS} {D : Ends} {H : Hp} {b : Bool}
theorem mk_ifT (h : MkT d l H0 σ c b) (hb : b = true) (dr : DrA H d l) (kp : Kp d H0 H) (q : ∀ H' : Hp, DrA H' d l → Kp d H H' → t D σ H') : tIfS c t u D σ H := h H dr kp _ fun H1 dr1 k1 => by subst hb; exact iteT (q H1 dr1 k1)
theorem mk_ifF (h : MkT d l H0 σ c b) (hb : b = false) (dr : DrA H d l) (kp : Kp d H0 H) (q : ∀ H' : Hp, DrA H' d l → Kp d H H' → u D σ H') : tIfS c t u D σ H := h H dr kp _ fun H1 dr1 k1 => by subst hb; exact iteF (q H1 dr1 k1)
theorem mk_ifB (h : MkB d l H0 σ c) (dr : DrA H d l) (kp : Kp d H0 H) (qt : ∀ H' : Hp, DrA H' d l → Kp d H H' → t D σ H') (qf : ∀ H' : Hp, DrA H' d l → Kp d H H' → u D σ H') : tIfS c t u D σ H := h H dr kp _ fun H1 b dr1 k1 => by
  cases b with
  | true => exact iteT (qt H1 dr1 k1)
  | false => exact iteF (qf H1 dr1 k1)
theorem mk_ifsT (h : MkT d l H0 σ c b) (hb : b = true) (dr : DrA H d l) (kp : Kp d H0 H) (q : ∀ H' : Hp, DrA H' d l → Kp d H H' → t { D with nx := rest D } σ H') : tSeq (tIfS c t u) rest D σ H := mk_ifT h hb dr kp q
theorem mk_ifsF (h : MkT d l H0 σ c b) (hb : b = false) (dr : DrA H d l) (kp : Kp d H0 H) (q : ∀ H' : Hp, DrA H' d l → Kp d H H' → u { D with nx := rest D } σ H') : tSeq (tIfS c t u) rest D σ H := mk_ifF h hb dr kp q
theorem mk_ifsB (h : MkB d l H0 σ c) (dr : DrA H d l) (kp : Kp d H0 H) (qt : ∀ H' : Hp, DrA H' d l → Kp d H H' → t { D with nx := rest D } σ H') (qf : ∀ H' : Hp, DrA H' d l → Kp d H H' → u { D with nx := rest D } σ H') : tSeq (tIfS c t u) rest D σ H := mk_ifB h dr kp qt qf
theorem mk_ret {te : TE} {R : PyData → Prop} (h : MkE K d l H0 σ te R) (dr : DrA H d l) (kp : Kp d H0 H) (q : ∀ (H' : Hp) (v : V) (t : PyData), DrA H' d l → Kp d H H' → Dp K H' v t → Gd t → R t → D.rt v H') : tRet te D σ H := h H dr kp _ q
/-- name = a draw % what is known -/
theorem mk_seqZ {i k : Nat} {tb : TE} {n : Int} {E : XK} (hd : σ[i]? = some (some (.ref d))) (h : MkI d l H0 σ tb n) (hn : 0 < n) (dr : DrA H d l) (kp : Kp d H0 H) (q : ∀ (H' : Hp) (z : Int), DrA H' d l → Kp d H H' → 0 ≤ z → z < n → rest D (σ.set k (some (.int z))) H') :
    tSeq (tAsg (tOp rMod7 (tCall spDraw [] E (tCons (tVar i) tNil)) tb) (gName k)) rest D σ H := mz_draw hd h hn H dr kp _ q
/-- item at a place that is a variable -/
theorem mk_ixV {te : TE} {ts : List PyData} {u : PyData} {j k : Nat} {i : Int} (h : MkE K d l H0 σ te (Is (.tuple ts))) (hk : σ[k]? = some (some (.int i))) (hi : i = (j : Nat)) (e : ts[j]? = some u) : MkE K d l H0 σ (tOp (rIxT K) te (tVar k)) (Is u) := fun H dr kp Q q =>
  h H dr kp _ fun H1 v t dr1 k1 dv g r => by
    cases r
    subst hi
    obtain ⟨a, xs, rfl, hT, hx⟩ := Dp.tup_inv dv
    obtain ⟨w, hw, dw⟩ := DpAll.get hx e
    exact ⟨_, hk, a, xs, _, w, rfl, rfl, hT, atI_nat hw, q H1 w u dr1 k1 dw (g.mem u (List.mem_of_getElem? e)) rfl⟩
end
def relG (m : Str) (vs : List Str) : Fm := .mk (.rel m vs) []
theorem pos_one {h : Hd} {p : Fm} {m : Str} {s : Int} (nr : h.kd ≠ .rel) (nb : h.bname ≠ some m) : (Fm.mk h [p]).pos m s = p.pos m (h.sgn s) := by
  rw [Fm.pos_other nr, if_neg nb]
  show (p.pos m (h.sgn s) && true) = _
  rw [Bool.and_true]
theorem pos_two {h : Hd} {p q : Fm} {m : Str} {s : Int} (nr : h.kd ≠ .rel) (nb : h.bname ≠ some m) (e : q.pos m (h.sgn s) = false) : (Fm.mk h [p, q]).pos m s = false := by
  rw [Fm.pos_other nr, if_neg nb]
  show (p.pos m (h.sgn s) && (q.pos m (h.sgn s) && true)) = false
  rw [e, Bool.false_and, Bool.and_false]
/-! ### the law of k07: spoilt data -/
structure Spl (t : PyData) : Prop where
  raw : Raw t
  gd : Gd t
  non_ : ∀ g : Fm, g.Wf → t ≠ g.data
/-- no head fits -/
def NoHd (t : PyData) : Prop := ∀ (h : Hd) (ps : List PyData), t = h.data ps → ¬ h.Ok ps.length
def WdOk (t : PyData) : Prop := ∀ w ds, t = .tuple (.str w :: ds) → w ∈ words12 ++ (["rell"] : List Str)
theorem Spl.nohd {t : PyData} (g : Gd t) (hw : WdOk t) (n : NoHd t) : Spl t := by
  refine ⟨.mk g.o hw fun h ps e ok => absurd ok (n h ps e), g, fun f wf e => ?_⟩
  obtain ⟨h, ps⟩ := f
  rw [Fm.data_mk] at e
  exact n h _ e (by rw [List.length_map]; exact wf.ok.hd_)
theorem gd_fm (f : Fm) (ok : f.Ok) : Gd f.data := ⟨Fm.good f, by cases raw_fm f ok; assumption⟩
theorem Spl.fm {f : Fm} (ok : f.Ok) (n : ¬ f.Wf) : Spl f.data := ⟨raw_fm f ok, gd_fm f ok, not_wf ok n⟩
theorem word_mem (k : Kd) : k.word ∈ words12 ++ (["rell"] : List Str) := List.mem_append_left _ (by cases k <;> decide +kernel)
theorem wd_kd {k : Kd} {ds : List PyData} : WdOk (.tuple (.str k.word :: ds)) := fun w es e => by
  injection e with e
  injection e with e _
  injection e with e
  rw [← e]
  exact word_mem k
theorem hd_word {w : Str} {ds : List PyData} {h : Hd} {ps : List PyData} (e : PyData.tuple (.str w :: ds) = h.data ps) : w = h.kd.word ∧ ds = h.rest ps := by
  unfold Hd.data at e
  injection e with e
  injection e with e1 e2
  injection e1 with e1
  exact ⟨e1, e2⟩
theorem Spl.kd {k : Kd} {ds : List PyData} (g : Gd (.tuple (.str k.word :: ds))) (n : ∀ (h : Hd) (ps : List PyData), h.kd = k → ds = h.rest ps → ¬ h.Ok ps.length) : Spl (.tuple (.str k.word :: ds)) :=
  .nohd g wd_kd fun h ps e => by
    obtain ⟨e1, e2⟩ := hd_word e
    exact n h ps (word_inj _ _ e1).symm e2
theorem Spl.len {k : Kd} {ds : List PyData} (g : Gd (.tuple (.str k.word :: ds))) (n : ds.length + 1 ≠ k.many) : Spl (.tuple (.str k.word :: ds)) :=
  .kd g fun h ps e1 e2 ok => n (by rw [e2, ← e1]; exact rest_len ok.fits)
theorem Spl.rell {ds : List PyData} (g : Gd (.tuple (.str "rell" :: ds))) : Spl (.tuple (.str "rell" :: ds)) := by
  refine .nohd g (fun w es e => ?_) fun h ps e => ?_
  · injection e with e
    injection e with e _
    injection e with e
    rw [← e]
    exact List.mem_append_right _ (List.mem_singleton.mpr rfl)
  · obtain ⟨e1, _⟩ := hd_word e
    generalize h.kd = k at e1
    exact absurd e1 (by cases k <;> decide +kernel)
theorem Spl.flat {t : PyData} (g : Gd t) (n : ∀ ts, t ≠ .tuple ts) : Spl t := .nohd g (fun w ds e => absurd e (n _)) fun h ps e => absurd e (n _)
theorem Spl.nil (g : Gd (.tuple [])) : Spl (.tuple []) := .nohd g (fun w ds e => by cases e) fun h ps e => by
  unfold Hd.data at e
  cases e
theorem Spl.lst {ts : List PyData} (g : Gd (.list ts)) : Spl (.list ts) := .flat g fun us e => nomatch e
/-! parts of right formulas are right -/
theorem typed_part {h : Hd} {ps : List Fm} {Γ : ArE} (t : (Fm.mk h ps).Typed Γ) (ok : (Fm.mk h ps).Ok) {p : Fm} (hp : p ∈ ps) : ∃ Δ, p.Typed Δ := by
  by_cases nr : h.kd = .rel
  · cases h with
    | rel n as =>
      have := ok.hd_.2.2.2
      rw [List.eq_nil_of_length_eq_zero this] at hp
      cases hp
    | _ => cases nr
  · exact ⟨_, t.part nr hp⟩
theorem cnt_part {h : Hd} {ps : List Fm} {p : Fm} (hp : p ∈ ps) : p.cnt < (Fm.mk h ps).cnt := by
  rw [Fm.cnt_mk]
  have := le_sumN (List.mem_map_of_mem (f := Fm.cnt) hp)
  omega
theorem Fm.Wf.part {h : Hd} {ps : List Fm} (w : (Fm.mk h ps).Wf) {p : Fm} (hp : p ∈ ps) : p.Wf := by
  obtain ⟨Γ, t⟩ := w.ty
  have a := dep_part (h := h) hp
  have b := cnt_part (h := h) hp
  have := w.dep
  have := w.cnt
  exact ⟨w.ok.part hp, by omega, by omega, w.pos.part hp, typed_part t w.ok hp⟩
/-- a right head over data of which one is none -/
theorem Spl.in_ {h : Hd} {ds : List PyData} {t : PyData} (ok : h.Ok ds.length) (g : Gd (h.data ds)) (raw : ∀ u, u ∈ ds → Raw u) (m : t ∈ ds) (n : ∀ g : Fm, g.Wf → t ≠ g.data) : Spl (h.data ds) := by
  refine ⟨.mk g.o wd_kd fun k ps e ko p hp => ?_, g, fun f wf e => ?_⟩
  · obtain ⟨rfl, rfl⟩ := hd_inj e ok.fits ko.fits
    exact raw p hp
  · obtain ⟨k, qs⟩ := f
    rw [Fm.data_mk] at e
    obtain ⟨rfl, rfl⟩ := hd_inj e ok.fits (by rw [List.length_map]; exact wf.ok.hd_.fits)
    obtain ⟨q, hq, rfl⟩ := List.mem_map.mp m
    exact n q (wf.part hq) rfl
theorem Spl.inS {h : Hd} {ds : List PyData} {t : PyData} (ok : h.Ok ds.length) (g : Gd (h.data ds)) (raw : ∀ u, u ∈ ds → u = t ∨ Raw u) (m : t ∈ ds) (s : Spl t) : Spl (h.data ds) :=
  .in_ ok g (fun u hu => (raw u hu).elim (fun e => e ▸ s.raw) id) m s.non_
/-! ### what is no list of variables, and so on -/
theorem tS_mem {ts : List PyData} {as : List Str} {t : PyData} (e : PyData.tuple ts = tS as) (na : Names as) (m : t ∈ ts) (n : NoNm t) : False := by
  unfold tS at e
  injection e with e
  rw [e] at m
  obtain ⟨z, hz, rfl⟩ := List.mem_map.mp m
  exact n z rfl (na z hz)
theorem sig_ne {f : Fm} (w : f.Wf) {p : Str} {a b : Nat} (h1 : (p, a) ∈ f.syms) (h2 : (p, b) ∈ f.syms) : a = b := by
  obtain ⟨Γ, t⟩ := w.ty
  have e1 := typed_sym f Γ t _ h1
  have e2 := typed_sym f Γ t _ h2
  rw [e1] at e2
  exact Option.some.inj e2
theorem kd_rel {h : Hd} (e : h.kd = .rel) : ∃ n as, h = .rel n as := by cases h <;> first | exact ⟨_, _, rfl⟩ | cases e
theorem kd_eq {h : Hd} (e : h.kd = .eq) : ∃ n as, h = .eq n as := by cases h <;> first | exact ⟨_, _, rfl⟩ | cases e
theorem kd_less {h : Hd} (e : h.kd = .less) : ∃ n as, h = .less n as := by cases h <;> first | exact ⟨_, _, rfl⟩ | cases e
theorem kd_con {h : Hd} (e : h.kd = .con) : h = .con := by cases h <;> first | rfl | cases e
theorem kd_dis {h : Hd} (e : h.kd = .dis) : h = .dis := by cases h <;> first | rfl | cases e
theorem kd_no {h : Hd} (e : h.kd = .no) : h = .no := by cases h <;> first | rfl | cases e
theorem kd_ex {h : Hd} (e : h.kd = .ex) : ∃ vs, h = .ex vs := by cases h <;> first | exact ⟨_, rfl⟩ | cases e
theorem kd_al {h : Hd} (e : h.kd = .al) : ∃ vs, h = .al vs := by cases h <;> first | exact ⟨_, rfl⟩ | cases e
theorem kd_lfp {h : Hd} (e : h.kd = .lfp) : ∃ m vs as, h = .lfp m vs as := by cases h <;> first | exact ⟨_, _, _, rfl⟩ | cases e
theorem kd_pfp {h : Hd} (e : h.kd = .pfp) : ∃ m vs as, h = .pfp m vs as := by cases h <;> first | exact ⟨_, _, _, rfl⟩ | cases e
theorem kd_tc {h : Hd} (e : h.kd = .tc) : ∃ vs as, h = .tc vs as := by cases h <;> first | exact ⟨_, _, rfl⟩ | cases e
theorem kdh_gs {h : Hd} (e : h.kd = .gs) : ∃ m j, h = .gs m j := by cases h <;> first | exact ⟨_, _, rfl⟩ | cases e
theorem Spl.rel {a b : PyData} (g : Gd (.tuple [.str "rel", a, b])) (n : ∀ m as, a = .str m → b = tS as → Nm m → Names as → as.length ≤ 6 → False) : Spl (.tuple [.str "rel", a, b]) :=
  .kd (k := .rel) g fun h ps e1 e2 ok => by
    obtain ⟨m, as, rfl⟩ := kd_rel e1
    simp only [Hd.rest, List.cons.injEq, and_true] at e2
    exact n m as e2.1 e2.2 ok.1 ok.2.2.1 ok.2.1
theorem Spl.eq {a b : PyData} (g : Gd (.tuple [.str "eq", a, b])) (n : ∀ x y, a = .str x → b = .str y → Nm x → Nm y → False) : Spl (.tuple [.str "eq", a, b]) :=
  .kd (k := .eq) g fun h ps e1 e2 ok => by
    obtain ⟨x, y, rfl⟩ := kd_eq e1
    simp only [Hd.rest, List.cons.injEq, and_true] at e2
    exact n x y e2.1 e2.2 ok.1 ok.2.1
theorem Spl.less {a b : PyData} (g : Gd (.tuple [.str "less", a, b])) (n : ∀ x y, a = .str x → b = .str y → Nm x → Nm y → False) : Spl (.tuple [.str "less", a, b]) :=
  .kd (k := .less) g fun h ps e1 e2 ok => by
    obtain ⟨x, y, rfl⟩ := kd_less e1
    simp only [Hd.rest, List.cons.injEq, and_true] at e2
    exact n x y e2.1 e2.2 ok.1 ok.2.1
theorem Spl.con {a : PyData} (g : Gd (.tuple [.str "and", a])) (n : ∀ ds, a = .tuple ds → ds.length ≤ 40 → False) : Spl (.tuple [.str "and", a]) :=
  .kd (k := .con) g fun h ps e1 e2 ok => by
    obtain rfl := kd_con e1
    simp only [Hd.rest, List.cons.injEq, and_true] at e2
    exact n ps e2 ok
theorem Spl.dis {a : PyData} (g : Gd (.tuple [.str "or", a])) (n : ∀ ds, a = .tuple ds → ds.length ≤ 40 → False) : Spl (.tuple [.str "or", a]) :=
  .kd (k := .dis) g fun h ps e1 e2 ok => by
    obtain rfl := kd_dis e1
    simp only [Hd.rest, List.cons.injEq, and_true] at e2
    exact n ps e2 ok
theorem Spl.ex {a b : PyData} (g : Gd (.tuple [.str "some", a, b])) (n : ∀ vs, a = tS vs → OwnOk vs → False) : Spl (.tuple [.str "some", a, b]) :=
  .kd (k := .ex) g fun h ps e1 e2 ok => by
    obtain ⟨vs, rfl⟩ := kd_ex e1
    simp only [Hd.rest, List.cons.injEq] at e2
    exact n vs e2.1 ok.1
theorem Spl.al {a b : PyData} (g : Gd (.tuple [.str "all", a, b])) (n : ∀ vs, a = tS vs → OwnOk vs → False) : Spl (.tuple [.str "all", a, b]) :=
  .kd (k := .al) g fun h ps e1 e2 ok => by
    obtain ⟨vs, rfl⟩ := kd_al e1
    simp only [Hd.rest, List.cons.injEq] at e2
    exact n vs e2.1 ok.1
theorem one_of7 {ps : List PyData} {a b c : PyData} (l : ps.length = 1) (e : [a, b] = ps ++ [c]) : b = c := by
  match ps, l with
  | [p], _ =>
    simp only [List.cons_append, List.nil_append, List.cons.injEq, and_true] at e
    exact e.2
theorem Spl.lfp {a b c e : PyData} (g : Gd (.tuple [.str "lfp", a, b, c, e])) (n : ∀ m vs as, a = .str m → b = tS vs → e = tS as → Nm m → OwnOk vs → as.length = vs.length → Names as → False) : Spl (.tuple [.str "lfp", a, b, c, e]) :=
  .kd (k := .lfp) g fun h ps e1 e2 ok => by
    obtain ⟨m, vs, as, rfl⟩ := kd_lfp e1
    simp only [Hd.rest, List.cons.injEq] at e2
    exact n m vs as e2.1 e2.2.1 (one_of7 ok.2.2.2.2 e2.2.2) ok.1 ok.2.1 ok.2.2.1 ok.2.2.2.1
theorem Spl.pfp {a b c e : PyData} (g : Gd (.tuple [.str "pfp", a, b, c, e])) (n : ∀ m vs as, a = .str m → b = tS vs → e = tS as → Nm m → OwnOk vs → as.length = vs.length → Names as → False) : Spl (.tuple [.str "pfp", a, b, c, e]) :=
  .kd (k := .pfp) g fun h ps e1 e2 ok => by
    obtain ⟨m, vs, as, rfl⟩ := kd_pfp e1
    simp only [Hd.rest, List.cons.injEq] at e2
    exact n m vs as e2.1 e2.2.1 (one_of7 ok.2.2.2.2 e2.2.2) ok.1 ok.2.1 ok.2.2.1 ok.2.2.2.1
theorem Spl.tc {a b c : PyData} (g : Gd (.tuple [.str "tc", a, b, c])) (n : ∀ vs as, a = tS vs → c = tS as → (vs.length = 2 ∨ vs.length = 4 ∨ vs.length = 6 ∨ vs.length = 8) → Names vs → vs.Nodup → as.length = vs.length → Names as → False) : Spl (.tuple [.str "tc", a, b, c]) :=
  .kd (k := .tc) g fun h ps e1 e2 ok => by
    obtain ⟨vs, as, rfl⟩ := kd_tc e1
    simp only [Hd.rest, List.cons.injEq] at e2
    exact n vs as e2.1 (one_of7 ok.2.2.2.2.2 e2.2) ok.1 ok.2.1 ok.2.2.1 ok.2.2.2.1 ok.2.2.2.2.1
theorem Spl.gs {a b c : PyData} (g : Gd (.tuple [.str "guess", a, b, c])) (n : ∀ m (j : Nat), a = .str m → b = .int (j : Nat) → Nm m → j ≤ 3 → False) : Spl (.tuple [.str "guess", a, b, c]) :=
  .kd (k := .gs) g fun h ps e1 e2 ok => by
    obtain ⟨m, j, rfl⟩ := kdh_gs e1
    simp only [Hd.rest, List.cons.injEq] at e2
    exact n m j e2.1 e2.2.1 ok.1 ok.2.1
theorem rest_int1 {h : Hd} {ds : List PyData} (a : h.Ok ds.length) (b : ∀ t, t ∈ ds → ∃ ts, t = .tuple ts) : int1 (.str h.word :: h.rest ds) = true := by
  cases h with
  | no =>
    match ds, a with
    | [p], _ =>
      obtain ⟨ts, rfl⟩ := b p (List.mem_singleton.mpr rfl)
      rfl
  | _ => rfl
theorem fm_tup (f : Fm) : ∃ ts, f.data = .tuple ts := by
  obtain ⟨h, ps⟩ := f
  rw [Fm.data_mk]
  exact ⟨_, rfl⟩
theorem cutD_init (ts : List PyData) : cutD ts none (some ((ts.length : Int) - 1)) = ts.dropLast := by
  rcases List.eq_nil_or_concat ts with rfl | ⟨l, c, rfl⟩
  · rfl
  · have e : (((l ++ [c]).length : Nat) : Int) - 1 = ((l.length : Nat) : Int) := by rw [List.length_append]; show ((l.length + 1 : Nat) : Int) - 1 = _; omega
    rw [List.concat_eq_append, e]
    unfold cutD
    rw [HT.sIx_nat, List.dropLast_concat]
    show (List.drop 0 (l ++ [c])).take (min l.length (l ++ [c]).length - 0) = l
    rw [List.drop_zero, List.length_append, Nat.min_eq_left (Nat.le_add_right _ _), Nat.sub_zero, List.take_left]
theorem cutD_to (ts : List PyData) (n : Nat) : cutD ts none (some (n : Int)) = ts.take n := by
  unfold cutD
  rw [HT.sIx_nat]
  show (List.drop 0 ts).take (min n ts.length - 0) = _
  rw [List.drop_zero, Nat.sub_zero, List.take_eq_take_iff]
  omega
theorem cutD_from (ts : List PyData) (n : Nat) : cutD ts (some (n : Int)) none = ts.drop n := by
  unfold cutD
  rw [HT.sIx_nat]
  show (ts.drop (min n ts.length)).take (ts.length - min n ts.length) = _
  by_cases h : n ≤ ts.length
  · rw [Nat.min_eq_left h]
    exact List.take_of_length_le (by rw [List.length_drop]; exact Nat.le_refl _)
  · rw [Nat.min_eq_right (by omega), List.drop_eq_nil_of_le (Nat.le_refl _), List.drop_eq_nil_of_le (by omega), List.take_nil]
theorem one_fm {ps : List Fm} (l : ps.length = 1) : ∃ p, ps = [p] := List.length_eq_one_iff.mp l
theorem dup_no {vs us : List Str} (h : 1 ≤ vs.length) (e : PyData.tuple (vs.map PyData.str ++ cutD (vs.map PyData.str) none (some 1)) = tS us) (nd : us.Nodup) : False := by
  match vs, h with
  | x :: r, _ =>
    have c : cutD ((x :: r).map PyData.str) none (some 1) = [.str x] := cutD_to _ 1
    rw [c] at e
    have e2 : us = (x :: r) ++ [x] := by
      have : tS ((x :: r) ++ [x]) = tS us := by rw [← e]; unfold tS; rw [List.map_append]; rfl
      exact (tS_eq this).symm
    rw [e2] at nd
    exact absurd rfl ((List.nodup_append.mp nd).2.2 x (List.mem_cons_self ..) x (List.mem_singleton.mpr rfl))
theorem len_no {ts : List PyData} {us : List Str} (e : PyData.tuple ts = tS us) : us.length = ts.length := by
  unfold tS at e
  injection e with e
  rw [e, List.length_map]
theorem raw_none : Raw .none := .mk .non (fun w ds e => nomatch e) fun h ps e => by
  unfold Hd.data at e
  cases e
theorem ne_none {g : Fm} : PyData.none ≠ g.data := fun e => by
  obtain ⟨ts, h⟩ := fm_tup g
  rw [h] at e
  cases e
theorem Spl.lfpN {m : Str} {vs as : List Str} {b : Fm} (n : Nm m) (o : OwnOk vs) (l : as.length = vs.length) (na : Names as) (ok : b.Ok) (pos : b.pos m 1 = false) : Spl (.tuple [.str "lfp", .str m, tS vs, b.data, tS as]) := by
  have e : (Fm.mk (.lfp m vs as) [b]).data = .tuple [.str "lfp", .str m, tS vs, b.data, tS as] := Fm.data_mk _ _
  rw [← e]
  refine Spl.fm (.mk ⟨n, o, l, na, rfl⟩ fun p hp => by rw [List.mem_singleton.mp hp]; exact ok) fun w => ?_
  have := w.pos.here (List.mem_singleton.mpr rfl)
  rw [pos] at this
  cases this
theorem relG_ok {m : Str} {vs : List Str} (n : Nm m) (l : vs.length ≤ 6) (na : Names vs) : (relG m vs).Ok := .mk ⟨n, l, na, rfl⟩ fun p hp => nomatch hp
theorem relG_sym (m : Str) (vs : List Str) : (m, vs.length) ∈ (relG m vs).syms := by
  unfold relG
  rw [Fm.syms_rel]
  exact List.mem_singleton.mpr rfl
theorem arity_no {h : Hd} {m : Str} {k : Nat} {b : Fm} {n : Nat} (hb : h.bound = some (m, k)) (nr : h.kd ≠ .rel) (s : (m, n) ∈ b.syms) (ne : n ≠ k) : ¬ (Fm.mk h [b]).Wf := fun w => by
  obtain ⟨Γ, t⟩ := w.ty
  have e := typed_sym b _ (t.part nr (List.mem_singleton.mpr rfl)) _ s
  unfold Hd.env at e
  rw [hb] at e
  simp only [if_true, Option.some.injEq] at e
  exact ne e.symm

/-! ### _law_system -/
def spNamesT (K : PySem.W.Frag) : Sp := fun vs H Q _ => ∃ (d l : Addr), vs = [.ref d] ∧ DrA H d l ∧ ∀ (H' : Hp) (b : Addr) (xs : List V) (j : Nat), 1 ≤ j → DrA H' d l → Kp d H H' → H' b = some (.lst xs) → DpAll K H' xs ((namesL.take j).map nD) → Q (.ref b) H'
def spSomeL (K : PySem.W.Frag) : Sp := fun vs H Q _ => ∃ (d l : Addr) (pv : V) (pool : List Str) (m : Nat), vs = [.ref d, pv, .int (m : Nat)] ∧ DrA H d l ∧ Dp K (wo d H) pv (.list (pool.map PyData.str)) ∧ m ≤ pool.length ∧ pool.length ≤ 20 ∧
  ∀ (H' : Hp) (r : Addr) (ch : List Str), DrA H' d l → Kp d H H' → H' r = some (.lst (ch.map V.str)) → r ≠ d → ch.length = m → (∀ x, x ∈ ch → x ∈ pool) → (pool.Nodup → ch.Nodup) → Q (.ref r) H'
/-- a right system of the law -/
structure LawS (ds : List Dfn) : Prop where
  sys : SysOk ds
  fr : ∀ d, d ∈ ds → Fr20 d.b
  made : ∃ as, Ars as ∧ Mkg as ds ∧ ds.length = as.length
def spSystem (K : PySem.W.Frag) : Sp := fun vs H Q _ => ∃ (d l : Addr), vs = [.ref d] ∧ DrA H d l ∧ ∀ (H' : Hp) (r : Addr) (xs : List V) (ds : List Dfn), DrA H' d l → Kp d H H' → H' r = some (.lst xs) → r ≠ d → DpAll K H' xs (ds.map Dfn.data) → LawS ds → Q (.ref r) H'
section
variable {K : PySem.W.Frag} {d l : Addr} {H0 : Hp} {σ : L2.St}
theorem mk_deep1 {i : Nat} {c : Int} {E : XK} (hd : σ[i]? = some (some (.ref d))) (hc : 0 < c) : MkE K d l H0 σ (tOp (rI0 fun i j => .int (i + j)) (tC (.int 1)) (tOp rMod7 (tCall spDraw [] E (tCons (tVar i) tNil)) (tC (.int c)))) (fun t => ∃ m : Nat, t = .int (m : Int) ∧ 1 ≤ m ∧ (m : Int) ≤ c) := fun H dr kp Q q =>
  mz_draw hd mi_c hc H dr kp _ fun H' z dr' k' z0 z1 => by
    obtain ⟨m, e, m1, m2⟩ : ∃ m : Nat, 1 + z = (m : Int) ∧ 1 ≤ m ∧ (m : Int) ≤ c := ⟨(1 + z).toNat, by omega, by omega, by omega⟩
    exact ⟨1, z, rfl, rfl, q H' _ (.int (1 + z)) dr' k' (.int _) .int ⟨m, by rw [e], m1, m2⟩⟩
theorem int1_nD (ns : List NE) : int1 (ns.map nD) = true := int1_tups fun t ht => by
  obtain ⟨p, _, rfl⟩ := List.mem_map.mp ht
  exact ⟨_, rfl⟩
theorem gd_nD (p : NE) (h : p.1.length ≤ sizeLine) : Gd (nD p) := .tup (by show 3 ≤ 100000; decide) fun t ht => by
  have c : t = .str p.1 ∨ t = .int p.2.1 ∨ t = .int p.2.2 := by simpa using ht
  rcases c with rfl | rfl | rfl
  · exact .str h
  · exact .int
  · exact .int
theorem gd_nsD {ns : List NE} {Γ : ArE} (h : NOk ns Γ) (l : ns.length ≤ 100) : Gd (nsD ns) := .lst (by rw [List.length_map]; omega) (int1_nD ns) fun t ht => by
  obtain ⟨p, hp, rfl⟩ := List.mem_map.mp ht
  exact gd_nD p (h.nm p hp).short
theorem mk_namesT {i k : Nat} {a : Addr} {zs : List V} {as : List Nat} {E : XK} (h : Ars as) (hd : σ[i]? = some (some (.ref d))) (hk : σ[k]? = some (some (.ref a))) (ha : H0 a = some (.lst zs)) (had : a ≠ d) (hz : DpAll K H0 zs ((signs as).map nD)) (r0 : DrA H0 d l) :
    MkE K d l H0 σ (tOp rCat (tCall (spNamesT K) [] E (tCons (tVar i) tNil)) (tVar k)) (fun t => ∃ j, 1 ≤ j ∧ t = nsD (namesL.take j ++ signs as)) := fun H dr kp Q q =>
  ⟨_, hd, d, l, rfl, dr, fun H1 b xs j hj dr1 k1 hb hx => ⟨_, hk, b, a, xs, zs, rfl, rfl, hb, (kp.trans k1) _ _ ha had, by
    have e1 := DpAll.length hx
    have e2 := DpAll.length hz
    have e3 := List.length_take_le j namesL
    have e4 : namesL.length = 3 := rfl
    have e5 := signs_len h
    have e6 := h.len
    rw [List.length_map] at e1 e2
    have e7 := List.length_take_le' j namesL
    exact Nat.le_trans (show xs.length + zs.length ≤ 6 by omega) (by decide), fun p np => by
    have su := same_upd (o := .lst (xs ++ zs)) np
    refine q _ (.ref p) (nsD (namesL.take j ++ signs as)) (dr1.same su) (k1.trans (.of su)) (.lst (SqL.of upd_same) ?_) (gd_nsD (tk_ok h j) ?_) ⟨j, hj, rfl⟩
    · rw [List.map_append]
      exact DpAll.append (DpAll.same su hx) (DpAll.same su (DpAll.kl (.dr (kp.trans k1) r0) hz (ns_noL _)))
    · have e7 := List.length_take_le' j namesL
      have e5 := signs_len h
      have e6 := h.len
      have e4 : namesL.length = 3 := rfl
      rw [List.length_append]; omega⟩⟩
theorem mk_form {n c i : Nat} {pool kl : List Str} {as : List Nat} {ta : TA} {E : XK} (hn : c ≤ n) (c10 : c ≤ 10) (h : Ars as) (po : Pool pool) (kl0 : 0 < kl.length) (klS : ∀ x, x ∈ kl → x ∈ kindsL) (hd : σ[i]? = some (some (.ref d)))
    (ha : MkA K d l H0 σ ta 4 (ConsR (fun t => ∃ m : Nat, t = .int (m : Int) ∧ 1 ≤ m ∧ (m : Int) ≤ (c : Nat)) (ConsR (Is (.list (pool.map PyData.str))) (ConsR (fun t => ∃ j, 1 ≤ j ∧ t = nsD (namesL.take j ++ signs as)) (ConsR (Is (.list (kl.map PyData.str))) (Iss [])))))) :
    MkE K d l H0 σ (tCall (spForm K n) [] E (tCons (tVar i) ta)) (fun t => ∃ (f : Fm) (j : Nat), t = f.data ∧ 1 ≤ j ∧ Gen pool (namesL.take j ++ signs as) (envS as) f c) := fun H dr kp Q q =>
  ⟨_, hd, ha H dr kp _ fun H1 vs ts dr1 k1 dvs gs len r => by
    obtain ⟨_, _, rfl, ⟨m, rfl, m1, m2⟩, _, _, rfl, rfl, _, _, rfl, ⟨j, hj, rfl⟩, _, _, rfl, rfl, rfl⟩ := r
    obtain ⟨v1, w1, rfl, d1, dvs⟩ := DpAll.cons_inv dvs
    obtain ⟨v2, w2, rfl, d2, dvs⟩ := DpAll.cons_inv dvs
    obtain ⟨v3, w3, rfl, d3, dvs⟩ := DpAll.cons_inv dvs
    obtain ⟨v4, w4, rfl, d4, dvs⟩ := DpAll.cons_inv dvs
    obtain rfl := DpAll.nil_inv dvs
    cases d1
    have e7 := List.length_take_le' j namesL
    have e5 := signs_len h
    have e6 := h.len
    have e4 : namesL.length = 3 := rfl
    refine ⟨d, l, (m : Int), v2, v3, v4, pool, namesL.take j ++ signs as, envS as, m, rfl, rfl, ⟨m1, by omega⟩, ⟨dr1, d2, d3, ⟨kl, kl0, klS, d4⟩, tk_ok h j, po, ?_⟩, fun H2 r f dr2 k2 df g => ?_⟩
    · rw [List.length_append]; omega
    · exact q H2 r _ dr2 (k1.trans k2) df (gd_fm f g.ok) ⟨f, j, rfl, hj, g.mono (by omega)⟩⟩
theorem mk_catw {k : Nat} {a : Addr} {us : List Str} (hk : σ[k]? = some (some (.ref a))) (ha : H0 a = some (.lst (us.map V.str))) (had : a ≠ d) (nu : Names us) (lu : us.length ≤ 20) :
    MkE K d l H0 σ (tOp rCat (tVar k) (tLst (tCons (tC (.str "w")) tNil))) (Is (.list ((us ++ [("w" : Str)]).map PyData.str))) := fun H dr kp Q q =>
  ⟨_, hk, (by show 1 ≤ sizeLine; decide), fun b nb => by
    have sb := same_upd (o := .lst [.str "w"]) nb
    refine ⟨a, b, us.map V.str, [.str "w"], rfl, rfl, sb _ _ (kp _ _ ha had), upd_same, by rw [List.length_map]; exact Nat.le_trans (show us.length + 1 ≤ 21 by omega) (by decide), fun p np => ?_⟩
    have sp := same_upd (o := .lst (us.map V.str ++ [.str "w"])) np
    refine q _ (.ref p) _ (dr.same (sb.trans sp)) (.of (sb.trans sp)) (.lst (SqL.of upd_same) ?_) (.lst (by rw [List.length_map, List.length_append]; show us.length + 1 ≤ _; omega) (int1_strs _) fun t ht => ?_) rfl
    · have e : us.map V.str ++ [.str "w"] = (us ++ [("w" : Str)]).map V.str := by rw [List.map_append]; rfl
      rw [e]
      exact DpAll.of_strs _
    · obtain ⟨x, hx, rfl⟩ := List.mem_map.mp ht
      refine .str ?_
      rcases List.mem_append.mp hx with hx | hx
      · exact (nu x hx).short
      · rw [List.mem_singleton.mp hx]; decide +kernel⟩
end
section
variable {P : Program} {w : World} {K : PySem.W.Frag} {mg : Str → Option Value} {base : Heap}
theorem sc_namesT : FnScope ["draws"] ["draws"] (defScope (top 133)) := ⟨rfl, rfl, rfl, by decide +kernel, rfl, by decide +kernel, by decide +kernel⟩
theorem has_namesT (D : Def K mg "_law_names" ["draws"] (top 133)) (T : Txt mg) (C1 : Has P w K mg base 2 "_law_draw" ["draws"] spDraw) : Has P w K mg base 3 "_law_names" ["draws"] (spNamesT K) := D.has fun f fd F => by
  obtain ⟨f1, fd1, G_law_draw, g_law_draw, k_law_draw, b_law_draw⟩ := C1
  refine F.ok sc_namesT (fun vs H Q E h => ?_) (fun cdv A outer s H vs Q E hr h => ?_)
  · obtain ⟨d, l, rfl, _⟩ := h; rfl
  · obtain ⟨d, l, rfl, dr, q⟩ := h
    have R_law_draw : Room 2 _ := hr
    refine ⟨_, PSs.nox (pss_one (ps_ret (pe_slice sl_list (pe_lst (pa_cons (pe_tup (pa_cons pe_str (pa_cons pe_int (pa_cons pe_int pa_nil)))) (pa_cons (pe_tup (pa_cons pe_str (pa_cons pe_int (pa_cons pe_int pa_nil)))) (pa_cons (pe_tup (pa_cons pe_str (pa_cons pe_int (pa_cons pe_int pa_nil)))) pa_nil)))) po_none (po_some (pe_op op_add pe_int (pe_op op_mod (pe_call G_law_draw R_law_draw (by rfl) g_law_draw k_law_draw b_law_draw .nil pass0 (pa_cons (pv 0) pa_nil)) pe_int)))))), ?_⟩
    refine ⟨(by show 3 ≤ sizeLine; decide), fun t1 n1 => ⟨(by show 3 ≤ sizeLine; decide), fun t2 n2 => ⟨(by show 3 ≤ sizeLine; decide), fun t3 n3 => ?_⟩⟩⟩
    have s1 := same_upd (o := .tup [.str "e", .int 2, .int 0]) n1
    have s2 := same_upd (o := .tup [.str "p", .int 1, .int 0]) n2
    have s3 := same_upd (o := .tup [.str "q", .int 0, .int 0]) n3
    refine ⟨(by show 3 ≤ sizeLine; decide), fun c nc => ?_⟩
    have s4 := same_upd (o := .lst [.ref t1, .ref t2, .ref t3]) nc
    have s14 := ((s1.trans s2).trans s3).trans s4
    have dr4 := dr.same s14
    have nd := ((dr.same ((s1.trans s2).trans s3)).ne nc).1
    have dall : DpAll K _ [.ref t1, .ref t2, .ref t3] (namesL.map nD) := .cons (nD_of (p := ("e", 2, 0)) (Same.sqt (s2.trans s3) (.inl (.inl upd_same)))) (.cons (nD_of (p := ("p", 1, 0)) (Same.sqt s3 (.inl (.inl upd_same)))) (.cons (nD_of (p := ("q", 0, 0)) (.inl (.inl upd_same))) .nil))
    refine ⟨_, rfl, d, l, rfl, dr4, fun z H5 _ _ dr5 k5 => ?_⟩
    refine ⟨_, _, rfl, rfl, (by show (0 : Int) < 3; decide), ?_⟩
    obtain ⟨j, hj, j2⟩ : ∃ k : Nat, z % 3 = (k : Int) ∧ k ≤ 2 := ⟨(z % 3).toNat, by omega, by omega⟩
    refine ⟨_, _, rfl, rfl, ?_⟩
    refine ⟨((1 + j : Nat) : Int), congrArg V.int (by omega), c, _, rfl, SqL.of (k5 _ _ upd_same nd), fun r nr => ?_⟩
    have s6 := same_upd (o := .lst (cutV [.ref t1, .ref t2, .ref t3] none (some ((1 + j : Nat) : Int)))) nr
    refine q _ r _ (1 + j) (by omega) (dr5.same s6) (((Kp.of s14).trans k5).trans (.of s6)) upd_same ?_
    have ec := cut_map (xs := [.ref t1, .ref t2, .ref t3]) (j := 1 + j) (by show 3 < 1000; decide) (by show 1 + j ≤ 3; omega)
    revert s6
    rw [ec, List.map_take]
    intro s6
    exact DpAll.takeN _ (DpAll.same s6 (DpAll.kl (.dr k5 dr4) (DpAll.same s4 dall) (ns_noL _)))
theorem sc_some_ofL : FnScope ["draws", "pool", "many", "left", "chosen", "k"] ["draws", "pool", "many"] (defScope (top 126)) := ⟨rfl, rfl, rfl, by decide +kernel, rfl, by decide +kernel, by decide +kernel⟩
theorem has_some_ofL (D : Def K mg "_law_some_of" ["draws", "pool", "many"] (top 126)) (T : Txt mg) (C1 : Has P w K mg base 2 "_law_draw" ["draws"] spDraw) : Has P w K mg base 3 "_law_some_of" ["draws", "pool", "many"] (spSomeL K) := D.has fun f fd F => by
  obtain ⟨f1, fd1, G_law_draw, g_law_draw, k_law_draw, b_law_draw⟩ := C1
  refine F.ok sc_some_ofL (fun vs H Q E h => ?_) (fun cdv A outer s H vs Q E hr h => ?_)
  · obtain ⟨d, l, vp, pool, m, rfl, _⟩ := h; rfl
  · obtain ⟨d, l, vp, pool, m, rfl, dr, dp, hm, h20, q⟩ := h
    have R_law_draw : Room 2 _ := hr.mono (by decide)
    refine ⟨_, PSs.nox (pss_cons (ps_set (i := 3) sc_some_ofL.nd rfl (Or.inl rfl) (pe_callTy call_list_of (by rfl) T.n_list (by decide +kernel) (pa_cons (pv 1) pa_nil))) (pss_cons (ps_set (i := 4) sc_some_ofL.nd rfl (Or.inl rfl) (pe_lst pa_nil)) (pss_cons (ps_for PassesOwn.never rfl (pi_range1 (by rfl) T.n_range (pa_cons (pv 2) pa_nil)) (pg_name (i := 5) sc_some_ofL.nd rfl (Or.inl rfl)) (pss_one (ps_expr (pe_bm PySem.F.plainAttrs_list PySem.F.slot_list_append PySem.F.type_list_append mt_append (pv 4) (pa_cons (pe_bm PySem.F.plainAttrs_list PySem.F.slot_list_pop PySem.F.type_list_pop mt_popAt (pv 3) (pa_cons (pe_op op_mod (pe_call G_law_draw R_law_draw (by rfl) g_law_draw k_law_draw b_law_draw .nil pass0 (pa_cons (pv 0) pa_nil)) (pe_callB call_len_seq (by rfl) T.n_len PySem.boot_len (pa_cons (pv 3) pa_nil))) pa_nil)) pa_nil))))) (pss_one (ps_ret (pv 4)))))), ?_⟩
    obtain ⟨b, rfl, hb⟩ := strsL dp
    have hb' : SqL K H b (pool.map V.str) := wo_sub.seq hb
    refine ⟨_, rfl, b, _, rfl, .inl hb', fun e ne => ?_⟩
    obtain ⟨ned, nel⟩ := dr.ne ne
    have dr1 : DrA (upd H e (.lst (pool.map V.str))) d l := dr.same (same_upd ne)
    have k1 : Kp d H (upd H e (.lst (pool.map V.str))) := .of (same_upd ne)
    have he : (upd H e (.lst (pool.map V.str))) e = some (.lst (pool.map V.str)) := upd_same
    revert dr1 k1 he
    generalize upd H e (.lst (pool.map V.str)) = H1
    intro dr1 k1 he
    refine ⟨Nat.zero_le _, fun c nc => ?_⟩
    obtain ⟨ncd, ncl⟩ := dr1.ne nc
    have nce : e ≠ c := ne_of_none he nc
    have nc0 : H c = none := k1.free ncd nc
    refine ⟨_, rfl, m, rfl, by omega, by omega, for_range (n := m) (fun i σ H2 => ∃ (y5 : Option V) (rem ch : List Str), σ = [some (.ref d), some (.ref b), some (.int (m : Nat)), some (.ref e), some (.ref c), y5] ∧ DrA H2 d l ∧ Kp d H H2 ∧
      H2 e = some (.lst (rem.map V.str)) ∧ H2 c = some (.lst (ch.map V.str)) ∧ ch.length = i ∧ rem.length + i = pool.length ∧ pool.Perm (ch ++ rem))
      ⟨none, pool, [], rfl, dr1.same (same_upd nc), kp_new k1 nc, by rw [upd_ne nce]; exact he, upd_same, rfl, rfl, List.Perm.refl _⟩ ?_ ?_⟩
    · rintro i σ H2 hi ⟨y5, rem, ch, rfl, dr2, k2, he2, hc2, hl, hrl, pm⟩
      refine ⟨_, rfl, .inl ⟨rfl, _, SqL.of hc2⟩, ?_⟩
      refine ⟨_, rfl, .inl ⟨rfl, _, SqL.of he2⟩, ?_⟩
      refine ⟨_, rfl, d, l, rfl, dr2, fun z H3 z0 z1 dr3 k3 => ?_⟩
      have he3 := k3 _ _ he2 ned
      have hc3 := k3 _ _ hc2 ncd
      have rl : 0 < rem.length := by omega
      have i0 : 0 ≤ z % (rem.length : Int) := Int.emod_nonneg _ (by omega)
      have i1 : z % (rem.length : Int) < (rem.length : Int) := Int.emod_lt_of_pos _ (by omega)
      have il : (z % (rem.length : Int)).toNat < rem.length := by omega
      obtain ⟨x, hx⟩ : ∃ x, rem[(z % (rem.length : Int)).toNat]? = some x := ⟨_, List.getElem?_eq_getElem il⟩
      refine ⟨_, rfl, e, _, rfl, .inl (SqL.of he3), _, _, rfl, rfl, (by show (0 : Int) < (((rem.map V.str).length : Nat) : Int); rw [List.length_map]; omega), ?_⟩
      rw [List.length_map]
      refine ⟨e, _, _, (z % (rem.length : Int)).toNat, .str x, rfl, rfl, he3, by omega, by omega, by rw [List.length_map]; exact seqIndex_of i0 i1, by rw [List.getElem?_map, hx]; rfl, ?_⟩
      have hc4 : (upd H3 e (.lst ((rem.map V.str).eraseIdx (z % (rem.length : Int)).toNat))) c = some (.lst (ch.map V.str)) := by rw [upd_ne nce.symm]; exact hc3
      refine ⟨c, _, _, rfl, rfl, hc4, ?_, ?_⟩
      · rw [List.length_map]
        exact small1000 (by omega)
      · refine ⟨_, rem.eraseIdx (z % (rem.length : Int)).toNat, ch ++ [x], rfl, ?_, ?_, ?_, ?_, ?_, ?_, ?_⟩
        · exact (dr3.kp Kp.upd ⟨ned, nel⟩).kp Kp.upd ⟨ncd, ncl⟩
        · exact kp_own (kp_own (k2.trans k3) ne) nc0
        · rw [upd_ne nce, upd_same, eraseIdx_map]
        · rw [upd_same, List.map_append]
          rfl
        · rw [List.length_append, hl]; rfl
        · rw [List.length_eraseIdx_of_lt il]; omega
        · refine pm.trans ?_
          have p2 := eraseIdx_perm hx
          have p3 : (ch ++ rem).Perm (ch ++ (x :: rem.eraseIdx (z % (rem.length : Int)).toNat)) := List.Perm.append_left ch p2
          rw [List.append_assoc]
          exact p3
    · rintro σ H2 ⟨y5, rem, ch, rfl, dr2, k2, he2, hc2, hl, hrl, pm⟩
      refine ⟨_, rfl, q H2 c ch dr2 k2 hc2 ncd hl (fun x hx => pm.mem_iff.mpr (List.mem_append_left _ hx)) fun nd => ?_⟩
      exact (List.nodup_append.mp (pm.nodup_iff.mp nd)).1
end
/-! ### _law_system itself -/
theorem pool_xyz : Pool ["x", "y", "z"] := ⟨fun v hv => nm_of (List.all_eq_true.mp (show ((["x", "y", "z"] : List Str).all nmB) = true by decide +kernel) v hv), by decide +kernel, by decide, by decide⟩
def kinds5 : List Str := ["some", "some", "all", "lfp", "tc"]
theorem dfn_noL (d : Dfn) : noL d.data = true := noL_tup (by rw [noLs_cons, noLs_cons, noLs_cons, noL_str, noL_tS, Fm.noL, noLs]; rfl)
theorem dfns_noL (ds : List Dfn) : noLs (ds.map Dfn.data) = true := noLs_all fun t ht => by
  obtain ⟨p, _, rfl⟩ := List.mem_map.mp ht
  exact dfn_noL p
theorem signs_snoc {as : List Nat} {a k : Nat} {n : Str} (l : as.length = k) (hn : sgN[k]? = Option.some n) : signs (as ++ [a]) = signs as ++ [(n, a, 1)] := by
  subst l
  unfold sgN at hn
  match as with
  | [] => cases hn; rfl
  | [_] => cases hn; rfl
  | [_, _] => cases hn; rfl
  | _ :: _ :: _ :: _ => cases hn
section
variable {K : PySem.W.Frag} {d l : Addr} {H0 : Hp} {σ : L2.St}
theorem mk_ixL {ti : TE} {k j : Nat} {z : Int} {a : Addr} {us : List Str} {x : Str} (hk : σ[k]? = some (some (.ref a))) (ha : H0 a = some (.lst (us.map V.str))) (had : a ≠ d) (hi : MkI d l H0 σ ti z) (hz : z = (j : Nat)) (hx : us[j]? = some x) (nx : Nm x) :
    MkE K d l H0 σ (tOp (rIxL K) (tVar k) ti) (Is (.str x)) := fun H dr kp Q q =>
  ⟨_, hk, hi H dr kp _ fun H1 dr1 k1 => ⟨a, us.map V.str, z, .str x, rfl, rfl, SqL.of ((kp.trans k1) _ _ ha had), by rw [hz]; exact atI_nat (j := j) (by rw [List.getElem?_map, hx]; rfl), q H1 _ _ dr1 k1 (.str x) (.str nx.short) rfl⟩⟩
/-- one of written things, at a place that is known -/
theorem mk_pickV {ta : TA} {n k j : Nat} {S : List PyData → Prop} (h : MkA K d l H0 σ ta n S) (hk : σ[k]? = some (some (.int (j : Nat)))) (hj : j < n) (hn : n ≤ 1000) :
    MkE K d l H0 σ (tOp (rIxL K) (tLst ta) (tVar k)) (fun t => ∃ ts, S ts ∧ ts[j]? = some t) := fun H dr kp Q q =>
  h H dr kp _ fun H1 vs ts dr1 k1 dvs gs len r => ⟨by rw [DpAll.length dvs, len]; exact Nat.le_trans hn (by decide), fun p np => by
    have sp := same_upd (o := .lst vs) np
    have lv := DpAll.length dvs
    have hv : vs[j]? = some vs[j] := List.getElem?_eq_getElem (by omega)
    obtain ⟨t, ht, dt⟩ := DpAll.get' (DpAll.same sp dvs) hv
    exact ⟨_, hk, p, vs, _, vs[j], rfl, rfl, SqL.of upd_same, atI_nat (j := j) hv, q _ _ t (dr1.same sp) (k1.trans (.of sp)) dt (gs t (List.mem_of_getElem? ht)) ⟨ts, r, ht⟩⟩⟩
end
theorem signs_get {as : List Nat} {i : Nat} {p : NE} (hi : (signs as)[i]? = some p) : sgN[i]? = some p.1 ∧ as[i]? = some p.2.1 ∧ p.2.2 = 1 := by
  unfold signs at hi
  rw [List.getElem?_zipWith] at hi
  cases h2 : sgN[i]? with
  | none => rw [h2] at hi; cases hi
  | some z =>
    cases h3 : as[i]? with
    | none => rw [h2, h3] at hi; cases hi
    | some a =>
      rw [h2, h3] at hi
      obtain rfl := Option.some.inj hi
      exact ⟨rfl, rfl, rfl⟩
theorem Mkg.snoc {as : List Nat} {ds : List Dfn} {d : Dfn} (m : Mkg as ds) (h1 : sgN[ds.length]? = some d.nm) (h2 : as[ds.length]? = some d.vs.length) (o : OwnOk d.vs) (b : Bd d.vs as d.b 5) (hx : ∀ x, x ∈ d.vs → x ∈ (["x", "y", "z"] : List Str)) : Mkg as (ds ++ [d]) := ⟨fun i e he => by
  by_cases lt : i < ds.length
  · rw [List.getElem?_append_left lt] at he
    exact m.n i e he
  · rw [List.getElem?_append_right (by omega)] at he
    have z : i - ds.length = 0 := by
      have := (List.getElem?_eq_some_iff.mp he).1
      simp at this
      omega
    rw [z] at he
    obtain rfl := Option.some.inj he
    have e2 : i = ds.length := by omega
    subst e2
    exact ⟨h1, h2, o, b⟩, fun e he => by
  rcases List.mem_append.mp he with he | he
  · exact m.xyz e he
  · rw [List.mem_singleton.mp he]; exact hx⟩
section
variable {P : Program} {w : World} {K : PySem.W.Frag} {mg : Str → Option Value} {base : Heap}
theorem sc_lsystem : FnScope ["draws", "many", "signs", "system", "name", "arity", "mode", "args", "kinds", "body", "inner_v", "other", "seed", "k"] ["draws"] (defScope (top 134)) := ⟨rfl, rfl, rfl, by decide +kernel, rfl, by decide +kernel, by decide +kernel⟩
theorem has_lsystem (D : Def K mg "_law_system" ["draws"] (top 134)) (T : Txt mg) (C1 : Has P w K mg base 2 "_law_draw" ["draws"] spDraw) (C2 : Has P w K mg base 3 "_law_some_of" ["draws", "pool", "many"] (spSomeL K)) (C3 : Has P w K mg base 3 "_law_names" ["draws"] (spNamesT K)) (C4 : Has P w K mg base (4 + 2 * 3) "_law_formula" ["draws", "deep", "pool", "names", "kinds"] (spForm K 3)) : Has P w K mg base 11 "_law_system" ["draws"] (spSystem K) := D.has fun f fd F => by
  obtain ⟨f1, fd1, G_law_draw, g_law_draw, k_law_draw, b_law_draw⟩ := C1
  obtain ⟨f2, fd2, G_law_some_of, g_law_some_of, k_law_some_of, b_law_some_of⟩ := C2
  obtain ⟨f3, fd3, G_law_names, g_law_names, k_law_names, b_law_names⟩ := C3
  obtain ⟨f4, fd4, G_law_formula, g_law_formula, k_law_formula, b_law_formula⟩ := C4
  refine F.ok sc_lsystem (fun vs H Q E h => ?_) (fun cdv A outer s H vs Q E hr h => ?_)
  · obtain ⟨d, l, rfl, _⟩ := h; rfl
  · obtain ⟨d, l, rfl, dr, q⟩ := h
    have R_law_draw : Room 2 _ := hr.mono (by decide)
    have R_law_some_of : Room 3 _ := hr.mono (by decide)
    have R_law_names : Room 3 _ := hr.mono (by decide)
    have R_law_formula : Room (4 + 2 * 3) _ := hr
    refine ⟨_, PSs.nox (pss_cons (ps_set (i := 1) sc_lsystem.nd rfl (Or.inl rfl) (pe_op op_add pe_int (pe_op op_mod (pe_call G_law_draw R_law_draw (by rfl) g_law_draw k_law_draw b_law_draw .nil pass0 (pa_cons (pv 0) pa_nil)) pe_int))) (pss_cons (ps_setLc (i := 2) (own := [("k", 13)]) rfl sc_lsystem.nd rfl rfl (sw_true rfl rfl rfl (by decide +kernel)) (pi_range1 (by rfl) T.n_range (pa_cons (pv 1) pa_nil)) (blkOk_by (N := ["draws", "many", "signs", "system", "name", "arity", "mode", "args", "kinds", "body", "inner_v", "other", "seed", "k"]) (sc := defScope (top 134)) (by decide +kernel)) (fun _ _ _ _ _ => (pg_name (i := 13) sc_lsystem.nd rfl (Or.inl rfl))) (fun _ _ _ _ _ => pts_nil) (fun _ _ _ _ _ => (pe_tup (pa_cons (pe_ix (ix_listK (K := K) rfl) (pe_lst (pa_cons pe_str (pa_cons pe_str (pa_cons pe_str pa_nil)))) (pv 13) (fun _ _ => rfl)) (pa_cons (pe_op op_add pe_int (pe_op op_mod (pe_call G_law_draw R_law_draw (by rfl) g_law_draw k_law_draw b_law_draw .nil pass0 (pa_cons (pv 0) pa_nil)) pe_int)) (pa_cons pe_int pa_nil)))))) (pss_cons (ps_set (i := 3) sc_lsystem.nd rfl (Or.inl rfl) (pe_lst pa_nil)) (pss_cons (ps_for PassesOwn.never rfl (pi_list (pv 2)) (pg_tup rfl (pgs_cons (pg_name (i := 4) sc_lsystem.nd rfl (Or.inl rfl)) (pgs_cons (pg_name (i := 5) sc_lsystem.nd rfl (Or.inr rfl)) (pgs_cons (pg_name (i := 6) sc_lsystem.nd rfl (Or.inl rfl)) pgs_nil)))) (pss_cons (ps_set (i := 7) sc_lsystem.nd rfl (Or.inr rfl) (pe_call G_law_some_of R_law_some_of (by rfl) g_law_some_of k_law_some_of b_law_some_of .nil pass0 (pa_cons (pv 0) (pa_cons (pe_lst (pa_cons pe_str (pa_cons pe_str (pa_cons pe_str pa_nil)))) (pa_cons (pv 5) pa_nil))))) (pss_cons (ps_set (i := 8) sc_lsystem.nd rfl (Or.inl rfl) (pe_lst (pa_cons pe_str (pa_cons pe_str (pa_cons pe_str (pa_cons pe_str (pa_cons pe_str pa_nil))))))) (pss_cons (ps_set (i := 9) sc_lsystem.nd rfl (Or.inl rfl) (pe_call G_law_formula R_law_formula (by rfl) g_law_formula k_law_formula b_law_formula .nil pass0 (pa_cons (pv 0) (pa_cons (pe_op op_add pe_int (pe_op op_mod (pe_call G_law_draw R_law_draw (by rfl) g_law_draw k_law_draw b_law_draw .nil pass0 (pa_cons (pv 0) pa_nil)) pe_int)) (pa_cons (pv 7) (pa_cons (pe_op op_cat (pe_call G_law_names R_law_names (by rfl) g_law_names k_law_names b_law_names .nil pass0 (pa_cons (pv 0) pa_nil)) (pv 2)) (pa_cons (pv 8) pa_nil))))))) (Evl.pss_cut (ps_if (pt_cmpR op_eq (pe_op op_mod (pe_call G_law_draw R_law_draw (by rfl) g_law_draw k_law_draw b_law_draw .nil pass0 (pa_cons (pv 0) pa_nil)) pe_int) pe_int (nomark _)) (pss_cons (ps_set (i := 10) sc_lsystem.nd rfl (Or.inl rfl) (pe_call G_law_formula R_law_formula (by rfl) g_law_formula k_law_formula b_law_formula .nil pass0 (pa_cons (pv 0) (pa_cons (pe_op op_add pe_int (pe_op op_mod (pe_call G_law_draw R_law_draw (by rfl) g_law_draw k_law_draw b_law_draw .nil pass0 (pa_cons (pv 0) pa_nil)) pe_int)) (pa_cons (pe_op op_cat (pv 7) (pe_lst (pa_cons pe_str pa_nil))) (pa_cons (pe_op op_cat (pe_call G_law_names R_law_names (by rfl) g_law_names k_law_names b_law_names .nil pass0 (pa_cons (pv 0) pa_nil)) (pv 2)) (pa_cons (pe_lst (pa_cons pe_str pa_nil)) pa_nil))))))) (pss_one (ps_set (i := 9) sc_lsystem.nd rfl (Or.inl rfl) (pe_tup (pa_cons (pe_ix ix_list (pe_lst (pa_cons pe_str (pa_cons pe_str pa_nil))) (pe_op op_mod (pe_call G_law_draw R_law_draw (by rfl) g_law_draw k_law_draw b_law_draw .nil pass0 (pa_cons (pv 0) pa_nil)) pe_int) (fun _ _ => rfl)) (pa_cons (pe_tup (pa_cons (pv 9) (pa_cons (pe_tup (pa_cons pe_str (pa_cons (pe_tup (pa_cons pe_str pa_nil)) (pa_cons (pv 10) pa_nil)))) pa_nil))) pa_nil)))))) pss_nil) (Evl.pss_cut (ps_if (pt_cmpR op_eq (pe_op op_mod (pe_call G_law_draw R_law_draw (by rfl) g_law_draw k_law_draw b_law_draw .nil pass0 (pa_cons (pv 0) pa_nil)) pe_int) pe_int (nomark _)) (pss_cons (ps_set (i := 11) sc_lsystem.nd rfl (Or.inl rfl) (pe_ix ix_list (pv 2) (pe_op op_mod (pe_call G_law_draw R_law_draw (by rfl) g_law_draw k_law_draw b_law_draw .nil pass0 (pa_cons (pv 0) pa_nil)) (pv 1)) (fun _ _ => rfl))) (pss_cons (ps_set (i := 12) sc_lsystem.nd rfl (Or.inl rfl) (pe_tup (pa_cons pe_str (pa_cons (pe_ix ix_tup (pv 11) pe_int (fun _ _ => rfl)) (pa_cons (pe_callTy call_tuple_of (by rfl) T.n_tuple (by decide +kernel) (pa_cons (pe_lc (own := [("k", 13)]) rfl sc_lsystem.nd (pi_range1 (by rfl) T.n_range (pa_cons (pe_ix ix_tup (pv 11) pe_int (fun _ _ => rfl)) pa_nil)) (blkOk_by (N := ["draws", "many", "signs", "system", "name", "arity", "mode", "args", "kinds", "body", "inner_v", "other", "seed", "k"]) (sc := defScope (top 134)) (by decide +kernel)) (fun _ _ _ _ _ => (pg_name (i := 13) sc_lsystem.nd rfl (Or.inl rfl))) (fun _ _ _ _ _ => pts_nil) (fun _ _ _ _ _ => (pe_ix (ix_listK (K := K) rfl) (pv 7) (pe_op op_mod (pe_call G_law_draw R_law_draw (by rfl) g_law_draw k_law_draw b_law_draw .nil pass0 (pa_cons (pv 0) pa_nil)) (pv 5)) (fun _ _ => rfl)))) pa_nil)) pa_nil))))) (pss_one (ps_set (i := 9) sc_lsystem.nd rfl (Or.inl rfl) (pe_tup (pa_cons pe_str (pa_cons (pe_tup (pa_cons (pv 9) (pa_cons (pv 12) (pa_cons (pe_tup (pa_cons pe_str (pa_cons pe_str (pa_cons (pe_tup (pa_cons (pe_ix ix_list (pv 7) pe_int (fun _ _ => rfl)) (pa_cons (pe_ix ix_list (pv 7) (pe_op op_sub (pv 5) pe_int) (fun _ _ => rfl)) pa_nil))) pa_nil)))) pa_nil)))) pa_nil))))))) pss_nil) (pss_one (ps_expr (pe_bm PySem.F.plainAttrs_list PySem.F.slot_list_append PySem.F.type_list_append mt_append (pv 3) (pa_cons (pe_tup (pa_cons (pv 4) (pa_cons (pe_callTy call_tuple_of (by rfl) T.n_tuple (by decide +kernel) (pa_cons (pv 7) pa_nil)) (pa_cons (pv 9) pa_nil)))) pa_nil)))))))))) (pss_one (ps_ret (pv 3))))))), ?_⟩
    -- many
    refine mk_seq (K := K) (mk_deep1 (K := K) (i := 0) (c := 3) rfl (by decide)) dr (Kp.refl d H) fun H1 vm tm dr1 k1 dm gm rm => ?_
    obtain ⟨n, rfl, n1, n3⟩ := rm
    cases dm
    -- signs
    refine ⟨_, rfl, n, rfl, by omega, by omega, fun G nG => ?_⟩
    obtain ⟨nGd, nGl⟩ := dr1.ne nG
    refine lc_it walk_range (fun i H2 => ∃ (as : List Nat) (xs : List V), as.length = i ∧ Ars as ∧ H2 G = some (.lst xs) ∧ DpAll K H2 xs ((signs as).map nD) ∧ DrA H2 d l ∧ Kp d H1 H2) ⟨[], [], rfl, ⟨by decide, fun a ha => by cases ha⟩, upd_same, .nil, dr1.same (same_upd nG), .of (same_upd nG)⟩ (fun _ _ _ _ => trivial) ?_ ?_
    · rintro i y H2 H3 hi ⟨as, xs, li, ars, hG, hx, dr2, k2⟩ ⟨rfl, rfl⟩
      refine ⟨rfl, ?_⟩
      dsimp only [tYes]
      rw [if_pos rfl]
      refine MkE.go (K := K) (mk_tup (by decide) (mk_cons (mk_pickV (k := 13) (j := i) (mk_cons (mk_str (by decide +kernel)) (mk_cons (mk_str (by decide +kernel)) (mk_cons (mk_str (by decide +kernel)) mk_nil))) (by show some (some (V.int (0 + (i : Int)))) = _; rw [Int.zero_add]) (by omega) (by decide)) (mk_cons (mk_deep1 (i := 0) (c := 2) rfl (by decide)) (mk_cons mk_int mk_nil)))) dr2 (Kp.refl d H3) fun H4 v t dr4 k4 dv gv r => ?_
      obtain ⟨_, rfl, _, t1, _, rfl, ⟨ts, ⟨_, _, rfl, rfl, _, _, rfl, rfl, _, _, rfl, rfl, rfl⟩, hj⟩, _, _, rfl, ⟨a, rfl, a1, a2⟩, _, _, rfl, rfl, rfl⟩ := r
      obtain ⟨nm, hn, rfl⟩ : ∃ nm, sgN[i]? = Option.some nm ∧ t1 = .str nm := by
        match i, hj with
        | 0, hj => exact ⟨_, rfl, (Option.some.inj hj).symm⟩
        | 1, hj => exact ⟨_, rfl, (Option.some.inj hj).symm⟩
        | 2, hj => exact ⟨_, rfl, (Option.some.inj hj).symm⟩
      have hx4 := DpAll.kl (.dr k4 dr2) hx (ns_noL _)
      have hG4 := k4 _ _ hG nGd
      have lx := DpAll.length hx
      rw [List.length_map, signs_len ars] at lx
      have ars' : Ars (as ++ [a]) := ⟨by rw [List.length_append, li]; show i + 1 ≤ 3; omega, fun b hb => by
        rcases List.mem_append.mp hb with hb | hb
        · exact ars.rg b hb
        · rw [List.mem_singleton.mp hb]; exact ⟨a1, by omega⟩⟩
      refine ⟨_, hG4, Nat.lt_of_le_of_lt (show xs.length ≤ 3 by omega) (by decide), as ++ [a], _, by rw [List.length_append, li]; rfl, ars', upd_same, ?_, dr4.kp Kp.upd ⟨nGd, nGl⟩, kp_own (k2.trans k4) nG⟩
      rw [signs_snoc li hn, List.map_append]
      exact DpAll.kl (Kl.upd hG4) (DpAll.snoc hx4 dv) (by rw [← List.map_append]; exact ns_noL _)
    · rintro H2 ⟨as, xs, li, ars, hG, hx, dr2, k2⟩
      have li : as.length = n := li
      have lx := DpAll.length hx
      rw [List.length_map, signs_len ars, li] at lx
      refine ⟨(by show 0 ≤ sizeLine; decide), fun S nS => ?_⟩
      obtain ⟨nSd, nSl⟩ := dr2.ne nS
      have nSG : S ≠ G := fun z => by rw [z, hG] at nS; cases nS
      refine ⟨_, rfl, G, rfl, ⟨_, SqL.of (show (upd H2 S (.lst [])) G = some (.lst xs) from (upd_ne nSG.symm).trans hG)⟩, for_list (K := K) (a := G) (xs := xs) (fun i σ H3 => ∃ (y4 y5 y6 y7 y8 y9 y10 y11 y12 : Option V) (xs2 : List V) (ds : List Dfn), σ = [some (.ref d), some (.int (n : Nat)), some (.ref G), some (.ref S), y4, y5, y6, y7, y8, y9, y10, y11, y12, none] ∧ DrA H3 d l ∧ Kp d H2 H3 ∧ H3 S = some (.lst xs2) ∧ DpAll K H3 xs2 (ds.map Dfn.data) ∧ ds.length = i ∧ Mkg as ds)
        ⟨none, none, none, none, none, none, none, none, none, [], [], rfl, dr2.same (same_upd nS), .of (same_upd nS), upd_same, .nil, rfl, ⟨(fun i e he => by cases he), (fun e he => by cases he)⟩⟩ (fun i σ H3 _ ⟨_, _, _, _, _, _, _, _, _, _, _, _, _, k3, _⟩ => SqL.of (k3 _ _ hG nGd)) ?_ ?_⟩
      · rintro i y σ H3 hi ⟨y4, y5, y6, y7, y8, y9, y10, y11, y12, xs2, ds, rfl, dr3, k3, hS3, hx2, lds, mkg⟩
        have hG3 := k3 _ _ hG nGd
        have hx3 : DpAll K H3 xs ((signs as).map nD) := DpAll.kl (.dr k3 dr2) hx (ns_noL _)
        obtain ⟨dd, hdd, dpy⟩ := DpAll.get' hx3 hi
        obtain ⟨p, hp, rfl⟩ := get_map hdd
        obtain ⟨s1, s2, s3⟩ := signs_get hp
        obtain ⟨nm, a, m1⟩ := p
        cases s3
        have ra := ars.rg a (List.mem_of_getElem? s2)
        obtain ⟨t, rfl, ht⟩ := nD_inv dpy
        refine ⟨t, _, rfl, ht, rfl, _, _, rfl, _, _, rfl, _, _, rfl, rfl, ?_⟩
        -- the variables
        refine ⟨_, rfl, (by show 3 ≤ sizeLine; decide), fun c nc => ?_⟩
        have sc := same_upd (o := .lst [.str "x", .str "y", .str "z"]) nc
        obtain ⟨ncd, ncl⟩ := dr3.ne nc
        refine ⟨_, rfl, d, l, .ref c, ["x", "y", "z"], a, rfl, dr3.same sc, strsL_of (as := ["x", "y", "z"]) (SqL.of (wo_at ncd upd_same)), Nat.le_trans ra.2 (by decide), by decide, fun H4 rv ch dr4 k4 hrv nrv lch sub nd => ?_⟩
        have k34 : Kp d H3 H4 := (Kp.of sc).trans k4
        have nch : Names ch := fun x hx => pool_xyz.nm x (sub x hx)
        have ndc := nd pool_xyz.nd
        have pch : Pool ch := ⟨nch, ndc, by omega, by omega⟩
        have own : OwnOk ch := ⟨by omega, by omega, nch, ndc⟩
        have hrl : SqL K H4 rv (ch.map V.str) := SqL.of hrv
        -- the kinds
        refine mk_seq (K := K) (H0 := H4) (mk_lst (by decide) (fun ts h => by obtain ⟨_, _, rfl, rfl, _, _, rfl, rfl, _, _, rfl, rfl, _, _, rfl, rfl, _, _, rfl, rfl, rfl⟩ := h; exact int1_strs kinds5) (mk_cons (mk_str (by decide +kernel)) (mk_cons (mk_str (by decide +kernel)) (mk_cons (mk_str (by decide +kernel)) (mk_cons (mk_str (by decide +kernel)) (mk_cons (mk_str (by decide +kernel)) mk_nil)))))) dr4 (Kp.refl d H4) fun H5 vk tk dr5 k5 dk gk rk => ?_
        obtain ⟨_, rfl, _, _, _, rfl, rfl, _, _, rfl, rfl, _, _, rfl, rfl, _, _, rfl, rfl, _, _, rfl, rfl, rfl⟩ := rk
        have dk : Dp K H5 vk (.list (kinds5.map PyData.str)) := dk
        have gk : Gd (.list (kinds5.map PyData.str)) := gk
        have hrv5 := k5 _ _ hrv nrv
        have hG5 := k5 _ _ (k34 _ _ hG3 nGd) nGd
        have hx5 : DpAll K H5 xs ((signs as).map nD) := DpAll.kl (.dr (k34.trans k5) dr3) hx3 (ns_noL _)
        have dp5 : Dp K H5 (.ref rv) (.list (ch.map PyData.str)) := strsL_of (SqL.of hrv5)
        have gp5 : Gd (.list (ch.map PyData.str)) := .lst (by rw [List.length_map]; omega) (int1_strs _) fun t ht => by
          obtain ⟨x, hx, rfl⟩ := List.mem_map.mp ht
          exact .str (nch x hx).short
        -- the body
        refine mk_seq (K := K) (H0 := H5) (mk_form (n := 3) (c := 3) (Nat.le_refl _) (by decide) ars pch (kl := kinds5) (by decide) (fun x hx => by revert x; decide +kernel) rfl (mk_cons (mk_deep1 rfl (by decide)) (mk_cons (mk_var (i := 7) rfl dp5 gp5 dr5) (mk_cons (mk_namesT ars rfl rfl hG5 nGd hx5 dr5) (mk_cons (mk_var (i := 8) rfl dk gk dr5) mk_nil))))) dr5 (Kp.refl d H5) fun H6 vb tb dr6 k6 db gb rb => ?_
        obtain ⟨f, j, rfl, hj, gen⟩ := rb
        have b3 := Bd.of hj gen
        have hrv6 := k6 _ _ hrv5 nrv
        have hG6 := k6 _ _ hG5 nGd
        have hx6 : DpAll K H6 xs ((signs as).map nD) := DpAll.kl (.dr k6 dr5) hx5 (ns_noL _)
        -- perhaps some w
        refine ⟨fun σ H7 => ∃ (y10 : Option V) (v9 : V) (f2 : Fm), σ = [some (.ref d), some (.int (n : Nat)), some (.ref G), some (.ref S), some (.str nm), some (.int (a : Nat)), some (.int (1 : Nat)), some (.ref rv), some vk, some v9, y10, y11, y12, none] ∧ DrA H7 d l ∧ Kp d H6 H7 ∧ Dp K H7 v9 f2.data ∧ Bd ch as f2 4, ?_, ?_⟩
        · refine mk_ifB (mb_drawE rfl (by decide)) dr6 (Kp.refl d H6) (fun H7 dr7 k7 => ?_) (fun H7 dr7 k7 => ⟨y10, vb, f, rfl, dr7, k7, Dp.kpA db dr6 gb.g k7, b3.mono (by decide)⟩)
          have dp7 := k7 _ _ hrv6 nrv
          have hG7 := k7 _ _ hG6 nGd
          have hx7 : DpAll K H7 xs ((signs as).map nD) := DpAll.kl (.dr k7 dr6) hx6 (ns_noL _)
          have pw : Pool (ch ++ [("w" : Str)]) := ⟨fun x hx => by
            rcases List.mem_append.mp hx with hx | hx
            · exact nch x hx
            · rw [List.mem_singleton.mp hx]; exact nm_of (by decide +kernel), List.nodup_append.mpr ⟨ndc, by decide +kernel, fun x hx y hy e => by
              rw [List.mem_singleton.mp hy] at e
              rw [e] at hx
              exact absurd (sub _ hx) (by decide +kernel)⟩, by rw [List.length_append]; omega, by rw [List.length_append]; show ch.length + 1 ≤ 20; omega⟩
          refine mk_seq (K := K) (H0 := H7) (mk_form (n := 3) (c := 2) (by decide) (by decide) ars pw (kl := ["some"]) (by decide) (fun x hx => by revert x; decide +kernel) rfl (mk_cons (mk_deep1 rfl (by decide)) (mk_cons (mk_catw (k := 7) rfl dp7 nrv nch (by omega)) (mk_cons (mk_namesT ars rfl rfl hG7 nGd hx7 dr7) (mk_cons (mk_imp (fun t h => by obtain ⟨_, rfl, _, _, _, rfl, rfl, rfl⟩ := h; rfl) (mk_lst (by decide) (fun ts h => by obtain ⟨_, _, rfl, rfl, rfl⟩ := h; exact int1_strs ["some"]) (mk_cons (mk_str (by decide +kernel)) mk_nil))) mk_nil))))) dr7 (Kp.refl d H7) fun H8 vi ti dr8 k8 di gi ri => ?_
          obtain ⟨g, j2, rfl, hj2, gen2⟩ := ri
          have bw := Bd.some hj2 gen2
          have db8 := Dp.kpA (Dp.kpA db dr6 gb.g k7) dr7 gb.g k8
          refine MkE.go (K := K) (H0 := H8) (mk_tup (by decide) (mk_cons (mk_pick (i := 0) (n := 2) (mk_cons (mk_str (by decide +kernel)) (mk_cons (mk_str (by decide +kernel)) mk_nil)) rfl rfl (by decide) (by decide)) (mk_cons (mk_tup (by decide) (mk_cons (mk_var (i := 9) rfl db8 gb dr8) (mk_cons (mk_tup (by decide) (mk_cons (mk_str (by decide +kernel)) (mk_cons (mk_tup (by decide) (mk_cons (mk_str (by decide +kernel)) mk_nil)) (mk_cons (mk_var (i := 10) rfl di gi dr8) mk_nil)))) mk_nil))) mk_nil))) dr8 (Kp.refl d H8) fun H9 v t9 dr9 k9 dv gv r => ?_
          obtain ⟨_, rfl, _, th, _, rfl, ⟨ts, ⟨_, _, rfl, rfl, _, _, rfl, rfl, rfl⟩, mem⟩, _, _, rfl, ⟨_, rfl, _, _, _, rfl, rfl, _, _, rfl, ⟨_, rfl, _, _, _, rfl, rfl, _, _, rfl, ⟨_, rfl, _, _, _, rfl, rfl, rfl⟩, _, _, rfl, rfl, rfl⟩, rfl⟩, rfl⟩ := r
          have mem : th = .str "and" ∨ th = .str "or" := by simpa using mem
          have bps : ∀ g', g' ∈ [f, Fm.mk (.ex ["w"]) [g]] → Bd ch as g' 3 := fun g' hg' => by
            rcases List.mem_cons.mp hg' with rfl | hg'
            · exact b3
            · rw [List.mem_singleton.mp hg']; exact bw
          rcases mem with rfl | rfl
          · refine ⟨_, v, .mk .con [f, .mk (.ex ["w"]) [g]], rfl, dr9, (k7.trans k8).trans k9, ?_, .con (.inl rfl) bps (by show 2 ≤ 3; decide)⟩
            rw [Fm.data_mk]
            show Dp K H9 v (.tuple [.str "and", .tuple [f.data, (Fm.mk (.ex ["w"]) [g]).data]])
            rw [Fm.data_mk]
            exact dv
          · refine ⟨_, v, .mk .dis [f, .mk (.ex ["w"]) [g]], rfl, dr9, (k7.trans k8).trans k9, ?_, .con (.inr rfl) bps (by show 2 ≤ 3; decide)⟩
            rw [Fm.data_mk]
            show Dp K H9 v (.tuple [.str "or", .tuple [f.data, (Fm.mk (.ex ["w"]) [g]).data]])
            rw [Fm.data_mk]
            exact dv
        rintro σ H7 ⟨z10, v9, f2, rfl, dr7, k7, d7, b4⟩
        have g7 := gd_fm f2 b4.g.ok
        have hrv7 := k7 _ _ hrv6 nrv
        have hG7 := k7 _ _ hG6 nGd
        have hx7 : DpAll K H7 xs ((signs as).map nD) := DpAll.kl (.dr k7 dr6) hx6 (ns_noL _)
        refine ⟨fun σ H8 => ∃ (z10 z11 z12 : Option V) (v9 : V) (f3 : Fm), σ = [some (.ref d), some (.int (n : Nat)), some (.ref G), some (.ref S), some (.str nm), some (.int (a : Nat)), some (.int (1 : Nat)), some (.ref rv), some vk, some v9, z10, z11, z12, none] ∧ DrA H8 d l ∧ Kp d H7 H8 ∧ Dp K H8 v9 f3.data ∧ Bd ch as f3 5, ?_, ?_⟩
        · refine mk_ifB (mb_drawE rfl (by decide)) dr7 (Kp.refl d H7) (fun H8 dr8 k8 => ?_) (fun H8 dr8 k8 => ⟨z10, y11, y12, v9, f2, rfl, dr8, k8, Dp.kpA d7 dr7 g7.g k8, b4.mono (by decide)⟩)
          have hrv8 := k8 _ _ hrv7 nrv
          have hG8 := k8 _ _ hG7 nGd
          have hx8 : DpAll K H8 xs ((signs as).map nD) := DpAll.kl (.dr k8 dr7) hx7 (ns_noL _)
          have n0 : 0 < xs.length := by omega
          -- another sign
          refine ⟨_, rfl, _, rfl, d, l, rfl, dr8, fun z9 H9 _ _ dr9 k9 => ?_⟩
          have hG9 := k9 _ _ hG8 nGd
          have hrv9 := k9 _ _ hrv8 nrv
          have hx9 : DpAll K H9 xs ((signs as).map nD) := DpAll.kl (.dr k9 dr8) hx8 (ns_noL _)
          obtain ⟨v, hv, hat⟩ := atI_mod (xs := xs) z9 n0
          rw [lx] at hat
          obtain ⟨t1, ht1, dv⟩ := DpAll.inMem hx9 hv
          obtain ⟨p2, hp2, rfl⟩ := List.mem_map.mp ht1
          obtain ⟨t2, rfl, ht2⟩ := nD_inv dv
          have a3 := (all_ok ars).ar p2 (List.mem_append_right _ hp2)
          refine ⟨_, rfl, _, _, rfl, rfl, by omega, G, _, _, _, rfl, rfl, SqL.of hG9, hat, ?_⟩
          -- its places
          refine ⟨_, rfl, t2, _, _, _, rfl, rfl, ht2, atI_nat (j := 0) rfl, ?_⟩
          refine ⟨_, rfl, t2, _, _, _, rfl, rfl, ht2, atI_nat (j := 1) rfl, p2.2.1, rfl, by omega, by omega, fun M nM => ?_⟩
          obtain ⟨nMd, nMl⟩ := dr9.ne nM
          refine lc_it walk_range (fun i H5 => ∃ ws : List Str, DrA H5 d l ∧ Kp d H9 H5 ∧ H5 M = some (.lst (ws.map V.str)) ∧ ws.length = i ∧ ∀ x, x ∈ ws → x ∈ ch) ⟨[], dr9.same (same_upd nM), .of (same_upd nM), upd_same, rfl, fun x hx => nomatch hx⟩ (fun _ _ _ _ => trivial) ?_ ?_
          · rintro i y H5 H6 hi ⟨ws, dr5, k5, hM, len, hs⟩ ⟨rfl, rfl⟩
            refine ⟨rfl, _, rfl, _, rfl, d, l, rfl, dr5, fun z6 H7 _ _ dr7 k7 => ?_⟩
            have hrv7 := (k5.trans k7) _ _ hrv9 nrv
            obtain ⟨x, hx, hax⟩ := atI_str (as := ch) z6 (by omega)
            have hM7 := k7 _ _ hM nMd
            rw [List.length_map, lch] at hax
            refine ⟨_, rfl, _, _, rfl, rfl, (by show (0 : Int) < (a : Int); omega), rv, _, _, _, rfl, rfl, SqL.of hrv7, hax, _, hM7, ?_, ws ++ [x], dr7.kp Kp.upd ⟨nMd, nMl⟩, kp_own (k5.trans k7) nM, ?_, ?_, ?_⟩
            · rw [List.length_map]
              exact small1000 (by omega)
            · rw [upd_same, List.map_append]; rfl
            · rw [List.length_append, len]; rfl
            · intro y hy
              rcases List.mem_append.mp hy with hy | hy
              · exact hs y hy
              · rw [List.mem_singleton.mp hy]; exact hx
          rintro H5 ⟨ws, dr5, k5, hM, len, hs⟩
          have len : ws.length = p2.2.1 := by simpa using len
          refine ⟨M, _, rfl, .inl ⟨SqL.of hM, fun u nu => ?_⟩⟩
          refine ⟨(by show 3 ≤ sizeLine; decide), fun r nr => ?_⟩
          have s7 := same_upd (o := .tup (ws.map V.str)) nu
          have s8 := same_upd (o := .tup [.str "rel", .str p2.1, .ref u]) nr
          have dseed : Dp K (upd (upd H5 u (.tup (ws.map V.str))) r (.tup [.str "rel", .str p2.1, .ref u])) (.ref r) (Fm.mk (.rel p2.1 ws) []).data := by
            rw [Fm.data_mk]
            exact .tup (.inl (.inl upd_same)) (.cons (.str _) (.cons (.str _) (.cons (tS_of (Same.sqt s8 (.inl (.inl upd_same)))) .nil)))
          obtain ⟨H6, e6⟩ : ∃ H6, H6 = upd (upd H5 u (.tup (ws.map V.str))) r (.tup [.str "rel", .str p2.1, .ref u]) := ⟨_, rfl⟩
          have s56 : Same H5 H6 := e6 ▸ s7.trans s8
          have bseed : Bd ch as (Fm.mk (.rel p2.1 ws) []) 1 := Bd.rel ars nch (List.mem_cons_of_mem _ hp2) len hs
          have gseed := gd_fm _ bseed.g.ok
          have dr6 := dr5.same s56
          have k96 : Kp d H9 H6 := k5.trans (.of s56)
          rw [← e6] at dseed ⊢
          clear e6 s7 s8
          have k76 : Kp d H7 H6 := (k8.trans k9).trans k96
          have hrv6 := k76 _ _ hrv7 nrv
          have d6 := Dp.kpA d7 dr7 g7.g k76
          have l0 : 0 < ch.length := by omega
          have l1 : a - 1 < ch.length := by omega
          have ex0 : ch[0]? = some ch[0] := List.getElem?_eq_getElem l0
          have ex1 : ch[a - 1]? = some ch[a - 1] := List.getElem?_eq_getElem l1
          dsimp only [gName, tAsg]
          refine MkE.go (K := K) (H0 := H6) (mk_tup (by decide) (mk_cons (mk_str (by decide +kernel)) (mk_cons (mk_tup (by decide) (mk_cons (mk_var (i := 9) rfl d6 g7 dr6) (mk_cons (mk_var (i := 12) rfl dseed gseed dr6) (mk_cons (mk_tup (by decide) (mk_cons (mk_str (by decide +kernel)) (mk_cons (mk_str (by decide +kernel)) (mk_cons (mk_tup (by decide) (mk_cons (mk_ixL (k := 7) (j := 0) (z := 0) rfl hrv6 nrv mi_c rfl ex0 (nch _ (List.mem_of_getElem? ex0))) (mk_cons (mk_ixL (k := 7) (j := a - 1) (z := (a : Int) - 1) rfl hrv6 nrv (mi_op (g := fun i j => i - j) (mi_var (i := 5) rfl) mi_c) (show (a : Int) - 1 = ((a - 1 : Nat) : Int) by omega) ex1 (nch _ (List.mem_of_getElem? ex1))) mk_nil))) mk_nil)))) mk_nil)))) mk_nil))) dr6 (Kp.refl d H6) fun HA v t9 drA kA dv gv r => ?_
          obtain ⟨_, rfl, _, _, _, rfl, rfl, _, _, rfl, ⟨_, rfl, _, _, _, rfl, rfl, _, _, rfl, rfl, _, _, rfl, ⟨_, rfl, _, _, _, rfl, rfl, _, _, rfl, rfl, _, _, rfl, ⟨_, rfl, _, _, _, rfl, rfl, _, _, rfl, rfl, rfl⟩, rfl⟩, rfl⟩, rfl⟩ := r
          have be : Bd ch as (Fm.mk (.rel "e" [ch[0], ch[a - 1]]) []) 1 := Bd.rel (p := (("e" : Str), 2, 0)) ars nch (List.mem_cons_self ..) rfl fun x hx => by
            rcases List.mem_cons.mp hx with rfl | hx
            · exact List.mem_of_getElem? ex0
            · rw [List.mem_singleton.mp hx]; exact List.mem_of_getElem? ex1
          refine ⟨_, _, _, v, .mk .dis [f2, .mk (.rel p2.1 ws) [], .mk (.rel "e" [ch[0], ch[a - 1]]) []], rfl, drA, k76.trans kA, ?_, .con (.inr rfl) (fun g' hg' => ?_) (by show 3 ≤ 3; decide)⟩
          · rw [Fm.data_mk]
            show Dp K HA v (.tuple [.str "or", .tuple [f2.data, (Fm.mk (.rel p2.1 ws) []).data, (Fm.mk (.rel "e" [ch[0], ch[a - 1]]) []).data]])
            rw [Fm.data_mk (.rel "e" [ch[0], ch[a - 1]])]
            exact dv
          · rcases List.mem_cons.mp hg' with rfl | hg'
            · exact b4
            · rcases List.mem_cons.mp hg' with rfl | hg'
              · exact bseed.mono (by decide)
              · rw [List.mem_singleton.mp hg']; exact be.mono (by decide)
        rintro σ H8 ⟨z10, z11, z12, v9, f3, rfl, dr8, k8, d8, b5⟩
        have hrv8 := k8 _ _ hrv7 nrv
        have k38 : Kp d H3 H8 := (((k34.trans k5).trans k6).trans k7).trans k8
        have hS8 := k38 _ _ hS3 nSd
        -- the system grows
        refine ⟨_, rfl, .inl ⟨rfl, _, SqL.of hS8⟩, ?_⟩
        refine ⟨_, rfl, _, rfl, rv, _, rfl, .inl ⟨SqL.of hrv8, fun u nu => ?_⟩⟩
        refine ⟨_, rfl, (by show 3 ≤ sizeLine; decide), fun r nr => ?_⟩
        have s8 := same_upd (o := .tup (ch.map V.str)) nu
        have s9 := same_upd (o := .tup [.str nm, .ref u, v9]) nr
        have s89 := s8.trans s9
        have lx2 := DpAll.length hx2
        rw [List.length_map, lds] at lx2
        refine ⟨S, _, _, rfl, rfl, s89 _ _ hS8, Nat.lt_of_le_of_lt (show xs2.length ≤ 3 by have := (List.getElem?_eq_some_iff.mp hi).1; omega) (by decide), ?_⟩
        have dd : Dp K _ (.ref r) (Dfn.data ⟨nm, ch, f3⟩) := .tup (SqT.of upd_same) (.cons (.str nm) (.cons (tS_of (Same.sqt s9 (SqT.of upd_same))) (.cons (Dp.same s89 d8) .nil)))
        have hS9 := s89 _ _ hS8
        have hx9 := DpAll.same s89 (DpAll.kl (.dr k38 dr3) hx2 (dfns_noL _))
        have dr9 := dr8.same s89
        refine ⟨_, _, _, _, _, _, _, _, _, xs2 ++ [.ref r], ds ++ [⟨nm, ch, f3⟩], rfl, dr9.kp Kp.upd ⟨nSd, nSl⟩, kp_own ((k3.trans k38).trans (.of s89)) nS, upd_same, ?_, by rw [List.length_append, lds]; rfl, mkg.snoc (by rw [lds]; exact s1) (by rw [lds]; show _ = some ch.length; rw [lch]; exact s2) own b5 sub⟩
        rw [List.map_append]
        exact DpAll.kl (Kl.upd hS9) (DpAll.snoc hx9 dd) (by rw [← List.map_append]; exact dfns_noL _)
      · rintro σ H3 ⟨y4, y5, y6, y7, y8, y9, y10, y11, y12, xs2, ds, rfl, dr3, k3, hS3, hx2, lds, mkg⟩
        rw [lx] at lds
        have sys := mkg.sys ars (by omega) (by omega)
        exact ⟨_, rfl, q H3 S xs2 ds dr3 ((k1.trans k2).trans k3) hS3 nSd hx2 ⟨sys.1, sys.2, as, ars, mkg, by omega⟩⟩
end
/-! ### what spoils a system -/
theorem dfn_eq {d e : Dfn} (h : d.data = e.data) (o : d.b.Ok) (o' : e.b.Ok) : d = e := by
  obtain ⟨n, vs, b⟩ := d
  obtain ⟨n', vs', b'⟩ := e
  unfold Dfn.data at h
  injection h with h
  injection h with h1 h
  injection h with h2 h
  injection h with h3 _
  cases h1
  have h2 : tS vs = tS vs' := h2
  unfold tS at h2
  injection h2 with h2
  cases strs_eq h2
  cases data_inj b b' o o' h3
  rfl
/-- in no right system -/
def Out (t : PyData) : Prop := ∀ ds, SysOk ds → ¬ t ∈ ds.map Dfn.data
/-- in its place it spoils the system -/
def BadAt (ds : List Dfn) (at_ : Nat) (t : PyData) : Prop := ∀ es, SysOk es → PyData.list ((ds.map Dfn.data).set at_ t) ≠ sysD es
theorem Out.bad {t : PyData} (h : Out t) {ds : List Dfn} {at_ : Nat} (lt : at_ < ds.length) : BadAt ds at_ t := fun es ok e => by
  unfold sysD at e
  injection e with e
  exact h es ok (by rw [← e]; exact List.mem_set (by rw [List.length_map]; exact lt) t)
theorem Out.of {t : PyData} (h : ∀ d : Dfn, d.Ok → t ≠ d.data) : Out t := fun ds ok m => by
  obtain ⟨d, hd, e⟩ := List.mem_map.mp m
  exact h d (ok.ok d hd) e.symm
theorem Out.no3 {t : PyData} (h : ∀ a b c, t ≠ .tuple [a, b, c]) : Out t := .of fun d _ => h _ _ _
theorem Out.nm {a b c : PyData} (h : ∀ n, a = .str n → ¬ Nm n) : Out (.tuple [a, b, c]) := .of fun d ok e => by
  unfold Dfn.data at e
  injection e with e
  injection e with e1 e
  exact h _ e1 ok.nm
theorem Out.vs {a b c : PyData} (h : ∀ vs, b = tS vs → ¬ OwnOk vs) : Out (.tuple [a, b, c]) := .of fun d ok e => by
  unfold Dfn.data at e
  injection e with e
  injection e with e1 e
  injection e with e2 e
  exact h _ e2 ok.own
theorem Out.body {a b c : PyData} (h : ∀ f : Fm, f.Wf → c ≠ f.data) : Out (.tuple [a, b, c]) := .of fun d ok e => by
  unfold Dfn.data at e
  injection e with e
  injection e with e1 e
  injection e with e2 e
  injection e with e3 e
  exact h _ ok.wf e3
theorem Out.dfn {d : Dfn} (o : d.b.Ok) (h : ∀ ds, SysOk ds → d ∈ ds → False) : Out d.data := fun ds ok m => by
  obtain ⟨e, he, ee⟩ := List.mem_map.mp m
  have := dfn_eq ee (ok.ok e he).wf.ok o
  subst this
  exact h ds ok he
theorem Out.fr {d : Dfn} (o : d.b.Ok) {x : Str} (h : x ∈ d.b.frees) (n : ¬ x ∈ d.vs) : Out d.data := .dfn o fun ds ok m => n ((ok.ok d m).fr x h)
theorem Out.ar {d : Dfn} (o : d.b.Ok) {k : Nat} (h : (d.nm, k) ∈ d.b.syms) (n : k ≠ d.vs.length) : Out d.data := .dfn o fun ds ok m => by
  obtain ⟨Γ, hΓ⟩ := ok.ag.ar
  have e := (hΓ d m).1.symm.trans ((hΓ d m).2 _ h)
  exact n (Option.some.inj e).symm
theorem Out.po {d : Dfn} (o : d.b.Ok) (h : d.b.pos d.nm 1 = false) : Out d.data := .dfn o fun ds ok m => by
  have := ok.ag.po d m d m
  rw [h] at this
  cases this
/-- another definition that stays tells it -/
theorem bad_other {ds : List Dfn} {at_ j : Nat} {d o : Dfn} (lt : at_ < ds.length) (ne : j ≠ at_) (hj : ds[j]? = some o) (ok : d.b.Ok) (oo : o.b.Ok) (h : ∀ es, SysOk es → d ∈ es → o ∈ es → False) : BadAt ds at_ d.data := fun es sys e => by
  unfold sysD at e
  injection e with e
  have m1 : d.data ∈ es.map Dfn.data := by rw [← e]; exact List.mem_set (by rw [List.length_map]; exact lt) _
  have m2 : o.data ∈ es.map Dfn.data := by
    rw [← e]
    refine List.mem_of_getElem? (i := j) ?_
    rw [List.getElem?_set_ne (Ne.symm ne), List.getElem?_map, hj]
    rfl
  obtain ⟨d', hd, ed⟩ := List.mem_map.mp m1
  obtain ⟨o', ho, eo⟩ := List.mem_map.mp m2
  have e1 := dfn_eq ed (sys.ok d' hd).wf.ok ok
  have e2 := dfn_eq eo (sys.ok o' ho).wf.ok oo
  subst e1 e2
  exact h es sys hd ho
theorem bad_ar {ds : List Dfn} {at_ j k : Nat} {d o : Dfn} (lt : at_ < ds.length) (ne : j ≠ at_) (hj : ds[j]? = some o) (ok : d.b.Ok) (oo : o.b.Ok) (h : (o.nm, k) ∈ d.b.syms) (n : k ≠ o.vs.length) : BadAt ds at_ d.data := bad_other lt ne hj ok oo fun es sys hd ho => by
  obtain ⟨Γ, hΓ⟩ := sys.ag.ar
  have e := (hΓ o ho).1.symm.trans ((hΓ d hd).2 _ h)
  exact n (Option.some.inj e).symm
theorem bad_po {ds : List Dfn} {at_ j : Nat} {d o : Dfn} (lt : at_ < ds.length) (ne : j ≠ at_) (hj : ds[j]? = some o) (ok : d.b.Ok) (oo : o.b.Ok) (h : d.b.pos o.nm 1 = false) : BadAt ds at_ d.data := bad_other lt ne hj ok oo fun es sys hd ho => by
  have := sys.ag.po d hd o ho
  rw [h] at this
  cases this
/-- data that a definition may be asked of -/
theorem fr_vars : ∀ (f : Fm) {pool : List Str}, (∀ x, x ∈ f.vars → x ∈ pool) → pool.length ≤ 40 → Fr20 f := Fm.ind (P := fun f => ∀ {pool : List Str}, (∀ x, x ∈ f.vars → x ∈ pool) → pool.length ≤ 40 → Fr20 f) fun h ps ih pool o l =>
  .mk ⟨pool, l, fun x hx => o x (frees_vars _ x hx)⟩ fun p hp => ih p hp (fun x hx => o x (by rw [Fm.vars_mk]; exact List.mem_append_right _ (List.mem_flatten.mpr ⟨_, List.mem_map.mpr ⟨p, hp, rfl⟩, hx⟩))) l
theorem RawF.fm {f : Fm} (ok : f.Ok) (fr : Fr20 f) : RawF f.data := ⟨raw_fm f ok, fun g e og => by rw [← data_inj f g ok og e]; exact fr⟩
theorem RawF.spl {t : PyData} (r : Raw t) (n : ∀ f : Fm, f.Ok → t ≠ f.data) : RawF t := ⟨r, fun f e ok => absurd e (n f ok)⟩
theorem RawD.of3 {a b c : PyData} (g : Gd (.tuple [a, b, c])) (r : RawF c) : RawD (.tuple [a, b, c]) := ⟨g.o, fun a' b' c' e => by injection e with e; injection e with e1 e; injection e with e2 e; injection e with e3 e; rw [← e3]; exact r⟩
theorem RawD.no3 {t : PyData} (g : Gd t) (h : ∀ a b c, t ≠ .tuple [a, b, c]) : RawD t := ⟨g.o, fun a b c e => absurd e (h a b c)⟩
/-! ### formulas that spoil -/
theorem or_data (g e : Fm) : (Fm.mk .dis [g, e]).data = .tuple [.str "or", .tuple [g.data, e.data]] := Fm.data_mk _ _
theorem no_data (e : Fm) : (Fm.mk .no [e]).data = .tuple [.str "not", e.data] := Fm.data_mk _ _
theorem rel_data (m : Str) (vs : List Str) : (relG m vs).data = .tuple [.str "rel", .str m, .tuple (vs.map PyData.str)] := Fm.data_mk _ _
theorem eq_data (x y : Str) : (Fm.mk (.eq x y) []).data = .tuple [.str "eq", .str x, .str y] := Fm.data_mk _ _
theorem pfp_data (m : Str) (vs as : List Str) (e : Fm) : (Fm.mk (.pfp m vs as) [e]).data = .tuple [.str "pfp", .str m, .tuple (vs.map PyData.str), e.data, .tuple (as.map PyData.str)] := Fm.data_mk _ _
theorem ex_data (vs : List Str) (e : Fm) : (Fm.mk (.ex vs) [e]).data = .tuple [.str "some", .tuple (vs.map PyData.str), e.data] := Fm.data_mk _ _
theorem con_data (ps : List Fm) : (Fm.mk .con ps).data = .tuple [.str "and", .tuple (ps.map Fm.data)] := Fm.data_mk _ _
theorem two_mem {g e p : Fm} (h : p ∈ [g, e]) : p = g ∨ p = e := by simpa using h
theorem or_ok {g e : Fm} (a : g.Ok) (b : e.Ok) : (Fm.mk .dis [g, e]).Ok := .mk (by show 2 ≤ 40; decide) fun p hp => by
  rcases two_mem hp with rfl | rfl
  · exact a
  · exact b
theorem no_ok {e : Fm} (b : e.Ok) : (Fm.mk .no [e]).Ok := .mk rfl fun p hp => by rw [List.mem_singleton.mp hp]; exact b
theorem eq_ok {x y : Str} (a : Nm x) (b : Nm y) : (Fm.mk (.eq x y) []).Ok := .mk ⟨a, b, rfl⟩ fun p hp => nomatch hp
theorem pfp_ok {m : Str} {vs as : List Str} {e : Fm} (n : Nm m) (o : OwnOk vs) (l : as.length = vs.length) (na : Names as) (b : e.Ok) : (Fm.mk (.pfp m vs as) [e]).Ok := .mk ⟨n, o, l, na, rfl⟩ fun p hp => by rw [List.mem_singleton.mp hp]; exact b
theorem ex_ok {vs : List Str} {e : Fm} (o : OwnOk vs) (b : e.Ok) : (Fm.mk (.ex vs) [e]).Ok := .mk ⟨o, rfl⟩ fun p hp => by rw [List.mem_singleton.mp hp]; exact b
theorem non_ (m : Str) : (none : Option Str) ≠ some m := fun z => nomatch z
theorem or_posF {g e : Fm} {n : Str} (h : e.pos n 1 = false) : (Fm.mk .dis [g, e]).pos n 1 = false := pos_two (h := .dis) (fun z => nomatch z) (non_ n) h
theorem no_pos {e : Fm} {n : Str} {s : Int} : (Fm.mk .no [e]).pos n s = e.pos n (-s) := pos_one (h := .no) (fun z => nomatch z) (non_ n)
theorem rel_pos {m : Str} {vs : List Str} {s : Int} : (relG m vs).pos m s = (s == 1) := by
  unfold relG
  rw [Fm.pos_rel, decide_eq_true rfl]
  exact Bool.or_false _
theorem pfp_posF {m n : Str} {vs as ws : List Str} (h : m ≠ n) : (Fm.mk (.pfp m vs as) [relG n ws]).pos n 1 = false := by
  rw [pos_one (h := .pfp m vs as) (fun z => nomatch z) (fun z => h (Option.some.inj z))]
  exact rel_pos
theorem or_sym {g e : Fm} {p : Str × Nat} (h : p ∈ e.syms) : p ∈ (Fm.mk .dis [g, e]).syms := (Fm.syms_mem (h := .dis) (fun z => nomatch z)).mpr ⟨non_ _, e, List.mem_cons_of_mem _ (List.mem_cons_self ..), h⟩
theorem or_free {g e : Fm} {x : Str} (h : x ∈ e.frees) : x ∈ (Fm.mk .dis [g, e]).frees := Fm.frees_mem.mpr (.inl ⟨e, List.mem_cons_of_mem _ (List.mem_cons_self ..), h, fun z => nomatch z⟩)
theorem vars_of {h : Hd} {ps : List Fm} {pool : List Str} (a : ∀ x, x ∈ h.vars → x ∈ pool) (b : ∀ p, p ∈ ps → ∀ x, x ∈ p.vars → x ∈ pool) : ∀ x, x ∈ (Fm.mk h ps).vars → x ∈ pool := fun x hx => by
  rw [Fm.vars_mk] at hx
  rcases List.mem_append.mp hx with hx | hx
  · exact a x hx
  · obtain ⟨l, hl, hx⟩ := List.mem_flatten.mp hx
    obtain ⟨p, hp, rfl⟩ := List.mem_map.mp hl
    exact b p hp x hx
theorem vars_one {h : Hd} {e : Fm} {pool : List Str} (a : ∀ x, x ∈ h.vars → x ∈ pool) (b : ∀ x, x ∈ e.vars → x ∈ pool) : ∀ x, x ∈ (Fm.mk h [e]).vars → x ∈ pool := vars_of a fun p hp => by rw [List.mem_singleton.mp hp]; exact b
theorem vars_rel {m : Str} {vs pool : List Str} (a : ∀ x, x ∈ vs → x ∈ pool) : ∀ x, x ∈ (relG m vs).vars → x ∈ pool := vars_of (fun x hx => a x hx) fun p hp => nomatch hp
theorem no_vars {e : Fm} {pool : List Str} (b : ∀ x, x ∈ e.vars → x ∈ pool) : ∀ x, x ∈ (Fm.mk .no [e]).vars → x ∈ pool := vars_one (fun x hx => nomatch hx) b
/-- what variables there may be -/
def wide (us : List Str) : List Str := us ++ (["w", "new", "x", "y9", "y", "a", "b"] : List Str)
theorem or_raw {nm : Str} {us : List Str} {g e : Fm} (og : g.Ok) (oe : e.Ok) (l : us.length ≤ 6) (vg : ∀ x, x ∈ g.vars → x ∈ wide us) (ve : ∀ x, x ∈ e.vars → x ∈ wide us) (gd : Gd (.tuple [.str nm, tS us, .tuple [.str "or", .tuple [g.data, e.data]]])) : RawD (Dfn.data ⟨nm, us, .mk .dis [g, e]⟩) := by
  unfold Dfn.data
  rw [or_data]
  refine .of3 gd ?_
  rw [← or_data]
  refine .fm (or_ok og oe) (fr_vars _ (pool := wide us) (vars_of (fun x hx => nomatch hx) fun p hp => ?_) ?_)
  · rcases two_mem hp with rfl | rfl
    · exact vg
    · exact ve
  · unfold wide
    rw [List.length_append]
    show us.length + 7 ≤ 40
    omega
theorem cut1 (a : PyData) (l : List PyData) (h : l.length < 1000) : cutD (a :: l) none (some 1) = [a] := by
  unfold cutD
  have e1 : HT.sIx (a :: l).length 0 none = 0 := rfl
  have e2 : HT.sIx (a :: l).length (a :: l).length (some 1) = 1 := by
    simp only [HT.sIx, List.length_cons]
    split <;> omega
  rw [e1, e2]
  rfl
section
variable {K : PySem.W.Frag} {d l : Addr} {H0 : Hp} {σ : L2.St}
/-- one of a list, drawn -/
theorem mk_pickL {i k n : Nat} {z : Int} {v : V} {ts : List PyData} {E : XK} (hk : σ[k]? = some (some v)) (dp : Dp K H0 v (.list ts)) (gd : Gd (.list ts)) (gs : ∀ t, t ∈ ts → Gd t) (r0 : DrA H0 d l) (hd : σ[i]? = some (some (.ref d))) (hz : z = (n : Nat)) (hn : ts.length = n) (h0 : 0 < n) :
    MkE K d l H0 σ (tOp (rIxL K) (tVar k) (tOp rMod7 (tCall spDraw [] E (tCons (tVar i) tNil)) (tC (.int z)))) (fun t => t ∈ ts) := fun H dr kp Q q =>
  ⟨_, hk, _, hd, d, l, rfl, dr, fun z1 H2 _ _ dr2 k2 => by
    obtain ⟨a, xs, rfl, hL, hx⟩ := Dp.lst_inv (Dp.kpA dp r0 gd.g (kp.trans k2))
    subst hz
    have lv := DpAll.length hx
    obtain ⟨v, hv, ha⟩ := atI_mod (xs := xs) z1 (by omega)
    rw [lv, hn] at ha
    obtain ⟨t, ht, dt⟩ := DpAll.inMem hx hv
    exact ⟨_, _, rfl, rfl, by omega, a, xs, _, v, rfl, rfl, hL, ha, q H2 v t dr2 k2 dt (gs t ht) ht⟩⟩
end
theorem int1_four {a b c e : List PyData} : int1 [.tuple a, .tuple b, .tuple c, .tuple e] = true := int1_tups fun t ht => by
  simp only [List.mem_cons, List.not_mem_nil, or_false] at ht
  rcases ht with rfl | rfl | rfl | rfl <;> exact ⟨_, rfl⟩
theorem Gd.memL {ts : List PyData} (h : Gd (.list ts)) : ∀ t, t ∈ ts → Gd t := fun t ht => ⟨goods_mem ((Bool.and_eq_true_iff.mp (by have := h.g; rw [good] at this; exact this)).1) t ht, by cases h.o with | lst _ o => exact o t ht⟩
/-! ### lists within what is spoilt begin with a text -/
def LsOk (t : PyData) : Prop := noL t = true ∨ (∃ z us, t = .list (.str z :: us) ∧ noLs us = true) ∨ ∃ a c z us, t = .tuple [a, .list (.str z :: us), c] ∧ noL a = true ∧ noL c = true ∧ noLs us = true
theorem noL_non : noL .none = true := by rw [noL]; all_goals (intros; contradiction)
theorem noLs_nil : noLs [] = true := by rw [noLs]
theorem noL0 : noL (.tuple []) = true := noL_tup noLs_nil
theorem noL2 {a b : PyData} (ha : noL a = true) (hb : noL b = true) : noL (.tuple [a, b]) = true := noL_tup (by rw [noLs_cons, noLs_cons, ha, hb, noLs]; rfl)
theorem noL3 {a b c : PyData} (ha : noL a = true) (hb : noL b = true) (hc : noL c = true) : noL (.tuple [a, b, c]) = true := noL_tup (by rw [noLs_cons, noLs_cons, noLs_cons, ha, hb, hc, noLs]; rfl)
theorem noL4 {a b c e : PyData} (ha : noL a = true) (hb : noL b = true) (hc : noL c = true) (he : noL e = true) : noL (.tuple [a, b, c, e]) = true := noL_tup (by rw [noLs_cons, noLs_cons, noLs_cons, noLs_cons, ha, hb, hc, he, noLs]; rfl)
theorem noLs2 {a b : PyData} (ha : noL a = true) (hb : noL b = true) : noLs [a, b] = true := by rw [noLs_cons, noLs_cons, ha, hb, noLs]; rfl
theorem noL_us (us : List Str) : noL (.tuple (us.map PyData.str)) = true := noL_tS us
theorem noL_cut {us : List Str} {lo hi : Option Int} : noL (.tuple (us.map PyData.str ++ cutD (us.map PyData.str) lo hi)) = true := noL_tup (noLs_all fun t ht => by
  have m : t ∈ us.map PyData.str := by
    rcases List.mem_append.mp ht with ht | ht
    · exact ht
    · exact List.mem_of_mem_drop (List.mem_of_mem_take ht)
  obtain ⟨z, _, rfl⟩ := List.mem_map.mp m
  exact noL_str)
theorem sqL_upd {K : PySem.W.Frag} {H : Hp} {a b : Addr} {xs ys : List V} {o : HO} (hb : H b = some (.lst ys)) (n : xs ≠ ys) (h : SqL K H a xs) : SqL K (upd H b o) a xs :=
  Same.seq (fun c u e => by
    by_cases z : c = b
    · rw [show wo b H c = none from if_pos z] at e; cases e
    · rw [wo_ne z] at e
      rw [upd_ne z]
      exact e) (SqL.wo hb n h)
theorem LsOk.keep {K : PySem.W.Frag} {H : Hp} {b : Addr} {v : V} {t : PyData} {ys : List V} {o : HO} (hb : H b = some (.lst ys)) (ny : ∀ z zs, ys ≠ .str z :: zs) (lk : LsOk t) (dv : Dp K H v t) : Dp K (upd H b o) v t := by
  have kl := Kl.upd (o := o) hb
  rcases lk with h | ⟨z, us, rfl, hu⟩ | ⟨a, c, z, us, rfl, ha, hc, hu⟩
  · exact Dp.kl kl dv h
  · obtain ⟨q, xs, rfl, hL, hx⟩ := Dp.lst_inv dv
    obtain ⟨w, ws, rfl, e1, hx2⟩ := DpAll.cons_inv hx
    cases e1
    exact .lst (sqL_upd hb (fun e => ny _ _ e.symm) hL) (.cons (.str z) (DpAll.kl kl hx2 hu))
  · obtain ⟨q, xs, rfl, hT, hx⟩ := Dp.tup_inv dv
    obtain ⟨w1, ws, rfl, e1, hx⟩ := DpAll.cons_inv hx
    obtain ⟨w2, ws, rfl, e2, hx⟩ := DpAll.cons_inv hx
    obtain ⟨w3, ws, rfl, e3, hx⟩ := DpAll.cons_inv hx
    obtain rfl := DpAll.nil_inv hx
    obtain ⟨q2, xs2, rfl, hL, hy⟩ := Dp.lst_inv e2
    obtain ⟨u, us2, rfl, f1, hy2⟩ := DpAll.cons_inv hy
    cases f1
    exact .tup (SqT.kl kl hT) (.cons (Dp.kl kl e1 ha) (.cons (.lst (sqL_upd hb (fun e => ny _ _ e.symm) hL) (.cons (.str z) (DpAll.kl kl hy2 hu))) (.cons (Dp.kl kl e3 hc) .nil)))
/-! ### _law_spoilt_one -/
def spSpOne (K : PySem.W.Frag) : Sp := fun us H Q _ => ∃ (d l a : Addr) (v : V) (xs : List V) (ds : List Dfn) (at_ : Nat) (d0 : Dfn), us = [.ref d, v, .ref a] ∧ DrA H d l ∧ Dp K H v d0.data ∧ H a = some (.lst xs) ∧ a ≠ d ∧ DpAll K H xs (ds.map Dfn.data) ∧ LawS ds ∧ ds[at_]? = some d0 ∧
  ∀ (H' : Hp) (r : V) (t : PyData), DrA H' d l → Kp d H H' → Dp K H' r t → Gd t → RawD t → BadAt ds at_ t → LsOk t → Q r H'
theorem no_eq1 {x : Str} (f : Fm) (o : f.Ok) (e : PyData.tuple [.str "eq", .str x] = f.data) : False := by
  obtain ⟨h, ps⟩ := f
  rw [Fm.data_mk] at e
  have fit := o.hd_.fits
  cases h <;> first | (exact absurd e (by unfold Hd.data Hd.rest; intro z; cases z)) | (unfold Hd.data at e; injection e with e; injection e with e1 e; exact absurd e1 (by intro z; injection z with z; exact absurd z (by decide +kernel)))
section
variable {P : Program} {w : World} {K : PySem.W.Frag} {mg : Str → Option Value} {base : Heap}
theorem sc_spone : FnScope ["draws", "one", "signs", "name", "args", "body", "own_v", "pick", "other", "call", "bad", "row", "x"] ["draws", "one", "signs"] (defScope (top 135)) := ⟨rfl, rfl, rfl, by decide +kernel, rfl, by decide +kernel, by decide +kernel⟩
theorem has_spone (D : Def K mg "_law_spoilt_one" ["draws", "one", "signs"] (top 135)) (T : Txt mg) (C1 : Has P w K mg base 2 "_law_draw" ["draws"] spDraw) : Has P w K mg base 3 "_law_spoilt_one" ["draws", "one", "signs"] (spSpOne K) := D.has fun f fd F => by
  obtain ⟨f1, fd1, G_law_draw, g_law_draw, k_law_draw, b_law_draw⟩ := C1
  refine F.ok sc_spone (fun vs H Q E h => ?_) (fun cdv A outer s H vs Q E hr h => ?_)
  · obtain ⟨d, l, a, v, xs, ds, at_, d0, rfl, _⟩ := h; rfl
  · obtain ⟨d, l, a, v, xs, ds, at_, d0, rfl, dr, dp, hS, had, hx, ls, hat, q⟩ := h
    have R_law_draw : Room 2 _ := hr
    refine ⟨_, PSs.nox (pss_cons (ps_asg (pv 1) (pg_tup rfl (pgs_cons (pg_name (i := 3) sc_spone.nd rfl (Or.inr rfl)) (pgs_cons (pg_name (i := 4) sc_spone.nd rfl (Or.inr rfl)) (pgs_cons (pg_name (i := 5) sc_spone.nd rfl (Or.inl rfl)) pgs_nil))))) (pss_cons (ps_set (i := 6) sc_spone.nd rfl (Or.inl rfl) (pe_tup (pa_cons pe_str (pa_cons (pv 3) (pa_cons (pv 4) pa_nil))))) (pss_cons (ps_set (i := 7) sc_spone.nd rfl (Or.inl rfl) (pe_op op_mod (pe_call G_law_draw R_law_draw (by rfl) g_law_draw k_law_draw b_law_draw .nil pass0 (pa_cons (pv 0) pa_nil)) pe_int)) (Evl.pss_cut (ps_if (PW.pt (pw_and (pt_cmpR op_gt (pe_callB call_len_seq (by rfl) T.n_len PySem.boot_len (pa_cons (pv 2) pa_nil)) pe_int (nomark _)) (pw_and1 (pt_cmpR op_gt (pv 7) pe_int (nomark _))))) (pss_cons (ps_set (i := 8) sc_spone.nd rfl (Or.inl rfl) (pe_ix ix_list (pe_lc (own := [("row", 11)]) rfl sc_spone.nd (pi_list (pv 2)) (blkOk_by (N := ["draws", "one", "signs", "name", "args", "body", "own_v", "pick", "other", "call", "bad", "row", "x"]) (sc := defScope (top 135)) (by decide +kernel)) (fun _ _ _ _ _ => (pg_name (i := 11) sc_spone.nd rfl (Or.inl rfl))) (fun _ _ _ _ _ => (pts_one (pt_cmpR op_ne (pe_ix (ix_tupK (K := K) rfl) (pv 11) pe_int (fun _ _ => rfl)) (pv 3) (nomark _)))) (fun _ _ _ _ _ => (pv 11))) pe_int (fun _ _ => rfl))) (pss_cons (ps_set (i := 9) sc_spone.nd rfl (Or.inl rfl) (pe_tup (pa_cons pe_str (pa_cons (pe_ix ix_tup (pv 8) pe_int (fun _ _ => rfl)) (pa_cons (pe_callTy call_tuple_of (by rfl) T.n_tuple (by decide +kernel) (pa_cons (pe_lc (own := [("x", 12)]) rfl sc_spone.nd (pi_tup (pe_ix ix_tup (pv 8) pe_int (fun _ _ => rfl))) (blkOk_by (N := ["draws", "one", "signs", "name", "args", "body", "own_v", "pick", "other", "call", "bad", "row", "x"]) (sc := defScope (top 135)) (by decide +kernel)) (fun _ _ _ _ _ => (pg_name (i := 12) sc_spone.nd rfl (Or.inl rfl))) (fun _ _ _ _ _ => pts_nil) (fun _ _ _ _ _ => (pe_ix (ix_tupK (K := K) rfl) (pv 4) pe_int (fun _ _ => rfl)))) pa_nil)) pa_nil))))) (pss_cons (ps_set (i := 10) sc_spone.nd rfl (Or.inl rfl) (pe_lst (pa_cons (pe_tup (pa_cons pe_str (pa_cons (pv 9) pa_nil))) (pa_cons (pe_tup (pa_cons pe_str (pa_cons (pe_ix ix_tup (pv 8) pe_int (fun _ _ => rfl)) (pa_cons (pe_callTy call_tuple_of (by rfl) T.n_tuple (by decide +kernel) (pa_cons (pe_op op_cat (pe_lc (own := [("x", 12)]) rfl sc_spone.nd (pi_tup (pe_ix ix_tup (pv 8) pe_int (fun _ _ => rfl))) (blkOk_by (N := ["draws", "one", "signs", "name", "args", "body", "own_v", "pick", "other", "call", "bad", "row", "x"]) (sc := defScope (top 135)) (by decide +kernel)) (fun _ _ _ _ _ => (pg_name (i := 12) sc_spone.nd rfl (Or.inl rfl))) (fun _ _ _ _ _ => pts_nil) (fun _ _ _ _ _ => (pe_ix (ix_tupK (K := K) rfl) (pv 4) pe_int (fun _ _ => rfl)))) (pe_lst (pa_cons (pe_ix ix_tup (pv 4) pe_int (fun _ _ => rfl)) pa_nil))) pa_nil)) pa_nil)))) (pa_cons (pe_tup (pa_cons pe_str (pa_cons pe_str (pa_cons (pe_tup (pa_cons pe_str pa_nil)) (pa_cons (pv 9) (pa_cons (pe_tup (pa_cons (pe_ix ix_tup (pv 4) pe_int (fun _ _ => rfl)) pa_nil)) pa_nil)))))) (pa_cons (pe_tup (pa_cons pe_str (pa_cons (pe_tup (pa_cons pe_str pa_nil)) (pa_cons (pe_tup (pa_cons pe_str (pa_cons (pe_tup (pa_cons pe_str (pa_cons (pe_tup (pa_cons (pv 9) (pa_cons (pv 9) pa_nil))) pa_nil))) pa_nil))) pa_nil)))) pa_nil)))))) (pss_one (ps_ret (pe_tup (pa_cons (pv 3) (pa_cons (pv 4) (pa_cons (pe_tup (pa_cons pe_str (pa_cons (pe_tup (pa_cons (pv 5) (pa_cons (pe_ix ix_list (pv 10) (pe_op op_mod (pe_call G_law_draw R_law_draw (by rfl) g_law_draw k_law_draw b_law_draw .nil pass0 (pa_cons (pv 0) pa_nil)) pe_int) (fun _ _ => rfl)) pa_nil))) pa_nil))) pa_nil))))))))) pss_nil) (pss_cons (ps_if (pt_cmpR op_eq (pv 7) pe_int (nomark _)) (pss_one (ps_ret (pe_ix ix_list (pe_lst (pa_cons (pe_tup (pa_cons pe_str (pa_cons (pv 4) (pa_cons (pv 5) pa_nil)))) (pa_cons (pe_tup (pa_cons pe_str (pa_cons (pv 4) (pa_cons (pv 5) pa_nil)))) (pa_cons (pe_tup (pa_cons pe_non (pa_cons (pv 4) (pa_cons (pv 5) pa_nil)))) pa_nil)))) (pe_op op_mod (pe_call G_law_draw R_law_draw (by rfl) g_law_draw k_law_draw b_law_draw .nil pass0 (pa_cons (pv 0) pa_nil)) pe_int) (fun _ _ => rfl)))) pss_nil) (pss_cons (ps_if (pt_cmpR op_eq (pv 7) pe_int (nomark _)) (pss_one (ps_ret (pe_ix ix_list (pe_lst (pa_cons (pe_tup (pa_cons (pv 3) (pa_cons (pe_op op_catA (pv 4) (pe_slice sl_tupA (pv 4) po_none (po_some pe_int))) (pa_cons (pv 5) pa_nil)))) (pa_cons (pe_tup (pa_cons (pv 3) (pa_cons (pe_callTy call_list_of (by rfl) T.n_list (by decide +kernel) (pa_cons (pv 4) pa_nil)) (pa_cons (pv 5) pa_nil)))) (pa_cons (pe_tup (pa_cons (pv 3) (pa_cons (pe_tup pa_nil) (pa_cons (pe_tup (pa_cons pe_str (pa_cons pe_str (pa_cons pe_str pa_nil)))) pa_nil)))) pa_nil)))) (pe_op op_mod (pe_call G_law_draw R_law_draw (by rfl) g_law_draw k_law_draw b_law_draw .nil pass0 (pa_cons (pv 0) pa_nil)) pe_int) (fun _ _ => rfl)))) pss_nil) (pss_cons (ps_if (pt_cmpR op_eq (pv 7) pe_int (nomark _)) (pss_one (ps_ret (pe_tup (pa_cons (pv 3) (pa_cons (pv 4) (pa_cons (pe_tup (pa_cons pe_str (pa_cons (pe_tup (pa_cons (pv 5) (pa_cons (pe_tup (pa_cons pe_str (pa_cons pe_str (pa_cons (pe_ix ix_tup (pv 4) pe_int (fun _ _ => rfl)) pa_nil)))) pa_nil))) pa_nil))) pa_nil)))))) pss_nil) (pss_cons (ps_if (pt_cmpR op_eq (pv 7) pe_int (nomark _)) (pss_one (ps_ret (pe_tup (pa_cons (pv 3) (pa_cons (pv 4) (pa_cons (pe_tup (pa_cons pe_str (pa_cons (pe_tup (pa_cons (pv 5) (pa_cons (pe_tup (pa_cons pe_str (pa_cons (pv 3) (pa_cons (pe_op op_catA (pv 4) (pv 4)) pa_nil)))) pa_nil))) pa_nil))) pa_nil)))))) pss_nil) (pss_cons (ps_if (pt_cmpR op_eq (pv 7) pe_int (nomark _)) (pss_one (ps_ret (pe_tup (pa_cons (pv 3) (pa_cons (pv 4) (pa_cons (pe_tup (pa_cons pe_str (pa_cons (pe_tup (pa_cons (pv 5) (pa_cons (pe_tup (pa_cons pe_str (pa_cons (pv 6) pa_nil))) pa_nil))) pa_nil))) pa_nil)))))) pss_nil) (pss_cons (ps_if (pt_cmpR op_eq (pv 7) pe_int (nomark _)) (pss_one (ps_ret (pe_tup (pa_cons (pv 3) (pa_cons (pv 4) (pa_cons (pe_tup (pa_cons pe_str (pa_cons (pe_tup (pa_cons (pv 5) (pa_cons (pe_tup (pa_cons pe_str (pa_cons pe_str (pa_cons (pe_tup (pa_cons pe_str pa_nil)) (pa_cons (pv 6) (pa_cons (pe_tup (pa_cons (pe_ix ix_tup (pv 4) pe_int (fun _ _ => rfl)) pa_nil)) pa_nil)))))) pa_nil))) pa_nil))) pa_nil)))))) pss_nil) (pss_cons (ps_if (pt_cmpR op_eq (pv 7) pe_int (nomark _)) (pss_one (ps_ret (pe_tup (pa_cons (pv 3) (pa_cons (pv 4) (pa_cons (pe_tup (pa_cons pe_str (pa_cons (pe_tup (pa_cons (pv 5) (pa_cons (pe_tup (pa_cons pe_str (pa_cons pe_str (pa_cons (pe_slice sl_tupA (pv 4) po_none (po_some pe_int)) pa_nil)))) (pa_cons (pe_tup (pa_cons pe_str (pa_cons pe_str (pa_cons (pe_tup (pa_cons (pe_ix ix_tup (pv 4) pe_int (fun _ _ => rfl)) (pa_cons (pe_ix ix_tup (pv 4) pe_int (fun _ _ => rfl)) pa_nil))) pa_nil)))) pa_nil)))) pa_nil))) pa_nil)))))) pss_nil) (pss_cons (ps_if (pt_cmpR op_eq (pv 7) pe_int (nomark _)) (pss_one (ps_ret (pe_ix ix_list (pe_lst (pa_cons (pe_callTy call_list_of (by rfl) T.n_list (by decide +kernel) (pa_cons (pv 1) pa_nil)) (pa_cons (pe_op op_catA (pv 1) (pe_tup (pa_cons pe_int pa_nil))) (pa_cons (pe_slice sl_tupA (pv 1) po_none (po_some pe_int)) (pa_cons pe_non (pa_cons (pe_tup pa_nil) pa_nil)))))) (pe_op op_mod (pe_call G_law_draw R_law_draw (by rfl) g_law_draw k_law_draw b_law_draw .nil pass0 (pa_cons (pv 0) pa_nil)) pe_int) (fun _ _ => rfl)))) pss_nil) (pss_cons (ps_if (pt_cmpR op_eq (pv 7) pe_int (nomark _)) (pss_one (ps_ret (pe_tup (pa_cons (pv 3) (pa_cons (pv 4) (pa_cons (pe_tup (pa_cons pe_str (pa_cons (pe_ix ix_tup (pv 4) pe_int (fun _ _ => rfl)) pa_nil))) pa_nil)))))) pss_nil) (pss_cons (ps_if (pt_cmpR op_eq (pv 7) pe_int (nomark _)) (pss_one (ps_ret (pe_tup (pa_cons (pv 3) (pa_cons (pe_tup (pa_cons pe_str (pa_cons pe_str (pa_cons pe_str (pa_cons pe_str (pa_cons pe_str (pa_cons pe_str (pa_cons pe_str pa_nil)))))))) (pa_cons (pe_tup (pa_cons pe_str (pa_cons pe_str (pa_cons pe_str pa_nil)))) pa_nil)))))) pss_nil) (pss_cons (ps_if (pt_cmpR op_eq (pv 7) pe_int (nomark _)) (pss_one (ps_ret (pe_tup (pa_cons (pv 3) (pa_cons (pv 4) (pa_cons (pe_tup (pa_cons pe_str (pa_cons (pe_tup (pa_cons (pv 5) (pa_cons (pe_tup (pa_cons pe_str (pa_cons (pe_tup (pa_cons pe_str (pa_cons (pe_tup (pa_cons pe_str (pa_cons (pv 6) pa_nil))) pa_nil))) pa_nil))) pa_nil))) pa_nil))) pa_nil)))))) pss_nil) (pss_cons (ps_if (pt_cmpR op_eq (pv 7) pe_int (nomark _)) (pss_one (ps_ret (pe_tup (pa_cons (pv 3) (pa_cons (pv 4) (pa_cons pe_non pa_nil)))))) pss_nil) (pss_one (ps_ret (pe_tup (pa_cons (pv 3) (pa_cons (pe_tup (pa_cons pe_str (pa_cons pe_str (pa_cons pe_str pa_nil)))) (pa_cons (pe_tup (pa_cons pe_str (pa_cons pe_str (pa_cons pe_str pa_nil)))) pa_nil)))))))))))))))))))))), ?_⟩
    obtain ⟨nm, us, g⟩ := d0
    obtain ⟨t, v2, v3, rfl, ht, h2, h3⟩ := dfn_inv dp
    refine ⟨_, rfl, t, _, rfl, ht, rfl, _, _, rfl, _, _, rfl, _, _, rfl, rfl, ?_⟩
    -- what is known of it
    have lt : at_ < ds.length := (List.getElem?_eq_some_iff.mp hat).1
    have dmem := List.mem_of_getElem? hat
    obtain ⟨as, ars, mkg, las⟩ := ls.made
    obtain ⟨sg, ha, own, bd⟩ := mkg.n at_ _ hat
    have sg : sgN[at_]? = some nm := sg
    have ha : as[at_]? = some us.length := ha
    have own : OwnOk us := own
    have bd : Bd us as g 5 := bd
    have l2 : us.length ≤ 2 := (ars.rg _ (List.mem_of_getElem? ha)).2
    have xyz : ∀ x, x ∈ us → x ∈ (["x", "y", "z"] : List Str) := mkg.xyz _ dmem
    have nn : Nm nm := (ls.sys.ok _ dmem).nm
    have ok : g.Ok := bd.g.ok
    have frg : Fr20 g := ls.fr _ dmem
    have rawg : RawF g.data := .fm ok frg
    obtain ⟨x0, ur, rfl⟩ : ∃ x0 ur, us = x0 :: ur := by
      cases us with
      | nil => exact absurd own.1 (by decide)
      | cons x0 ur => exact ⟨x0, ur, rfl⟩
    have nus := own.2.2.1
    have lurm : (ur.map PyData.str).length < 1000 := by
      have : ur.length + 1 ≤ 2 := l2
      rw [List.length_map]; omega
    have nx0 : Nm x0 := nus x0 (List.mem_cons_self ..)
    have lw : (wide (x0 :: ur)).length ≤ 40 := by
      unfold wide
      rw [List.length_append]
      show (x0 :: ur).length + 7 ≤ 40
      omega
    have vg : ∀ x, x ∈ g.vars → x ∈ wide (x0 :: ur) := fun x hx => by
      rcases List.mem_append.mp (bd.g.oc.vs x hx) with h | h
      · exact List.mem_append_left _ h
      · rw [List.mem_singleton.mp h]; exact List.mem_append_right _ (List.mem_cons_self ..)
    have gnm : Gd (.str nm) := .str nn.short
    have gus : Gd (.tuple ((x0 :: ur).map PyData.str)) := Gd.tS nus (by omega)
    have gg : Gd g.data := gd_fm g ok
    have gt0 : Gd (.tuple [.str nm, .tuple ((x0 :: ur).map PyData.str), g.data]) := .tup (by show 3 ≤ 100000; decide) fun u hu => by
      have c : u = .str nm ∨ u = .tuple ((x0 :: ur).map PyData.str) ∨ u = g.data := by simpa using hu
      rcases c with rfl | rfl | rfl
      · exact gnm
      · exact gus
      · exact gg
    have h2 : Dp K H v2 (.tuple ((x0 :: ur).map PyData.str)) := h2
    have h3 : Dp K H v3 g.data := h3
    have dp : Dp K H (.ref t) (.tuple [.str nm, .tuple ((x0 :: ur).map PyData.str), g.data]) := dp
    have hA : ((x0 :: ur).map PyData.str).length ≤ 100 := by rw [List.length_map]; omega
    have hB : ([.str nm, .tuple ((x0 :: ur).map PyData.str), g.data] : List PyData).length ≤ 100 := by show 3 ≤ 100; decide
    have i1 : int1 [.str nm, .tuple ((x0 :: ur).map PyData.str), g.data] = true := by first | rfl | simp [int1]
    have nmx : Nm "x" := nm_of (by decide +kernel)
    have nme : Nm "e" := nm_of (by decide +kernel)
    have nmnew : Nm "new" := nm_of (by decide +kernel)
    have nmw : Nm "w" := nm_of (by decide +kernel)
    have nw : ("w" : Str) ≠ nm := fun z => by
      have m : nm ∈ sgN := List.mem_of_getElem? sg
      rw [← z] at m
      exact absurd m (by decide +kernel)
    have oown : (relG nm (x0 :: ur)).Ok := relG_ok nn own.2.1 nus
    have vown : ∀ x, x ∈ (relG nm (x0 :: ur)).vars → x ∈ wide (x0 :: ur) := vars_rel fun x hx => List.mem_append_left _ hx
    have okuu : (relG nm ((x0 :: ur) ++ (x0 :: ur))).Ok := relG_ok nn (by rw [List.length_append]; omega) (fun x hx => nus x ((List.mem_append.mp hx).elim id id))
    have ownx : OwnOk ["x"] := ⟨by decide, by decide, fun x hx => by rw [List.mem_singleton.mp hx]; exact nmx, by decide +kernel⟩
    have n1 : Names [x0] := fun x hx => by rw [List.mem_singleton.mp hx]; exact nx0
    have n2 : Names [x0, x0] := fun x hx => by
      rcases List.mem_cons.mp hx with rfl | hx
      · exact nx0
      · exact n1 x hx
    have two0 : ∀ x, x ∈ [x0, x0] → x ∈ wide (x0 :: ur) := fun x hx => by
      rcases List.mem_cons.mp hx with rfl | hx
      · exact List.mem_append_left _ (List.mem_cons_self ..)
      · rw [List.mem_singleton.mp hx]; exact List.mem_append_left _ (List.mem_cons_self ..)
    have opfp : (Fm.mk (.pfp "w" ["x"] [x0]) [relG nm (x0 :: ur)]).Ok := pfp_ok nmw ownx rfl n1 oown
    have pfv : ∀ x, x ∈ Hd.vars (.pfp "w" ["x"] [x0]) → x ∈ wide (x0 :: ur) := fun x hx => by
      rcases List.mem_append.mp (show x ∈ (["x"] : List Str) ++ [x0] from hx) with h | h
      · rw [List.mem_singleton.mp h]; exact List.mem_append_right _ (by decide +kernel)
      · rw [List.mem_singleton.mp h]; exact List.mem_append_left _ (List.mem_cons_self ..)
    have eqv : ∀ x, x ∈ Hd.vars (.eq "new" x0) → x ∈ wide (x0 :: ur) := fun x hx => by
      have c : x = "new" ∨ x = x0 := by simpa [Hd.vars, Hd.own, Hd.args] using hx
      rcases c with rfl | rfl
      · exact List.mem_append_right _ (by decide +kernel)
      · exact List.mem_append_left _ (List.mem_cons_self ..)
    have c2 : cutD [.str nm, .tuple ((x0 :: ur).map PyData.str), g.data] none (some 2) = [.str nm, .tuple ((x0 :: ur).map PyData.str)] := rfl
    have finG : ∀ e : Fm, e.Ok → (∀ x, x ∈ e.vars → x ∈ wide (x0 :: ur)) → ∀ (H' : Hp) (r : V), DrA H' d l → Kp d H H' → Dp K H' r (.tuple [.str nm, .tuple ((x0 :: ur).map PyData.str), .tuple [.str "or", .tuple [g.data, e.data]]]) → Gd (.tuple [.str nm, .tuple ((x0 :: ur).map PyData.str), .tuple [.str "or", .tuple [g.data, e.data]]]) → BadAt ds at_ (Dfn.data ⟨nm, x0 :: ur, .mk .dis [g, e]⟩) → Q r H' := fun e oe ve H' r a1 a2 a3 a4 a5 => by
      have e0 : (.tuple [.str nm, .tuple ((x0 :: ur).map PyData.str), .tuple [.str "or", .tuple [g.data, e.data]]]) = Dfn.data ⟨nm, x0 :: ur, .mk .dis [g, e]⟩ := by
        unfold Dfn.data
        rw [or_data]
        rfl
      have rd := or_raw ok oe own.2.1 vg ve a4
      rw [e0] at a3 a4
      exact q H' r _ a1 a2 a3 a4 rd a5 (.inl (dfn_noL _))
    -- own and pick
    refine mk_seq (K := K) (H0 := H) (mk_tup (by decide) (mk_cons (mk_str (by decide +kernel)) (mk_cons (mk_var (i := 3) rfl (.str nm) gnm dr) (mk_cons (mk_var (i := 4) rfl h2 gus dr) mk_nil)))) dr (Kp.refl d H) fun H1 vo to dr1 k1 do_ go ro => ?_
    obtain ⟨_, rfl, _, _, _, rfl, rfl, _, _, rfl, rfl, _, _, rfl, rfl, rfl⟩ := ro
    have gw : Gd (.tuple [.str "rel", .str nm, .tuple ((x0 :: ur).map PyData.str)]) := go
    refine mk_seqZ (i := 0) (k := 7) (H0 := H1) rfl mi_c (by decide) dr1 (Kp.refl d H1) fun H2 z dr2 k2 _ _ => ?_
    have k12 := k1.trans k2
    refine ⟨fun σ H3 => σ = [some (.ref d), some (.ref t), some (.ref a), some (.str nm), some v2, some v3, some vo, some (.int z), none, none, none, none, none] ∧ DrA H3 d l ∧ Kp d H2 H3, ?_, ?_⟩
    · have hS2 : H2 a = some (.lst xs) := k12 _ _ hS had
      have lx : xs.length = ds.length := by rw [DpAll.length hx, List.length_map]
      have hx2 : DpAll K H2 xs (ds.map Dfn.data) := DpAll.kl (.dr k12 dr) hx (dfns_noL _)
      refine ⟨_, rfl, a, _, rfl, .inl (SqL.of hS2), _, _, rfl, rfl, _, rfl, ?_⟩
      by_cases big : (1 : Int) < (xs.length : Int)
      case neg => exact cF (k := decide ((1 : Int) < (xs.length : Int))) (decide_eq_false big) (iteF ⟨rfl, dr2, Kp.refl d H2⟩)
      refine cT (k := decide ((1 : Int) < (xs.length : Int))) (decide_eq_true big) ⟨_, rfl, _, _, rfl, rfl, _, rfl, ite2 (fun _ => ?_) (fun _ => ⟨rfl, dr2, Kp.refl d H2⟩)⟩
      -- another definition
      refine ⟨_, rfl, a, rfl, ⟨_, SqL.of hS2⟩, fun L nL => ?_⟩
      obtain ⟨nLd, nLl⟩ := dr2.ne nL
      refine lc_it (walk_list (K := K) (a := a) (xs := xs)) (fun i H3 => ∃ acc, H3 L = some (.lst acc) ∧ DpAll K H2 acc (((ds.take i).filter fun e : Dfn => !decide (e.nm = nm)).map Dfn.data) ∧ Same H2 H3) ⟨[], upd_same, .nil, same_upd nL⟩ (fun i H3 _ ⟨_, _, _, s3⟩ => SqL.of (s3 _ _ hS2)) ?_ ?_
      · rintro i y H3 H4 hi ⟨acc, hL, hacc, s3⟩ ⟨rfl, hy⟩
        obtain ⟨dd, hdd, dpy⟩ := DpAll.get' hx2 hy
        obtain ⟨e, he, rfl⟩ := get_map hdd
        obtain ⟨t', v2', v3', rfl, ht', _, _⟩ := dfn_inv dpy
        refine ⟨rfl, _, rfl, t', _, _, _, rfl, rfl, Same.sqt s3 ht', atI_nat (j := 0) rfl, _, rfl, rfl, _, rfl, ?_⟩
        have ef := filter_snoc (p := fun e : Dfn => !decide (e.nm = nm)) he
        by_cases h1 : e.nm = nm
        · refine cF (k := !decide (V.str e.nm = V.str nm)) (by rw [h1, decide_eq_true rfl]; rfl) ⟨acc, hL, ?_, s3⟩
          rw [show (if (!decide (e.nm = nm)) = true then [e] else []) = [] by simp [h1], List.append_nil] at ef
          rw [ef]; exact hacc
        · refine cT (k := !decide (V.str e.nm = V.str nm)) (nd_t fun z => h1 (V.str.inj z)) ⟨_, rfl, _, hL, ?_, ?_⟩
          · have e1 := DpAll.length hacc
            rw [List.length_map] at e1
            have e2 := List.length_filter_le (fun e : Dfn => !decide (e.nm = nm)) (ds.take i)
            have e3 := List.length_take_le' i ds
            have e4 := ls.sys.hi
            exact small1000 (by omega)
          · refine ⟨_, upd_same, ?_, fun b o eb => by rw [upd_ne (ne_of_none eb nL)]; exact s3 _ _ eb⟩
            rw [show (if (!decide (e.nm = nm)) = true then [e] else []) = [e] by simp [h1]] at ef
            rw [ef, List.map_append]
            exact DpAll.snoc hacc dpy
      rintro H3 ⟨acc, hL3, hacc, s3⟩
      rw [lx, List.take_length] at hacc
      obtain ⟨o, rest, hfl⟩ : ∃ o rest, ds.filter (fun e : Dfn => !decide (e.nm = nm)) = o :: rest := by
        cases hf : ds.filter (fun e : Dfn => !decide (e.nm = nm)) with
        | cons o rest => exact ⟨o, rest, rfl⟩
        | nil =>
          have all : ∀ e, e ∈ ds → e.nm = nm := fun e he => by
            have := List.filter_eq_nil_iff.mp hf e he
            simpa using this
          have l1 : 1 < ds.length := by omega
          have nd := ls.sys.ag.nd
          have e0 : (ds.map Dfn.nm)[0]? = (ds.map Dfn.nm)[1]? := by
            rw [List.getElem?_map, List.getElem?_map, List.getElem?_eq_getElem (show 0 < ds.length by omega), List.getElem?_eq_getElem l1]
            show some _ = some _
            rw [all _ (List.getElem_mem _), all _ (List.getElem_mem _)]
          have := (List.getElem?_inj (by rw [List.length_map]; omega) nd).mp e0
          omega
      have om : o ∈ ds.filter (fun e : Dfn => !decide (e.nm = nm)) := by rw [hfl]; exact List.mem_cons_self ..
      obtain ⟨om1, om2⟩ := List.mem_filter.mp om
      have onm : o.nm ≠ nm := by simpa using om2
      obtain ⟨j, hj⟩ := List.getElem?_of_mem om1
      have jn : j ≠ at_ := fun z => by
        rw [z, hat] at hj
        exact onm (congrArg Dfn.nm (Option.some.inj hj)).symm
      have ook := ls.sys.ok o om1
      obtain ⟨nmo, vso, go_⟩ := o
      rw [hfl] at hacc
      obtain ⟨va, ws, rfl, dva, _⟩ := DpAll.cons_inv hacc
      obtain ⟨t8, u2, u3, rfl, ht8, hu2, _⟩ := dfn_inv (Dp.same s3 dva)
      obtain ⟨b8, rfl, hb8⟩ := tS_inv hu2
      have hb8 : SqT K H3 b8 (vso.map V.str) := hb8
      have dr3 := dr2.same s3
      have k3 : Kp d H2 H3 := .of s3
      refine ⟨L, _, _, _, rfl, rfl, SqL.of hL3, atI_nat (j := 0) rfl, ?_⟩
      -- its call
      obtain ⟨u4, rfl, hu4⟩ := tS_inv (Dp.kpA h2 dr gus.g (k12.trans k3))
      have hu4 : SqT K H3 u4 ((x0 :: ur).map V.str) := hu4
      refine ⟨_, rfl, t8, _, _, _, rfl, rfl, ht8, atI_nat (j := 0) rfl, ?_⟩
      refine ⟨_, rfl, t8, _, _, _, rfl, rfl, ht8, atI_nat (j := 1) rfl, b8, rfl, ⟨_, hb8⟩, fun M nM => ?_⟩
      have l6 : vso.length ≤ 2 := (ars.rg _ (List.mem_of_getElem? (mkg.n j _ hj).2.1)).2
      refine lc_it (walk_tup (K := K) (a := b8) (xs := vso.map V.str)) (fun i H4 => Same H3 H4 ∧ H4 M = some (.lst ((List.replicate i x0).map V.str))) ⟨same_upd nM, upd_same⟩ (fun i H4 _ ⟨s4, _⟩ => Same.sqt s4 hb8) ?_ ?_
      · rintro i y H4 H5 hi ⟨s4, hM⟩ ⟨rfl, hy⟩
        rw [List.length_map] at hi
        refine ⟨rfl, _, rfl, u4, _, _, _, rfl, rfl, Same.sqt s4 hu4, atI_nat (j := 0) rfl, _, hM, ?_, fun b o eb => ?_, ?_⟩
        · rw [List.length_map, List.length_replicate]
          exact small1000 (by omega)
        · rw [upd_ne (ne_of_none eb nM)]
          exact s4 _ _ eb
        · rw [upd_same, List.replicate_succ', List.map_append]; rfl
      rintro H4 ⟨s4, hM4⟩
      rw [List.length_map] at hM4
      refine ⟨M, _, rfl, .inl ⟨SqL.of hM4, fun u nu => ?_⟩⟩
      refine ⟨(by show 3 ≤ sizeLine; decide), fun r nr => ?_⟩
      have s45 := (same_upd (o := .tup ((List.replicate vso.length x0).map V.str)) nu).trans (same_upd (o := .tup [.str "rel", .str nmo, .ref u]) nr)
      have dcall : Dp K (upd (upd H4 u (.tup ((List.replicate vso.length x0).map V.str))) r (.tup [.str "rel", .str nmo, .ref u])) (.ref r) (.tuple [.str "rel", .str nmo, .tuple ((List.replicate vso.length x0).map PyData.str)]) :=
        .tup (SqT.of upd_same) (.cons (.str _) (.cons (.str _) (.cons (tS_of (Same.sqt (same_upd nr) (SqT.of upd_same))) .nil)))
      dsimp only [gName]
      show tSeq _ _ _ [some (.ref d), some (.ref t), some (.ref a), some (.str nm), some (.ref u4), some v3, some vo, some (.int z), some (.ref t8), some (.ref r), none, none, none] _
      revert s45 dcall
      generalize upd (upd H4 u (.tup ((List.replicate vso.length x0).map V.str))) r (.tup [.str "rel", .str nmo, .ref u]) = H5
      intro s45 dcall
      obtain ⟨ws0, ew⟩ : ∃ ws0, ws0 = List.replicate vso.length x0 := ⟨_, rfl⟩
      have lw0 : ws0.length = vso.length := by rw [ew, List.length_replicate]
      have ww0 : ∀ x, x ∈ ws0 → x = x0 := fun x hx => by rw [ew] at hx; exact (List.mem_replicate.mp hx).2
      rw [← ew] at dcall
      have s35 := s4.trans s45
      have dr5 := dr3.same s35
      have k35 : Kp d H3 H5 := .of s35
      have k25 := k3.trans k35
      have nno := ook.nm
      have now : Names ws0 := fun x hx => by rw [ww0 x hx]; exact nx0
      have gcall : Gd (.tuple [.str "rel", .str nmo, .tuple (ws0.map PyData.str)]) := by rw [← rel_data]; exact gd_fm _ (relG_ok nno (by omega) now)
      have du5 : Dp K H5 (.ref u4) (.tuple ((x0 :: ur).map PyData.str)) := tS_of (as := x0 :: ur) (Same.sqt s35 hu4)
      have dg5 := Dp.kpA h3 dr gg.g (k12.trans k25)
      have ht85 := Same.sqt s35 ht8
      have hb85 := Same.sqt s35 hb8
      have hu45 := Same.sqt s35 hu4
      refine mk_seq (K := K) (H0 := H5) (mk_lst (by decide) (fun ts h => by obtain ⟨_, _, rfl, ⟨_, rfl, _⟩, _, _, rfl, rfl, _, _, rfl, ⟨_, rfl, _⟩, _, _, rfl, ⟨_, rfl, _⟩, rfl⟩ := h; exact int1_four) (mk_cons (mk_tup (by decide) (mk_cons (mk_str (by decide +kernel)) (mk_cons (mk_var (i := 9) rfl dcall gcall dr5) mk_nil))) (mk_cons (R := Is (.tuple [.str "rel", .str nmo, .tuple ((ws0 ++ [x0]).map PyData.str)])) ?m2 (mk_cons (mk_tup (by decide) (mk_cons (mk_str (by decide +kernel)) (mk_cons (mk_str (by decide +kernel)) (mk_cons (mk_tup (by decide) (mk_cons (mk_str (by decide +kernel)) mk_nil)) (mk_cons (mk_var (i := 9) rfl dcall gcall dr5) (mk_cons (mk_tup (by decide) (mk_cons (mk_ix (j := 0) (mk_var (i := 4) rfl du5 gus dr5) rfl rfl) mk_nil)) mk_nil)))))) (mk_cons (mk_tup (by decide) (mk_cons (mk_str (by decide +kernel)) (mk_cons (mk_tup (by decide) (mk_cons (mk_str (by decide +kernel)) mk_nil)) (mk_cons (mk_tup (by decide) (mk_cons (mk_str (by decide +kernel)) (mk_cons (mk_tup (by decide) (mk_cons (mk_str (by decide +kernel)) (mk_cons (mk_tup (by decide) (mk_cons (mk_var (i := 9) rfl dcall gcall dr5) (mk_cons (mk_var (i := 9) rfl dcall gcall dr5) mk_nil))) mk_nil))) mk_nil))) mk_nil)))) mk_nil))))) dr5 (Kp.refl d H5) fun H6 vb tb dr6 k6 db gb rb => ?_
      case m2 =>
        intro H dr' kp Q' q'
        have lk : Kl H5 H := .dr kp dr5
        have ht8' := SqT.kl lk ht85
        have hb8' := SqT.kl lk hb85
        have hu4' := SqT.kl lk hu45
        refine ⟨_, rfl, t8, _, _, _, rfl, rfl, ht8', atI_nat (j := 0) rfl, ?_⟩
        refine ⟨_, rfl, t8, _, _, _, rfl, rfl, ht8', atI_nat (j := 1) rfl, b8, rfl, ⟨_, hb8'⟩, fun M nM => ?_⟩
        refine lc_it (walk_tup (K := K) (a := b8) (xs := vso.map V.str)) (fun i H7 => Same H H7 ∧ H7 M = some (.lst ((List.replicate i x0).map V.str))) ⟨same_upd nM, upd_same⟩ (fun i H7 _ ⟨s7, _⟩ => Same.sqt s7 hb8') ?_ ?_
        · rintro i y H7 H8 hi ⟨s7, hM⟩ ⟨rfl, hy⟩
          rw [List.length_map] at hi
          refine ⟨rfl, _, rfl, u4, _, _, _, rfl, rfl, Same.sqt s7 hu4', atI_nat (j := 0) rfl, _, hM, ?_, fun b o eb => ?_, ?_⟩
          · rw [List.length_map, List.length_replicate]
            exact small1000 (by omega)
          · rw [upd_ne (ne_of_none eb nM)]
            exact s7 _ _ eb
          · rw [upd_same, List.replicate_succ', List.map_append]; rfl
        rintro H7 ⟨s7, hM7⟩
        rw [List.length_map, ← ew] at hM7
        refine ⟨_, rfl, u4, _, _, _, rfl, rfl, Same.sqt s7 hu4', atI_nat (j := 0) rfl, (by show 1 ≤ sizeLine; decide), fun b nb => ?_⟩
        have sb := same_upd (o := .lst [.str x0]) nb
        refine ⟨M, b, _, [.str x0], rfl, rfl, sb _ _ hM7, upd_same, by rw [List.length_map]; exact Nat.le_trans (show ws0.length + 1 ≤ 7 by omega) (by decide), fun p np => ?_⟩
        have sp := same_upd (o := .lst (ws0.map V.str ++ [.str x0])) np
        refine ⟨p, _, rfl, .inl ⟨SqL.of upd_same, fun u' nu' => ?_⟩⟩
        refine ⟨(by show 3 ≤ sizeLine; decide), fun r' nr' => ?_⟩
        have su := same_upd (o := .tup (ws0.map V.str ++ [.str x0])) nu'
        have sr := same_upd (o := .tup [.str "rel", .str nmo, .ref u']) nr'
        have em : ws0.map V.str ++ [.str x0] = (ws0 ++ [x0]).map V.str := by rw [List.map_append]; rfl
        have sall := ((((s7.trans sb).trans sp).trans su).trans sr)
        refine q' _ (.ref r') _ (dr'.same sall) (.of sall) (.tup (SqT.of upd_same) (.cons (.str _) (.cons (.str _) (.cons (tS_of (as := ws0 ++ [x0]) (Same.sqt sr (by rw [← em]; exact SqT.of upd_same))) .nil)))) ?_ rfl
        show Gd (.tuple [.str "rel", .str nmo, .tuple ((ws0 ++ [x0]).map PyData.str)])
        rw [← rel_data]
        exact gd_fm _ (relG_ok nno (by rw [List.length_append]; show ws0.length + 1 ≤ 6; omega) fun x hx => by
          rcases List.mem_append.mp hx with hx | hx
          · exact now x hx
          · rw [List.mem_singleton.mp hx]; exact nx0)
      obtain ⟨_, rfl, _, _, _, rfl, ⟨_, rfl, _, _, _, rfl, rfl, _, _, rfl, rfl, rfl⟩, _, _, rfl, rfl, _, _, rfl, ⟨_, rfl, _, _, _, rfl, rfl, _, _, rfl, rfl, _, _, rfl, ⟨_, rfl, _, _, _, rfl, rfl, rfl⟩, _, _, rfl, rfl, _, _, rfl, ⟨_, rfl, _, _, _, rfl, rfl, rfl⟩, rfl⟩, _, _, rfl, ⟨_, rfl, _, _, _, rfl, rfl, _, _, rfl, ⟨_, rfl, _, _, _, rfl, rfl, rfl⟩, _, _, rfl, ⟨_, rfl, _, _, _, rfl, rfl, _, _, rfl, ⟨_, rfl, _, _, _, rfl, rfl, _, _, rfl, ⟨_, rfl, _, _, _, rfl, rfl, _, _, rfl, rfl, rfl⟩, rfl⟩, rfl⟩, rfl⟩, rfl⟩ := rb
      have du6 := Dp.kpA du5 dr5 gus.g k6
      have dg6 := Dp.kpA dg5 dr5 gg.g k6
      have gsb := Gd.memL gb
      have oc : (relG nmo ws0).Ok := relG_ok nno (by omega) now
      have vc : ∀ x, x ∈ (relG nmo ws0).vars → x ∈ wide (x0 :: ur) := vars_rel fun x hx => by rw [ww0 x hx]; exact List.mem_append_left _ (List.mem_cons_self ..)
      have nwo : ("w" : Str) ≠ nmo := fun z' => by
        have m : nmo ∈ sgN := List.mem_of_getElem? (mkg.n j _ hj).1
        rw [← z'] at m
        exact absurd m (by decide +kernel)
      have own9 : OwnOk ["y9"] := ⟨by decide, by decide, fun x hx => by rw [List.mem_singleton.mp hx]; exact nm_of (by decide +kernel), by decide +kernel⟩
      have opf : (Fm.mk (.pfp "w" ["x"] [x0]) [relG nmo ws0]).Ok := pfp_ok nmw ownx rfl n1 oc
      have occ : (Fm.mk .con [relG nmo ws0, relG nmo ws0]).Ok := .mk (by show 2 ≤ 40; decide) fun p hp => by
        rcases two_mem hp with rfl | rfl <;> exact oc
      have vcc : ∀ x, x ∈ (Fm.mk .con [relG nmo ws0, relG nmo ws0]).vars → x ∈ wide (x0 :: ur) := vars_of (fun x hx => nomatch hx) fun p hp => by
        rcases two_mem hp with rfl | rfl <;> exact vc
      have v9 : ∀ x, x ∈ Hd.vars (.ex ["y9"]) → x ∈ wide (x0 :: ur) := fun x hx => by
        have hx : x ∈ (["y9"] : List Str) ++ [] := hx
        rw [List.append_nil] at hx
        rw [List.mem_singleton.mp hx]
        exact List.mem_append_right _ (by decide +kernel)
      refine mk_ret (H0 := H6) (mk_tup (by decide) (mk_cons (mk_var (i := 3) rfl (.str nm) gnm dr6) (mk_cons (mk_var (i := 4) rfl du6 gus dr6) (mk_cons (mk_tup (by decide) (mk_cons (mk_str (by decide +kernel)) (mk_cons (mk_tup (by decide) (mk_cons (mk_var (i := 5) rfl dg6 gg dr6) (mk_cons (mk_pickL (i := 0) (k := 10) (n := 4) rfl db gb gsb dr6 rfl rfl rfl (by decide)) mk_nil))) mk_nil))) mk_nil)))) dr6 (Kp.refl d H6) fun H7 v t7 dr7 k7 dv gv hr => ?_
      obtain ⟨_, rfl, _, _, _, rfl, rfl, _, _, rfl, rfl, _, _, rfl, ⟨_, rfl, _, _, _, rfl, rfl, _, _, rfl, ⟨_, rfl, _, _, _, rfl, rfl, te, _, rfl, hm, rfl⟩, rfl⟩, rfl⟩ := hr
      have k07 : Kp d H H7 := ((k12.trans k25).trans k6).trans k7
      simp only [List.mem_cons, List.not_mem_nil, or_false] at hm
      rcases hm with rfl | rfl | rfl | rfl
      · exact finG (.mk .no [relG nmo ws0]) (no_ok oc) (no_vars vc) H7 v dr7 k07 (by rw [no_data, rel_data]; exact dv) (by rw [no_data, rel_data]; exact gv) (bad_po lt jn hj (or_ok ok (no_ok oc)) ook.wf.ok (or_posF (no_pos.trans (rel_pos.trans rfl))))
      · have o2 : (relG nmo (ws0 ++ [x0])).Ok := relG_ok nno (by rw [List.length_append]; show ws0.length + 1 ≤ 6; omega) fun x hx => by
          rcases List.mem_append.mp hx with hx | hx
          · exact now x hx
          · rw [List.mem_singleton.mp hx]; exact nx0
        exact finG (relG nmo (ws0 ++ [x0])) o2 (vars_rel fun x hx => by
          rcases List.mem_append.mp hx with hx | hx
          · rw [ww0 x hx]; exact List.mem_append_left _ (List.mem_cons_self ..)
          · rw [List.mem_singleton.mp hx]; exact List.mem_append_left _ (List.mem_cons_self ..)) H7 v dr7 k07 (by rw [rel_data]; exact dv) (by rw [rel_data]; exact gv) (bad_ar lt jn hj (or_ok ok o2) ook.wf.ok (k := (ws0 ++ [x0]).length) (or_sym (relG_sym _ _)) (fun z' => by
            rw [List.length_append] at z'
            have z' : ws0.length + 1 = vso.length := z'
            omega))
      · exact finG (.mk (.pfp "w" ["x"] [x0]) [relG nmo ws0]) opf (vars_one (fun x hx => pfv x hx) vc) H7 v dr7 k07 (by rw [pfp_data, rel_data]; exact dv) (by rw [pfp_data, rel_data]; exact gv) (bad_po lt jn hj (or_ok ok opf) ook.wf.ok (or_posF (pfp_posF nwo)))
      · have o4 := ex_ok own9 (no_ok occ)
        exact finG (.mk (.ex ["y9"]) [.mk .no [.mk .con [relG nmo ws0, relG nmo ws0]]]) o4 (vars_one (fun x hx => v9 x hx) (no_vars vcc)) H7 v dr7 k07 (by rw [ex_data, no_data, con_data]; show Dp K H7 v (.tuple [_, _, .tuple [_, .tuple [_, .tuple [_, _, .tuple [_, .tuple [_, .tuple [(relG nmo ws0).data, (relG nmo ws0).data]]]]]]]); rw [rel_data]; exact dv) (by rw [ex_data, no_data, con_data]; show Gd (.tuple [_, _, .tuple [_, .tuple [_, .tuple [_, _, .tuple [_, .tuple [_, .tuple [(relG nmo ws0).data, (relG nmo ws0).data]]]]]]]); rw [rel_data]; exact gv) (bad_po lt jn hj (or_ok ok o4) ook.wf.ok (or_posF ((pos_one (h := .ex ["y9"]) (fun z => nomatch z) (non_ _)).trans (no_pos.trans (pos_two (h := .con) (fun z => nomatch z) (non_ _) (rel_pos.trans rfl))))))
    · rintro σ H3 ⟨rfl, dr3, k3⟩
      have dt : Dp K H3 (.ref t) (.tuple [.str nm, .tuple ((x0 :: ur).map PyData.str), g.data]) := Dp.kpA dp dr gt0.g (k12.trans k3)
      have du := Dp.kpA h2 dr gus.g (k12.trans k3)
      have dg := Dp.kpA h3 dr gg.g (k12.trans k3)
      have dw : Dp K H3 vo (.tuple [.str "rel", .str nm, .tuple ((x0 :: ur).map PyData.str)]) := Dp.kpA do_ dr1 gw.g (k2.trans k3)
      have fin : ∀ (H' : Hp) (r : V) (t : PyData), DrA H' d l → Kp d H3 H' → Dp K H' r t → Gd t → RawD t → BadAt ds at_ t → LsOk t → Q r H' := fun H' r t' a1 a2 a3 a4 a5 a6 a7 => q H' r t' a1 ((k12.trans k3).trans a2) a3 a4 a5 a6 a7
      have finO := fun (e : Fm) oe ve (H' : Hp) (r : V) a1 (a2 : Kp d H3 H') a3 a4 a5 => finG e oe ve H' r a1 ((k12.trans k3).trans a2) a3 a4 a5
      refine ⟨_, rfl, rfl, _, rfl, ite2 (fun _ => ?_) (fun _ => ?_)⟩
      · refine mk_ret (K := K) (mk_pick (n := 3) (mk_cons (mk_tup (by decide) (mk_cons (mk_str (by decide +kernel)) (mk_cons (mk_var (i := 4) rfl du gus dr3) (mk_cons (mk_var (i := 5) rfl dg gg dr3) mk_nil)))) (mk_cons (mk_tup (by decide) (mk_cons (mk_str (by decide +kernel)) (mk_cons (mk_var (i := 4) rfl du gus dr3) (mk_cons (mk_var (i := 5) rfl dg gg dr3) mk_nil)))) (mk_cons (mk_tup (by decide) (mk_cons mk_non (mk_cons (mk_var (i := 4) rfl du gus dr3) (mk_cons (mk_var (i := 5) rfl dg gg dr3) mk_nil)))) mk_nil))) rfl rfl (by decide) (by decide)) dr3 (Kp.refl d H3) fun H4 v t4 dr4 k4 dv gv hr => ?_
        obtain ⟨_, ⟨t0_, _, rfl, r0, t1_, _, rfl, r1, t2_, _, rfl, r2, rfl⟩, hm⟩ := hr
        simp only [List.mem_cons, List.not_mem_nil, or_false] at hm
        rcases hm with e | e | e <;> subst e
        · obtain ⟨_, rfl, _, _, _, rfl, rfl, _, _, rfl, rfl, _, _, rfl, rfl, rfl⟩ := r0
          exact fin H4 v _ dr4 k4 dv gv (.of3 gv rawg) ((Out.nm fun n e => by injection e with e; rw [← e]; exact not_nm (by decide +kernel)).bad lt) (.inl (noL3 noL_str (noL_us (x0 :: ur)) (Fm.noL g)))
        · obtain ⟨_, rfl, _, _, _, rfl, rfl, _, _, rfl, rfl, _, _, rfl, rfl, rfl⟩ := r1
          exact fin H4 v _ dr4 k4 dv gv (.of3 gv rawg) ((Out.nm fun n e => by injection e with e; rw [← e]; exact not_nm (by decide +kernel)).bad lt) (.inl (noL3 noL_str (noL_us (x0 :: ur)) (Fm.noL g)))
        · obtain ⟨_, rfl, _, _, _, rfl, rfl, _, _, rfl, rfl, _, _, rfl, rfl, rfl⟩ := r2
          exact fin H4 v _ dr4 k4 dv gv (.of3 gv rawg) ((Out.nm fun n e => by cases e).bad lt) (.inl (noL3 noL_non (noL_us (x0 :: ur)) (Fm.noL g)))
      refine ⟨_, rfl, rfl, _, rfl, ite2 (fun _ => ?_) (fun _ => ?_)⟩
      · refine mk_ret (K := K) (mk_pick (n := 3) (mk_cons (mk_tup (by decide) (mk_cons (mk_var (i := 3) rfl (.str nm) gnm dr3) (mk_cons (mk_cat (mk_is (m := 100) (by first | exact hA | exact hB | exact hC | exact Nat.le_trans (cutD_len _ _ _) hA | exact Nat.le_trans (cutD_len _ _ _) hB | exact Nat.le_trans (cutD_len _ _ _) hC) (mk_var (i := 4) rfl du gus dr3)) (mk_is (m := 100) (by first | exact hA | exact hB | exact hC | exact Nat.le_trans (cutD_len _ _ _) hA | exact Nat.le_trans (cutD_len _ _ _) hB | exact Nat.le_trans (cutD_len _ _ _) hC) (mk_sl (mk_var (i := 4) rfl du gus dr3) mo_none (mo_some mi_c))) (by decide)) (mk_cons (mk_var (i := 5) rfl dg gg dr3) mk_nil)))) (mk_cons (mk_tup (by decide) (mk_cons (mk_var (i := 3) rfl (.str nm) gnm dr3) (mk_cons (mk_listof (mk_var (i := 4) rfl du gus dr3) (int1_strs (x0 :: ur))) (mk_cons (mk_var (i := 5) rfl dg gg dr3) mk_nil)))) (mk_cons (mk_tup (by decide) (mk_cons (mk_var (i := 3) rfl (.str nm) gnm dr3) (mk_cons (mk_tup (by decide) mk_nil) (mk_cons (mk_tup (by decide) (mk_cons (mk_str (by decide +kernel)) (mk_cons (mk_str (by decide +kernel)) (mk_cons (mk_str (by decide +kernel)) mk_nil)))) mk_nil)))) mk_nil))) rfl rfl (by decide) (by decide)) dr3 (Kp.refl d H3) fun H4 v t4 dr4 k4 dv gv hr => ?_
        obtain ⟨_, ⟨t0_, _, rfl, r0, t1_, _, rfl, r1, t2_, _, rfl, r2, rfl⟩, hm⟩ := hr
        simp only [List.mem_cons, List.not_mem_nil, or_false] at hm
        rcases hm with e | e | e <;> subst e
        · obtain ⟨_, rfl, _, _, _, rfl, rfl, _, _, rfl, ⟨_, rfl, _, _, _, rfl, rfl, rfl⟩, _, _, rfl, rfl, rfl⟩ := r0
          refine fin H4 v _ dr4 k4 dv gv (.of3 gv rawg) ((Out.vs fun vs e o => ?_).bad lt) (.inl (noL3 noL_str noL_cut (Fm.noL g)))
          unfold tS at e
          injection e with e
          have c1 : cutD ((x0 :: ur).map PyData.str) none (some 1) = [.str x0] := cut1 _ _ lurm
          rw [c1] at e
          have e2 : ((x0 :: ur) ++ [x0]).map PyData.str = vs.map PyData.str := by rw [List.map_append]; exact e
          obtain rfl := strs_eq e2
          have nd := o.2.2.2
          exact absurd rfl ((List.nodup_append.mp nd).2.2 x0 (List.mem_cons_self ..) x0 (List.mem_singleton.mpr rfl))
        · obtain ⟨_, rfl, _, _, _, rfl, rfl, _, _, rfl, rfl, _, _, rfl, rfl, rfl⟩ := r1
          exact fin H4 v _ dr4 k4 dv gv (.of3 gv rawg) ((Out.vs fun vs e o => by unfold tS at e; cases e).bad lt) (.inr (.inr ⟨_, _, x0, ur.map PyData.str, rfl, noL_str, (Fm.noL g), noLs_strs ur⟩))
        · obtain ⟨_, rfl, _, _, _, rfl, rfl, _, _, rfl, ⟨_, rfl, _, rfl⟩, _, _, rfl, ⟨_, rfl, _, _, _, rfl, rfl, _, _, rfl, rfl, _, _, rfl, rfl, rfl⟩, rfl⟩ := r2
          refine fin H4 v _ dr4 k4 dv gv (.of3 gv ?_) ((Out.vs fun vs e o => ?_).bad lt) (.inl (noL3 noL_str noL0 (noL3 noL_str noL_str noL_str)))
          · rw [← eq_data]; exact .fm (eq_ok nmx nmx) (fr_vars _ (pool := ["x"]) (vars_of (fun x hx => by simpa [Hd.vars, Hd.own, Hd.args] using hx) fun p hp => nomatch hp) (by decide))
          · unfold tS at e
            injection e with e
            have l1 := o.1
            have := congrArg List.length e
            rw [List.length_map] at this
            rw [← this] at l1
            exact absurd l1 (by decide)
      refine ⟨_, rfl, rfl, _, rfl, ite2 (fun _ => ?_) (fun _ => ?_)⟩
      · refine mk_ret (K := K) (mk_tup (by decide) (mk_cons (mk_var (i := 3) rfl (.str nm) gnm dr3) (mk_cons (mk_var (i := 4) rfl du gus dr3) (mk_cons (mk_tup (by decide) (mk_cons (mk_str (by decide +kernel)) (mk_cons (mk_tup (by decide) (mk_cons (mk_var (i := 5) rfl dg gg dr3) (mk_cons (mk_tup (by decide) (mk_cons (mk_str (by decide +kernel)) (mk_cons (mk_str (by decide +kernel)) (mk_cons (mk_ix (j := 0) (mk_var (i := 4) rfl du gus dr3) rfl rfl) mk_nil)))) mk_nil))) mk_nil))) mk_nil)))) dr3 (Kp.refl d H3) fun H4 v t4 dr4 k4 dv gv hr => ?_
        obtain ⟨_, rfl, _, _, _, rfl, rfl, _, _, rfl, rfl, _, _, rfl, ⟨_, rfl, _, _, _, rfl, rfl, _, _, rfl, ⟨_, rfl, _, _, _, rfl, rfl, _, _, rfl, ⟨_, rfl, _, _, _, rfl, rfl, _, _, rfl, rfl, _, _, rfl, rfl, rfl⟩, rfl⟩, rfl⟩, rfl⟩ := hr
        refine finO (.mk (.eq "new" x0) []) (eq_ok nmnew nx0) (vars_of (fun x hx => eqv x hx) fun p hp => nomatch hp) H4 v dr4 k4 (by rw [eq_data]; exact dv) (by rw [eq_data]; exact gv) ?_
        exact (Out.fr (or_ok ok (eq_ok nmnew nx0)) (x := "new") (or_free (Fm.frees_mem.mpr (.inr (List.mem_cons_self ..)))) (fun m => absurd (xyz _ m) (by decide +kernel))).bad lt
      refine ⟨_, rfl, rfl, _, rfl, ite2 (fun _ => ?_) (fun _ => ?_)⟩
      · refine mk_ret (K := K) (mk_tup (by decide) (mk_cons (mk_var (i := 3) rfl (.str nm) gnm dr3) (mk_cons (mk_var (i := 4) rfl du gus dr3) (mk_cons (mk_tup (by decide) (mk_cons (mk_str (by decide +kernel)) (mk_cons (mk_tup (by decide) (mk_cons (mk_var (i := 5) rfl dg gg dr3) (mk_cons (mk_tup (by decide) (mk_cons (mk_str (by decide +kernel)) (mk_cons (mk_var (i := 3) rfl (.str nm) gnm dr3) (mk_cons (mk_cat (mk_is (m := 100) (by first | exact hA | exact hB | exact hC | exact Nat.le_trans (cutD_len _ _ _) hA | exact Nat.le_trans (cutD_len _ _ _) hB | exact Nat.le_trans (cutD_len _ _ _) hC) (mk_var (i := 4) rfl du gus dr3)) (mk_is (m := 100) (by first | exact hA | exact hB | exact hC | exact Nat.le_trans (cutD_len _ _ _) hA | exact Nat.le_trans (cutD_len _ _ _) hB | exact Nat.le_trans (cutD_len _ _ _) hC) (mk_var (i := 4) rfl du gus dr3)) (by decide)) mk_nil)))) mk_nil))) mk_nil))) mk_nil)))) dr3 (Kp.refl d H3) fun H4 v t4 dr4 k4 dv gv hr => ?_
        obtain ⟨_, rfl, _, _, _, rfl, rfl, _, _, rfl, rfl, _, _, rfl, ⟨_, rfl, _, _, _, rfl, rfl, _, _, rfl, ⟨_, rfl, _, _, _, rfl, rfl, _, _, rfl, ⟨_, rfl, _, _, _, rfl, rfl, _, _, rfl, rfl, _, _, rfl, ⟨_, rfl, _, _, _, rfl, rfl, rfl⟩, rfl⟩, rfl⟩, rfl⟩, rfl⟩ := hr
        have em : (x0 :: ur).map PyData.str ++ (x0 :: ur).map PyData.str = ((x0 :: ur) ++ (x0 :: ur)).map PyData.str := (List.map_append ..).symm
        rw [em] at dv gv
        refine finO (relG nm ((x0 :: ur) ++ (x0 :: ur))) okuu (vars_rel fun x hx => List.mem_append_left _ ((List.mem_append.mp hx).elim id id)) H4 v dr4 k4 (by rw [rel_data]; exact dv) (by rw [rel_data]; exact gv) ?_
        exact (Out.ar (or_ok ok okuu) (k := ((x0 :: ur) ++ (x0 :: ur)).length) (or_sym (relG_sym _ _)) (fun z => by rw [List.length_append, List.length_cons] at z; have z : ur.length + 1 + (ur.length + 1) = ur.length + 1 := z; omega)).bad lt
      refine ⟨_, rfl, rfl, _, rfl, ite2 (fun _ => ?_) (fun _ => ?_)⟩
      · refine mk_ret (K := K) (mk_tup (by decide) (mk_cons (mk_var (i := 3) rfl (.str nm) gnm dr3) (mk_cons (mk_var (i := 4) rfl du gus dr3) (mk_cons (mk_tup (by decide) (mk_cons (mk_str (by decide +kernel)) (mk_cons (mk_tup (by decide) (mk_cons (mk_var (i := 5) rfl dg gg dr3) (mk_cons (mk_tup (by decide) (mk_cons (mk_str (by decide +kernel)) (mk_cons (mk_var (i := 6) rfl dw gw dr3) mk_nil))) mk_nil))) mk_nil))) mk_nil)))) dr3 (Kp.refl d H3) fun H4 v t4 dr4 k4 dv gv hr => ?_
        obtain ⟨_, rfl, _, _, _, rfl, rfl, _, _, rfl, rfl, _, _, rfl, ⟨_, rfl, _, _, _, rfl, rfl, _, _, rfl, ⟨_, rfl, _, _, _, rfl, rfl, _, _, rfl, ⟨_, rfl, _, _, _, rfl, rfl, _, _, rfl, rfl, rfl⟩, rfl⟩, rfl⟩, rfl⟩ := hr
        refine finO (.mk .no [relG nm (x0 :: ur)]) (no_ok oown) (no_vars vown) H4 v dr4 k4 (by rw [no_data, rel_data]; exact dv) (by rw [no_data, rel_data]; exact gv) ?_
        exact (Out.po (or_ok ok (no_ok oown)) (or_posF (no_pos.trans (rel_pos.trans rfl)))).bad lt
      refine ⟨_, rfl, rfl, _, rfl, ite2 (fun _ => ?_) (fun _ => ?_)⟩
      · refine mk_ret (K := K) (mk_tup (by decide) (mk_cons (mk_var (i := 3) rfl (.str nm) gnm dr3) (mk_cons (mk_var (i := 4) rfl du gus dr3) (mk_cons (mk_tup (by decide) (mk_cons (mk_str (by decide +kernel)) (mk_cons (mk_tup (by decide) (mk_cons (mk_var (i := 5) rfl dg gg dr3) (mk_cons (mk_tup (by decide) (mk_cons (mk_str (by decide +kernel)) (mk_cons (mk_str (by decide +kernel)) (mk_cons (mk_tup (by decide) (mk_cons (mk_str (by decide +kernel)) mk_nil)) (mk_cons (mk_var (i := 6) rfl dw gw dr3) (mk_cons (mk_tup (by decide) (mk_cons (mk_ix (j := 0) (mk_var (i := 4) rfl du gus dr3) rfl rfl) mk_nil)) mk_nil)))))) mk_nil))) mk_nil))) mk_nil)))) dr3 (Kp.refl d H3) fun H4 v t4 dr4 k4 dv gv hr => ?_
        obtain ⟨_, rfl, _, _, _, rfl, rfl, _, _, rfl, rfl, _, _, rfl, ⟨_, rfl, _, _, _, rfl, rfl, _, _, rfl, ⟨_, rfl, _, _, _, rfl, rfl, _, _, rfl, ⟨_, rfl, _, _, _, rfl, rfl, _, _, rfl, rfl, _, _, rfl, ⟨_, rfl, _, _, _, rfl, rfl, rfl⟩, _, _, rfl, rfl, _, _, rfl, ⟨_, rfl, _, _, _, rfl, rfl, rfl⟩, rfl⟩, rfl⟩, rfl⟩, rfl⟩ := hr
        refine finO (.mk (.pfp "w" ["x"] [x0]) [relG nm (x0 :: ur)]) opfp (vars_one (fun x hx => pfv x hx) vown) H4 v dr4 k4 (by rw [pfp_data, rel_data]; exact dv) (by rw [pfp_data, rel_data]; exact gv) ?_
        exact (Out.po (or_ok ok opfp) (or_posF (pfp_posF nw))).bad lt
      refine ⟨_, rfl, rfl, _, rfl, ite2 (fun _ => ?_) (fun _ => ?_)⟩
      · refine mk_ret (K := K) (mk_tup (by decide) (mk_cons (mk_var (i := 3) rfl (.str nm) gnm dr3) (mk_cons (mk_var (i := 4) rfl du gus dr3) (mk_cons (mk_tup (by decide) (mk_cons (mk_str (by decide +kernel)) (mk_cons (mk_tup (by decide) (mk_cons (mk_var (i := 5) rfl dg gg dr3) (mk_cons (mk_tup (by decide) (mk_cons (mk_str (by decide +kernel)) (mk_cons (mk_str (by decide +kernel)) (mk_cons (mk_sl (mk_var (i := 4) rfl du gus dr3) mo_none (mo_some mi_c)) mk_nil)))) (mk_cons (mk_tup (by decide) (mk_cons (mk_str (by decide +kernel)) (mk_cons (mk_str (by decide +kernel)) (mk_cons (mk_tup (by decide) (mk_cons (mk_ix (j := 0) (mk_var (i := 4) rfl du gus dr3) rfl rfl) (mk_cons (mk_ix (j := 0) (mk_var (i := 4) rfl du gus dr3) rfl rfl) mk_nil))) mk_nil)))) mk_nil)))) mk_nil))) mk_nil)))) dr3 (Kp.refl d H3) fun H4 v t4 dr4 k4 dv gv hr => ?_
        obtain ⟨_, rfl, _, _, _, rfl, rfl, _, _, rfl, rfl, _, _, rfl, ⟨_, rfl, _, _, _, rfl, rfl, _, _, rfl, ⟨_, rfl, _, _, _, rfl, rfl, _, _, rfl, ⟨_, rfl, _, _, _, rfl, rfl, _, _, rfl, rfl, _, _, rfl, rfl, rfl⟩, _, _, rfl, ⟨_, rfl, _, _, _, rfl, rfl, _, _, rfl, rfl, _, _, rfl, ⟨_, rfl, _, _, _, rfl, rfl, _, _, rfl, rfl, rfl⟩, rfl⟩, rfl⟩, rfl⟩, rfl⟩ := hr
        have c1 : cutD ((x0 :: ur).map PyData.str) none (some 1) = [.str x0] := cut1 _ _ lurm
        rw [c1] at dv gv
        have e0 : (.tuple [.str nm, .tuple ((x0 :: ur).map PyData.str), .tuple [.str "and", .tuple [g.data, .tuple [.str "rel", .str "e", .tuple [.str x0]], .tuple [.str "rel", .str "e", .tuple [.str x0, .str x0]]]]]) = Dfn.data ⟨nm, x0 :: ur, .mk .con [g, relG "e" [x0], relG "e" [x0, x0]]⟩ := by
          unfold Dfn.data
          rw [con_data]
          show _ = PyData.tuple [_, _, .tuple [_, .tuple [g.data, (relG "e" [x0]).data, (relG "e" [x0, x0]).data]]]
          rw [rel_data, rel_data]
          rfl
        have o3 : (Fm.mk .con [g, relG "e" [x0], relG "e" [x0, x0]]).Ok := .mk (by show 3 ≤ 40; decide) fun p hp => by
          have c : p = g ∨ p = relG "e" [x0] ∨ p = relG "e" [x0, x0] := by simpa using hp
          rcases c with rfl | rfl | rfl
          · exact ok
          · exact relG_ok nme (by show 1 ≤ 6; decide) (fun x hx => by rw [List.mem_singleton.mp hx]; exact nx0)
          · exact relG_ok nme (by show 2 ≤ 6; decide) n2
        rw [e0] at dv gv
        refine fin H4 v _ dr4 k4 dv gv (.of3 gv (.fm o3 (fr_vars _ (pool := wide (x0 :: ur)) (vars_of (fun x hx => nomatch hx) fun p hp => ?_) lw))) ((Out.dfn o3 fun es sys m => ?_).bad lt) (.inl (dfn_noL _))
        · have c : p = g ∨ p = relG "e" [x0] ∨ p = relG "e" [x0, x0] := by simpa using hp
          rcases c with rfl | rfl | rfl
          · exact vg
          · exact vars_rel fun x hx => by rw [List.mem_singleton.mp hx]; exact List.mem_append_left _ (List.mem_cons_self ..)
          · exact vars_rel fun x hx => two0 x hx
        · obtain ⟨Γ, ty⟩ := (sys.ok _ m).wf.ty
          have s1 := typed_sym _ Γ ty ("e", 1) ((Fm.syms_mem (h := .con) (fun z => nomatch z)).mpr ⟨non_ _, relG "e" [x0], by simp, relG_sym _ _⟩)
          have s2 := typed_sym _ Γ ty ("e", 2) ((Fm.syms_mem (h := .con) (fun z => nomatch z)).mpr ⟨non_ _, relG "e" [x0, x0], by simp, relG_sym _ _⟩)
          rw [s1] at s2
          cases s2
      refine ⟨_, rfl, rfl, _, rfl, ite2 (fun _ => ?_) (fun _ => ?_)⟩
      · refine mk_ret (K := K) (mk_pick (n := 5) (mk_cons (mk_listof (mk_var (i := 1) rfl dt gt0 dr3) i1) (mk_cons (mk_cat (mk_is (m := 100) (by first | exact hA | exact hB | exact hC | exact Nat.le_trans (cutD_len _ _ _) hA | exact Nat.le_trans (cutD_len _ _ _) hB | exact Nat.le_trans (cutD_len _ _ _) hC) (mk_var (i := 1) rfl dt gt0 dr3)) (mk_tup (by decide) (mk_cons mk_int mk_nil)) (by decide)) (mk_cons (mk_sl (mk_var (i := 1) rfl dt gt0 dr3) mo_none (mo_some mi_c)) (mk_cons mk_non (mk_cons (mk_tup (by decide) mk_nil) mk_nil))))) rfl rfl (by decide) (by decide)) dr3 (Kp.refl d H3) fun H4 v t4 dr4 k4 dv gv hr => ?_
        obtain ⟨_, ⟨t0_, _, rfl, r0, t1_, _, rfl, r1, t2_, _, rfl, r2, t3_, _, rfl, r3, t4_, _, rfl, r4, rfl⟩, hm⟩ := hr
        simp only [List.mem_cons, List.not_mem_nil, or_false] at hm
        rcases hm with e | e | e | e | e <;> subst e
        · obtain rfl := r0
          exact fin H4 v _ dr4 k4 dv gv (.no3 gv fun a b c e => by cases e) ((Out.no3 fun a b c e => by cases e).bad lt) (.inr (.inl ⟨nm, _, rfl, noLs2 (noL_us (x0 :: ur)) (Fm.noL g)⟩))
        · obtain ⟨_, rfl, _, _, _, rfl, rfl, _, _, rfl, rfl, rfl⟩ := r1
          exact fin H4 v _ dr4 k4 dv gv (.no3 gv fun a b c e => by cases e) ((Out.no3 fun a b c e => by cases e).bad lt) (.inl (noL4 noL_str (noL_us (x0 :: ur)) (Fm.noL g) noL_int))
        · obtain rfl := r2
          exact fin H4 v _ dr4 k4 dv gv (.no3 gv fun a b c e => by rw [c2] at e; cases e) ((Out.no3 fun a b c e => by rw [c2] at e; cases e).bad lt) (.inl (by rw [c2]; exact noL2 noL_str (noL_us (x0 :: ur))))
        · obtain rfl := r3
          exact fin H4 v _ dr4 k4 dv gv (.no3 gv fun a b c e => by cases e) ((Out.no3 fun a b c e => by cases e).bad lt) (.inl noL_non)
        · obtain ⟨_, rfl, _, rfl⟩ := r4
          exact fin H4 v _ dr4 k4 dv gv (.no3 gv fun a b c e => by cases e) ((Out.no3 fun a b c e => by cases e).bad lt) (.inl noL0)
      refine ⟨_, rfl, rfl, _, rfl, ite2 (fun _ => ?_) (fun _ => ?_)⟩
      · refine mk_ret (K := K) (mk_tup (by decide) (mk_cons (mk_var (i := 3) rfl (.str nm) gnm dr3) (mk_cons (mk_var (i := 4) rfl du gus dr3) (mk_cons (mk_tup (by decide) (mk_cons (mk_str (by decide +kernel)) (mk_cons (mk_ix (j := 0) (mk_var (i := 4) rfl du gus dr3) rfl rfl) mk_nil))) mk_nil)))) dr3 (Kp.refl d H3) fun H4 v t4 dr4 k4 dv gv hr => ?_
        obtain ⟨_, rfl, _, _, _, rfl, rfl, _, _, rfl, rfl, _, _, rfl, ⟨_, rfl, _, _, _, rfl, rfl, _, _, rfl, rfl, rfl⟩, rfl⟩ := hr
        have sp : Spl (.tuple [.str "eq", .str x0]) := Spl.len (k := .eq) (gv.mem _ (List.mem_cons_of_mem _ (List.mem_cons_of_mem _ (List.mem_cons_self ..)))) (by show 1 + 1 ≠ 3; decide)
        refine fin H4 v _ dr4 k4 dv gv (.of3 gv (.spl sp.raw fun f o e => ?_)) ((Out.body fun f w e => sp.non_ f w e).bad lt) (.inl (noL3 noL_str (noL_us (x0 :: ur)) (noL2 noL_str noL_str)))
        exact no_eq1 f o e
      refine ⟨_, rfl, rfl, _, rfl, ite2 (fun _ => ?_) (fun _ => ?_)⟩
      · refine mk_ret (K := K) (mk_tup (by decide) (mk_cons (mk_var (i := 3) rfl (.str nm) gnm dr3) (mk_cons (mk_tup (by decide) (mk_cons (mk_str (by decide +kernel)) (mk_cons (mk_str (by decide +kernel)) (mk_cons (mk_str (by decide +kernel)) (mk_cons (mk_str (by decide +kernel)) (mk_cons (mk_str (by decide +kernel)) (mk_cons (mk_str (by decide +kernel)) (mk_cons (mk_str (by decide +kernel)) mk_nil)))))))) (mk_cons (mk_tup (by decide) (mk_cons (mk_str (by decide +kernel)) (mk_cons (mk_str (by decide +kernel)) (mk_cons (mk_str (by decide +kernel)) mk_nil)))) mk_nil)))) dr3 (Kp.refl d H3) fun H4 v t4 dr4 k4 dv gv hr => ?_
        obtain ⟨_, rfl, _, _, _, rfl, rfl, _, _, rfl, ⟨_, rfl, _, _, _, rfl, rfl, _, _, rfl, rfl, _, _, rfl, rfl, _, _, rfl, rfl, _, _, rfl, rfl, _, _, rfl, rfl, _, _, rfl, rfl, rfl⟩, _, _, rfl, ⟨_, rfl, _, _, _, rfl, rfl, _, _, rfl, rfl, _, _, rfl, rfl, rfl⟩, rfl⟩ := hr
        refine fin H4 v _ dr4 k4 dv gv (.of3 gv ?_) ((Out.vs fun vs e o => ?_).bad lt) (.inl (noL3 noL_str (noL_us ["a", "b", "c", "d", "f", "g", "h"]) (noL3 noL_str noL_str noL_str)))
        · rw [← eq_data]; exact .fm (eq_ok (nm_of (by decide +kernel)) (nm_of (by decide +kernel))) (fr_vars _ (pool := ["a", "b"]) (vars_of (fun x hx => by simpa [Hd.vars, Hd.own, Hd.args] using hx) fun p hp => nomatch hp) (by decide))
        · unfold tS at e
          injection e with e
          have l6 := o.2.1
          have := congrArg List.length e
          rw [List.length_map] at this
          rw [← this] at l6
          exact absurd l6 (by decide)
      refine ⟨_, rfl, rfl, _, rfl, ite2 (fun _ => ?_) (fun _ => ?_)⟩
      · refine mk_ret (K := K) (mk_tup (by decide) (mk_cons (mk_var (i := 3) rfl (.str nm) gnm dr3) (mk_cons (mk_var (i := 4) rfl du gus dr3) (mk_cons (mk_tup (by decide) (mk_cons (mk_str (by decide +kernel)) (mk_cons (mk_tup (by decide) (mk_cons (mk_var (i := 5) rfl dg gg dr3) (mk_cons (mk_tup (by decide) (mk_cons (mk_str (by decide +kernel)) (mk_cons (mk_tup (by decide) (mk_cons (mk_str (by decide +kernel)) (mk_cons (mk_tup (by decide) (mk_cons (mk_str (by decide +kernel)) (mk_cons (mk_var (i := 6) rfl dw gw dr3) mk_nil))) mk_nil))) mk_nil))) mk_nil))) mk_nil))) mk_nil)))) dr3 (Kp.refl d H3) fun H4 v t4 dr4 k4 dv gv hr => ?_
        obtain ⟨_, rfl, _, _, _, rfl, rfl, _, _, rfl, rfl, _, _, rfl, ⟨_, rfl, _, _, _, rfl, rfl, _, _, rfl, ⟨_, rfl, _, _, _, rfl, rfl, _, _, rfl, ⟨_, rfl, _, _, _, rfl, rfl, _, _, rfl, ⟨_, rfl, _, _, _, rfl, rfl, _, _, rfl, ⟨_, rfl, _, _, _, rfl, rfl, _, _, rfl, rfl, rfl⟩, rfl⟩, rfl⟩, rfl⟩, rfl⟩, rfl⟩ := hr
        refine finO (.mk .no [.mk .no [.mk .no [relG nm (x0 :: ur)]]]) (no_ok (no_ok (no_ok oown))) (no_vars (no_vars (no_vars vown))) H4 v dr4 k4 (by rw [no_data, no_data, no_data, rel_data]; exact dv) (by rw [no_data, no_data, no_data, rel_data]; exact gv) ?_
        exact (Out.po (or_ok ok (no_ok (no_ok (no_ok oown)))) (or_posF (no_pos.trans (no_pos.trans (no_pos.trans (rel_pos.trans rfl)))))).bad lt
      refine ⟨_, rfl, rfl, _, rfl, ite2 (fun _ => ?_) (fun _ => ?_)⟩
      · refine mk_ret (K := K) (mk_tup (by decide) (mk_cons (mk_var (i := 3) rfl (.str nm) gnm dr3) (mk_cons (mk_var (i := 4) rfl du gus dr3) (mk_cons mk_non mk_nil)))) dr3 (Kp.refl d H3) fun H4 v t4 dr4 k4 dv gv hr => ?_
        obtain ⟨_, rfl, _, _, _, rfl, rfl, _, _, rfl, rfl, _, _, rfl, rfl, rfl⟩ := hr
        exact fin H4 v _ dr4 k4 dv gv (.of3 gv (.spl (Spl.flat .non fun ts e => nomatch e).raw fun f o e => by obtain ⟨h, ps⟩ := f; rw [Fm.data_mk] at e; cases e)) ((Out.body fun f w e => by obtain ⟨h, ps⟩ := f; rw [Fm.data_mk] at e; cases e).bad lt) (.inl (noL3 noL_str (noL_us (x0 :: ur)) noL_non))
      refine mk_ret (K := K) (mk_tup (by decide) (mk_cons (mk_var (i := 3) rfl (.str nm) gnm dr3) (mk_cons (mk_tup (by decide) (mk_cons (mk_str (by decide +kernel)) (mk_cons (mk_str (by decide +kernel)) (mk_cons (mk_str (by decide +kernel)) mk_nil)))) (mk_cons (mk_tup (by decide) (mk_cons (mk_str (by decide +kernel)) (mk_cons (mk_str (by decide +kernel)) (mk_cons (mk_str (by decide +kernel)) mk_nil)))) mk_nil)))) dr3 (Kp.refl d H3) fun H4 v t4 dr4 k4 dv gv hr => ?_
      obtain ⟨_, rfl, _, _, _, rfl, rfl, _, _, rfl, ⟨_, rfl, _, _, _, rfl, rfl, _, _, rfl, rfl, _, _, rfl, rfl, rfl⟩, _, _, rfl, ⟨_, rfl, _, _, _, rfl, rfl, _, _, rfl, rfl, _, _, rfl, rfl, rfl⟩, rfl⟩ := hr
      refine fin H4 v _ dr4 k4 dv gv (.of3 gv ?_) ((Out.vs fun vs e o => ?_).bad lt) (.inl (noL3 noL_str (noL_us ["x", "x1", "1x"]) (noL3 noL_str noL_str noL_str)))
      · rw [← eq_data]; exact .fm (eq_ok nmx nmx) (fr_vars _ (pool := ["x"]) (vars_of (fun x hx => by simpa [Hd.vars, Hd.own, Hd.args] using hx) fun p hp => nomatch hp) (by decide))
      · unfold tS at e
        injection e with e
        have e2 : (["x", "x1", "1x"] : List Str).map PyData.str = vs.map PyData.str := e
        obtain rfl := strs_eq e2
        exact not_nm (z := "1x") (by decide +kernel) (o.2.2.1 _ (by simp))
end
/-! ### many definitions -/
def rN (k : Nat) : Str := "r" ++ (toString ((k : Nat) : Int) : Str)
def mD (m k : Nat) : Dfn := ⟨rN k, ["x"], .mk .dis [relG (rN ((k + 1) % m)) ["x"], .mk (.eq "x" "x") []]⟩
def manyS (m : Nat) : List Dfn := (List.range m).map (mD m)
theorem rN_nm : ∀ k, k < 25 → Nm (rN k) := fun k h => by
  have all : ((List.range 25).all fun k => nmB (rN k)) = true := by decide +kernel
  exact nm_of (List.all_eq_true.mp all k (List.mem_range.mpr h))
theorem rN_nd : ((List.range 25).map rN).Nodup := by decide +kernel
theorem ownX : OwnOk ["x"] := ⟨by decide, by decide, fun x hx => by rw [List.mem_singleton.mp hx]; exact nm_of (by decide +kernel), by decide +kernel⟩
theorem mD_ok {n : Str} (h : Nm n) : (Fm.mk .dis [relG n ["x"], .mk (.eq "x" "x") []]).Ok := or_ok (relG_ok h (by decide) ownX.2.2.1) (eq_ok (ownX.2.2.1 _ (List.mem_singleton.mpr rfl)) (ownX.2.2.1 _ (List.mem_singleton.mpr rfl)))
theorem mD_wf {n : Str} (h : Nm n) : (Fm.mk .dis [relG n ["x"], .mk (.eq "x" "x") []]).Wf := by
  refine ⟨mD_ok h, ?_, ?_, .mk (fun n us as e => by cases e) fun p hp => ?_, fun _ => some 1, .other (fun z => nomatch z) fun p hp => ?_⟩
  · unfold relG
    rw [Fm.dep_mk]
    show 1 + maxN [Fm.dep _, Fm.dep _] ≤ 40
    rw [Fm.dep_mk, Fm.dep_mk]
    decide
  · unfold relG
    rw [Fm.cnt_mk]
    show 1 + sumN [Fm.cnt _, Fm.cnt _] ≤ 2000
    rw [Fm.cnt_mk, Fm.cnt_mk]
    decide
  · rcases two_mem hp with rfl | rfl
    · exact .mk (fun n us as e => by cases e) fun p hp => nomatch hp
    · exact .mk (fun n us as e => by cases e) fun p hp => nomatch hp
  · rcases two_mem hp with rfl | rfl
    · exact .rel rfl
    · exact .other (fun z => nomatch z) fun p hp => nomatch hp
theorem mD_vars {n : Str} : ∀ x, x ∈ (Fm.mk .dis [relG n ["x"], .mk (.eq "x" "x") []]).vars → x ∈ (["x"] : List Str) := vars_of (fun x hx => nomatch hx) fun p hp => by
  rcases two_mem hp with rfl | rfl
  · exact vars_rel fun x hx => hx
  · refine vars_of (fun x hx => ?_) fun p hp => nomatch hp
    have hx : x ∈ (["x", "x"] : List Str) := hx
    rcases List.mem_cons.mp hx with rfl | hx
    · exact List.mem_singleton.mpr rfl
    · exact hx
theorem mD_sym {n : Str} {p : Str × Nat} (h : p ∈ (Fm.mk .dis [relG n ["x"], .mk (.eq "x" "x") []]).syms) : p.2 = 1 := by
  obtain ⟨_, g, hg, hp⟩ := (Fm.syms_mem (h := .dis) (fun z => nomatch z)).mp h
  rcases two_mem hg with rfl | rfl
  · unfold relG at hp
    rw [Fm.syms_rel] at hp
    rw [List.mem_singleton.mp hp]; rfl
  · obtain ⟨_, g, hg, _⟩ := (Fm.syms_mem (h := .eq "x" "x") (fun z => nomatch z)).mp hp
    cases hg
theorem mD_pos {n m : Str} : (Fm.mk .dis [relG n ["x"], .mk (.eq "x" "x") []]).pos m 1 = true := by
  rw [Fm.pos_other (h := .dis) (fun z => nomatch z)]
  split
  · rfl
  · refine List.all_eq_true.mpr fun p hp => ?_
    rcases two_mem hp with rfl | rfl
    · unfold relG
      rw [Fm.pos_rel]
      rfl
    · rw [Fm.pos_other (h := .eq "x" "x") (fun z => nomatch z)]
      split <;> rfl
theorem many_mem {m : Nat} {d : Dfn} (h : d ∈ manyS m) : ∃ k, k < m ∧ d = mD m k := by
  obtain ⟨k, hk, rfl⟩ := List.mem_map.mp h
  exact ⟨k, List.mem_range.mp hk, rfl⟩
theorem many_len (m : Nat) : (manyS m).length = m := by unfold manyS; rw [List.length_map, List.length_range]
theorem mD_fr (m k : Nat) : Fr20 (mD m k).b := fr_vars _ (pool := ["x"]) mD_vars (by decide)
theorem many_sys {m : Nat} (m1 : 1 ≤ m) (m24 : m ≤ 24) : SysOk (manyS m) := by
  have nmk : ∀ k, Nm (rN ((k + 1) % m)) := fun k => rN_nm _ (Nat.lt_of_lt_of_le (Nat.mod_lt _ m1) (by omega))
  refine ⟨by rw [many_len]; exact m1, by rw [many_len]; exact m24, fun d hd => ?_, ?_, ⟨fun _ => some 1, fun d hd => ?_⟩, fun d hd e he => ?_⟩
  · obtain ⟨k, hk, rfl⟩ := many_mem hd
    exact ⟨rN_nm k (by omega), ownX, mD_wf (nmk k), fun x hx => mD_vars x (frees_vars _ x hx)⟩
  · unfold manyS
    rw [List.map_map]
    have e : (Dfn.nm ∘ mD m) = rN := rfl
    rw [e]
    have s : (List.range m).Sublist (List.range 25) := List.range_sublist.mpr (by omega)
    exact (s.map rN).nodup rN_nd
  · obtain ⟨k, hk, rfl⟩ := many_mem hd
    exact ⟨rfl, fun p hp => by rw [mD_sym hp]⟩
  · obtain ⟨k, hk, rfl⟩ := many_mem hd
    exact mD_pos
theorem mD_gd {m k : Nat} (hk : k < 25) (m1 : 1 ≤ m) (m25 : m ≤ 25) : Gd (mD m k).data := .tup (by show 3 ≤ 100000; decide) fun t ht => by
  have c : t = .str (rN k) ∨ t = tS ["x"] ∨ t = (mD m k).b.data := by simpa [Dfn.data, mD] using ht
  rcases c with rfl | rfl | rfl
  · exact .str (rN_nm k hk).short
  · exact Gd.tS ownX.2.2.1 (by decide)
  · exact gd_fm _ (mD_ok (rN_nm _ (Nat.lt_of_lt_of_le (Nat.mod_lt _ m1) m25)))
theorem mD_raw {m k : Nat} (hk : k < 25) (m1 : 1 ≤ m) (m25 : m ≤ 25) : RawD (mD m k).data := .of3 (mD_gd hk m1 m25) (.fm (mD_ok (rN_nm _ (Nat.lt_of_lt_of_le (Nat.mod_lt _ m1) m25))) (mD_fr m k))
section
variable {K : PySem.W.Frag} {d l : Addr} {H0 : Hp} {σ : L2.St}
abbrev rStr7 : List V → Hp → VK → Prop := fun xs H Q => ∃ i : Int, xs = [.int i] ∧ i.natAbs.log2 < 1920 ∧ Q (.str (toString i)) H
abbrev rAdd7 : R2 := fun x y H Q => ∃ i j : Str, x = .str i ∧ y = .str j ∧ i.length + j.length ≤ sizeLine ∧ Q (.str (i ++ j)) H
theorem log25 : ∀ j, j < 25 → ((j : Nat) : Int).natAbs.log2 < 1920 := by decide
theorem len25 : ∀ j, j < 25 → ("r" : Str).length + ((toString ((j : Nat) : Int) : Str)).length ≤ 12 := by decide +kernel
theorem mk_rstr {ti : TE} {j : Nat} {z : Int} (hi : MkI d l H0 σ ti z) (hz : z = (j : Nat)) (hj : j < 25) : MkE K d l H0 σ (tOp rAdd7 (tC (.str "r")) (tCB rStr7 (tCons ti tNil))) (Is (.str (rN j))) := fun H dr kp Q q =>
  hi H dr kp _ fun H1 dr1 k1 => by
    subst hz
    exact ⟨_, rfl, log25 j hj, _, _, rfl, rfl, Nat.le_trans (len25 j hj) (by decide), q H1 _ _ dr1 k1 (.str _) (.str (rN_nm j hj).short) rfl⟩
theorem mi_mod {ta tb : TE} {x y : Int} (ha : MkI d l H0 σ ta x) (hb : MkI d l H0 σ tb y) (hy : 0 < y) : MkI d l H0 σ (tOp rMod7 ta tb) (x % y) := fun H dr kp Q q =>
  ha H dr kp _ fun H1 dr1 k1 => hb H1 dr1 (kp.trans k1) _ fun H2 dr2 k2 => ⟨x, y, rfl, rfl, hy, q H2 dr2 (k1.trans k2)⟩
theorem mk_plus {i : Nat} {c0 c : Int} {E : XK} (hd : σ[i]? = some (some (.ref d))) (hc : 0 < c) : MkE K d l H0 σ (tOp (rI0 fun i j => .int (i + j)) (tC (.int c0)) (tOp rMod7 (tCall spDraw [] E (tCons (tVar i) tNil)) (tC (.int c)))) (fun t => ∃ z : Int, t = .int (c0 + z) ∧ 0 ≤ z ∧ z < c) := fun H dr kp Q q =>
  mz_draw hd mi_c hc H dr kp _ fun H' z dr' k' z0 z1 => ⟨c0, z, rfl, rfl, q H' _ (.int (c0 + z)) dr' k' (.int _) .int ⟨z, rfl, z0, z1⟩⟩
end
theorem mD_noLs (m : Nat) (ks : List Nat) : noLs ((ks.map (mD m)).map Dfn.data) = true := dfns_noL _
def spMany (K : PySem.W.Frag) : Sp := fun us H Q _ => ∃ (d l : Addr), us = [.ref d] ∧ DrA H d l ∧ ∀ (H' : Hp) (r : Addr) (xs : List V) (m : Nat), 23 ≤ m → m ≤ 25 → DrA H' d l → Kp d H H' → H' r = some (.lst xs) → DpAll K H' xs ((manyS m).map Dfn.data) → Q (.ref r) H'
section
variable {P : Program} {w : World} {K : PySem.W.Frag} {mg : Str → Option Value} {base : Heap}
theorem sc_many : FnScope ["draws", "many", "k"] ["draws"] (defScope (top 138)) := ⟨rfl, rfl, rfl, by decide +kernel, rfl, by decide +kernel, by decide +kernel⟩
theorem has_many (D : Def K mg "_law_many" ["draws"] (top 138)) (T : Txt mg) (C1 : Has P w K mg base 2 "_law_draw" ["draws"] spDraw) : Has P w K mg base 3 "_law_many" ["draws"] (spMany K) := D.has fun f fd F => by
  obtain ⟨f1, fd1, G_law_draw, g_law_draw, k_law_draw, b_law_draw⟩ := C1
  refine F.ok sc_many (fun vs H Q E h => ?_) (fun cdv A outer s H vs Q E hr h => ?_)
  · obtain ⟨d, l, rfl, _⟩ := h; rfl
  · obtain ⟨d, l, rfl, dr, q⟩ := h
    have R_law_draw : Room 2 _ := hr
    refine ⟨_, PSs.nox (pss_cons (ps_set (i := 1) sc_many.nd rfl (Or.inr rfl) (pe_op op_add pe_int (pe_op op_mod (pe_call G_law_draw R_law_draw (by rfl) g_law_draw k_law_draw b_law_draw .nil pass0 (pa_cons (pv 0) pa_nil)) pe_int))) (pss_one (ps_ret (pe_lc (own := [("k", 2)]) rfl sc_many.nd (pi_range1 (by rfl) T.n_range (pa_cons (pv 1) pa_nil)) (blkOk_by (N := ["draws", "many", "k"]) (sc := defScope (top 138)) (by decide +kernel)) (fun _ _ _ _ _ => (pg_name (i := 2) sc_many.nd rfl (Or.inl rfl))) (fun _ _ _ _ _ => pts_nil) (fun _ _ _ _ _ => (pe_tup (pa_cons (pe_op op_add_str pe_str (pe_callTy call_str_int (by rfl) T.n_str (by decide +kernel) (pa_cons (pv 2) pa_nil))) (pa_cons (pe_tup (pa_cons pe_str pa_nil)) (pa_cons (pe_tup (pa_cons pe_str (pa_cons (pe_tup (pa_cons (pe_tup (pa_cons pe_str (pa_cons (pe_op op_add_str pe_str (pe_callTy call_str_int (by rfl) T.n_str (by decide +kernel) (pa_cons (pe_op op_mod (pe_op op_add (pv 2) pe_int) (pv 1)) pa_nil))) (pa_cons (pe_tup (pa_cons pe_str pa_nil)) pa_nil)))) (pa_cons (pe_tup (pa_cons pe_str (pa_cons pe_str (pa_cons pe_str pa_nil)))) pa_nil))) pa_nil))) pa_nil))))))))), ?_⟩
    refine mk_seq (K := K) (H0 := H) (mk_plus (i := 0) (c0 := 23) (c := 3) rfl (by decide)) dr (Kp.refl d H) fun H1 vm tm dr1 k1 dm gm rm => ?_
    obtain ⟨z, rfl, z0, z1⟩ := rm
    cases dm
    obtain ⟨m, em, m1, m2⟩ : ∃ m : Nat, 23 + z = (m : Int) ∧ 23 ≤ m ∧ m ≤ 25 := ⟨(23 + z).toNat, by omega, by omega, by omega⟩
    rw [em]
    refine ⟨_, rfl, m, rfl, by omega, by omega, fun G nG => ?_⟩
    obtain ⟨nGd, nGl⟩ := dr1.ne nG
    refine lc_it walk_range (fun i H2 => ∃ xs : List V, H2 G = some (.lst xs) ∧ DpAll K H2 xs (((List.range i).map (mD m)).map Dfn.data) ∧ DrA H2 d l ∧ Kp d H1 H2) ⟨[], upd_same, .nil, dr1.same (same_upd nG), .of (same_upd nG)⟩ (fun _ _ _ _ => trivial) ?_ ?_
    · rintro i y H2 H3 hi ⟨xs, hG, hx, dr2, k2⟩ ⟨rfl, rfl⟩
      refine ⟨rfl, ?_⟩
      dsimp only [tYes]
      rw [if_pos rfl]
      have hi : i < m := by omega
      have i25 : i < 25 := by omega
      have j25 : (i + 1) % m < 25 := Nat.lt_of_lt_of_le (Nat.mod_lt _ (by omega)) m2
      have vk : ∀ {ta : TA}, True := trivial
      have mi : MkI d l H3 [some (.ref d), some (.int (m : Nat)), some (.int (0 + (i : Int)))] (tVar 2) (i : Nat) := by
        have := mi_var (d := d) (l := l) (H0 := H3) (σ := [some (.ref d), some (.int (m : Nat)), some (.int (0 + (i : Int)))]) (i := 2) (z := 0 + (i : Int)) rfl
        rw [Int.zero_add] at this ⊢
        exact this
      refine MkE.go (K := K) (H0 := H3) (σ := [some (.ref d), some (.int (m : Nat)), some (.int (0 + (i : Int)))]) (mk_tup (by decide) (mk_cons (mk_rstr (j := i) mi rfl i25) (mk_cons (mk_tup (by decide) (mk_cons (mk_str (by decide +kernel)) mk_nil)) (mk_cons (mk_tup (by decide) (mk_cons (mk_str (by decide +kernel)) (mk_cons (mk_tup (by decide) (mk_cons (mk_tup (by decide) (mk_cons (mk_str (by decide +kernel)) (mk_cons (mk_rstr (j := (i + 1) % m) (mi_mod (mi_op (g := fun i j => i + j) mi mi_c) (mi_var (i := 1) rfl) (by omega)) rfl j25) (mk_cons (mk_tup (by decide) (mk_cons (mk_str (by decide +kernel)) mk_nil)) mk_nil)))) (mk_cons (mk_tup (by decide) (mk_cons (mk_str (by decide +kernel)) (mk_cons (mk_str (by decide +kernel)) (mk_cons (mk_str (by decide +kernel)) mk_nil)))) mk_nil))) mk_nil))) mk_nil)))) dr2 (Kp.refl d H3) fun H4 v t dr4 k4 dv gv r => ?_
      obtain ⟨_, rfl, _, _, _, rfl, rfl, _, _, rfl, ⟨_, rfl, _, _, _, rfl, rfl, rfl⟩, _, _, rfl, ⟨_, rfl, _, _, _, rfl, rfl, _, _, rfl, ⟨_, rfl, _, _, _, rfl, ⟨_, rfl, _, _, _, rfl, rfl, _, _, rfl, rfl, _, _, rfl, ⟨_, rfl, _, _, _, rfl, rfl, rfl⟩, rfl⟩, _, _, rfl, ⟨_, rfl, _, _, _, rfl, rfl, _, _, rfl, rfl, _, _, rfl, rfl, rfl⟩, rfl⟩, rfl⟩, rfl⟩ := r
      have ed : Dp K H4 v (mD m i).data := by
        unfold Dfn.data mD
        show Dp K H4 v (.tuple [_, _, (Fm.mk .dis [relG (rN ((i + 1) % m)) ["x"], .mk (.eq "x" "x") []]).data])
        rw [or_data, rel_data, eq_data]
        exact dv
      have hx4 := DpAll.kl (.dr k4 dr2) hx (mD_noLs _ _)
      have hG4 := k4 _ _ hG nGd
      have lx := DpAll.length hx
      rw [List.length_map, List.length_map, List.length_range] at lx
      refine ⟨_, hG4, Nat.lt_of_le_of_lt (show xs.length ≤ 25 by omega) (by decide), _, upd_same, ?_, dr4.kp Kp.upd ⟨nGd, nGl⟩, kp_own (k2.trans k4) nG⟩
      rw [List.range_succ, List.map_append, List.map_append]
      exact DpAll.kl (Kl.upd hG4) (DpAll.snoc hx4 ed) (by rw [← List.map_append]; exact dfns_noL _)
    · rintro H2 ⟨xs, hG, hx, dr2, k2⟩
      have et : ((m : Int)).toNat = m := Int.toNat_natCast m
      exact q H2 G xs m m1 m2 dr2 (k1.trans k2) hG (by have z := hx; rw [et] at z; exact z)
end
theorem own_names {h : Hd} {n : Nat} (k : h.Ok n) : Names h.own := by
  cases h with
  | ex vs => exact k.1.2.2.1
  | al vs => exact k.1.2.2.1
  | lfp m vs as => exact k.2.1.2.2.1
  | pfp m vs as => exact k.2.1.2.2.1
  | tc vs as => exact k.2.1
  | _ => exact fun v hv => nomatch hv
theorem args_names {h : Hd} {n : Nat} (k : h.Ok n) : Names h.args := by
  cases h with
  | rel m as => exact k.2.2.1
  | eq x y =>
    intro v hv
    rcases List.mem_cons.mp hv with rfl | hv
    · exact k.1
    · rw [List.mem_singleton.mp hv]; exact k.2.1
  | less x y =>
    intro v hv
    rcases List.mem_cons.mp hv with rfl | hv
    · exact k.1
    · rw [List.mem_singleton.mp hv]; exact k.2.1
  | lfp m vs as => exact k.2.2.2.1
  | pfp m vs as => exact k.2.2.2.1
  | tc vs as => exact k.2.2.2.2.1
  | _ => exact fun v hv => nomatch hv
/-! ### data that == may be asked of -/
theorem both_lt : ∀ c, c ∈ both.cps.toList → c < 1114112 := by decide +kernel
theorem nm_lay {z : Str} (h : Nm z) : PyData.canLay0 (.str z) = true := by
  have e : z.cps.all (fun c => decide (c < 1114112)) = true := by
    rw [← Array.all_toList, List.all_eq_true]
    exact fun c hc => decide_eq_true (both_lt c (h.all_ c hc))
  unfold PyData.canLay0
  exact e
theorem layAll : ∀ {ts : List PyData}, (∀ t, t ∈ ts → PyData.canLay0 t = true) → PyData.canLayAll0 ts = true
  | [], _ => by unfold PyData.canLayAll0; rfl
  | t :: ts, h => by
    unfold PyData.canLayAll0
    rw [h t (List.mem_cons_self ..), layAll fun u hu => h u (List.mem_cons_of_mem _ hu)]
    rfl
theorem lay_tup {ts : List PyData} (h : ∀ t, t ∈ ts → PyData.canLay0 t = true) : PyData.canLay0 (.tuple ts) = true := by
  unfold PyData.canLay0
  exact layAll h
theorem lay_tS {as : List Str} (h : Names as) : PyData.canLay0 (tS as) = true := lay_tup fun t ht => by
  obtain ⟨z, hz, rfl⟩ := List.mem_map.mp ht
  exact nm_lay (h z hz)
theorem lay_int (i : Int) : PyData.canLay0 (.int i) = true := by unfold PyData.canLay0; rfl
theorem depAll {n : Nat} : ∀ {ts : List PyData}, (∀ t, t ∈ ts → PyData.depth t ≤ n) → PyData.depthAll ts ≤ n
  | [], _ => by unfold PyData.depthAll; exact Nat.zero_le _
  | t :: ts, h => by
    unfold PyData.depthAll
    exact Nat.max_le.mpr ⟨h t (List.mem_cons_self ..), depAll fun u hu => h u (List.mem_cons_of_mem _ hu)⟩
theorem dep_tup {n : Nat} {ts : List PyData} (h : ∀ t, t ∈ ts → PyData.depth t ≤ n) : PyData.depth (.tuple ts) ≤ n + 1 := by
  unfold PyData.depth
  exact Nat.succ_le_succ (depAll h)
theorem dep_str (z : Str) : PyData.depth (.str z) = 0 := by unfold PyData.depth; rfl
theorem dep_int (z : Int) : PyData.depth (.int z) = 0 := by unfold PyData.depth; rfl
theorem dep_tS (as : List Str) : PyData.depth (tS as) ≤ 1 := dep_tup fun t ht => by
  obtain ⟨z, hz, rfl⟩ := List.mem_map.mp ht
  exact Nat.le_of_eq (dep_str z)
theorem rest_mem {h : Hd} {ds : List PyData} {t : PyData} (m : t ∈ h.rest ds) : t ∈ ds ∨ t = .tuple ds ∨ (∃ z, t = .str z) ∨ (∃ i, t = .int i) ∨ (∃ as, t = tS as ∧ (as = h.own ∨ as = h.args)) := by
  cases h with
  | rel n as =>
    simp only [Hd.rest, List.mem_cons, List.not_mem_nil, or_false] at m
    rcases m with rfl | rfl
    · exact .inr (.inr (.inl ⟨_, rfl⟩))
    · exact .inr (.inr (.inr (.inr ⟨as, rfl, .inr rfl⟩)))
  | eq x y => simp only [Hd.rest, List.mem_cons, List.not_mem_nil, or_false] at m; rcases m with rfl | rfl <;> simp
  | less x y => simp only [Hd.rest, List.mem_cons, List.not_mem_nil, or_false] at m; rcases m with rfl | rfl <;> simp
  | no => exact .inl m
  | con => simp only [Hd.rest, List.mem_cons, List.not_mem_nil, or_false] at m; exact .inr (.inl m)
  | dis => simp only [Hd.rest, List.mem_cons, List.not_mem_nil, or_false] at m; exact .inr (.inl m)
  | ex vs => simp only [Hd.rest, List.mem_cons] at m; rcases m with rfl | m; exact .inr (.inr (.inr (.inr ⟨_, rfl, .inl rfl⟩))); exact .inl m
  | al vs => simp only [Hd.rest, List.mem_cons] at m; rcases m with rfl | m; exact .inr (.inr (.inr (.inr ⟨_, rfl, .inl rfl⟩))); exact .inl m
  | lfp n vs as =>
    simp only [Hd.rest, List.mem_cons, List.mem_append, List.not_mem_nil, or_false] at m
    rcases m with rfl | rfl | m | rfl
    · exact .inr (.inr (.inl ⟨_, rfl⟩))
    · exact .inr (.inr (.inr (.inr ⟨_, rfl, .inl rfl⟩)))
    · exact .inl m
    · exact .inr (.inr (.inr (.inr ⟨_, rfl, .inr rfl⟩)))
  | pfp n vs as =>
    simp only [Hd.rest, List.mem_cons, List.mem_append, List.not_mem_nil, or_false] at m
    rcases m with rfl | rfl | m | rfl
    · exact .inr (.inr (.inl ⟨_, rfl⟩))
    · exact .inr (.inr (.inr (.inr ⟨_, rfl, .inl rfl⟩)))
    · exact .inl m
    · exact .inr (.inr (.inr (.inr ⟨_, rfl, .inr rfl⟩)))
  | tc vs as =>
    simp only [Hd.rest, List.mem_cons, List.mem_append, List.not_mem_nil, or_false] at m
    rcases m with rfl | m | rfl
    · exact .inr (.inr (.inr (.inr ⟨_, rfl, .inl rfl⟩)))
    · exact .inl m
    · exact .inr (.inr (.inr (.inr ⟨_, rfl, .inr rfl⟩)))
  | gs n k =>
    simp only [Hd.rest, List.mem_cons] at m
    rcases m with rfl | rfl | m
    · exact .inr (.inr (.inl ⟨_, rfl⟩))
    · exact .inr (.inr (.inr (.inl ⟨_, rfl⟩)))
    · exact .inl m
theorem rest_str {h : Hd} {n : Nat} {ds : List PyData} (k : h.Ok n) {z : Str} (hd : ∀ t, t ∈ ds → ∃ us, t = .tuple us) (m : PyData.str z ∈ h.rest ds) : Nm z := by
  have no : PyData.str z ∈ ds → False := fun q => by obtain ⟨us, e⟩ := hd _ q; cases e
  cases h with
  | rel x as => simp only [Hd.rest, List.mem_cons, List.not_mem_nil, or_false, tS] at m; rcases m with e | e; cases e; exact k.1; cases e
  | eq x y => simp only [Hd.rest, List.mem_cons, List.not_mem_nil, or_false] at m; rcases m with e | e; cases e; exact k.1; cases e; exact k.2.1
  | less x y => simp only [Hd.rest, List.mem_cons, List.not_mem_nil, or_false] at m; rcases m with e | e; cases e; exact k.1; cases e; exact k.2.1
  | no => exact (no m).elim
  | con => simp only [Hd.rest, List.mem_cons, List.not_mem_nil, or_false] at m; cases m
  | dis => simp only [Hd.rest, List.mem_cons, List.not_mem_nil, or_false] at m; cases m
  | ex vs => simp only [Hd.rest, List.mem_cons, tS] at m; rcases m with e | e; cases e; exact (no e).elim
  | al vs => simp only [Hd.rest, List.mem_cons, tS] at m; rcases m with e | e; cases e; exact (no e).elim
  | lfp x vs as => simp only [Hd.rest, List.mem_cons, List.mem_append, List.not_mem_nil, or_false, tS] at m; rcases m with e | e | e | e; cases e; exact k.1; cases e; exact (no e).elim; cases e
  | pfp x vs as => simp only [Hd.rest, List.mem_cons, List.mem_append, List.not_mem_nil, or_false, tS] at m; rcases m with e | e | e | e; cases e; exact k.1; cases e; exact (no e).elim; cases e
  | tc vs as => simp only [Hd.rest, List.mem_cons, List.mem_append, List.not_mem_nil, or_false, tS] at m; rcases m with e | e | e; cases e; exact (no e).elim; cases e
  | gs x j => simp only [Hd.rest, List.mem_cons] at m; rcases m with e | e | e; cases e; exact k.1; cases e; exact (no e).elim
theorem word_lay : ∀ k : Kd, PyData.canLay0 (.str k.word) = true := by intro k; cases k <;> decide +kernel
theorem data_tup (f : Fm) : ∃ us, f.data = .tuple us := by obtain ⟨h, ps⟩ := f; rw [Fm.data_mk]; exact ⟨_, rfl⟩
theorem lay_fm : ∀ f : Fm, f.Ok → PyData.canLay0 f.data = true ∧ PyData.depth f.data ≤ 2 * f.dep := Fm.ind fun h ps ih ok => by
  rw [Fm.data_mk, Fm.dep_mk]
  have a : ∀ t, t ∈ ps.map Fm.data → PyData.canLay0 t = true := fun t ht => by
    obtain ⟨p, hp, rfl⟩ := List.mem_map.mp ht
    exact (ih p hp (ok.part hp)).1
  have b : ∀ t, t ∈ ps.map Fm.data → PyData.depth t ≤ 2 * maxN (ps.map Fm.dep) := fun t ht => by
    obtain ⟨p, hp, rfl⟩ := List.mem_map.mp ht
    have c := (ih p hp (ok.part hp)).2
    have d := le_maxN (List.mem_map_of_mem (f := Fm.dep) hp)
    omega
  have tu : ∀ t, t ∈ ps.map Fm.data → ∃ us, t = .tuple us := fun t ht => by
    obtain ⟨p, hp, rfl⟩ := List.mem_map.mp ht
    exact data_tup p
  refine ⟨lay_tup fun t ht => ?_, ?_⟩
  · rcases List.mem_cons.mp ht with rfl | ht
    · exact word_lay _
    · rcases rest_mem ht with m | rfl | ⟨z, rfl⟩ | ⟨i, rfl⟩ | ⟨as, rfl, e⟩
      · exact a t m
      · exact lay_tup a
      · exact nm_lay (rest_str ok.hd_ tu ht)
      · exact lay_int i
      · rcases e with rfl | rfl
        · exact lay_tS (own_names ok.hd_)
        · exact lay_tS (args_names ok.hd_)
  · have c := dep_tup (n := 2 * maxN (ps.map Fm.dep) + 1) (ts := .str h.word :: h.rest (ps.map Fm.data)) fun t ht => by
      rcases List.mem_cons.mp ht with rfl | ht
      · rw [dep_str]; omega
      · rcases rest_mem ht with m | rfl | ⟨z, rfl⟩ | ⟨i, rfl⟩ | ⟨as, rfl, e⟩
        · exact Nat.le_succ_of_le (b t m)
        · exact dep_tup b
        · rw [dep_str]; omega
        · rw [dep_int]; omega
        · exact Nat.le_trans (dep_tS as) (by omega)
    show PyData.depth (.tuple (.str h.word :: h.rest (ps.map Fm.data))) ≤ _
    omega
theorem shaped_fm {f : Fm} (ok : f.Ok) (d : f.dep ≤ 30) : SeqAt.shaped f.data = true := by
  obtain ⟨a, b⟩ := lay_fm f ok
  unfold SeqAt.shaped
  rw [a, decide_eq_true (show f.data.depth ≤ 64 by omega)]
  rfl
theorem lay_lst {ts : List PyData} (h : ∀ t, t ∈ ts → PyData.canLay0 t = true) : PyData.canLay0 (.list ts) = true := by
  unfold PyData.canLay0
  exact layAll h
theorem dep_lst {n : Nat} {ts : List PyData} (h : ∀ t, t ∈ ts → PyData.depth t ≤ n) : PyData.depth (.list ts) ≤ n + 1 := by
  unfold PyData.depth
  exact Nat.succ_le_succ (depAll h)
theorem lay_sys {ds : List Dfn} (ok : ∀ d, d ∈ ds → d.Ok) : PyData.canLay0 (.list (ds.map Dfn.data)) = true := lay_lst fun t ht => by
    obtain ⟨d, hd, rfl⟩ := List.mem_map.mp ht
    refine lay_tup fun u hu => ?_
    have c : u = .str d.nm ∨ u = tS d.vs ∨ u = d.b.data := by simpa using hu
    rcases c with rfl | rfl | rfl
    · exact nm_lay (ok d hd).nm
    · exact lay_tS (ok d hd).own.2.2.1
    · exact (lay_fm _ (ok d hd).wf.ok).1
theorem shaped_sys {ds : List Dfn} (ok : ∀ d, d ∈ ds → d.Ok ∧ d.b.dep ≤ 30) : SeqAt.shaped (.list (ds.map Dfn.data)) = true := by
  have a : PyData.canLay0 (.list (ds.map Dfn.data)) = true := lay_lst fun t ht => by
    obtain ⟨d, hd, rfl⟩ := List.mem_map.mp ht
    refine lay_tup fun u hu => ?_
    have c : u = .str d.nm ∨ u = tS d.vs ∨ u = d.b.data := by simpa using hu
    rcases c with rfl | rfl | rfl
    · exact nm_lay (ok d hd).1.nm
    · exact lay_tS (ok d hd).1.own.2.2.1
    · exact (lay_fm _ (ok d hd).1.wf.ok).1
  have b : PyData.depth (.list (ds.map Dfn.data)) ≤ 61 + 1 + 1 - 1 + 1 := dep_lst fun t ht => by
    obtain ⟨d, hd, rfl⟩ := List.mem_map.mp ht
    refine dep_tup fun u hu => ?_
    have c : u = .str d.nm ∨ u = tS d.vs ∨ u = d.b.data := by simpa using hu
    rcases c with rfl | rfl | rfl
    · rw [dep_str]; omega
    · exact Nat.le_trans (dep_tS _) (by omega)
    · have := (lay_fm _ (ok d hd).1.wf.ok).2
      have := (ok d hd).2
      omega
  unfold SeqAt.shaped
  rw [a, decide_eq_true (show (PyData.list (ds.map Dfn.data)).depth ≤ 64 by omega)]
  rfl
theorem strb_self (z : Str) : (z == z) = true := beq_self_eq_true z
/-! ### the law of k25 -/
def spLaw (K : PySem.W.Frag) : Sp := fun vs H Q _ => ∃ (a : Addr) (ns : List Int), vs = [.ref a] ∧ SqL K H a (ns.map V.int) ∧ ns.length ≤ 63 ∧ ∀ H' : Hp, Q (.bl true) H'
section
variable {K : PySem.W.Frag} {d l : Addr} {H0 : Hp} {σ : L2.St}
/-- item of a list -/
theorem mk_ixLD {k j : Nat} {z : Int} {a : Addr} {xs : List V} {ts : List PyData} {t : PyData} (hk : σ[k]? = some (some (.ref a))) (ha : H0 a = some (.lst xs)) (had : a ≠ d) (hx : DpAll K H0 xs ts) (nl : noLs ts = true) (r0 : DrA H0 d l) (gd : Gd t) (hz : z = (j : Nat)) (ht : ts[j]? = some t) :
    MkE K d l H0 σ (tOp (rIxL K) (tVar k) (tC (.int z))) (Is t) := fun H dr kp Q q => by
  have hx' := DpAll.kl (.dr kp r0) hx nl
  have lt : j < xs.length := by rw [DpAll.length hx]; exact (List.getElem?_eq_some_iff.mp ht).1
  have hv : xs[j]? = some xs[j] := List.getElem?_eq_getElem lt
  obtain ⟨t', ht', dt⟩ := DpAll.get' hx' hv
  rw [ht] at ht'
  obtain rfl := Option.some.inj ht'
  exact ⟨_, hk, a, xs, z, xs[j], rfl, rfl, SqL.of (kp _ _ ha had), by rw [hz]; exact atI_nat (j := j) hv, q H _ t dr (Kp.refl d H) dt gd rfl⟩
/-- tuple(xs) -/
abbrev rTup7 (K : PySem.W.Frag) : List V → Hp → VK → Prop := fun xs H Q => ∃ p ys, xs = [.ref p] ∧ ((SqL K H p ys ∧ ∀ l, H l = none → Q (.ref l) (upd H l (.tup ys))) ∨ (SqT K H p ys ∧ Q (.ref p) H))
theorem mk_tupof {k : Nat} {a : Addr} {xs : List V} {ts : List PyData} (hk : σ[k]? = some (some (.ref a))) (ha : H0 a = some (.lst xs)) (had : a ≠ d) (hx : DpAll K H0 xs ts) (nl : noLs ts = true) (r0 : DrA H0 d l) (gd : Gd (.tuple ts)) :
    MkE K d l H0 σ (tCB (rTup7 K) (tCons (tVar k) tNil)) (Is (.tuple ts)) := fun H dr kp Q q =>
  ⟨_, hk, a, xs, rfl, .inl ⟨SqL.of (kp _ _ ha had), fun p np => by
    have sp := same_upd (o := .tup xs) np
    exact q _ (.ref p) _ (dr.same sp) (.of sp) (.tup (SqT.of upd_same) (DpAll.same sp (DpAll.kl (.dr kp r0) hx nl))) gd rfl⟩⟩
/-- xs + [..] -/
theorem mk_catL {k n : Nat} {a : Addr} {xs : List V} {ts : List PyData} {ta : TA} {R : List PyData → Prop} (hk : σ[k]? = some (some (.ref a))) (ha : H0 a = some (.lst xs)) (had : a ≠ d) (hx : DpAll K H0 xs ts) (nl : noLs ts = true) (r0 : DrA H0 d l) (gs : ∀ t, t ∈ ts → Gd t) (lt : ts.length ≤ 1000) (hn : n ≤ 1000) (hi : ∀ us, R us → int1 (ts ++ us) = true) (h : MkA K d l H0 σ ta n R) :
    MkE K d l H0 σ (tOp rCat (tVar k) (tLst ta)) (fun t => ∃ us, R us ∧ t = .list (ts ++ us)) := fun H dr kp Q q =>
  ⟨_, hk, h H dr kp _ fun H1 vs us dr1 k1 dvs g len r => ⟨by rw [DpAll.length dvs, len]; exact Nat.le_trans hn (by decide), fun c nc => by
    have sc := same_upd (o := .lst vs) nc
    have lx := DpAll.length hx
    have lv := DpAll.length dvs
    refine ⟨a, c, xs, vs, rfl, rfl, sc _ _ ((kp.trans k1) _ _ ha had), upd_same, Nat.le_trans (show xs.length + vs.length ≤ 2000 by omega) (by decide), fun p np => ?_⟩
    have sp := same_upd (o := .lst (xs ++ vs)) np
    have sall := sc.trans sp
    refine q _ (.ref p) _ (dr1.same sall) (k1.trans (.of sall)) (.lst (SqL.of upd_same) (DpAll.append (DpAll.same sall (DpAll.kl (.dr (kp.trans k1) r0) hx nl)) (DpAll.same sall dvs))) (.lst (by rw [List.length_append]; omega) (hi us r) fun t ht => ?_) ⟨us, r, rfl⟩
    rcases List.mem_append.mp ht with ht | ht
    · exact gs t ht
    · exact g t ht⟩⟩
end
theorem DpAll.set {K : PySem.W.Frag} {H : Hp} {v : V} {t : PyData} (e : Dp K H v t) : ∀ {vs : List V} {ts : List PyData} (j : Nat), DpAll K H vs ts → DpAll K H (vs.set j v) (ts.set j t)
  | _, _, _, .nil => .nil
  | _, _, 0, .cons _ h => .cons e h
  | _, _, j + 1, .cons a h => .cons a (DpAll.set e j h)
theorem mem_set {α : Type} {l : List α} {j : Nat} {a b : α} (h : a ∈ l.set j b) : a ∈ l ∨ a = b := List.mem_or_eq_of_mem_set h
theorem dfn_gd {d : Dfn} (ok : d.Ok) : Gd d.data := .tup (by show 3 ≤ 100000; decide) fun t ht => by
  have c : t = .str d.nm ∨ t = tS d.vs ∨ t = d.b.data := by simpa [Dfn.data] using ht
  have l6 : d.vs.length ≤ 6 := ok.own.2.1
  rcases c with rfl | rfl | rfl
  · exact .str ok.nm.short
  · exact Gd.tS ok.own.2.2.1 (by omega)
  · exact gd_fm _ ok.wf.ok
theorem dfn_raw {d : Dfn} (ok : d.Ok) (fr : Fr20 d.b) : RawD d.data := .of3 (dfn_gd ok) (.fm ok.wf.ok fr)
theorem int1_dfns (ds : List Dfn) (us : List PyData) (h : ∀ t, t ∈ us → ∃ ws, t = .tuple ws) : int1 (ds.map Dfn.data ++ us) = true := int1_tups fun t ht => by
  rcases List.mem_append.mp ht with ht | ht
  · obtain ⟨d, _, rfl⟩ := List.mem_map.mp ht
    exact ⟨_, rfl⟩
  · exact h t ht
section
variable {P : Program} {w : World} {K : PySem.W.Frag} {mg : Str → Option Value} {base : Heap}
theorem sc_law : FnScope ["script", "draws", "system", "handed", "many", "pick", "bad", "at", "which"] ["script"] (defScope (top 139)) := ⟨rfl, rfl, rfl, by decide +kernel, rfl, by decide +kernel, by decide +kernel⟩
theorem ok_law {f : Addr} {fd : FuncData} (F : FnP K "law" (top 139) f fd) (T : Txt mg) (C1 : Has P w K mg base 2 "_law_numbers" ["script"] (spNumbers K)) (C2 : Has P w K mg base 2 "_law_draw" ["draws"] spDraw) (C3 : Has P w K mg base 11 "_law_system" ["draws"] (spSystem K)) (C4 : HasX (L2N.CX P w) P w K mg base 51 "check_system" ["system"] (spSysY K)) (C5 : Has P w K mg base 3 "_law_many" ["draws"] (spMany K)) (C6 : Has P w K mg base 56 "_law_refused" ["which", "system"] (spRefS K)) (C7 : Has P w K mg base 3 "_law_spoilt_one" ["draws", "one", "signs"] (spSpOne K)) : FnOk P w K mg base CX0 57 f fd ["script"] (spLaw K) := by
  obtain ⟨f1, fd1, G_law_numbers, g_law_numbers, k_law_numbers, b_law_numbers⟩ := C1
  obtain ⟨f2, fd2, G_law_draw, g_law_draw, k_law_draw, b_law_draw⟩ := C2
  obtain ⟨f3, fd3, G_law_system, g_law_system, k_law_system, b_law_system⟩ := C3
  obtain ⟨f4, fd4, G_check_system, g_check_system, k_check_system, b_check_system⟩ := C4
  obtain ⟨f5, fd5, G_law_many, g_law_many, k_law_many, b_law_many⟩ := C5
  obtain ⟨f6, fd6, G_law_refused, g_law_refused, k_law_refused, b_law_refused⟩ := C6
  obtain ⟨f7, fd7, G_law_spoilt_one, g_law_spoilt_one, k_law_spoilt_one, b_law_spoilt_one⟩ := C7
  refine F.ok sc_law (fun vs H Q E h => ?_) (fun cdv A outer s H vs Q E hr h => ?_)
  · obtain ⟨a, ns, rfl, _⟩ := h; rfl
  · obtain ⟨a, ns, rfl, hS, hlen, q⟩ := h
    have R_law_numbers : Room 2 _ := hr.mono (by decide)
    have R_law_draw : Room 2 _ := hr.mono (by decide)
    have R_law_system : Room 11 _ := hr.mono (by decide)
    have R_check_system : Room 51 _ := hr.mono (by decide)
    have R_law_many : Room 3 _ := hr.mono (by decide)
    have R_law_refused : Room 56 _ := hr
    have R_law_spoilt_one : Room 3 _ := hr.mono (by decide)
    refine ⟨_, PSs.nox (pss_cons (ps_set (i := 1) sc_law.nd rfl (Or.inl rfl) (pe_lst (pa_cons (pe_call G_law_numbers R_law_numbers (by rfl) g_law_numbers k_law_numbers b_law_numbers .nil pass0 (pa_cons (pv 0) pa_nil)) (pa_cons pe_int pa_nil)))) (pss_cons (ps_set (i := 2) sc_law.nd rfl (Or.inl rfl) (pe_call G_law_system R_law_system (by rfl) g_law_system k_law_system b_law_system .nil pass0 (pa_cons (pv 1) pa_nil))) (pss_cons (ps_set (i := 3) sc_law.nd rfl (Or.inl rfl) (pe_callTy call_list_of (by rfl) T.n_list (by decide +kernel) (pa_cons (pv 2) pa_nil))) (pss_cons (ps_if (PW.pt (pw_or (pt_cmpR op_notN (pe_call G_check_system R_check_system (by rfl) g_check_system k_check_system b_check_system .nil passN (pa_cons (pv 3) pa_nil)) pe_non (nomark _)) (pw_or1 (pt_cmpR (op_neD hr.units) (pv 3) (pv 2) (nomark _))))) (pss_one (ps_ret pe_bl)) pss_nil) (pss_cons (ps_if (pt_cmpR op_eq (pe_op op_mod (pe_call G_law_draw R_law_draw (by rfl) g_law_draw k_law_draw b_law_draw .nil pass0 (pa_cons (pv 1) pa_nil)) pe_int) pe_int (nomark _)) (pss_cons (ps_set (i := 4) sc_law.nd rfl (Or.inl rfl) (pe_call G_law_many R_law_many (by rfl) g_law_many k_law_many b_law_many .nil pass0 (pa_cons (pv 1) pa_nil))) (pss_one (ps_ret (pe_cmpR op_eq (pe_call G_law_refused R_law_refused (by rfl) g_law_refused k_law_refused b_law_refused .nil pass0 (pa_cons pe_int (pa_cons (pv 4) pa_nil))) (pe_cmpR op_gt (pe_callB call_len_seq (by rfl) T.n_len PySem.boot_len (pa_cons (pv 4) pa_nil)) pe_int (nomark _)) (nomark _))))) pss_nil) (pss_cons (ps_set (i := 5) sc_law.nd rfl (Or.inl rfl) (pe_op op_mod (pe_call G_law_draw R_law_draw (by rfl) g_law_draw k_law_draw b_law_draw .nil pass0 (pa_cons (pv 1) pa_nil)) pe_int)) (pss_cons (ps_set (i := 6) sc_law.nd rfl (Or.inl rfl) (pe_callTy call_list_of (by rfl) T.n_list (by decide +kernel) (pa_cons (pv 2) pa_nil))) (Evl.pss_cut (ps_if (pt_cmpR op_eq (pv 5) pe_int (nomark _)) (pss_one (ps_set (i := 6) sc_law.nd rfl (Or.inl rfl) (pe_ix ix_list (pe_lst (pa_cons (pe_lst pa_nil) (pa_cons (pe_callTy call_tuple_of (by rfl) T.n_tuple (by decide +kernel) (pa_cons (pv 2) pa_nil)) (pa_cons pe_non (pa_cons (pe_op op_cat (pv 2) (pe_lst (pa_cons (pe_tup (pa_cons (pe_ix ix_tup (pe_ix ix_list (pv 2) pe_int (fun _ _ => rfl)) pe_int (fun _ _ => rfl)) (pa_cons (pe_tup (pa_cons pe_str pa_nil)) (pa_cons (pe_tup (pa_cons pe_str (pa_cons pe_str (pa_cons pe_str pa_nil)))) pa_nil)))) pa_nil))) pa_nil))))) (pe_op op_mod (pe_call G_law_draw R_law_draw (by rfl) g_law_draw k_law_draw b_law_draw .nil pass0 (pa_cons (pv 1) pa_nil)) pe_int) (fun _ _ => rfl)))) (pss_one (ps_if (pt_cmpR op_eq (pv 5) pe_int (nomark _)) (pss_cons (ps_asg (pe_tup (pa_cons (pe_ix ix_tup (pe_ix ix_list (pv 6) pe_int (fun _ _ => rfl)) pe_int (fun _ _ => rfl)) (pa_cons (pe_ix ix_tup (pe_ix ix_list (pv 6) pe_int (fun _ _ => rfl)) pe_int (fun _ _ => rfl)) (pa_cons (pe_tup (pa_cons pe_str (pa_cons (pe_tup (pa_cons (pe_ix ix_tup (pe_ix ix_list (pv 6) pe_int (fun _ _ => rfl)) pe_int (fun _ _ => rfl)) (pa_cons (pe_tup (pa_cons pe_str (pa_cons pe_str (pa_cons (pe_slice sl_tupA (pe_ix ix_tup (pe_ix ix_list (pv 6) pe_int (fun _ _ => rfl)) pe_int (fun _ _ => rfl)) po_none (po_some pe_int)) pa_nil)))) pa_nil))) pa_nil))) pa_nil)))) (pg_sub (pv 6) pe_int set_list)) (pss_one (ps_expr (pe_bm PySem.F.plainAttrs_list PySem.F.slot_list_append PySem.F.type_list_append mt_append (pv 6) (pa_cons (pe_tup (pa_cons pe_str (pa_cons (pe_tup (pa_cons pe_str pa_nil)) (pa_cons (pe_tup (pa_cons pe_str (pa_cons pe_str (pa_cons (pe_tup pa_nil) pa_nil)))) pa_nil)))) pa_nil))))) (pss_cons (ps_set (i := 7) sc_law.nd rfl (Or.inl rfl) (pe_op op_mod (pe_call G_law_draw R_law_draw (by rfl) g_law_draw k_law_draw b_law_draw .nil pass0 (pa_cons (pv 1) pa_nil)) (pe_callB call_len_seq (by rfl) T.n_len PySem.boot_len (pa_cons (pv 2) pa_nil)))) (pss_one (ps_asg (pe_call G_law_spoilt_one R_law_spoilt_one (by rfl) g_law_spoilt_one k_law_spoilt_one b_law_spoilt_one .nil pass0 (pa_cons (pv 1) (pa_cons (pe_ix ix_list (pv 2) (pv 7) (fun _ _ => rfl)) (pa_cons (pv 2) pa_nil)))) (pg_sub (pv 6) (pv 7) set_list))))))) (pss_cons (ps_for PassesOwn.never rfl (pi_range1 (by rfl) T.n_range (pa_cons pe_int pa_nil)) (pg_name (i := 8) sc_law.nd rfl (Or.inl rfl)) (pss_one (ps_if (pt_not (pt_truth (pe_call G_law_refused R_law_refused (by rfl) g_law_refused k_law_refused b_law_refused .nil pass0 (pa_cons (pv 8) (pa_cons (pv 6) pa_nil))) (by intro _; rfl))) (pss_one (ps_ret pe_bl)) pss_nil))) (pss_one (ps_ret pe_bl))))))))))), ?_⟩
    refine ⟨_, rfl, a, ns, rfl, hS, hlen, fun H1 p ms s1 np hp sm => ⟨(by show 2 ≤ sizeLine; decide), fun d nd => ?_⟩⟩
    have dr0 : DrA (upd H1 d (.lst [.ref p, .int 0])) d p := ⟨0, ms, upd_same, by rw [upd_ne (ne_of_none hp nd)]; exact hp, sm⟩
    revert dr0
    generalize upd H1 d (.lst [.ref p, .int 0]) = H2
    intro dr0
    -- the system
    refine ⟨_, rfl, d, p, rfl, dr0, fun H3 r xs ds dr3 k3 hr3 nrd hx ls => ?_⟩
    refine ⟨_, rfl, r, xs, rfl, .inl (SqL.of hr3), fun h nh => ?_⟩
    have s4 := same_upd (o := .lst xs) nh
    have hh3 : (upd H3 h (.lst xs)) h = some (.lst xs) := upd_same
    -- is right
    refine ⟨_, rfl, h, xs, ds, rfl, SqL.of upd_same, DpAll.same s4 hx, ls.sys, ls.fr, fun H4 s5 => ?_⟩
    have s45 := s4.trans s5
    have hr4 := s45 _ _ hr3
    have hh4 := s5 _ _ hh3
    have hx4 := DpAll.same s45 hx
    have dr4 := dr3.same s45
    have okd : ∀ e, e ∈ ds → e.Ok := ls.sys.ok
    have dep30 : ∀ e, e ∈ ds → e.Ok ∧ e.b.dep ≤ 30 := fun e he => by
      obtain ⟨as, ars, mkg, las⟩ := ls.made
      obtain ⟨i, hi⟩ := List.getElem?_of_mem he
      have := (mkg.n i e hi).2.2.2.g.dep
      exact ⟨okd e he, by omega⟩
    have sh := shaped_sys dep30
    refine ⟨rfl, _, rfl, cF (k := !decide (V.non = V.non)) rfl ?_⟩
    refine ⟨_, rfl, _, rfl, _, _, .lst (SqL.of hh4) hx4, .lst (SqL.of hr4) hx4, sh, sh, _, rfl, cF (k := !PyData.eqv (.list (ds.map Dfn.data)) (.list (ds.map Dfn.data))) (by rw [PySem.SeqAt.eqv_refl _ (lay_sys okd)]; rfl) ?_⟩
    refine mk_ifsB (mb_drawE (i := 1) rfl (by decide)) dr4 (Kp.refl d H4) (fun H5 dr5 k5 => ?_) (fun H5 dr5 k5 => ?_)
    · -- many definitions
      refine ⟨_, rfl, d, p, rfl, dr5, fun H6 b ys m m1 m2 dr6 k6 hb hy => ?_⟩
      have ly : ys.length = m := by rw [DpAll.length hy, List.length_map, many_len]
      by_cases m24 : m ≤ 24
      · refine ⟨_, rfl, .inl ⟨b, ys, manyS m, rfl, SqL.of hb, hy, many_sys (by omega) m24, fun e he => ?_, fun H7 s7 => ?_⟩⟩
        · obtain ⟨k, hk, rfl⟩ := many_mem he
          exact mD_fr m k
        · refine ⟨_, rfl, b, ys, rfl, .inl (SqL.of (s7 _ _ hb)), _, _, rfl, rfl, rfl, ?_⟩
          have e : decide (V.bl false = V.bl (decide ((24 : Int) < (ys.length : Nat)))) = true := by rw [decide_eq_false (show ¬ (24 : Int) < (ys.length : Nat) by omega)]; rfl
          show Q (.bl (decide (V.bl false = V.bl (decide ((24 : Int) < (ys.length : Nat)))))) H7
          rw [e]
          exact q H7
      · refine ⟨_, rfl, .inr ⟨0, .ref b, .list ((manyS m).map Dfn.data), rfl, by decide, .lst (SqL.of hb) hy, ⟨?_, fun ts e t ht => ?_⟩, fun es ok e => ?_, fun H7 s7 => ?_⟩⟩
        · refine .lst (by rw [List.length_map, many_len]; omega) fun t ht => ?_
          obtain ⟨e, he, rfl⟩ := List.mem_map.mp ht
          obtain ⟨k, hk, rfl⟩ := many_mem he
          exact (mD_gd (by omega) (by omega) m2).o
        · injection e with e
          rw [← e] at ht
          obtain ⟨e, he, rfl⟩ := List.mem_map.mp ht
          obtain ⟨k, hk, rfl⟩ := many_mem he
          exact mD_raw (by omega) (by omega) m2
        · unfold sysD at e
          injection e with e
          have e := congrArg List.length e
          rw [List.length_map, List.length_map, many_len] at e
          have := ok.hi
          omega
        · refine ⟨_, rfl, b, ys, rfl, .inl (SqL.of (s7 _ _ hb)), _, _, rfl, rfl, rfl, ?_⟩
          have e : decide (V.bl true = V.bl (decide ((24 : Int) < (ys.length : Nat)))) = true := by rw [decide_eq_true (show (24 : Int) < (ys.length : Nat) by omega)]; rfl
          show Q (.bl (decide (V.bl true = V.bl (decide ((24 : Int) < (ys.length : Nat)))))) H7
          rw [e]
          exact q H7
    · dsimp only [tNext]
      refine mk_seqZ (i := 1) (k := 5) (H0 := H5) rfl mi_c (by decide) dr5 (Kp.refl d H5) fun H6 z dr6 k6 _ _ => ?_
      have k46 := k5.trans k6
      have hr6 := k46 _ _ hr4 nrd
      have hx6 : DpAll K H6 xs (ds.map Dfn.data) := DpAll.kl (.dr k46 dr4) hx4 (dfns_noL _)
      refine ⟨_, rfl, r, xs, rfl, .inl (SqL.of hr6), fun b nb => ?_⟩
      have s7 := same_upd (o := .lst xs) nb
      obtain ⟨nbd, nbl⟩ := dr6.ne nb
      have dr7 := dr6.same s7
      have hb7 : (upd H6 b (.lst xs)) b = some (.lst xs) := upd_same
      have hr7 := s7 _ _ hr6
      have hx7 := DpAll.same s7 hx6
      dsimp only [gName]
      show Evl.tCut _ _ _ [some (.ref a), some (.ref d), some (.ref r), some (.ref h), none, some (.int z), some (.ref b), none, none] _
      revert s7 dr7 hb7 hr7 hx7
      generalize upd H6 b (.lst xs) = H7
      intro s7 dr7 hb7 hr7 hx7
      have lds : 1 ≤ ds.length := ls.sys.lo
      have l24 : ds.length ≤ 24 := ls.sys.hi
      have lx : xs.length = ds.length := by rw [DpAll.length hx, List.length_map]
      have gds : ∀ t, t ∈ ds.map Dfn.data → Gd t := fun t ht => by
        obtain ⟨e, he, rfl⟩ := List.mem_map.mp ht
        exact dfn_gd (okd e he)
      have rds : ∀ t, t ∈ ds.map Dfn.data → RawD t := fun t ht => by
        obtain ⟨e, he, rfl⟩ := List.mem_map.mp ht
        exact dfn_raw (okd e he) (ls.fr e he)
      have ll : (ds.map Dfn.data).length ≤ 1000 := by rw [List.length_map]; omega
      obtain ⟨d0, dr_, eds⟩ : ∃ d0 rest, ds = d0 :: rest := by
        cases ds with
        | nil => exact absurd lds (by decide)
        | cons x y => exact ⟨x, y, rfl⟩
      have ny : ∀ z zs, xs ≠ .str z :: zs := fun z zs e => by
        subst e
        rw [eds] at hx
        obtain ⟨_, _, e1, e2, _⟩ := DpAll.cons_inv hx
        cases e1
        cases e2
      have d0m : d0 ∈ ds := by rw [eds]; exact List.mem_cons_self ..
      have e0 : (ds.map Dfn.data)[0]? = some d0.data := by rw [eds]; rfl
      have g0 := dfn_gd (okd d0 d0m)
      refine ⟨fun σ H8 => ∃ (y6 : V) (tb : PyData) (y7 : Option V), σ = [some (.ref a), some (.ref d), some (.ref r), some (.ref h), none, some (.int z), some y6, y7, none] ∧ Dp K H8 y6 tb ∧ RawS tb ∧ ∀ es, SysOk es → tb ≠ sysD es, ?_, ?_⟩
      · refine ⟨_, rfl, rfl, _, rfl, ite2 (fun _ => ?_) (fun _ => ?_)⟩
        · -- no list, too few, a name twice
          have e0' : (ds.map Dfn.data)[0]? = some (.tuple [.str d0.nm, .tuple (d0.vs.map PyData.str), d0.b.data]) := e0
          have g0' : Gd (.tuple [.str d0.nm, .tuple (d0.vs.map PyData.str), d0.b.data]) := g0
          refine MkE.go (K := K) (H0 := H7) (mk_pick (i := 1) (n := 4) (mk_cons (mk_lst (by decide) (fun ts h => by cases h; rfl) mk_nil) (mk_cons (mk_tupof (k := 2) rfl hr7 nrd hx7 (dfns_noL _) dr7 (.tup (by omega) gds)) (mk_cons mk_non (mk_cons (mk_catL (k := 2) rfl hr7 nrd hx7 (dfns_noL _) dr7 gds ll (by decide) (fun us h => by obtain ⟨_, _, rfl, ⟨_, rfl, _⟩, rfl⟩ := h; exact int1_dfns ds _ fun t ht => ⟨_, List.mem_singleton.mp ht⟩) (mk_cons (mk_tup (by decide) (mk_cons (mk_ix (j := 0) (mk_ixLD (k := 2) (j := 0) rfl hr7 nrd hx7 (dfns_noL _) dr7 g0' rfl e0') rfl rfl) (mk_cons (mk_tup (by decide) (mk_cons (mk_str (by decide +kernel)) mk_nil)) (mk_cons (mk_tup (by decide) (mk_cons (mk_str (by decide +kernel)) (mk_cons (mk_str (by decide +kernel)) (mk_cons (mk_str (by decide +kernel)) mk_nil)))) mk_nil)))) mk_nil)) mk_nil)))) rfl rfl (by decide) (by decide)) dr7 (Kp.refl d H7) fun H8 v t8 dr8 k8 dv gv hr_ => ?_
          obtain ⟨_, ⟨t0, _, rfl, q0, t1, _, rfl, q1, t2, _, rfl, q2, t3, _, rfl, q3, rfl⟩, hm⟩ := hr_
          simp only [List.mem_cons, List.not_mem_nil, or_false] at hm
          rcases hm with e | e | e | e <;> subst e
          · obtain ⟨_, rfl, _, rfl⟩ := q0
            refine ⟨v, _, none, rfl, dv, ⟨gv.o, fun ts e t ht => by injection e with e; rw [← e] at ht; cases ht⟩, fun es ok e => ?_⟩
            unfold sysD at e
            injection e with e
            have e := congrArg List.length e
            rw [List.length_map] at e
            have l1 := ok.lo
            rw [← e] at l1
            exact absurd l1 (by decide)
          · cases q1
            exact ⟨v, _, none, rfl, dv, ⟨gv.o, fun ts e t ht => by cases e⟩, fun es ok e => by cases e⟩
          · cases q2
            exact ⟨v, _, none, rfl, dv, ⟨gv.o, fun ts e t ht => by cases e⟩, fun es ok e => by cases e⟩
          · obtain ⟨us, ⟨_, _, rfl, ⟨_, rfl, _, _, _, rfl, rfl, _, _, rfl, ⟨_, rfl, _, _, _, rfl, rfl, rfl⟩, _, _, rfl, ⟨_, rfl, _, _, _, rfl, rfl, _, _, rfl, rfl, _, _, rfl, rfl, rfl⟩, rfl⟩, rfl⟩, rfl⟩ := q3
            have nmx : Nm "x" := nm_of (by decide +kernel)
            refine ⟨v, _, none, rfl, dv, ⟨gv.o, fun ts e t ht => ?_⟩, fun es ok e => ?_⟩
            · injection e with e
              rw [← e] at ht
              rcases List.mem_append.mp ht with ht | ht
              · exact rds t ht
              · rw [List.mem_singleton.mp ht]
                refine .of3 (Gd.memL gv _ (List.mem_append_right _ (List.mem_singleton.mpr rfl))) ?_
                rw [← eq_data]
                exact .fm (eq_ok nmx nmx) (fr_vars _ (pool := ["x"]) (vars_of (fun x hx => by simpa [Hd.vars, Hd.own, Hd.args] using hx) fun p hp => nomatch hp) (by decide))
            · unfold sysD at e
              injection e with e
              have a0 : (es.map Dfn.data)[0]? = some d0.data := by rw [← e, List.getElem?_append_left (by rw [List.length_map]; omega)]; exact e0
              have a1 : (es.map Dfn.data)[ds.length]? = some (.tuple [.str d0.nm, .tuple [.str "x"], .tuple [.str "eq", .str "x", .str "x"]]) := by
                rw [← e, List.getElem?_append_right (by rw [List.length_map]; exact Nat.le_refl _), List.length_map, Nat.sub_self]; rfl
              obtain ⟨f0, hf0, ef0⟩ := get_map a0
              obtain ⟨f1_, hf1, ef1⟩ := get_map a1
              have n0 : d0.nm = f0.nm := by
                have := ef0
                unfold Dfn.data at this
                injection this with this
                injection this with this
                injection this
              have n1 : d0.nm = f1_.nm := by
                have := ef1
                unfold Dfn.data at this
                injection this with this
                injection this with this
                injection this
              have nd := ok.ag.nd
              have e2 : (es.map Dfn.nm)[0]? = (es.map Dfn.nm)[ds.length]? := by
                rw [List.getElem?_map, List.getElem?_map, hf0, hf1]
                show some _ = some _
                rw [← n0, ← n1]
              have lt0 := (List.getElem?_eq_some_iff.mp hf0).1
              have := (List.getElem?_inj (by rw [List.length_map]; exact lt0) nd).mp e2
              omega
        · refine ⟨_, rfl, rfl, _, rfl, ite2 (fun _ => ?_) (fun _ => ?_)⟩
          · -- two arities of m
            have ok0 := okd d0 d0m
            obtain ⟨x0, ur, eu⟩ : ∃ x0 ur, d0.vs = x0 :: ur := by
              cases hv : d0.vs with
              | nil => have := ok0.own.1; rw [hv] at this; exact absurd this (by decide)
              | cons x0 ur => exact ⟨x0, ur, rfl⟩
            have l6 : ur.length + 1 ≤ 6 := by have := ok0.own.2.1; rw [eu] at this; exact this
            have nx0 : Nm x0 := ok0.own.2.2.1 x0 (by rw [eu]; exact List.mem_cons_self ..)
            have e0' : (ds.map Dfn.data)[0]? = some (.tuple [.str d0.nm, .tuple ((x0 :: ur).map PyData.str), d0.b.data]) := by rw [← eu]; exact e0
            have g0' : Gd (.tuple [.str d0.nm, .tuple ((x0 :: ur).map PyData.str), d0.b.data]) := by rw [← eu]; exact g0
            have it := mk_ixLD (K := K) (d := d) (l := p) (H0 := H7) (σ := [some (.ref a), some (.ref d), some (.ref r), some (.ref h), none, some (.int z), some (.ref b), none, none]) (k := 6) (j := 0) (z := 0) rfl hb7 nbd hx7 (dfns_noL _) dr7 g0' rfl e0'
            dsimp only [tSeq, tAsg]
            refine MkE.go (K := K) (H0 := H7) (mk_tup (by decide) (mk_cons (mk_ix (j := 0) it rfl rfl) (mk_cons (mk_ix (j := 1) it rfl rfl) (mk_cons (mk_tup (by decide) (mk_cons (mk_str (by decide +kernel)) (mk_cons (mk_tup (by decide) (mk_cons (mk_ix (j := 2) it rfl rfl) (mk_cons (mk_tup (by decide) (mk_cons (mk_str (by decide +kernel)) (mk_cons (mk_str (by decide +kernel)) (mk_cons (mk_sl (mk_ix (j := 1) it rfl rfl) mo_none (mo_some mi_c)) mk_nil)))) mk_nil))) mk_nil))) mk_nil)))) dr7 (Kp.refl d H7) fun H8 v t8 dr8 k8 dv gv hr_ => ?_
            obtain ⟨_, rfl, _, _, _, rfl, rfl, _, _, rfl, rfl, _, _, rfl, ⟨_, rfl, _, _, _, rfl, rfl, _, _, rfl, ⟨_, rfl, _, _, _, rfl, rfl, _, _, rfl, ⟨_, rfl, _, _, _, rfl, rfl, _, _, rfl, rfl, _, _, rfl, rfl, rfl⟩, rfl⟩, rfl⟩, rfl⟩ := hr_
            have c1 : cutD ((x0 :: ur).map PyData.str) none (some 1) = [.str x0] := cut1 _ _ (by rw [List.length_map]; omega)
            rw [c1] at dv gv
            have om : (relG "m" [x0]).Ok := relG_ok (nm_of (by decide +kernel)) (by show 1 ≤ 6; decide) fun x hx => by rw [List.mem_singleton.mp hx]; exact nx0
            have ed : (.tuple [.str d0.nm, .tuple ((x0 :: ur).map PyData.str), .tuple [.str "or", .tuple [d0.b.data, .tuple [.str "rel", .str "m", .tuple [.str x0]]]]]) = Dfn.data ⟨d0.nm, d0.vs, .mk .dis [d0.b, relG "m" [x0]]⟩ := by
              unfold Dfn.data
              rw [or_data, rel_data, eu]
              rfl
            rw [ed] at dv gv
            have okb : (Fm.mk .dis [d0.b, relG "m" [x0]]).Ok := or_ok ok0.wf.ok om
            have hb8 := k8 _ _ hb7 nbd
            have hx8 : DpAll K H8 xs (ds.map Dfn.data) := DpAll.kl (.dr k8 dr7) hx7 (dfns_noL _)
            refine ⟨_, rfl, b, xs, 0, 0, rfl, rfl, hb8, Evl.ixN_nat (j := 0) (by rw [lx]; exact lds), ?_⟩
            have kl9 := Kl.upd (o := .lst (xs.set 0 v)) hb8
            have dr9 : DrA (upd H8 b (.lst (xs.set 0 v))) d p := dr8.kp Kp.upd ⟨nbd, nbl⟩
            have dv9 := Dp.kl kl9 dv (dfn_noL _)
            have hx9 := DpAll.kl kl9 hx8 (dfns_noL _)
            have hb9 : (upd H8 b (.lst (xs.set 0 v))) b = some (.lst (xs.set 0 v)) := upd_same
            revert dr9 dv9 hx9 hb9
            generalize upd H8 b (.lst (xs.set 0 v)) = H9
            intro dr9 dv9 hx9 hb9
            refine ⟨_, rfl, .inl ⟨rfl, _, SqL.of hb9⟩, ?_⟩
            refine (mk_cons (K := K) (d := d) (l := p) (H0 := H9) (σ := [some (.ref a), some (.ref d), some (.ref r), some (.ref h), none, some (.int z), some (.ref b), none, none]) (mk_tup (by decide) (mk_cons (mk_str (by decide +kernel)) (mk_cons (mk_tup (by decide) (mk_cons (mk_str (by decide +kernel)) mk_nil)) (mk_cons (mk_tup (by decide) (mk_cons (mk_str (by decide +kernel)) (mk_cons (mk_str (by decide +kernel)) (mk_cons (mk_tup (by decide) mk_nil) mk_nil)))) mk_nil)))) mk_nil) H9 dr9 (Kp.refl d H9) _ fun HA vs ts drA kA dvs gs_ len rr => ?_
            obtain ⟨_, _, rfl, ⟨_, rfl, _, _, _, rfl, rfl, _, _, rfl, ⟨_, rfl, _, _, _, rfl, rfl, rfl⟩, _, _, rfl, ⟨_, rfl, _, _, _, rfl, rfl, _, _, rfl, rfl, _, _, rfl, ⟨_, rfl, _, rfl⟩, rfl⟩, rfl⟩, rfl⟩ := rr
            obtain ⟨v1, ws, rfl, dv1, dnil⟩ := DpAll.cons_inv dvs
            obtain rfl := DpAll.nil_inv dnil
            have hbA := kA _ _ hb9 nbd
            have klA : Kl H9 HA := .dr kA dr9
            have o0 : (relG "m" []).Ok := relG_ok (nm_of (by decide +kernel)) (by decide) fun x hx => nomatch hx
            have e1 : (.tuple [.str "nn", .tuple [.str "x"], .tuple [.str "rel", .str "m", .tuple []]]) = Dfn.data ⟨"nn", ["x"], relG "m" []⟩ := by
              unfold Dfn.data
              rw [rel_data]
              rfl
            rw [e1] at dv1 gs_
            have g1 : Gd (Dfn.data ⟨"nn", ["x"], relG "m" []⟩) := gs_ _ (List.mem_singleton.mpr rfl)
            have frm : Fr20 (relG "m" [x0]) := fr_vars _ (pool := [x0]) (vars_rel fun x hx => hx) (by show 1 ≤ 40; decide)
            have fr0 : Fr20 (Fm.mk .dis [d0.b, relG "m" [x0]]) := .mk ⟨d0.vs, by rw [eu]; show ur.length + 1 ≤ 40; omega, fun x hx => by
              rcases Fm.frees_mem.mp hx with ⟨g, hg, hx, _⟩ | hn
              · rcases two_mem hg with rfl | rfl
                · exact ok0.fr x hx
                · have hx : x ∈ [x0] := by
                    have := frees_vars _ x hx
                    exact vars_rel (m := "m") (fun y hy => hy) x this
                  rw [List.mem_singleton.mp hx, eu]
                  exact List.mem_cons_self ..
              · cases hn⟩ fun g hg => by
                rcases two_mem hg with rfl | rfl
                · exact ls.fr d0 d0m
                · exact frm
            have r0 : RawD (Dfn.data ⟨d0.nm, d0.vs, .mk .dis [d0.b, relG "m" [x0]]⟩) := .of3 gv (.fm okb fr0)
            have r1 : RawD (Dfn.data ⟨"nn", ["x"], relG "m" []⟩) := .of3 g1 (.fm o0 (fr_vars _ (pool := []) (vars_rel fun x hx => nomatch hx) (by decide)))
            have klB := Kl.upd (o := .lst (xs.set 0 v ++ [v1])) hbA
            have mem : ∀ u, u ∈ (ds.map Dfn.data).set 0 (Dfn.data ⟨d0.nm, d0.vs, .mk .dis [d0.b, relG "m" [x0]]⟩) ++ [Dfn.data ⟨"nn", ["x"], relG "m" []⟩] → Gd u ∧ RawD u := fun u hu => by
              rcases List.mem_append.mp hu with hu | hu
              · rcases mem_set hu with hu | rfl
                · exact ⟨gds u hu, rds u hu⟩
                · exact ⟨gv, r0⟩
              · rw [List.mem_singleton.mp hu]
                exact ⟨g1, r1⟩
            refine ⟨b, _, v1, rfl, rfl, hbA, Nat.lt_of_le_of_lt (show (xs.set 0 v).length ≤ 24 by rw [List.length_set]; omega) (by decide), ?_⟩
            refine ⟨.ref b, .list ((ds.map Dfn.data).set 0 (Dfn.data ⟨d0.nm, d0.vs, .mk .dis [d0.b, relG "m" [x0]]⟩) ++ [Dfn.data ⟨"nn", ["x"], relG "m" []⟩]), none, rfl, .lst (SqL.of upd_same) (DpAll.append (DpAll.set (Dp.kl (klA.trans klB) dv9 (dfn_noL _)) 0 (DpAll.kl (klA.trans klB) hx9 (dfns_noL _))) (.cons (Dp.kl klB dv1 (dfn_noL _)) .nil)), ⟨.lst (by rw [List.length_append, List.length_set, List.length_map]; show ds.length + 1 ≤ _; omega) fun u hu => (mem u hu).1.o, fun ts e u hu => ?_⟩, fun es ok e => ?_⟩
            · injection e with e
              rw [← e] at hu
              exact (mem u hu).2
            · unfold sysD at e
              injection e with e
              have m0 : Dfn.data ⟨d0.nm, d0.vs, .mk .dis [d0.b, relG "m" [x0]]⟩ ∈ es.map Dfn.data := by rw [← e]; exact List.mem_append_left _ (List.mem_set (by rw [List.length_map]; exact lds) _)
              have m1 : Dfn.data ⟨"nn", ["x"], relG "m" []⟩ ∈ es.map Dfn.data := by rw [← e]; exact List.mem_append_right _ (List.mem_singleton.mpr rfl)
              obtain ⟨f0, hf0, q0⟩ := List.mem_map.mp m0
              obtain ⟨f1_, hf1, q1⟩ := List.mem_map.mp m1
              have w0 := dfn_eq q0 (ok.ok f0 hf0).wf.ok okb
              have w1 := dfn_eq q1 (ok.ok f1_ hf1).wf.ok o0
              subst w0 w1
              obtain ⟨Γ, hΓ⟩ := ok.ag.ar
              have y0 := (hΓ _ hf0).2 ("m", 1) (or_sym (relG_sym "m" [x0]))
              have y1 := (hΓ _ hf1).2 ("m", 0) (relG_sym "m" [])
              rw [y0] at y1
              cases y1
          · -- one is spoilt
            have n0 : 0 < xs.length := by omega
            refine ⟨_, rfl, d, p, rfl, dr7, fun z9 H8 _ _ dr8 k8 => ?_⟩
            have hr8 := k8 _ _ hr7 nrd
            have hb8 := k8 _ _ hb7 nbd
            have hx8 : DpAll K H8 xs (ds.map Dfn.data) := DpAll.kl (.dr k8 dr7) hx7 (dfns_noL _)
            refine ⟨_, rfl, r, xs, rfl, .inl (SqL.of hr8), _, _, rfl, rfl, by omega, ?_⟩
            obtain ⟨j, hj, jl⟩ : ∃ j : Nat, z9 % (xs.length : Int) = (j : Int) ∧ j < xs.length := ⟨(z9 % (xs.length : Int)).toNat, by
              have := Int.emod_nonneg z9 (show (xs.length : Int) ≠ 0 by omega)
              omega, by
              have := Int.emod_nonneg z9 (show (xs.length : Int) ≠ 0 by omega)
              have := Int.emod_lt_of_pos z9 (show (0 : Int) < xs.length by omega)
              omega⟩
            show gName 7 (V.int (z9 % (xs.length : Int))) _ _ _
            rw [hj]
            have hv : xs[j]? = some xs[j] := List.getElem?_eq_getElem jl
            obtain ⟨t', ht', dt⟩ := DpAll.get' hx8 hv
            obtain ⟨dj, hdj, rfl⟩ := get_map ht'
            refine ⟨_, rfl, _, rfl, _, rfl, r, xs, _, xs[j], rfl, rfl, SqL.of hr8, atI_nat (j := j) hv, _, rfl, d, p, r, xs[j], xs, ds, j, dj, rfl, dr8, dt, hr8, nrd, hx8, ls, hdj, fun H9 rv t dr9 k9 dv gv rd bad lk => ?_⟩
            have hb9 := k9 _ _ hb8 nbd
            have hx9 : DpAll K H9 xs (ds.map Dfn.data) := DpAll.kl (.dr k9 dr8) hx8 (dfns_noL _)
            refine ⟨_, rfl, _, rfl, b, xs, _, j, rfl, rfl, hb9, Evl.ixN_nat jl, ?_⟩
            have mem : ∀ u, u ∈ (ds.map Dfn.data).set j t → Gd u ∧ RawD u := fun u hu => by
              rcases mem_set hu with hu | rfl
              · exact ⟨gds u hu, rds u hu⟩
              · exact ⟨gv, rd⟩
            refine ⟨.ref b, .list ((ds.map Dfn.data).set j t), _, rfl, ?_, ⟨.lst (by rw [List.length_set, List.length_map]; omega) fun u hu => (mem u hu).1.o, fun ts e u hu => ?_⟩, bad⟩
            · exact .lst (SqL.of upd_same) (DpAll.set (LsOk.keep hb9 ny lk dv) j (DpAll.kl (Kl.upd hb9) hx9 (dfns_noL _)))
            · injection e with e
              rw [← e] at hu
              exact (mem u hu).2
      · rintro σ H8 ⟨y6, tb, y7, rfl, d8, rs, no⟩
        refine ⟨4, rfl, by decide, by decide, for_range (n := 4) (fun i σ H9 => ∃ y8 : Option V, σ = [some (.ref a), some (.ref d), some (.ref r), some (.ref h), none, some (.int z), some y6, y7, y8] ∧ Dp K H9 y6 tb) ⟨none, rfl, d8⟩ ?_ ?_⟩
        · rintro i σ H9 hi ⟨y8, rfl, d9⟩
          refine ⟨_, rfl, _, rfl, .inr ⟨i, y6, tb, by show [V.int (0 + (i : Int)), y6] = _; rw [Int.zero_add], by omega, d9, rs, no, fun H10 s10 => ⟨_, rfl, cF (k := !true) rfl ⟨_, rfl, Dp.same s10 d9⟩⟩⟩⟩
        · rintro σ H9 ⟨y8, rfl, d9⟩
          exact q H9
end
theorem thB_ok {K : PySem.W.Frag} {x : Str} {kvs : List (Str × He.Dv)} (h : thB K x kvs = true) : ∀ k v, (k, v) ∈ kvs.map (fun p => (p.1, p.2.v K)) → ∃ u, PySem.W.nsIn K (He.ga K x) k = some (some u) ∧ RelV v u := by
  intro k v hm
  obtain ⟨p, hp, e⟩ := List.mem_map.mp hm
  have e1 : p.1 = k := congrArg Prod.fst e
  have e2 : p.2.v K = v := congrArg Prod.snd e
  have z := List.all_eq_true.mp h p hp
  rw [← e1, ← e2]
  cases q : PySem.W.nsIn K (He.ga K x) p.1 with
  | none => rw [q] at z; cases z
  | some o =>
    rw [q] at z
    cases o with
    | none => cases z
    | some u => exact ⟨u, rfl, He.relB_ok z⟩
theorem msB_ok {K : PySem.W.Frag} {x : Str} {ks : List Str} (h : msB K x ks = true) : Miss K x ks := by
  intro k hk
  have z := List.all_eq_true.mp h k hk
  cases q : PySem.W.nsIn K (He.ga K x) k with
  | none => rw [q] at z; cases z
  | some o =>
    rw [q] at z
    cases o with
    | none => rfl
    | some u => cases z
theorem facts {P : Program} {w : World} {K : PySem.W.Frag} {h : Heap} {mg : Str → Option Value} {f : Addr} (X : K.In h) (G : h.Ns mainGlobals mg) (hfa : mg ("law" : Str) = some (.ref f)) (c : He.SaysX fas fns tabs [] exs w h K) :
    ∃ fd : FuncData, (∀ (s : Shared) (v : Value), BindsTo s fd ⟨[v], []⟩ [("script", v)]) ∧ ∀ base : Heap, K.In base → base.Ns mainGlobals mg → FnOk P w K mg base CX0 57 f fd ["script"] (spLaw K) := by
  have cd := c.t.d
  obtain ⟨fd_is_whole, F_is_whole⟩ := cd.def_ 0 (d := d_is_whole) rfl
  have g_is_whole := He.glo_ok X G (cd.fact 0 (f := .glo "is_whole") rfl)
  have D_is_whole : Def K mg "is_whole" ["value"] (top 9) := ⟨_, fd_is_whole, F_is_whole, g_is_whole, FunD.bindsN F_is_whole fun _ _ _ _ _ _ us hl => match us, hl with | [_], _ => rfl⟩
  obtain ⟨fd_is_between, F_is_between⟩ := cd.def_ 1 (d := d_is_between) rfl
  have g_is_between := He.glo_ok X G (cd.fact 1 (f := .glo "is_between") rfl)
  have D_is_between : Def K mg "is_between" ["value", "low", "high"] (top 10) := ⟨_, fd_is_between, F_is_between, g_is_between, FunD.bindsN F_is_between fun _ _ _ _ _ _ us hl => match us, hl with | [_, _, _], _ => rfl⟩
  obtain ⟨fd_is_name, F_is_name⟩ := cd.def_ 2 (d := d_is_name) rfl
  have g_is_name := He.glo_ok X G (cd.fact 2 (f := .glo "is_name") rfl)
  have D_is_name : Def K mg "is_name" ["text"] (top 22) := ⟨_, fd_is_name, F_is_name, g_is_name, FunD.bindsN F_is_name fun _ _ _ _ _ _ us hl => match us, hl with | [_], _ => rfl⟩
  obtain ⟨fd_kept_relations, F_kept_relations⟩ := cd.def_ 3 (d := d_kept_relations) rfl
  have g_kept_relations := He.glo_ok X G (cd.fact 3 (f := .glo "_kept_relations") rfl)
  have D_kept_relations : Def K mg "_kept_relations" ["relations", "size"] (top 25) := ⟨_, fd_kept_relations, F_kept_relations, g_kept_relations, FunD.bindsN F_kept_relations fun _ _ _ _ _ _ us hl => match us, hl with | [_, _], _ => rfl⟩
  obtain ⟨fd_Structure___init__, F_Structure___init__⟩ := cd.def_ 4 (d := d_Structure___init__) rfl
  have D_Structure___init__ : DefM K "Structure" "__init__" "Structure.__init__" ["self", "size", "relations"] (inClass (top 26) 0) := ⟨_, fd_Structure___init__, F_Structure___init__, He.meth_ok (cd.fact 4 (f := .meth "Structure" "__init__") rfl), FunD.bindsN F_Structure___init__ fun _ _ _ _ _ _ us hl => match us, hl with | [_, _, _], _ => rfl⟩
  obtain ⟨fd_are_variables, F_are_variables⟩ := cd.def_ 5 (d := d_are_variables) rfl
  have g_are_variables := He.glo_ok X G (cd.fact 5 (f := .glo "_are_variables") rfl)
  have D_are_variables : Def K mg "_are_variables" ["value", "counts"] (top 37) := ⟨_, fd_are_variables, F_are_variables, g_are_variables, FunD.bindsN F_are_variables fun _ _ _ _ _ _ us hl => match us, hl with | [_, _], _ => rfl⟩
  obtain ⟨fd_are_different, F_are_different⟩ := cd.def_ 6 (d := d_are_different) rfl
  have g_are_different := He.glo_ok X G (cd.fact 6 (f := .glo "are_different") rfl)
  have D_are_different : Def K mg "are_different" ["value", "counts"] (top 38) := ⟨_, fd_are_different, F_are_different, g_are_different, FunD.bindsN F_are_different fun _ _ _ _ _ _ us hl => match us, hl with | [_, _], _ => rfl⟩
  obtain ⟨fd_is_rel, F_is_rel⟩ := cd.def_ 7 (d := d_is_rel) rfl
  have g_is_rel := He.glo_ok X G (cd.fact 7 (f := .glo "_is_rel") rfl)
  have D_is_rel : Def K mg "_is_rel" ["value"] (top 39) := ⟨_, fd_is_rel, F_is_rel, g_is_rel, FunD.bindsN F_is_rel fun _ _ _ _ _ _ us hl => match us, hl with | [_], _ => rfl⟩
  obtain ⟨fd_is_comparison, F_is_comparison⟩ := cd.def_ 8 (d := d_is_comparison) rfl
  have g_is_comparison := He.glo_ok X G (cd.fact 8 (f := .glo "_is_comparison") rfl)
  have D_is_comparison : Def K mg "_is_comparison" ["value"] (top 40) := ⟨_, fd_is_comparison, F_is_comparison, g_is_comparison, FunD.bindsN F_is_comparison fun _ _ _ _ _ _ us hl => match us, hl with | [_], _ => rfl⟩
  obtain ⟨fd_is_negation, F_is_negation⟩ := cd.def_ 9 (d := d_is_negation) rfl
  have g_is_negation := He.glo_ok X G (cd.fact 9 (f := .glo "_is_negation") rfl)
  have D_is_negation : Def K mg "_is_negation" ["_value"] (top 41) := ⟨_, fd_is_negation, F_is_negation, g_is_negation, FunD.bindsN F_is_negation fun _ _ _ _ _ _ us hl => match us, hl with | [_], _ => rfl⟩
  obtain ⟨fd_is_joined, F_is_joined⟩ := cd.def_ 10 (d := d_is_joined) rfl
  have g_is_joined := He.glo_ok X G (cd.fact 10 (f := .glo "_is_joined") rfl)
  have D_is_joined : Def K mg "_is_joined" ["value"] (top 42) := ⟨_, fd_is_joined, F_is_joined, g_is_joined, FunD.bindsN F_is_joined fun _ _ _ _ _ _ us hl => match us, hl with | [_], _ => rfl⟩
  obtain ⟨fd_is_quantified, F_is_quantified⟩ := cd.def_ 11 (d := d_is_quantified) rfl
  have g_is_quantified := He.glo_ok X G (cd.fact 11 (f := .glo "_is_quantified") rfl)
  have D_is_quantified : Def K mg "_is_quantified" ["value"] (top 43) := ⟨_, fd_is_quantified, F_is_quantified, g_is_quantified, FunD.bindsN F_is_quantified fun _ _ _ _ _ _ us hl => match us, hl with | [_], _ => rfl⟩
  obtain ⟨fd_is_fixed_point, F_is_fixed_point⟩ := cd.def_ 12 (d := d_is_fixed_point) rfl
  have g_is_fixed_point := He.glo_ok X G (cd.fact 12 (f := .glo "_is_fixed_point") rfl)
  have D_is_fixed_point : Def K mg "_is_fixed_point" ["value"] (top 44) := ⟨_, fd_is_fixed_point, F_is_fixed_point, g_is_fixed_point, FunD.bindsN F_is_fixed_point fun _ _ _ _ _ _ us hl => match us, hl with | [_], _ => rfl⟩
  obtain ⟨fd_is_closure, F_is_closure⟩ := cd.def_ 13 (d := d_is_closure) rfl
  have g_is_closure := He.glo_ok X G (cd.fact 13 (f := .glo "_is_closure") rfl)
  have D_is_closure : Def K mg "_is_closure" ["value"] (top 45) := ⟨_, fd_is_closure, F_is_closure, g_is_closure, FunD.bindsN F_is_closure fun _ _ _ _ _ _ us hl => match us, hl with | [_], _ => rfl⟩
  obtain ⟨fd_is_guess, F_is_guess⟩ := cd.def_ 14 (d := d_is_guess) rfl
  have g_is_guess := He.glo_ok X G (cd.fact 14 (f := .glo "_is_guess") rfl)
  have D_is_guess : Def K mg "_is_guess" ["value"] (top 46) := ⟨_, fd_is_guess, F_is_guess, g_is_guess, FunD.bindsN F_is_guess fun _ _ _ _ _ _ us hl => match us, hl with | [_], _ => rfl⟩
  obtain ⟨fd_is_shape, F_is_shape⟩ := cd.def_ 15 (d := d_is_shape) rfl
  have g_is_shape := He.glo_ok X G (cd.fact 15 (f := .glo "is_shape") rfl)
  have D_is_shape : Def K mg "is_shape" ["value"] (top 48) := ⟨_, fd_is_shape, F_is_shape, g_is_shape, FunD.bindsN F_is_shape fun _ _ _ _ _ _ us hl => match us, hl with | [_], _ => rfl⟩
  obtain ⟨fd_inner, F_inner⟩ := cd.def_ 16 (d := d_inner) rfl
  have g_inner := He.glo_ok X G (cd.fact 16 (f := .glo "inner") rfl)
  have D_inner : Def K mg "inner" ["formula"] (top 49) := ⟨_, fd_inner, F_inner, g_inner, FunD.bindsN F_inner fun _ _ _ _ _ _ us hl => match us, hl with | [_], _ => rfl⟩
  obtain ⟨fd_own, F_own⟩ := cd.def_ 17 (d := d_own) rfl
  have g_own := He.glo_ok X G (cd.fact 17 (f := .glo "own") rfl)
  have D_own : Def K mg "own" ["formula"] (top 52) := ⟨_, fd_own, F_own, g_own, FunD.bindsN F_own fun _ _ _ _ _ _ us hl => match us, hl with | [_], _ => rfl⟩
  obtain ⟨fd_arguments, F_arguments⟩ := cd.def_ 18 (d := d_arguments) rfl
  have g_arguments := He.glo_ok X G (cd.fact 18 (f := .glo "arguments") rfl)
  have D_arguments : Def K mg "arguments" ["formula"] (top 54) := ⟨_, fd_arguments, F_arguments, g_arguments, FunD.bindsN F_arguments fun _ _ _ _ _ _ us hl => match us, hl with | [_], _ => rfl⟩
  obtain ⟨fd_bound_name, F_bound_name⟩ := cd.def_ 19 (d := d_bound_name) rfl
  have g_bound_name := He.glo_ok X G (cd.fact 19 (f := .glo "bound_name") rfl)
  have D_bound_name : Def K mg "bound_name" ["formula"] (top 56) := ⟨_, fd_bound_name, F_bound_name, g_bound_name, FunD.bindsN F_bound_name fun _ _ _ _ _ _ us hl => match us, hl with | [_], _ => rfl⟩
  obtain ⟨fd_bound_arity, F_bound_arity⟩ := cd.def_ 20 (d := d_bound_arity) rfl
  have g_bound_arity := He.glo_ok X G (cd.fact 20 (f := .glo "bound_arity") rfl)
  have D_bound_arity : Def K mg "bound_arity" ["formula"] (top 57) := ⟨_, fd_bound_arity, F_bound_arity, g_bound_arity, FunD.bindsN F_bound_arity fun _ _ _ _ _ _ us hl => match us, hl with | [_], _ => rfl⟩
  obtain ⟨fd_check_shapes, F_check_shapes⟩ := cd.def_ 21 (d := d_check_shapes) rfl
  have g_check_shapes := He.glo_ok X G (cd.fact 21 (f := .glo "_check_shapes") rfl)
  have D_check_shapes : Def K mg "_check_shapes" ["value", "levels_left", "parts_left"] (top 83) := ⟨_, fd_check_shapes, F_check_shapes, g_check_shapes, FunD.bindsN F_check_shapes fun _ _ _ _ _ _ us hl => match us, hl with | [_, _, _], _ => rfl⟩
  obtain ⟨fd_arities_in, F_arities_in⟩ := cd.def_ 22 (d := d_arities_in) rfl
  have g_arities_in := He.glo_ok X G (cd.fact 22 (f := .glo "arities_in") rfl)
  have D_arities_in : Def K mg "arities_in" ["formula"] (top 84) := ⟨_, fd_arities_in, F_arities_in, g_arities_in, FunD.bindsN F_arities_in fun _ _ _ _ _ _ us hl => match us, hl with | [_], _ => rfl⟩
  obtain ⟨fd_is_positive_in, F_is_positive_in⟩ := cd.def_ 23 (d := d_is_positive_in) rfl
  have g_is_positive_in := He.glo_ok X G (cd.fact 23 (f := .glo "is_positive_in") rfl)
  have D_is_positive_in : Def K mg "is_positive_in" ["formula", "name", "sign"] (top 85) := ⟨_, fd_is_positive_in, F_is_positive_in, g_is_positive_in, FunD.bindsN F_is_positive_in fun _ _ _ _ _ _ us hl => match us, hl with | [_, _, _], _ => rfl⟩
  obtain ⟨fd_check_fixed_points, F_check_fixed_points⟩ := cd.def_ 24 (d := d_check_fixed_points) rfl
  have g_check_fixed_points := He.glo_ok X G (cd.fact 24 (f := .glo "_check_fixed_points") rfl)
  have D_check_fixed_points : Def K mg "_check_fixed_points" ["formula"] (top 86) := ⟨_, fd_check_fixed_points, F_check_fixed_points, g_check_fixed_points, FunD.bindsN F_check_fixed_points fun _ _ _ _ _ _ us hl => match us, hl with | [_], _ => rfl⟩
  obtain ⟨fd_check_formula, F_check_formula⟩ := cd.def_ 25 (d := d_check_formula) rfl
  have g_check_formula := He.glo_ok X G (cd.fact 25 (f := .glo "check_formula") rfl)
  have D_check_formula : Def K mg "check_formula" ["formula"] (top 87) := ⟨_, fd_check_formula, F_check_formula, g_check_formula, FunD.bindsN F_check_formula fun _ _ _ _ _ _ us hl => match us, hl with | [_], _ => rfl⟩
  obtain ⟨fd_pfree, F_pfree⟩ := cd.def_ 26 (d := d_pfree) rfl
  have g_pfree := He.glo_ok X G (cd.fact 26 (f := .glo "_free") rfl)
  have D_pfree : Def K mg "_free" ["formula"] (top 89) := ⟨_, fd_pfree, F_pfree, g_pfree, FunD.bindsN F_pfree fun _ _ _ _ _ _ us hl => match us, hl with | [_], _ => rfl⟩
  obtain ⟨fd_free, F_free⟩ := cd.def_ 27 (d := d_free) rfl
  have g_free := He.glo_ok X G (cd.fact 27 (f := .glo "free") rfl)
  have D_free : Def K mg "free" ["formula"] (top 90) := ⟨_, fd_free, F_free, g_free, FunD.bindsN F_free fun _ _ _ _ _ _ us hl => match us, hl with | [_], _ => rfl⟩
  obtain ⟨fd_check_definition, F_check_definition⟩ := cd.def_ 28 (d := d_check_definition) rfl
  have g_check_definition := He.glo_ok X G (cd.fact 28 (f := .glo "_check_definition") rfl)
  have D_check_definition : Def K mg "_check_definition" ["definition"] (top 110) := ⟨_, fd_check_definition, F_check_definition, g_check_definition, FunD.bindsN F_check_definition fun _ _ _ _ _ _ us hl => match us, hl with | [_], _ => rfl⟩
  obtain ⟨fd_check_agreement, F_check_agreement⟩ := cd.def_ 29 (d := d_check_agreement) rfl
  have g_check_agreement := He.glo_ok X G (cd.fact 29 (f := .glo "_check_agreement") rfl)
  have D_check_agreement : Def K mg "_check_agreement" ["system"] (top 111) := ⟨_, fd_check_agreement, F_check_agreement, g_check_agreement, FunD.bindsN F_check_agreement fun _ _ _ _ _ _ us hl => match us, hl with | [_], _ => rfl⟩
  obtain ⟨fd_check_system, F_check_system⟩ := cd.def_ 30 (d := d_check_system) rfl
  have g_check_system := He.glo_ok X G (cd.fact 30 (f := .glo "check_system") rfl)
  have D_check_system : Def K mg "check_system" ["system"] (top 112) := ⟨_, fd_check_system, F_check_system, g_check_system, FunD.bindsN F_check_system fun _ _ _ _ _ _ us hl => match us, hl with | [_], _ => rfl⟩
  obtain ⟨fd_check_solvable, F_check_solvable⟩ := cd.def_ 31 (d := d_check_solvable) rfl
  have g_check_solvable := He.glo_ok X G (cd.fact 31 (f := .glo "_check_solvable") rfl)
  have D_check_solvable : Def K mg "_check_solvable" ["system", "structure"] (top 114) := ⟨_, fd_check_solvable, F_check_solvable, g_check_solvable, FunD.bindsN F_check_solvable fun _ _ _ _ _ _ us hl => match us, hl with | [_, _], _ => rfl⟩
  obtain ⟨fd_solve, F_solve⟩ := cd.def_ 32 (d := d_solve) rfl
  have g_solve := He.glo_ok X G (cd.fact 32 (f := .glo "solve") rfl)
  have D_solve : Def K mg "solve" ["system", "structure"] (top 116) := ⟨_, fd_solve, F_solve, g_solve, FunD.bindsN F_solve fun _ _ _ _ _ _ us hl => match us, hl with | [_, _], _ => rfl⟩
  obtain ⟨fd_stages, F_stages⟩ := cd.def_ 33 (d := d_stages) rfl
  have g_stages := He.glo_ok X G (cd.fact 33 (f := .glo "stages") rfl)
  have D_stages : Def K mg "stages" ["system", "structure"] (top 117) := ⟨_, fd_stages, F_stages, g_stages, FunD.bindsN F_stages fun _ _ _ _ _ _ us hl => match us, hl with | [_, _], _ => rfl⟩
  obtain ⟨fd_one_formula, F_one_formula⟩ := cd.def_ 34 (d := d_one_formula) rfl
  have g_one_formula := He.glo_ok X G (cd.fact 34 (f := .glo "one_formula") rfl)
  have D_one_formula : Def K mg "one_formula" ["system", "index"] (top 121) := ⟨_, fd_one_formula, F_one_formula, g_one_formula, FunD.bindsN F_one_formula fun _ _ _ _ _ _ us hl => match us, hl with | [_, _], _ => rfl⟩
  obtain ⟨fd_law_mixed, F_law_mixed⟩ := cd.def_ 35 (d := d_law_mixed) rfl
  have g_law_mixed := He.glo_ok X G (cd.fact 35 (f := .glo "_law_mixed") rfl)
  have D_law_mixed : Def K mg "_law_mixed" ["number", "k"] (top 123) := ⟨_, fd_law_mixed, F_law_mixed, g_law_mixed, FunD.bindsN F_law_mixed fun _ _ _ _ _ _ us hl => match us, hl with | [_, _], _ => rfl⟩
  obtain ⟨fd_law_numbers, F_law_numbers⟩ := cd.def_ 36 (d := d_law_numbers) rfl
  have g_law_numbers := He.glo_ok X G (cd.fact 36 (f := .glo "_law_numbers") rfl)
  have D_law_numbers : Def K mg "_law_numbers" ["script"] (top 124) := ⟨_, fd_law_numbers, F_law_numbers, g_law_numbers, FunD.bindsN F_law_numbers fun _ _ _ _ _ _ us hl => match us, hl with | [_], _ => rfl⟩
  obtain ⟨fd_law_draw, F_law_draw⟩ := cd.def_ 37 (d := d_law_draw) rfl
  have g_law_draw := He.glo_ok X G (cd.fact 37 (f := .glo "_law_draw") rfl)
  have D_law_draw : Def K mg "_law_draw" ["draws"] (top 125) := ⟨_, fd_law_draw, F_law_draw, g_law_draw, FunD.bindsN F_law_draw fun _ _ _ _ _ _ us hl => match us, hl with | [_], _ => rfl⟩
  obtain ⟨fd_law_some_of, F_law_some_of⟩ := cd.def_ 38 (d := d_law_some_of) rfl
  have g_law_some_of := He.glo_ok X G (cd.fact 38 (f := .glo "_law_some_of") rfl)
  have D_law_some_of : Def K mg "_law_some_of" ["draws", "pool", "many"] (top 126) := ⟨_, fd_law_some_of, F_law_some_of, g_law_some_of, FunD.bindsN F_law_some_of fun _ _ _ _ _ _ us hl => match us, hl with | [_, _, _], _ => rfl⟩
  obtain ⟨fd_law_atom, F_law_atom⟩ := cd.def_ 39 (d := d_law_atom) rfl
  have g_law_atom := He.glo_ok X G (cd.fact 39 (f := .glo "_law_atom") rfl)
  have D_law_atom : Def K mg "_law_atom" ["draws", "pool", "names"] (top 127) := ⟨_, fd_law_atom, F_law_atom, g_law_atom, FunD.bindsN F_law_atom fun _ _ _ _ _ _ us hl => match us, hl with | [_, _, _], _ => rfl⟩
  obtain ⟨fd_law_within, F_law_within⟩ := cd.def_ 40 (d := d_law_within) rfl
  have g_law_within := He.glo_ok X G (cd.fact 40 (f := .glo "_law_within") rfl)
  have D_law_within : Def K mg "_law_within" ["names", "name", "arity", "mode"] (top 128) := ⟨_, fd_law_within, F_law_within, g_law_within, FunD.bindsN F_law_within fun _ _ _ _ _ _ us hl => match us, hl with | [_, _, _, _], _ => rfl⟩
  obtain ⟨fd_law_turned, F_law_turned⟩ := cd.def_ 41 (d := d_law_turned) rfl
  have g_law_turned := He.glo_ok X G (cd.fact 41 (f := .glo "_law_turned") rfl)
  have D_law_turned : Def K mg "_law_turned" ["names"] (top 129) := ⟨_, fd_law_turned, F_law_turned, g_law_turned, FunD.bindsN F_law_turned fun _ _ _ _ _ _ us hl => match us, hl with | [_], _ => rfl⟩
  obtain ⟨fd_law_barred, F_law_barred⟩ := cd.def_ 42 (d := d_law_barred) rfl
  have g_law_barred := He.glo_ok X G (cd.fact 42 (f := .glo "_law_barred") rfl)
  have D_law_barred : Def K mg "_law_barred" ["names"] (top 130) := ⟨_, fd_law_barred, F_law_barred, g_law_barred, FunD.bindsN F_law_barred fun _ _ _ _ _ _ us hl => match us, hl with | [_], _ => rfl⟩
  obtain ⟨fd_law_bound, F_law_bound⟩ := cd.def_ 43 (d := d_law_bound) rfl
  have g_law_bound := He.glo_ok X G (cd.fact 43 (f := .glo "_law_bound") rfl)
  have D_law_bound : Def K mg "_law_bound" ["draws", "deep", "pool", "names", "kinds"] (top 131) := ⟨_, fd_law_bound, F_law_bound, g_law_bound, FunD.bindsN F_law_bound fun _ _ _ _ _ _ us hl => match us, hl with | [_, _, _, _, _], _ => rfl⟩
  obtain ⟨fd_law_formula, F_law_formula⟩ := cd.def_ 44 (d := d_law_formula) rfl
  have g_law_formula := He.glo_ok X G (cd.fact 44 (f := .glo "_law_formula") rfl)
  have D_law_formula : Def K mg "_law_formula" ["draws", "deep", "pool", "names", "kinds"] (top 132) := ⟨_, fd_law_formula, F_law_formula, g_law_formula, FunD.bindsN F_law_formula fun _ _ _ _ _ _ us hl => match us, hl with | [_, _, _, _, _], _ => rfl⟩
  obtain ⟨fd_law_names, F_law_names⟩ := cd.def_ 45 (d := d_law_names) rfl
  have g_law_names := He.glo_ok X G (cd.fact 45 (f := .glo "_law_names") rfl)
  have D_law_names : Def K mg "_law_names" ["draws"] (top 133) := ⟨_, fd_law_names, F_law_names, g_law_names, FunD.bindsN F_law_names fun _ _ _ _ _ _ us hl => match us, hl with | [_], _ => rfl⟩
  obtain ⟨fd_law_system, F_law_system⟩ := cd.def_ 46 (d := d_law_system) rfl
  have g_law_system := He.glo_ok X G (cd.fact 46 (f := .glo "_law_system") rfl)
  have D_law_system : Def K mg "_law_system" ["draws"] (top 134) := ⟨_, fd_law_system, F_law_system, g_law_system, FunD.bindsN F_law_system fun _ _ _ _ _ _ us hl => match us, hl with | [_], _ => rfl⟩
  obtain ⟨fd_law_spoilt_one, F_law_spoilt_one⟩ := cd.def_ 47 (d := d_law_spoilt_one) rfl
  have g_law_spoilt_one := He.glo_ok X G (cd.fact 47 (f := .glo "_law_spoilt_one") rfl)
  have D_law_spoilt_one : Def K mg "_law_spoilt_one" ["draws", "one", "signs"] (top 135) := ⟨_, fd_law_spoilt_one, F_law_spoilt_one, g_law_spoilt_one, FunD.bindsN F_law_spoilt_one fun _ _ _ _ _ _ us hl => match us, hl with | [_, _, _], _ => rfl⟩
  obtain ⟨fd_law_called, F_law_called⟩ := cd.def_ 48 (d := d_law_called) rfl
  have g_law_called := He.glo_ok X G (cd.fact 48 (f := .glo "_law_called") rfl)
  have D_law_called : Def K mg "_law_called" ["which", "system"] (top 136) := ⟨_, fd_law_called, F_law_called, g_law_called, FunD.bindsN F_law_called fun _ _ _ _ _ _ us hl => match us, hl with | [_, _], _ => rfl⟩
  obtain ⟨fd_law_refused, F_law_refused⟩ := cd.def_ 49 (d := d_law_refused) rfl
  have g_law_refused := He.glo_ok X G (cd.fact 49 (f := .glo "_law_refused") rfl)
  have D_law_refused : Def K mg "_law_refused" ["which", "system"] (top 137) := ⟨_, fd_law_refused, F_law_refused, g_law_refused, FunD.bindsN F_law_refused fun _ _ _ _ _ _ us hl => match us, hl with | [_, _], _ => rfl⟩
  obtain ⟨fd_law_many, F_law_many⟩ := cd.def_ 50 (d := d_law_many) rfl
  have g_law_many := He.glo_ok X G (cd.fact 50 (f := .glo "_law_many") rfl)
  have D_law_many : Def K mg "_law_many" ["draws"] (top 138) := ⟨_, fd_law_many, F_law_many, g_law_many, FunD.bindsN F_law_many fun _ _ _ _ _ _ us hl => match us, hl with | [_], _ => rfl⟩
  obtain ⟨fd_law, F_law⟩ := cd.def_ 51 (d := d_law) rfl
  have g_law := He.glo_ok X G (cd.fact 51 (f := .glo "law") rfl)
  have D_law : Def K mg "law" ["script"] (top 139) := ⟨_, fd_law, F_law, g_law, FunD.bindsN F_law fun _ _ _ _ _ _ us hl => match us, hl with | [_], _ => rfl⟩
  have T : Txt mg := ⟨He.free_ok X G (cd.fact 52 (f := .free "len") rfl), He.free_ok X G (cd.fact 53 (f := .free "range") rfl), He.free_ok X G (cd.fact 54 (f := .free "isinstance") rfl), He.free_ok X G (cd.fact 55 (f := .free "list") rfl), He.free_ok X G (cd.fact 56 (f := .free "tuple") rfl), He.free_ok X G (cd.fact 57 (f := .free "bool") rfl), He.free_ok X G (cd.fact 58 (f := .free "int") rfl), He.free_ok X G (cd.fact 59 (f := .free "str") rfl), He.free_ok X G (cd.fact 60 (f := .free "sorted") rfl), He.free_ok X G (cd.fact 61 (f := .free "set") rfl), He.free_ok X G (cd.fact 62 (f := .free "all") rfl), He.free_ok X G (cd.fact 63 (f := .free "any") rfl), He.free_ok X G (cd.fact 64 (f := .free "sum") rfl), He.free_ok X G (cd.fact 65 (f := .free "max") rfl), He.free_ok X G (cd.fact 66 (f := .free "min") rfl), He.free_ok X G (cd.fact 67 (f := .free "dict") rfl), He.free_ok X G (cd.fact 68 (f := .free "enumerate") rfl), He.free_ok X G (cd.fact 69 (f := .free "zip") rfl)⟩
  have c_LONGEST_NAME := He.int_ok X G (cd.fact 70 (f := .int "LONGEST_NAME" 12) rfl)
  have c_LARGEST_SIZE := He.int_ok X G (cd.fact 71 (f := .int "LARGEST_SIZE" 16) rfl)
  have c_MOST_RELATIONS := He.int_ok X G (cd.fact 72 (f := .int "MOST_RELATIONS" 6) rfl)
  have c_MOST_JOINED := He.int_ok X G (cd.fact 73 (f := .int "MOST_JOINED" 40) rfl)
  have c_LARGEST_GUESS := He.int_ok X G (cd.fact 74 (f := .int "LARGEST_GUESS" 3) rfl)
  have c_MOST_PARTS := He.int_ok X G (cd.fact 75 (f := .int "MOST_PARTS" 2000) rfl)
  have c_MOST_DEEP := He.int_ok X G (cd.fact 76 (f := .int "MOST_DEEP" 40) rfl)
  have c_MOST_DEFINITIONS := He.int_ok X G (cd.fact 77 (f := .int "MOST_DEFINITIONS" 24) rfl)
  have c_LETTERS := He.str_ok X G (cd.fact 78 (f := .str "LETTERS" "abcdefghijklmnopqrstuvwxyz") rfl)
  have c_FIGURES := He.str_ok X G (cd.fact 79 (f := .str "FIGURES" "0123456789") rfl)
  have c_RESERVED := He.glo_ok X G (cd.fact 80 (f := .glo "RESERVED") rfl)
  have c_REL_COUNTS := He.glo_ok X G (cd.fact 81 (f := .glo "REL_COUNTS") rfl)
  have c_OWN_COUNTS := He.glo_ok X G (cd.fact 82 (f := .glo "OWN_COUNTS") rfl)
  have c_TC_COUNTS := He.glo_ok X G (cd.fact 83 (f := .glo "TC_COUNTS") rfl)
  have c_LENGTHS := He.glo_ok X G (cd.fact 84 (f := .glo "LENGTHS") rfl)
  have c_BODY_AT := He.glo_ok X G (cd.fact 85 (f := .glo "BODY_AT") rfl)
  have c_OWN_AT := He.glo_ok X G (cd.fact 86 (f := .glo "OWN_AT") rfl)
  have c_ARGUMENTS_AT := He.glo_ok X G (cd.fact 87 (f := .glo "ARGUMENTS_AT") rfl)
  have c_TESTS := He.glo_ok X G (cd.fact 88 (f := .glo "TESTS") rfl)
  have c_BadFormula := He.glo_ok X G (cd.fact 89 (f := .glo "BadFormula") rfl)
  have c_BadStructure := He.glo_ok X G (cd.fact 90 (f := .glo "BadStructure") rfl)
  have c_SaysoError := He.glo_ok X G (cd.fact 91 (f := .glo "SaysoError") rfl)
  have c_BadArgument := He.glo_ok X G (cd.fact 92 (f := .glo "BadArgument") rfl)
  have c_NotFitting := He.glo_ok X G (cd.fact 93 (f := .glo "NotFitting") rfl)
  have c_TooLarge := He.glo_ok X G (cd.fact 94 (f := .glo "TooLarge") rfl)
  have gC_Structure := He.glo_ok X G (cd.fact 95 (f := .glo "Structure") rfl)
  have cC_Structure := He.cls_ok (cd.fact 96 (f := .cls "Structure") rfl)
  have mC_Structure := He.mkr_ok (cd.fact 97 (f := .mkr "Structure") rfl)
  have nC_Structure_size := He.noat_ok (cd.fact 98 (f := .noat "Structure" "size") rfl)
  have nC_Structure_relations := He.noat_ok (cd.fact 99 (f := .noat "Structure" "relations") rfl)
  have t_LENGTHS := c.t.tab 0 (t := ((fun K => He.ga K "LENGTHS"), ["rel", "eq", "less", "not", "and", "or", "some", "all", "lfp", "pfp", "tc", "guess"])) rfl
  have t_BODY_AT := c.t.tab 1 (t := ((fun K => He.ga K "BODY_AT"), ["not", "some", "all", "lfp", "pfp", "tc", "guess"])) rfl
  have t_OWN_AT := c.t.tab 2 (t := ((fun K => He.ga K "OWN_AT"), ["some", "all", "lfp", "pfp", "tc"])) rfl
  have t_ARGUMENTS_AT := c.t.tab 3 (t := ((fun K => He.ga K "ARGUMENTS_AT"), ["rel", "lfp", "pfp", "tc"])) rfl
  have t_TESTS := c.t.tab 4 (t := ((fun K => He.ga K "TESTS"), ["rel", "eq", "less", "not", "and", "or", "some", "all", "lfp", "pfp", "tc", "guess"])) rfl
  have more0 := c.more
  obtain ⟨x_RESERVED, more1⟩ := He.ba more0
  obtain ⟨x_REL_COUNTS, more2⟩ := He.ba more1
  obtain ⟨x_OWN_COUNTS, more3⟩ := He.ba more2
  obtain ⟨x_TC_COUNTS, more4⟩ := He.ba more3
  obtain ⟨x_LENGTHS, more5⟩ := He.ba more4
  obtain ⟨x_BODY_AT, more6⟩ := He.ba more5
  obtain ⟨x_OWN_AT, more7⟩ := He.ba more6
  obtain ⟨x_ARGUMENTS_AT, more8⟩ := He.ba more7
  obtain ⟨x_TESTS, more9⟩ := He.ba more8
  obtain ⟨m_LENGTHS, more10⟩ := He.ba more9
  obtain ⟨m_BODY_AT, more11⟩ := He.ba more10
  obtain ⟨m_OWN_AT, more12⟩ := He.ba more11
  obtain ⟨m_ARGUMENTS_AT, more13⟩ := He.ba more12
  obtain ⟨x_BadFormula, more14⟩ := He.ba more13
  obtain ⟨x_BadStructure, more15⟩ := He.ba more14
  obtain ⟨u_BadFormula_SaysoError, more16⟩ := He.ba more15
  obtain ⟨u_BadFormula_BadArgument, more17⟩ := He.ba more16
  obtain ⟨u_BadFormula_NotFitting, more18⟩ := He.ba more17
  have u_BadFormula_TooLarge := more18
  have e := hfa.symm.trans g_law
  cases e
  have b := FunD.bindsA (ps := ["script"]) F_law fun _ _ _ _ _ _ us hl => match us, hl with | [_], _ => rfl
  refine ⟨fd_law, fun s v => b s [v] rfl, fun base _ _ => ?_⟩
  have h_is := has_is_name (P := P) (w := w) (base := base) D_is_name T c_LONGEST_NAME c_LETTERS c_FIGURES c_RESERVED (fun H => He.tupB_ok x_RESERVED H)
  have S : Shp K w mg := ⟨c_MOST_JOINED, c_LARGEST_GUESS, c_REL_COUNTS, fun H => He.tupB_ok x_REL_COUNTS H, c_OWN_COUNTS, fun H => He.tupB_ok x_OWN_COUNTS H, c_TC_COUNTS, fun H => He.tupB_ok x_TC_COUNTS H,
    ⟨c_LENGTHS, t_LENGTHS, thB_ok x_LENGTHS⟩, ⟨c_BODY_AT, t_BODY_AT, thB_ok x_BODY_AT⟩, ⟨c_OWN_AT, t_OWN_AT, thB_ok x_OWN_AT⟩, ⟨c_ARGUMENTS_AT, t_ARGUMENTS_AT, thB_ok x_ARGUMENTS_AT⟩, ⟨c_TESTS, t_TESTS, thB_ok x_TESTS⟩, msB_ok m_BODY_AT, msB_ok m_OWN_AT, msB_ok m_ARGUMENTS_AT⟩
  have h_inner := has_inner (P := P) (base := base) D_inner T S
  have h_own := has_own (P := P) (base := base) D_own T S
  have h_args := has_arguments (P := P) (base := base) D_arguments T S
  have h_bname := has_bound_name (P := P) (w := w) (base := base) D_bound_name
  have h_barity := has_bound_arity (P := P) (w := w) (base := base) D_bound_arity T
  have h_vars := has_are_variables D_are_variables T h_is
  have h_diff := has_are_different D_are_different T h_vars
  have h_whole := has_is_whole (P := P) (w := w) (base := base) D_is_whole T
  have h_between := has_is_between D_is_between h_whole
  have t_rel := has_is_rel D_is_rel S h_is h_vars
  have t_comp := has_is_comparison D_is_comparison h_is
  have t_neg := has_is_negation (P := P) (w := w) (base := base) D_is_negation
  have t_join := has_is_joined (P := P) (base := base) D_is_joined T S
  have t_quant := has_is_quantified D_is_quantified S h_diff
  have t_fix := has_is_fixed_point D_is_fixed_point T S h_is h_vars h_diff
  have t_clo := has_is_closure D_is_closure T S h_vars h_diff
  have t_guess := has_is_guess D_is_guess S h_is h_between
  have tests : Tests P w K mg base := by
    refine ⟨fun k => ?_, fun k => ?_⟩
    · cases k
      · exact g_is_rel
      · exact g_is_comparison
      · exact g_is_comparison
      · exact g_is_negation
      · exact g_is_joined
      · exact g_is_joined
      · exact g_is_quantified
      · exact g_is_quantified
      · exact g_is_fixed_point
      · exact g_is_fixed_point
      · exact g_is_closure
      · exact g_is_guess
    · cases k
      · exact ⟨_, t_rel⟩
      · exact ⟨_, t_comp⟩
      · exact ⟨_, t_comp⟩
      · exact ⟨_, t_neg⟩
      · exact ⟨_, t_join⟩
      · exact ⟨_, t_join⟩
      · exact ⟨_, t_quant⟩
      · exact ⟨_, t_quant⟩
      · exact ⟨_, t_fix⟩
      · exact ⟨_, t_fix⟩
      · exact ⟨_, t_clo⟩
      · exact ⟨_, t_guess⟩
  have h_shape := has_is_shape D_is_shape T S tests
  have h_shapes := has_check_shapes D_check_shapes h_shape h_inner
  have h_pos := has_is_positive D_is_positive_in h_bname h_inner
  have h_fp := has_check_fixed_points D_check_fixed_points h_pos h_inner
  have h_ar := has_arities D_arities_in T h_bname h_inner h_barity
  have h_check := has_check_formula D_check_formula c_MOST_DEEP c_MOST_PARTS h_shapes h_ar h_fp
  have h_mixed := has_mixed (P := P) (w := w) (base := base) D_law_mixed
  have h_numbers := has_numbers D_law_numbers T h_mixed
  have h_draw := has_draw D_law_draw T h_mixed
  have h_some := has_some_of D_law_some_of T h_draw
  have h_within := has_within (P := P) (w := w) (base := base) D_law_within
  have h_turned := has_turned (P := P) (w := w) (base := base) D_law_turned
  have h_barred := has_barred (P := P) (w := w) (base := base) D_law_barred
  have h_atom := has_atom D_law_atom T h_draw
  have h_form := has_formula D_law_formula T h_draw h_atom h_turned fun n C => has_bound D_law_bound T h_draw h_some h_within h_barred C
  have h_names := has_names D_law_names T h_draw
  have BF := xcB_ok c_BadFormula x_BadFormula
  have h_varsX := has_varsX D_are_variables T h_is
  have h_diffX := has_diffX D_are_different T h_varsX
  have h_wholeX := has_wholeX (P := P) (w := w) (base := base) D_is_whole T
  have h_betwX := has_betwX D_is_between h_wholeX
  have y_rel := has_relX D_is_rel S h_is h_varsX
  have y_comp := has_comparisonX D_is_comparison h_is
  have y_neg := has_negationX (P := P) (w := w) (base := base) D_is_negation
  have y_join := has_joinedX (P := P) (base := base) D_is_joined T S
  have y_quant := has_quantX D_is_quantified S h_diffX
  have y_fix := has_fixX D_is_fixed_point T S h_is h_varsX h_diffX
  have y_clo := has_cloX D_is_closure T S h_varsX h_diffX
  have y_guess := has_guessX D_is_guess S h_is h_betwX
  have testsX : TestsX P w K mg base := by
    refine ⟨fun k => ?_, fun k => ?_⟩
    · cases k
      · exact g_is_rel
      · exact g_is_comparison
      · exact g_is_comparison
      · exact g_is_negation
      · exact g_is_joined
      · exact g_is_joined
      · exact g_is_quantified
      · exact g_is_quantified
      · exact g_is_fixed_point
      · exact g_is_fixed_point
      · exact g_is_closure
      · exact g_is_guess
    · cases k
      · exact ⟨_, y_rel⟩
      · exact ⟨_, y_comp⟩
      · exact ⟨_, y_comp⟩
      · exact ⟨_, y_neg⟩
      · exact ⟨_, y_join⟩
      · exact ⟨_, y_join⟩
      · exact ⟨_, y_quant⟩
      · exact ⟨_, y_quant⟩
      · exact ⟨_, y_fix⟩
      · exact ⟨_, y_fix⟩
      · exact ⟨_, y_clo⟩
      · exact ⟨_, y_guess⟩
  have h_shapeX := has_shapeX D_is_shape T S (msB_ok m_LENGTHS) testsX
  have r_shapes := has_check_shapesR D_check_shapes BF h_shapeX h_inner
  have r_ar := has_aritiesR D_arities_in T BF h_bname h_inner h_barity
  have r_fp := has_fixedR D_check_fixed_points BF h_pos h_inner
  have r_check := has_check_formulaR D_check_formula c_MOST_DEEP c_MOST_PARTS r_shapes r_ar r_fp
  have BS := xcB_ok c_BadStructure x_BadStructure
  have h_pfree := has_pfree D_pfree T h_inner h_own h_args
  have h_free := has_free1 D_free T h_check h_pfree
  have r_free := has_freeR D_free T r_check h_pfree
  have k_names := has_namesT D_law_names T h_draw
  have k_some := has_some_ofL D_law_some_of T h_draw
  have d_Y := has_cdefY D_check_definition T S BF h_is h_diff h_free
  have d_R := has_cdefR D_check_definition T S BF h_is h_diffX r_free
  have k_agr := has_agr D_check_agreement T BF h_ar h_pos
  have s_Y := has_csysY D_check_system T BF c_MOST_DEFINITIONS d_Y k_agr
  have s_R := has_csysR D_check_system T BF c_MOST_DEFINITIONS d_R k_agr
  have n_solvable := none_check_solvable D_check_solvable s_R
  have n_solve := none_solve D_solve n_solvable
  have n_stages := none_stages D_stages n_solvable
  have n_one := none_one_formula D_one_formula s_R
  have k_kept := has_kept0 (P := P) (w := w) (base := base) D_kept_relations T BS c_MOST_RELATIONS
  have SC : StC K := ⟨cC_Structure, nC_Structure_size, nC_Structure_relations⟩
  have k_init := has_st_init D_Structure___init__ SC c_LARGEST_SIZE h_between k_kept
  have c_Y := has_lcalledY D_law_called s_Y
  have c_N := has_lcalledN D_law_called gC_Structure (mk_init mC_Structure k_init) s_R n_solve n_stages n_one
  have k_ref := has_refused25 D_law_refused T BF c_SaysoError c_BadArgument c_NotFitting c_TooLarge (kitB2_ok u_BadFormula_SaysoError) (kitB2_ok u_BadFormula_BadArgument) (kitB2_ok u_BadFormula_NotFitting) (kitB2_ok u_BadFormula_TooLarge) c_Y c_N
  have k_sys := has_lsystem D_law_system T h_draw k_some k_names (h_form 3)
  have k_one := has_spone D_law_spoilt_one T h_draw
  have k_many := has_many D_law_many T h_draw
  exact ok_law F_law T h_numbers h_draw k_sys s_Y k_many k_ref k_one
end SaysoV
open PySem PySem.W PySem.Calls PyProof.Rows
set_option maxHeartbeats 0 in
theorem PySem.Challenge.cw_sayso_k25_systems_are_checked_holds : PySem.Challenge.rw_sayso_k25_systems_are_checked.Holds := by
  w_on; o_law
  refine HandSHeadRun.head_any (r := OpenLaw.row PySem.Challenge.rw_sayso_k25_systems_are_checked) (q := view (OpenLaw.row PySem.Challenge.rw_sayso_k25_systems_are_checked).prog [139]) (H := SaysoV.hk) (ob := SaysoV.ob) (M := 16000) (loose := SaysoV.looseN) (d := HandSHeadRun.topDef (OpenLaw.row PySem.Challenge.rw_sayso_k25_systems_are_checked).prog 139) (kwd := []) SaysoV.ob_eq
    (by kernel_rfl) (fun s => by kernel_rfl) SaysoV.run (by kernel_rfl) (by kernel_rfl) (by kernel_rfl) (by rfl) (by first | assumption | decide +kernel) (by decide +kernel) ⟨rfl, rfl, rfl, rfl, rfl, by decide +kernel⟩ ?hw ?hc
  case hw => w_witness2
  case hc =>
    refine L2.walk_ofE (l := PySem.Challenge.rw_sayso_k25_systems_are_checked) (n := 63) (k := 57) (x := "script") (CX := L2.CX0) rfl (by decide) (by kernel_rfl) ⟨rfl, by decide, by decide⟩ ?F (fun _ _ _ _ z => z)
    intro w mg fa h Y G hmg0
    obtain ⟨K, KX, c⟩ := Y
    have hmg : mg ("law" : PySem.Str) = some (.ref fa) := by
      have e : (HandSHeadRun.topDef (OpenLaw.row PySem.Challenge.rw_sayso_k25_systems_are_checked).prog 139).name = ("law" : PySem.Str) := by kernel_rfl
      rw [← e]
      exact hmg0
    obtain ⟨fd, hb, hF⟩ := SaysoV.facts (P := (PySem.Challenge.rw_sayso_k25_systems_are_checked).prog) (w := w) KX G hmg c
    exact ⟨K, fd, SaysoV.spLaw K, KX, hb, fun H a ns hl _ hS => ⟨a, ns, rfl, hS, hl, fun _ => rfl⟩, hF⟩
