import PyProof.Rows.All
import Wide.All
import OpenK.AllK
import Wide.FinOn
import KE.KStateDown
import HandS.ForMost
import HandS.Defaults
import HandS.IsInst
import HandS.SetKeys
import HandS.Strs
import HandS.CallLocal
import HandS.WrittenGet
import HandS.NoneIn
import HandS.DictComp
import HandS.Deep
import HandS.Sort
import HandS.SortOrd
import HandS.ListItems
import HandS.DictTup
import HandS.ForExc
import HandS.Flow
import HandS.Walk
import HandS.Head0
import HandS.Head1
import HandS.Head2
import HandS.HeadEnd
import HandS.HeadHook1
import HandS.HeadHook2
import HandS.HeadHook3
import HandS.HeadHook4
import PySem.Challenge.RW_sayso_k12_costs_of_formulas
import HandS.ExcIs
import HandS.TupAny
set_option Elab.async false
set_option linter.all false
set_option maxRecDepth 100000
set_option maxHeartbeats 4000000
namespace SaysoV
open PySem PySem.Spec PyProof.Rows L2
/-! ### the text by places, what a def is to its callers -/
def top (i : Nat) : Stmt := PySem.Challenge.pw_sayso_k12_costs_of_formulas.main.body.getD i (.Pass ⟨0, 0, 0, 0⟩)
abbrev FnP (K : PySem.W.Frag) (x : Str) (st : Stmt) (f : Addr) (fd : FuncData) : Prop := FunD K x x (defArgs st) (defBody st) (defScope st) [] [] f fd
/-- a def as the top leaves it -/
def Def (K : PySem.W.Frag) (mg : Str → Option Value) (x : Str) (ps : List Str) (st : Stmt) : Prop := ∃ f fd, FnP K x st f fd ∧ mg x = some (.ref f) ∧ Binds K fd ps []
/-- a def with its promise, as a caller takes it -/
def HasX (CX : CXT) (P : Program) (w : World) (K : PySem.W.Frag) (mg : Str → Option Value) (base : Heap) (k : Nat) (x : Str) (ps : List Str) (sp : Sp) : Prop :=
  ∃ f fd, FnOk P w K mg base CX k f fd ps sp ∧ mg x = some (.ref f) ∧ PySem.W.keepIn K (.ref f) = true ∧ Binds K fd ps []
abbrev Has := HasX CX0
/-- the names that are still built-in -/
structure Txt (mg : Str → Option Value) : Prop where
  n_len : mg "len" = none
  n_range : mg "range" = none
  n_isinstance : mg "isinstance" = none
  n_list : mg "list" = none
  n_tuple : mg "tuple" = none
  n_bool : mg "bool" = none
  n_int : mg "int" = none
  n_str : mg "str" = none
  n_sorted : mg "sorted" = none
  n_set : mg "set" = none
  n_all : mg "all" = none
  n_any : mg "any" = none
  n_sum : mg "sum" = none
  n_max : mg "max" = none
  n_min : mg "min" = none
  n_dict : mg "dict" = none
  n_enumerate : mg "enumerate" = none
  n_zip : mg "zip" = none
section
variable {P : Program} {w : World} {K : PySem.W.Frag} {mg : Str → Option Value} {base : Heap} {CX : CXT}
theorem Def.has {x : Str} {ps : List Str} {st : Stmt} {k : Nat} {sp : Sp} (D : Def K mg x ps st) (h : ∀ f fd, FnP K x st f fd → FnOk P w K mg base CX k f fd ps sp) : HasX CX P w K mg base k x ps sp := by
  obtain ⟨f, fd, F, g, b⟩ := D
  exact ⟨f, fd, h f fd F, g, F.kp, b⟩
end
theorem same_upd {H : Hp} {p : Addr} {o : HO} (h : H p = none) : Same H (upd H p o) := fun b x e => by
  rw [upd_ne (ne_of_none e h)]
  exact e
/-- all that was tracked but d is as it was -/
def Kp (d : Addr) (H H' : Hp) : Prop := ∀ b o, H b = some o → b ≠ d → H' b = some o
theorem Kp.refl (d : Addr) (H : Hp) : Kp d H H := fun _ _ e _ => e
theorem Kp.trans {d : Addr} {H H1 H2 : Hp} (a : Kp d H H1) (b : Kp d H1 H2) : Kp d H H2 := fun c o e n => b c o (a c o e n) n
theorem Kp.of {d : Addr} {H H' : Hp} (a : Same H H') : Kp d H H' := fun c o e _ => a c o e
theorem Kp.upd {d : Addr} {H : Hp} {o : HO} : Kp d H (L2.upd H d o) := fun c x e n => by rw [upd_ne n]; exact e
theorem Kp.free {d : Addr} {H H' : Hp} {p : Addr} (a : Kp d H H') (hp : p ≠ d) (h : H' p = none) : H p = none := by
  cases q : H p with
  | none => rfl
  | some o => rw [a p o q hp] at h; cases h
/-- the draws: a list of small numbers at l, and the place of the next one -/
def DrA (H : Hp) (d l : Addr) : Prop := ∃ (n : Nat) (ms : List Int), H d = some (.lst [.ref l, .int n]) ∧ H l = some (.lst (ms.map V.int)) ∧ ∀ z, z ∈ ms → 0 ≤ z ∧ z < 1000000
theorem draws_ne {H : Hp} {d l : Addr} {n : Int} {ms : List Int} (h1 : H d = some (.lst [.ref l, .int n])) (h2 : H l = some (.lst (ms.map V.int))) : l ≠ d := by
  intro e
  subst e
  rw [h1] at h2
  have h3 : [V.ref l, V.int n] = ms.map V.int := HO.lst.inj (Option.some.inj h2)
  cases ms with
  | nil => cases h3
  | cons a r => injection h3 with h4 _; cases h4
theorem DrA.same {H H' : Hp} {d l : Addr} (h : DrA H d l) (s : Same H H') : DrA H' d l := by
  obtain ⟨n, ms, h1, h2, h3⟩ := h
  exact ⟨n, ms, s _ _ h1, s _ _ h2, h3⟩
theorem DrA.some {H : Hp} {d l : Addr} (h : DrA H d l) : ∃ xs, H d = Option.some (.lst xs) := by
  obtain ⟨n, ms, h1, _⟩ := h
  exact ⟨_, h1⟩
theorem DrA.some' {H : Hp} {d l : Addr} (h : DrA H d l) : ∃ xs, H l = Option.some (.lst xs) := by
  obtain ⟨n, ms, _, h1, _⟩ := h
  exact ⟨_, h1⟩
theorem DrA.ne {H : Hp} {d l p : Addr} (h : DrA H d l) (np : H p = none) : p ≠ d ∧ p ≠ l := by
  obtain ⟨xs, e⟩ := h.some
  obtain ⟨ys, e'⟩ := h.some'
  exact ⟨(fun z => by rw [z, e] at np; cases np), (fun z => by rw [z, e'] at np; cases np)⟩
theorem DrA.kp {H H' : Hp} {d l p : Addr} (h : DrA H d l) (k : Kp p H H') (n : p ≠ d ∧ p ≠ l) : DrA H' d l := by
  obtain ⟨i, ms, h1, h2, h3⟩ := h
  exact ⟨i, ms, k _ _ h1 n.1.symm, k _ _ h2 n.2.symm, h3⟩
theorem get_int {ns : List Int} {i : Nat} {y : V} (h : (ns.map V.int)[i]? = some y) : ∃ z, ns[i]? = some z ∧ y = .int z := by
  rw [List.getElem?_map] at h
  cases e : ns[i]? with
  | none => rw [e] at h; cases h
  | some z => rw [e] at h; exact ⟨z, rfl, (Option.some.inj h).symm⟩
/-! ### the promises of the law's helpers -/
def spMixed : Sp := fun vs H Q _ => ∃ n k : Int, vs = [.int n, .int k] ∧ ∀ z : Int, 0 ≤ z → z < 2147483647 → Q (.int z) H
def Small (ms : List Int) : Prop := ∀ z, z ∈ ms → 0 ≤ z ∧ z < 1000000
theorem Small.add {ms : List Int} {z : Int} (h : Small ms) : Small (ms ++ [z % 1000000]) := by
  intro y hy
  rcases List.mem_append.mp hy with hy | hy
  · exact h y hy
  · rw [List.mem_singleton.mp hy]
    exact ⟨Int.emod_nonneg _ (by decide), Int.emod_lt_of_pos _ (by decide)⟩
def spNumbers (K : PySem.W.Frag) : Sp := fun vs H Q _ => ∃ (a : Addr) (ns : List Int), vs = [.ref a] ∧ SqL K H a (ns.map V.int) ∧ ns.length ≤ 63 ∧
  ∀ (H' : Hp) (p : Addr) (ms : List Int), Same H H' → H p = none → H' p = some (.lst (ms.map V.int)) → Small ms → Q (.ref p) H'
def spDraw : Sp := fun vs H Q _ => ∃ d l : Addr, vs = [.ref d] ∧ DrA H d l ∧ ∀ (z : Int) (H' : Hp), 0 ≤ z → z < 1000000 → DrA H' d l → Kp d H H' → Q (.int z) H'
section
variable {P : Program} {w : World} {K : PySem.W.Frag} {mg : Str → Option Value} {base : Heap}
theorem sc_mixed : FnScope ["number", "k", "step"] ["number", "k"] (defScope (top 56)) := ⟨rfl, rfl, rfl, by decide +kernel, rfl, by decide +kernel, by decide +kernel⟩
theorem has_mixed (D : Def K mg "_law_mixed" ["number", "k"] (top 56)) : Has P w K mg base 1 "_law_mixed" ["number", "k"] spMixed := D.has fun f fd F => by
  refine F.ok sc_mixed (fun vs H Q E h => ?_) (fun cdv A outer s H vs Q E hr h => ?_)
  · obtain ⟨n, k, rfl, _⟩ := h; rfl
  · obtain ⟨n, k, rfl, q⟩ := h
    refine ⟨_, PSs.nox (pss_cons (ps_set (i := 2) sc_mixed.nd rfl (Or.inl rfl) (pe_op op_mod (pe_op op_add (pe_op op_add (pe_op op_mul (pv 0) pe_int) (pe_op op_mul (pv 1) pe_int)) pe_int) pe_int)) (pss_one (ps_ret (pe_op op_mod (pe_op op_add (pe_op op_mul (pv 2) (pe_op op_add (pe_op op_fdiv (pv 2) pe_int) pe_int)) (pv 1)) pe_int)))), ?_⟩
    refine ⟨_, rfl, _, _, rfl, rfl, .inr ⟨by decide, by decide⟩, _, rfl, _, _, rfl, rfl, .inr ⟨by decide, by decide⟩, _, _, rfl, rfl, _, _, rfl, rfl, _, _, rfl, rfl, (by show (0 : Int) < 2147483647; decide), ?_⟩
    have h0 : 0 ≤ (n * 48271 + k * 69621 + 12345) % 2147483647 := Int.emod_nonneg _ (by decide)
    have h1 : (n * 48271 + k * 69621 + 12345) % 2147483647 < 2147483647 := Int.emod_lt_of_pos _ (by decide)
    revert h0 h1
    generalize (n * 48271 + k * 69621 + 12345) % 2147483647 = z
    intro h0 h1
    refine ⟨_, rfl, _, rfl, _, _, rfl, rfl, ⟨by decide, by decide⟩, _, _, rfl, rfl, _, _, rfl, rfl, .inl ⟨by omega, by omega⟩, _, rfl, _, _, rfl, rfl, _, _, rfl, rfl, (by show (0 : Int) < 2147483647; decide), ?_⟩
    exact q _ (Int.emod_nonneg _ (by decide)) (Int.emod_lt_of_pos _ (by decide))
theorem sc_numbers : FnScope ["script", "numbers", "cell", "rest", "k"] ["script"] (defScope (top 57)) := ⟨rfl, rfl, rfl, by decide +kernel, rfl, by decide +kernel, by decide +kernel⟩
theorem has_numbers (D : Def K mg "_law_numbers" ["script"] (top 57)) (T : Txt mg) (C1 : Has P w K mg base 1 "_law_mixed" ["number", "k"] spMixed) : Has P w K mg base 2 "_law_numbers" ["script"] (spNumbers K) := D.has fun f fd F => by
  obtain ⟨f1, fd1, G_law_mixed, g_law_mixed, k_law_mixed, b_law_mixed⟩ := C1
  refine F.ok sc_numbers (fun vs H Q E h => ?_) (fun cdv A outer s H vs Q E hr h => ?_)
  · obtain ⟨a, ns, rfl, _⟩ := h; rfl
  · obtain ⟨a, ns, rfl, hS, hlen, q⟩ := h
    have R_law_mixed : Room 1 _ := hr.mono (by decide)
    refine ⟨_, PSs.nox (pss_cons (ps_set (i := 1) sc_numbers.nd rfl (Or.inl rfl) (pe_lst pa_nil)) (pss_cons (ps_for PassesOwn.never rfl (pi_list (pv 0)) (pg_name (i := 2) sc_numbers.nd rfl (Or.inl rfl)) (pss_one (ps_if (pt_cmpR op_ge (pv 2) (pe_op op_pow pe_int pe_int) (nomark _)) (pss_cons (ps_set (i := 3) sc_numbers.nd rfl (Or.inl rfl) (pv 2)) (pss_one (ps_for PassesOwn.never rfl (pi_range1 (by rfl) T.n_range (pa_cons pe_int pa_nil)) (pg_name (i := 4) sc_numbers.nd rfl (Or.inl rfl)) (pss_one (ps_if (pt_cmpR op_gt (pv 3) pe_int (nomark _)) (pss_cons (ps_expr (pe_bm PySem.F.plainAttrs_list PySem.F.slot_list_append PySem.F.type_list_append mt_append (pv 1) (pa_cons (pe_op op_mod (pv 3) pe_int) pa_nil))) (pss_one (ps_set (i := 3) sc_numbers.nd rfl (Or.inl rfl) (pe_op op_fdiv (pv 3) pe_int)))) pss_nil))))) (pss_cons (ps_expr (pe_bm PySem.F.plainAttrs_list PySem.F.slot_list_append PySem.F.type_list_append mt_append (pv 1) (pa_cons (pe_op op_mod (pv 2) pe_int) pa_nil))) (pss_one (ps_for PassesOwn.never rfl (pi_range1 (by rfl) T.n_range (pa_cons pe_int pa_nil)) (pg_name (i := 4) sc_numbers.nd rfl (Or.inl rfl)) (pss_one (ps_expr (pe_bm PySem.F.plainAttrs_list PySem.F.slot_list_append PySem.F.type_list_append mt_append (pv 1) (pa_cons (pe_op op_mod (pe_call G_law_mixed R_law_mixed (by rfl) g_law_mixed k_law_mixed b_law_mixed .nil pass0 (pa_cons (pe_call G_law_mixed R_law_mixed (by rfl) g_law_mixed k_law_mixed b_law_mixed .nil pass0 (pa_cons (pe_op op_mod (pv 2) pe_int) (pa_cons (pv 4) pa_nil))) (pa_cons (pe_op op_add (pv 4) pe_int) pa_nil))) pe_int) pa_nil)))))))))) (pss_one (ps_ret (pv 1))))), ?_⟩
    refine ⟨Nat.zero_le _, fun p np => ?_⟩
    have s0 : Same H (upd H p (.lst [])) := same_upd np
    refine ⟨_, rfl, a, rfl, ⟨_, s0.seq hS⟩, for_list (K := K) (a := a) (xs := ns.map V.int) (fun i σ H2 => ∃ (y2 y3 y4 : Option V) (ms : List Int), σ = [some (.ref a), some (.ref p), y2, y3, y4] ∧ Same H H2 ∧ H2 p = some (.lst (ms.map V.int)) ∧ ms.length ≤ 61 * i ∧ Small ms)
      ⟨none, none, none, [], rfl, s0, upd_same, Nat.zero_le _, fun z hz => nomatch hz⟩ (fun i σ H2 _ ⟨_, _, _, _, _, s2, _⟩ => s2.seq hS) ?_ ?_⟩
    · rintro i y σ H2 hi ⟨y2, y3, y4, ms, rfl, s2, hp, hl, sm⟩
      obtain ⟨c, hc, rfl⟩ := get_int hi
      have hi63 : i < 63 := by
        have := (List.getElem?_eq_some_iff.mp hc).1
        omega
      have room : ∀ j : Nat, j ≤ 60 → ((ms.length + j : Nat) < sizeLine) := fun j hj => Nat.lt_of_le_of_lt (show ms.length + j ≤ 61 * 62 + 60 by omega) (by decide)
      refine ⟨_, rfl, _, _, rfl, rfl, ⟨by decide, by decide, by decide⟩, _, _, rfl, rfl, _, rfl, ite2 (fun e => ?_) (fun e => ?_)⟩
      · -- a huge number: its pieces
        refine ⟨_, rfl, 60, rfl, by decide, by decide, for_range (n := 60) (fun j σ H3 => ∃ (y4 : Option V) (r : Int) (ms3 : List Int), σ = [some (.ref a), some (.ref p), some (.int c), some (.int r), y4] ∧ Same H H3 ∧ H3 p = some (.lst (ms3.map V.int)) ∧ ms3.length ≤ ms.length + j ∧ Small ms3)
          ⟨y4, c, ms, rfl, s2, hp, Nat.le_refl _, sm⟩ ?_ ?_⟩
        · rintro j σ H3 hj ⟨y4, r, ms3, rfl, s3, hp3, hl3, sm3⟩
          refine ⟨_, rfl, _, _, rfl, rfl, _, rfl, ite2 (fun e2 => ?_) (fun e2 => ?_)⟩
          · refine ⟨_, rfl, .inl ⟨rfl, _, SqL.of hp3⟩, _, rfl, _, _, rfl, rfl, (by show (0 : Int) < 1000000; decide), p, _, _, rfl, rfl, hp3, ?_, ?_⟩
            · rw [List.length_map]
              exact Nat.lt_of_le_of_lt hl3 (room j (by omega))
            · refine ⟨_, rfl, _, _, rfl, rfl, ⟨by decide, by decide⟩, ?_⟩
              refine ⟨_, _, ms3 ++ [r % 1000000], rfl, fun b o eb => ?_, ?_, ?_, sm3.add⟩
              · rw [upd_ne (ne_of_none eb np)]
                exact s3 _ _ eb
              · rw [upd_same, List.map_append]
                rfl
              · rw [List.length_append]
                show ms3.length + 1 ≤ _
                omega
          · exact ⟨_, r, ms3, rfl, s3, hp3, by omega, sm3⟩
        · rintro σ H3 ⟨y4, r, ms3, rfl, s3, hp3, hl3, sm3⟩
          exact ⟨_, _, y4, ms3, rfl, s3, hp3, by omega, sm3⟩
      · refine ⟨_, rfl, .inl ⟨rfl, _, SqL.of hp⟩, _, rfl, _, _, rfl, rfl, (by show (0 : Int) < 1000000; decide), p, _, _, rfl, rfl, hp, ?_, ?_⟩
        · rw [List.length_map]
          exact room 0 (by decide)
        · refine ⟨5, rfl, by decide, by decide, for_range (n := 5) (fun j σ H3 => ∃ (y4 : Option V) (ms3 : List Int), σ = [some (.ref a), some (.ref p), some (.int c), y3, y4] ∧ Same H H3 ∧ H3 p = some (.lst (ms3.map V.int)) ∧ ms3.length ≤ ms.length + 1 + j ∧ Small ms3)
            ⟨y4, ms ++ [c % 1000000], rfl, fun b o eb => ?_, ?_, ?_, sm.add⟩ ?_ ?_⟩
          · rw [upd_ne (ne_of_none eb np)]
            exact s2 _ _ eb
          · rw [upd_same, List.map_append]
            rfl
          · rw [List.length_append]
            show ms.length + 1 ≤ _
            omega
          · rintro j σ H3 hj ⟨y4, ms3, rfl, s3, hp3, hl3, sm3⟩
            refine ⟨_, rfl, .inl ⟨rfl, _, SqL.of hp3⟩, ?_⟩
            refine ⟨_, rfl, _, _, rfl, rfl, (by show (0 : Int) < 2147483647; decide), _, rfl, _, _, rfl, fun z1 _ _ => ?_⟩
            refine ⟨_, rfl, _, _, rfl, rfl, _, _, rfl, fun z2 _ _ => ?_⟩
            refine ⟨_, _, rfl, rfl, (by show (0 : Int) < 1000000; decide), p, _, _, rfl, rfl, hp3, ?_, ?_⟩
            · rw [List.length_map]
              exact Nat.lt_of_le_of_lt hl3 (Nat.lt_of_le_of_lt (show ms.length + 1 + j ≤ ms.length + 60 by omega) (room 60 (by decide)))
            · refine ⟨_, ms3 ++ [z2 % 1000000], rfl, fun b o eb => ?_, ?_, ?_, sm3.add⟩
              · rw [upd_ne (ne_of_none eb np)]
                exact s3 _ _ eb
              · rw [upd_same, List.map_append]
                rfl
              · rw [List.length_append]
                show ms3.length + 1 ≤ _
                omega
          · rintro σ H3 ⟨y4, ms3, rfl, s3, hp3, hl3, sm3⟩
            exact ⟨_, _, y4, ms3, rfl, s3, hp3, by omega, sm3⟩
    · rintro σ H2 ⟨y2, y3, y4, ms, rfl, s2, hp, hl, sm⟩
      exact ⟨_, rfl, q H2 p ms s2 np hp sm⟩
theorem sc_draw : FnScope ["draws", "at", "first"] ["draws"] (defScope (top 58)) := ⟨rfl, rfl, rfl, by decide +kernel, rfl, by decide +kernel, by decide +kernel⟩
theorem has_draw (D : Def K mg "_law_draw" ["draws"] (top 58)) (T : Txt mg) (C1 : Has P w K mg base 1 "_law_mixed" ["number", "k"] spMixed) : Has P w K mg base 2 "_law_draw" ["draws"] spDraw := D.has fun f fd F => by
  obtain ⟨f1, fd1, G_law_mixed, g_law_mixed, k_law_mixed, b_law_mixed⟩ := C1
  refine F.ok sc_draw (fun vs H Q E h => ?_) (fun cdv A outer s H vs Q E hr h => ?_)
  · obtain ⟨d, l, rfl, _⟩ := h; rfl
  · obtain ⟨d, l, rfl, ⟨n, ms, h1, h2, sm⟩, q⟩ := h
    have R_law_mixed : Room 1 _ := hr.mono (by decide)
    have nld := draws_ne h1 h2
    refine ⟨_, PSs.nox (pss_cons (ps_set (i := 1) sc_draw.nd rfl (Or.inl rfl) (pe_ix ix_list (pv 0) pe_int (fun _ _ => rfl))) (pss_cons (ps_asg (pe_op op_add (pv 1) pe_int) (pg_sub (pv 0) pe_int set_list)) (pss_cons (ps_if (pt_cmpR op_lt (pv 1) (pe_callB call_len_seq (by rfl) T.n_len PySem.boot_len (pa_cons (pe_ix ix_list (pv 0) pe_int (fun _ _ => rfl)) pa_nil)) (nomark _)) (pss_one (ps_ret (pe_ix ix_list (pe_ix ix_list (pv 0) pe_int (fun _ _ => rfl)) (pv 1) (fun _ _ => rfl)))) pss_nil) (pss_cons (ps_set (i := 2) sc_draw.nd rfl (Or.inl rfl) (pe_op op_add pe_int (pv 1))) (pss_cons (ps_if (pt_cmpR op_gt (pe_callB call_len_seq (by rfl) T.n_len PySem.boot_len (pa_cons (pe_ix ix_list (pv 0) pe_int (fun _ _ => rfl)) pa_nil)) pe_int (nomark _)) (pss_one (ps_set (i := 2) sc_draw.nd rfl (Or.inl rfl) (pe_op op_add (pv 2) (pe_op op_mul pe_int (pe_ix ix_list (pe_ix ix_list (pv 0) pe_int (fun _ _ => rfl)) pe_int (fun _ _ => rfl)))))) pss_nil) (pss_one (ps_ret (pe_op op_mod (pe_call G_law_mixed R_law_mixed (by rfl) g_law_mixed k_law_mixed b_law_mixed .nil pass0 (pa_cons (pe_call G_law_mixed R_law_mixed (by rfl) g_law_mixed k_law_mixed b_law_mixed .nil pass0 (pa_cons (pv 2) (pa_cons (pv 1) pa_nil))) (pa_cons pe_int pa_nil))) pe_int)))))))), ?_⟩
    refine ⟨_, rfl, d, _, _, _, rfl, rfl, SqL.of h1, atI_nat (j := 1) rfl, ?_⟩
    refine ⟨_, rfl, _, _, rfl, rfl, _, rfl, d, _, _, 1, rfl, rfl, h1, rfl, ?_⟩
    have k1 : Kp d H (upd H d (.lst ([V.ref l, V.int n].set 1 (.int ((n : Int) + 1))))) := Kp.upd
    have h1' : (upd H d (.lst ([V.ref l, V.int n].set 1 (.int ((n : Int) + 1))))) d = some (.lst [.ref l, .int ((n + 1 : Nat) : Int)]) := by
      rw [upd_same]
      rfl
    have h2' : (upd H d (.lst ([V.ref l, V.int n].set 1 (.int ((n : Int) + 1))))) l = some (.lst (ms.map V.int)) := k1 l _ h2 nld
    revert k1 h1' h2'
    generalize upd H d (.lst ([V.ref l, V.int n].set 1 (.int ((n : Int) + 1)))) = H1
    intro k1 h1' h2'
    have dr : DrA H1 d l := ⟨n + 1, ms, h1', h2', sm⟩
    refine ⟨_, rfl, _, rfl, d, _, _, _, rfl, rfl, SqL.of h1', atI_nat (j := 0) rfl, l, _, rfl, .inl (SqL.of h2'), _, _, rfl, rfl, _, rfl, ite2 (fun e => ?_) (fun e => ?_)⟩
    · have hn : n < ms.length := by
        have e1 := of_decide_eq_true e
        rw [List.length_map] at e1
        omega
      have e1 : (ms.map V.int)[n]? = some (.int ms[n]) := by
        rw [List.getElem?_map, List.getElem?_eq_getElem hn]
        rfl
      refine ⟨_, rfl, d, _, _, _, rfl, rfl, SqL.of h1', atI_nat (j := 0) rfl, _, rfl, l, _, _, _, rfl, rfl, SqL.of h2', atI_nat e1, ?_⟩
      obtain ⟨z0, z1⟩ := sm _ (List.getElem_mem hn)
      exact q _ _ z0 z1 dr k1
    · refine ⟨_, rfl, _, _, rfl, rfl, ?_⟩
      refine ⟨_, rfl, d, _, _, _, rfl, rfl, SqL.of h1', atI_nat (j := 0) rfl, l, _, rfl, .inl (SqL.of h2'), _, _, rfl, rfl, _, rfl, ite2 (fun e2 => ?_) (fun e2 => ?_)⟩
      · have hn : 0 < ms.length := by
          have e1 := of_decide_eq_true e2
          rw [List.length_map] at e1
          omega
        have e1 : (ms.map V.int)[0]? = some (.int ms[0]) := by
          rw [List.getElem?_map, List.getElem?_eq_getElem hn]
          rfl
        refine ⟨_, rfl, _, rfl, d, _, _, _, rfl, rfl, SqL.of h1', atI_nat (j := 0) rfl, l, _, _, _, rfl, rfl, SqL.of h2', atI_nat (j := 0) e1, _, _, rfl, rfl, .inl ⟨by decide, by decide⟩, _, _, rfl, rfl, ?_⟩
        refine ⟨_, rfl, _, rfl, _, _, rfl, fun z1 _ _ => ?_⟩
        refine ⟨_, _, rfl, fun z2 _ _ => ?_⟩
        refine ⟨_, _, rfl, rfl, (by show (0 : Int) < 1000000; decide), ?_⟩
        exact q _ _ (Int.emod_nonneg _ (by decide)) (Int.emod_lt_of_pos _ (by decide)) dr k1
      · refine ⟨_, rfl, _, rfl, _, _, rfl, fun z1 _ _ => ?_⟩
        refine ⟨_, _, rfl, fun z2 _ _ => ?_⟩
        refine ⟨_, _, rfl, rfl, (by show (0 : Int) < 1000000; decide), ?_⟩
        exact q _ _ (Int.emod_nonneg _ (by decide)) (Int.emod_lt_of_pos _ (by decide)) dr k1
end
/-! ### own errors -/
/-- what the head tells of the class x of errors (over ValueError) -/
structure XC (K : PySem.W.Frag) (mg : Str → Option Value) (x : Str) : Prop where
  g : mg x = some (.ref (He.ga K x))
  ex : PySem.W.excIn K (He.ga K x) [.type "ValueError", .type "Exception", .type "BaseException", .type "object"] "ValueError.__new__" = true
  k : PySem.W.keepIn K (.ref (He.ga K x)) = true
  b : PySem.W.subIn K (.ref (He.ga K x)) (.type "BaseException") = some true
  t : PySem.W.typeIn K (.ref (He.ga K x)) = some (.type "type")
  e : PySem.W.exmOne K (.ref (He.ga K x)) (.ref (He.ga K x)) = some true
  i : ExcC K (He.ga K x)
def xcB (K : PySem.W.Frag) (x : Str) : Bool :=
  PySem.W.excIn K (He.ga K x) [.type "ValueError", .type "Exception", .type "BaseException", .type "object"] "ValueError.__new__" && (PySem.W.keepIn K (.ref (He.ga K x)) && ((PySem.W.subIn K (.ref (He.ga K x)) (.type "BaseException") == some true) && ((PySem.W.typeIn K (.ref (He.ga K x)) == some (.type "type")) &&
  ((PySem.W.exmOne K (.ref (He.ga K x)) (.ref (He.ga K x)) == some true) && ((PySem.W.findIn K (.ref (He.ga K x)) "__getattribute__" == some (some (.builtin "BaseException.__getattribute__"))) && ((PySem.W.findIn K (.ref (He.ga K x)) "__getattr__" == some none) && (PySem.W.hasDictIn K (He.ga K x) &&
  ((PySem.W.findIn K (.ref (He.ga K x)) "__class__" == some (some (.builtin "object.__class__"))) && ((PySem.W.specialIn K (.builtin "object.__class__") "__get__" == some (some (.builtin "getset_descriptor.__get__"))) && ((PySem.W.takesIn K (.builtin "object.__class__") == some true) && (PySem.W.mroIn K (He.ga K x) (.type "object") == some true)))))))))))
theorem xcB_ok {K : PySem.W.Frag} {mg : Str → Option Value} {x : Str} (g : mg x = some (.ref (He.ga K x))) (h : xcB K x = true) : XC K mg x := by
  unfold xcB at h
  simp only [Bool.and_eq_true, beq_iff_eq] at h
  obtain ⟨h1, h2, h3, h4, h5, h6, h7, h8, h9, h10, h11, h12⟩ := h
  exact ⟨g, h1, h2, h3, h4, h5, ⟨h6, h7, h3, h8, h9, h10, h11, h12⟩⟩
/-- isinstance(e, C): of the class x, whether it is under the class c -/
def kitB2 (K : PySem.W.Frag) (x c : Str) (b : Bool) : Bool := PySem.W.kitOne K (.ref (He.ga K x)) (.ref (He.ga K c)) == some b
theorem kitB2_ok {K : PySem.W.Frag} {x c : Str} {b : Bool} (h : kitB2 K x c b = true) : PySem.W.kitOne K (.ref (He.ga K x)) (.ref (He.ga K c)) = some b := beq_iff_eq.mp h
section
variable {X : Cx}
theorem XC.raises {x : Str} {K : PySem.W.Frag} {mg : Str → Option Value} (c : XC K mg x) (hk : X.K = K) : Raises X (.ref (He.ga K x)) := by
  subst hk
  exact raises_own c.b c.t
/-- raise X('m') -/
theorem ps_raiseX {x m : Str} {j : Nat} {p p2 pos pos' : Pos} {W : WX} (c : XC X.K X.mg x) (hc : X.calm = true) (tk : Takes X W) (hg : Gl X x) (hdb : (x == ("__debug__" : Str)) = false := by decide) :
    PS X (.Raise (some (.Call (.Name x p) [.Constant (.str m) j p2] [] pos)) none pos') (fun _ σ H => W (.ref (He.ga X.K x)) none σ H) :=
  ps_raise hc tk (pmk_own PySem.F.excBase_ValueError c.ex c.g c.k (raises_own c.b c.t) hg hdb)
/-- isinstance(e, c) in the suite that holds e -/
theorem call_isE' {a : Addr} {oe : Obj} {cls : Value} {d : Option Addr} {pn : List (Addr × Obj)} (hz : Zc cls d oe) (hf : ∃ vs, oe.data = .fields vs) :
    CallR (X.suite a ((a, oe) :: pn)) (.builtin "isinstance") (fun xs H Q => ∃ (D C : Addr) (b : Bool), cls = .ref D ∧ d = none ∧ ExcC X.K D ∧ xs = [.ref a, .ref C] ∧ PySem.W.kitOne X.K (.ref D) (.ref C) = some b ∧ Q (.bl b) H) := by
  intro pins s σ H xs us Q I r h
  obtain ⟨D, C, b, rfl, rfl, c, rfl, k, q⟩ := h
  exact call_isE c hz hf pins s σ H _ us Q I r ⟨.ref C, .ref C, b, rfl, fun u e => e, k, q⟩
end
/-! ### what stands at the top -/
def thB (K : PySem.W.Frag) (x : Str) (kvs : List (Str × He.Dv)) : Bool := kvs.all fun p => match PySem.W.nsIn K (He.ga K x) p.1 with
  | some (some u) => He.relB (p.2.v K) u
  | _ => false
def msB (K : PySem.W.Frag) (x : Str) (ks : List Str) : Bool := ks.all fun k => match PySem.W.nsIn K (He.ga K x) k with
  | some none => true
  | _ => false
def d_is_whole : He.DefD := ⟨("is_whole", none), "is_whole", "is_whole", defArgs (top 5), defBody (top 5), defScope (top 5), [], []⟩
def d_is_between : He.DefD := ⟨("is_between", none), "is_between", "is_between", defArgs (top 6), defBody (top 6), defScope (top 6), [], []⟩
def d_power : He.DefD := ⟨("power", none), "power", "power", defArgs (top 7), defBody (top 7), defScope (top 7), [], []⟩
def d_is_name : He.DefD := ⟨("is_name", none), "is_name", "is_name", defArgs (top 14), defBody (top 14), defScope (top 14), [], []⟩
def d_are_variables : He.DefD := ⟨("_are_variables", none), "_are_variables", "_are_variables", defArgs (top 24), defBody (top 24), defScope (top 24), [], []⟩
def d_are_different : He.DefD := ⟨("are_different", none), "are_different", "are_different", defArgs (top 25), defBody (top 25), defScope (top 25), [], []⟩
def d_is_rel : He.DefD := ⟨("_is_rel", none), "_is_rel", "_is_rel", defArgs (top 26), defBody (top 26), defScope (top 26), [], []⟩
def d_is_comparison : He.DefD := ⟨("_is_comparison", none), "_is_comparison", "_is_comparison", defArgs (top 27), defBody (top 27), defScope (top 27), [], []⟩
def d_is_negation : He.DefD := ⟨("_is_negation", none), "_is_negation", "_is_negation", defArgs (top 28), defBody (top 28), defScope (top 28), [], []⟩
def d_is_joined : He.DefD := ⟨("_is_joined", none), "_is_joined", "_is_joined", defArgs (top 29), defBody (top 29), defScope (top 29), [], []⟩
def d_is_quantified : He.DefD := ⟨("_is_quantified", none), "_is_quantified", "_is_quantified", defArgs (top 30), defBody (top 30), defScope (top 30), [], []⟩
def d_is_fixed_point : He.DefD := ⟨("_is_fixed_point", none), "_is_fixed_point", "_is_fixed_point", defArgs (top 31), defBody (top 31), defScope (top 31), [], []⟩
def d_is_closure : He.DefD := ⟨("_is_closure", none), "_is_closure", "_is_closure", defArgs (top 32), defBody (top 32), defScope (top 32), [], []⟩
def d_is_guess : He.DefD := ⟨("_is_guess", none), "_is_guess", "_is_guess", defArgs (top 33), defBody (top 33), defScope (top 33), [], []⟩
def d_is_shape : He.DefD := ⟨("is_shape", none), "is_shape", "is_shape", defArgs (top 35), defBody (top 35), defScope (top 35), [], []⟩
def d_inner : He.DefD := ⟨("inner", none), "inner", "inner", defArgs (top 36), defBody (top 36), defScope (top 36), [], []⟩
def d_own : He.DefD := ⟨("own", none), "own", "own", defArgs (top 37), defBody (top 37), defScope (top 37), [], []⟩
def d_bound_name : He.DefD := ⟨("bound_name", none), "bound_name", "bound_name", defArgs (top 38), defBody (top 38), defScope (top 38), [], []⟩
def d_bound_arity : He.DefD := ⟨("bound_arity", none), "bound_arity", "bound_arity", defArgs (top 39), defBody (top 39), defScope (top 39), [], []⟩
def d_check_shapes : He.DefD := ⟨("_check_shapes", none), "_check_shapes", "_check_shapes", defArgs (top 43), defBody (top 43), defScope (top 43), [], []⟩
def d_arities_in : He.DefD := ⟨("arities_in", none), "arities_in", "arities_in", defArgs (top 44), defBody (top 44), defScope (top 44), [], []⟩
def d_is_positive_in : He.DefD := ⟨("is_positive_in", none), "is_positive_in", "is_positive_in", defArgs (top 45), defBody (top 45), defScope (top 45), [], []⟩
def d_check_fixed_points : He.DefD := ⟨("_check_fixed_points", none), "_check_fixed_points", "_check_fixed_points", defArgs (top 46), defBody (top 46), defScope (top 46), [], []⟩
def d_check_formula : He.DefD := ⟨("check_formula", none), "check_formula", "check_formula", defArgs (top 47), defBody (top 47), defScope (top 47), [], []⟩
def d_doublings : He.DefD := ⟨("doublings", none), "doublings", "doublings", defArgs (top 51), defBody (top 51), defScope (top 51), [], []⟩
def d_repetitions : He.DefD := ⟨("_repetitions", none), "_repetitions", "_repetitions", defArgs (top 52), defBody (top 52), defScope (top 52), [], []⟩
def d_known_cost : He.DefD := ⟨("known_cost", none), "known_cost", "known_cost", defArgs (top 53), defBody (top 53), defScope (top 53), [], []⟩
def d_cost : He.DefD := ⟨("cost", none), "cost", "cost", defArgs (top 54), defBody (top 54), defScope (top 54), [], []⟩
def d_law_mixed : He.DefD := ⟨("_law_mixed", none), "_law_mixed", "_law_mixed", defArgs (top 56), defBody (top 56), defScope (top 56), [], []⟩
def d_law_numbers : He.DefD := ⟨("_law_numbers", none), "_law_numbers", "_law_numbers", defArgs (top 57), defBody (top 57), defScope (top 57), [], []⟩
def d_law_draw : He.DefD := ⟨("_law_draw", none), "_law_draw", "_law_draw", defArgs (top 58), defBody (top 58), defScope (top 58), [], []⟩
def d_law_equal : He.DefD := ⟨("_law_equal", none), "_law_equal", "_law_equal", defArgs (top 59), defBody (top 59), defScope (top 59), [], []⟩
def d_law_all_equal : He.DefD := ⟨("_law_all_equal", none), "_law_all_equal", "_law_all_equal", defArgs (top 60), defBody (top 60), defScope (top 60), [], []⟩
def d_law_some_of : He.DefD := ⟨("_law_some_of", none), "_law_some_of", "_law_some_of", defArgs (top 61), defBody (top 61), defScope (top 61), [], []⟩
def d_law_atom : He.DefD := ⟨("_law_atom", none), "_law_atom", "_law_atom", defArgs (top 62), defBody (top 62), defScope (top 62), [], []⟩
def d_law_within : He.DefD := ⟨("_law_within", none), "_law_within", "_law_within", defArgs (top 63), defBody (top 63), defScope (top 63), [], []⟩
def d_law_turned : He.DefD := ⟨("_law_turned", none), "_law_turned", "_law_turned", defArgs (top 64), defBody (top 64), defScope (top 64), [], []⟩
def d_law_barred : He.DefD := ⟨("_law_barred", none), "_law_barred", "_law_barred", defArgs (top 65), defBody (top 65), defScope (top 65), [], []⟩
def d_law_bound : He.DefD := ⟨("_law_bound", none), "_law_bound", "_law_bound", defArgs (top 66), defBody (top 66), defScope (top 66), [], []⟩
def d_law_formula : He.DefD := ⟨("_law_formula", none), "_law_formula", "_law_formula", defArgs (top 67), defBody (top 67), defScope (top 67), [], []⟩
def d_law_names : He.DefD := ⟨("_law_names", none), "_law_names", "_law_names", defArgs (top 68), defBody (top 68), defScope (top 68), [], []⟩
def d_law_parts : He.DefD := ⟨("_law_parts", none), "_law_parts", "_law_parts", defArgs (top 69), defBody (top 69), defScope (top 69), [], []⟩
def d_law_bound_here : He.DefD := ⟨("_law_bound_here", none), "_law_bound_here", "_law_bound_here", defArgs (top 70), defBody (top 70), defScope (top 70), [], []⟩
def d_law_cost : He.DefD := ⟨("_law_cost", none), "_law_cost", "_law_cost", defArgs (top 71), defBody (top 71), defScope (top 71), [], []⟩
def d_law_chain : He.DefD := ⟨("_law_chain", none), "_law_chain", "_law_chain", defArgs (top 72), defBody (top 72), defScope (top 72), [], []⟩
def d_law_refused : He.DefD := ⟨("_law_refused", none), "_law_refused", "_law_refused", defArgs (top 73), defBody (top 73), defScope (top 73), [], []⟩
def d_law : He.DefD := ⟨("law", none), "law", "law", defArgs (top 74), defBody (top 74), defScope (top 74), [], []⟩
def fns : List He.DefD := [d_is_whole, d_is_between, d_power, d_is_name, d_are_variables, d_are_different, d_is_rel, d_is_comparison, d_is_negation, d_is_joined, d_is_quantified, d_is_fixed_point, d_is_closure, d_is_guess, d_is_shape, d_inner, d_own, d_bound_name, d_bound_arity, d_check_shapes, d_arities_in, d_is_positive_in, d_check_fixed_points, d_check_formula, d_doublings, d_repetitions, d_known_cost, d_cost, d_law_mixed, d_law_numbers, d_law_draw, d_law_equal, d_law_all_equal, d_law_some_of, d_law_atom, d_law_within, d_law_turned, d_law_barred, d_law_bound, d_law_formula, d_law_names, d_law_parts, d_law_bound_here, d_law_cost, d_law_chain, d_law_refused, d_law]
def fas : List He.Fa := [.glo "is_whole", .glo "is_between", .glo "power", .glo "is_name", .glo "_are_variables", .glo "are_different", .glo "_is_rel", .glo "_is_comparison", .glo "_is_negation", .glo "_is_joined", .glo "_is_quantified", .glo "_is_fixed_point", .glo "_is_closure", .glo "_is_guess", .glo "is_shape", .glo "inner", .glo "own", .glo "bound_name", .glo "bound_arity", .glo "_check_shapes", .glo "arities_in", .glo "is_positive_in", .glo "_check_fixed_points", .glo "check_formula", .glo "doublings", .glo "_repetitions", .glo "known_cost", .glo "cost", .glo "_law_mixed", .glo "_law_numbers", .glo "_law_draw", .glo "_law_equal", .glo "_law_all_equal", .glo "_law_some_of", .glo "_law_atom", .glo "_law_within", .glo "_law_turned", .glo "_law_barred", .glo "_law_bound", .glo "_law_formula", .glo "_law_names", .glo "_law_parts", .glo "_law_bound_here", .glo "_law_cost", .glo "_law_chain", .glo "_law_refused", .glo "law", .free "len", .free "range", .free "isinstance", .free "list", .free "tuple", .free "bool", .free "int", .free "str", .free "sorted", .free "set", .free "all", .free "any", .free "sum", .free "max", .free "min", .free "dict", .free "enumerate", .free "zip", .int "LONGEST_NAME" 12, .int "LARGEST_SIZE" 16, .int "MOST_JOINED" 40, .int "LARGEST_GUESS" 3, .int "MOST_PARTS" 2000, .int "MOST_DEEP" 40, .int "LARGEST_COST" 1000000000, .int "ENOUGH_DOUBLINGS" 30, .str "LETTERS" "abcdefghijklmnopqrstuvwxyz", .str "FIGURES" "0123456789", .glo "RESERVED", .glo "REL_COUNTS", .glo "OWN_COUNTS", .glo "TC_COUNTS", .glo "LENGTHS", .glo "BODY_AT", .glo "OWN_AT", .glo "TESTS", .glo "BadArgument", .glo "BadFormula"]
def tabs : List He.Tab := [((fun K => He.ga K "LENGTHS"), ["rel", "eq", "less", "not", "and", "or", "some", "all", "lfp", "pfp", "tc", "guess"]), ((fun K => He.ga K "BODY_AT"), ["not", "some", "all", "lfp", "pfp", "tc", "guess"]), ((fun K => He.ga K "OWN_AT"), ["some", "all", "lfp", "pfp", "tc"]), ((fun K => He.ga K "TESTS"), ["rel", "eq", "less", "not", "and", "or", "some", "all", "lfp", "pfp", "tc", "guess"])]
def exs (K : PySem.W.Frag) : Bool := He.tupB K "RESERVED" [.str "and", .str "or", .str "not", .str "some", .str "all", .str "lfp", .str "pfp", .str "tc", .str "guess", .str "true", .str "false"] && (He.tupB K "REL_COUNTS" [.int 0, .int 1, .int 2, .int 3, .int 4, .int 5, .int 6] && (He.tupB K "OWN_COUNTS" [.int 1, .int 2, .int 3, .int 4, .int 5, .int 6] && (He.tupB K "TC_COUNTS" [.int 2, .int 4, .int 6, .int 8] && (thB K "LENGTHS" [("rel", .int 3), ("eq", .int 3), ("less", .int 3), ("not", .int 2), ("and", .int 2), ("or", .int 2), ("some", .int 3), ("all", .int 3), ("lfp", .int 5), ("pfp", .int 5), ("tc", .int 4), ("guess", .int 4)] && (thB K "BODY_AT" [("not", .int 1), ("some", .int 2), ("all", .int 2), ("lfp", .int 3), ("pfp", .int 3), ("tc", .int 2), ("guess", .int 3)] && (thB K "OWN_AT" [("some", .int 1), ("all", .int 1), ("lfp", .int 2), ("pfp", .int 2), ("tc", .int 1)] && (thB K "TESTS" [("rel", .glo "_is_rel"), ("eq", .glo "_is_comparison"), ("less", .glo "_is_comparison"), ("not", .glo "_is_negation"), ("and", .glo "_is_joined"), ("or", .glo "_is_joined"), ("some", .glo "_is_quantified"), ("all", .glo "_is_quantified"), ("lfp", .glo "_is_fixed_point"), ("pfp", .glo "_is_fixed_point"), ("tc", .glo "_is_closure"), ("guess", .glo "_is_guess")] && (msB K "BODY_AT" ["rel", "eq", "less", "and", "or"] && (msB K "OWN_AT" ["rel", "eq", "less", "not", "and", "or", "guess"] && (xcB K "BadArgument" && (kitB2 K "BadArgument" "BadFormula" false)))))))))))
abbrev R : PySem.W.OpenRow := PySem.W.OpenLaw.row PySem.Challenge.rw_sayso_k12_costs_of_formulas
abbrev hk : PySem.W.Hook := He.hookX 4 fas fns tabs [] exs
def ob (s : PySem.W.SharedT) : He.AlX := He.obsX 4 fas fns tabs [] exs (HandSHeadRun.getT s)
theorem ob_eq (s : PySem.W.SharedT) : ob s = hk.obs s.abs := He.obsX_eq (HandSHeadRun.getT_eq s)
def looseN : List PySem.Str := (["SaysoError", "BadFormula", "BadArgument", "is_whole", "is_between", "power", "LONGEST_NAME", "LETTERS", "FIGURES", "RESERVED", "LARGEST_SIZE", "is_name", "MOST_JOINED", "LARGEST_GUESS", "REL_COUNTS", "OWN_COUNTS", "TC_COUNTS", "LENGTHS", "BODY_AT", "OWN_AT", "_are_variables", "are_different", "_is_rel", "_is_comparison", "_is_negation", "_is_joined", "_is_quantified", "_is_fixed_point", "_is_closure", "_is_guess"] : List PySem.Str) ++ (["TESTS", "is_shape", "inner", "own", "bound_name", "bound_arity", "MOST_PARTS", "MOST_DEEP", "_check_shapes", "arities_in", "is_positive_in", "_check_fixed_points", "check_formula", "LARGEST_COST", "ENOUGH_DOUBLINGS", "doublings", "_repetitions", "known_cost", "cost", "_law_mixed", "_law_numbers", "_law_draw", "_law_equal", "_law_all_equal", "_law_some_of", "_law_atom", "_law_within", "_law_turned", "_law_barred", "_law_bound"] : List PySem.Str) ++ (["_law_formula", "_law_names", "_law_parts", "_law_bound_here", "_law_cost", "_law_chain", "_law_refused"] : List PySem.Str)
theorem run_f (w : World) : HandSHeadRun.RunEq R (PySem.W.view R.prog [74]) hk ob 3000 looseN (w.withFollow "special-get-raises" false) := by
  intro os
  kernel_rfl
theorem run_t (w : World) : HandSHeadRun.RunEq R (PySem.W.view R.prog [74]) hk ob 3000 looseN (w.withFollow "special-get-raises" true) := by
  intro os
  kernel_rfl
theorem run (w : World) : HandSHeadRun.RunEq R (PySem.W.view R.prog [74]) hk ob 3000 looseN w :=
  PySem.W.byRow2 "special-get-raises" (P := fun w => HandSHeadRun.RunEq R (PySem.W.view R.prog [74]) hk ob 3000 looseN w) run_f run_t w

/-! ### small helpers -/
def tyN : V → String
  | .non => "NoneType"
  | .bl _ => "bool"
  | .int _ => "int"
  | .str _ => "str"
  | _ => ""
theorem ty_flat {K : PySem.W.Frag} {H : Hp} {v : V} (h : flatV v = true) : TyX K H v (.type (tyN v)) := by
  cases v with
  | non => exact .base .non
  | bl b => exact .base (.bl b)
  | int i => exact .base (.int i)
  | str z => exact .base (.str z)
  | byt b => cases h
  | flt b => cases h
  | ref a => cases h
  | ty n => cases h
theorem cT {k : Bool} {A B : Prop} (h : k = true) (q : A) : if k = true then A else B := by rw [if_pos h]; exact q
theorem cF {k : Bool} {A B : Prop} (h : k = false) (q : B) : if k = true then A else B := by rw [h]; exact iteF q
theorem nd_f {p : Prop} [Decidable p] (h : p) : (!decide p) = false := by rw [decide_eq_true h]; rfl
theorem nd_t {p : Prop} [Decidable p] (h : ¬ p) : (!decide p) = true := by rw [decide_eq_false h]; rfl
theorem isi_q {K : PySem.W.Frag} {i : Nat} {v : V} {n m : String} {b : Bool} {σ : L2.St} {H : Hp} {Q : VK} (e : σ[i]? = some (some v)) (t : TyX K H v (.type m)) (k : kitB m n = some b) (q : Q (.bl b) H) : tCB (rIsi K) (tCons (tVar i) (tCons (tC (.ty n)) tNil)) σ H Q :=
  ⟨_, e, _, _, _, _, _, rfl, .ty _, t, kit_ty k, q⟩
theorem isi_t {K : PySem.W.Frag} {i : Nat} {v : V} {n m : String} {b : Bool} {σ : L2.St} {H : Hp} {Q : Bool → Hp → Prop} (e : σ[i]? = some (some v)) (t : TyX K H v (.type m)) (k : kitB m n = some b) (q : Q b H) : tB (tCB (rIsi K) (tCons (tVar i) (tCons (tC (.ty n)) tNil))) σ H Q :=
  ⟨_, e, _, _, _, _, _, rfl, .ty _, t, kit_ty k, _, rfl, q⟩
/-! ### names -/
def lets : Str := "abcdefghijklmnopqrstuvwxyz"
def figs : Str := "0123456789"
def both : Str := "abcdefghijklmnopqrstuvwxyz0123456789"
def resv : List V := [.str "and", .str "or", .str "not", .str "some", .str "all", .str "lfp", .str "pfp", .str "tc", .str "guess", .str "true", .str "false"]
structure Nm (z : Str) : Prop where
  lo : 1 ≤ z.length
  hi : z.length ≤ 12
  first : ∀ c, z.cps.toList[0]? = some c → c ∈ lets.cps.toList
  res : inV (.str z) resv = false
  all_ : ∀ c, c ∈ z.cps.toList → c ∈ both.cps.toList
noncomputable def isNm (z : Str) : Bool := @decide (Nm z) (Classical.propDecidable _)
theorem isNm_t {z : Str} (h : Nm z) : isNm z = true := by unfold isNm; exact @decide_eq_true _ (_) h
theorem isNm_f {z : Str} (h : ¬ Nm z) : isNm z = false := by unfold isNm; exact @decide_eq_false _ (_) h
theorem both_eq : both.cps.toList = lets.cps.toList ++ figs.cps.toList := by decide +kernel
theorem in_both {c : Nat} : c ∈ both.cps.toList ↔ c ∈ lets.cps.toList ∨ c ∈ figs.cps.toList := by rw [both_eq]; exact List.mem_append
theorem filt_t {α : Type} {l : List α} {p : α → Bool} {i : Nat} {c : α} (h : l[i]? = some c) (hp : p c = true) : (l.take (i + 1)).filter p = (l.take i).filter p ++ [c] := by
  rw [List.take_add_one, h, List.filter_append]
  show _ ++ List.filter p [c] = _
  rw [List.filter_cons_of_pos hp, List.filter_nil]
theorem filt_f {α : Type} {l : List α} {p : α → Bool} {i : Nat} {c : α} (h : l[i]? = some c) (hp : p c = false) : (l.take (i + 1)).filter p = (l.take i).filter p := by
  rw [List.take_add_one, h, List.filter_append]
  show _ ++ List.filter p [c] = _
  rw [List.filter_cons_of_neg (by rw [hp]; exact Bool.false_ne_true), List.filter_nil, List.append_nil]
theorem sz_len (z : Str) : z.cps.toList.length = z.length := by show z.cps.toList.length = z.cps.size; simp
theorem at_sz {z : Str} {i c : Nat} (h : z.cps[i]? = some c) : z.cps.toList[i]? = some c := by simpa using h
def spIsName (K : PySem.W.Frag) : Sp := fun vs H Q _ => (∃ z : Str, vs = [.str z] ∧ z.length ≤ sizeLine ∧ Q (.bl (isNm z)) H) ∨ (∃ (x : V) (t : String), vs = [x] ∧ TyX K H x (.type t) ∧ kitB t "str" = some false ∧ Q (.bl false) H)
section
variable {P : Program} {w : World} {K : PySem.W.Frag} {mg : Str → Option Value} {base : Heap}
theorem sc_is_name : FnScope ["text", "sign"] ["text"] (defScope (top 14)) := ⟨rfl, rfl, rfl, by decide +kernel, rfl, by decide +kernel, by decide +kernel⟩
theorem has_is_name (D : Def K mg "is_name" ["text"] (top 14)) (T : Txt mg) (c1 : ∃ t, mg "LONGEST_NAME" = some (.int 12 t)) (c2 : ∃ t, mg "LETTERS" = some (.str lets t)) (c3 : ∃ t, mg "FIGURES" = some (.str figs t))
    (c_RESERVED : mg "RESERVED" = some (.ref (He.ga K "RESERVED"))) (rs : ∀ H : Hp, SqT K H (He.ga K "RESERVED") resv) : Has P w K mg base 1 "is_name" ["text"] (spIsName K) := D.has fun f fd F => by
  obtain ⟨t1, c_LONGEST_NAME⟩ := c1
  obtain ⟨t2, c_LETTERS⟩ := c2
  obtain ⟨t3, c_FIGURES⟩ := c3
  refine F.ok sc_is_name (fun vs H Q E h => ?_) (fun cdv A outer s H vs Q E hr h => ?_)
  · rcases h with ⟨z, rfl, _⟩ | ⟨x, t, rfl, _⟩ <;> rfl
  · refine ⟨_, PSs.nox (pss_cons (ps_if (PW.pt (pw_or (pt_not (pt_val (pe_callB call_isi (by rfl) T.n_isinstance (by decide +kernel) (pa_cons (pv 0) (pa_cons (pe_bltn (v := .ty "str") (by rfl) T.n_str (by decide +kernel) rfl) pa_nil))))) (pw_or1 (pt_not (pt_chain op_le op_le pe_int (pe_callB call_len_str (by rfl) T.n_len PySem.boot_len (pa_cons (pv 0) pa_nil)) (pe_glob (v := .int 12) (by rfl) c_LONGEST_NAME ⟨_, rfl⟩)))))) (pss_one (ps_ret pe_bl)) pss_nil) (pss_cons (ps_if (PW.pt (pw_or (pt_cmpR op_notIn_sign (pe_ix ix_str (pv 0) pe_int (fun _ _ => rfl)) (pe_glob (v := .str "abcdefghijklmnopqrstuvwxyz") (by rfl) c_LETTERS ⟨_, rfl⟩) (by rfl)) (pw_or1 (pt_cmpR op_in_seq (pv 0) (pe_glob (v := .ref (He.ga K "RESERVED")) (by rfl) c_RESERVED rfl) (by rfl))))) (pss_one (ps_ret pe_bl)) pss_nil) (pss_cons (ps_for PassesOwn.never rfl (pi_str (pv 0)) (pg_name (i := 1) sc_is_name.nd rfl (Or.inl rfl)) (pss_one (ps_if (PW.pt (pw_and (pt_cmpR op_notIn_sign (pv 1) (pe_glob (v := .str "abcdefghijklmnopqrstuvwxyz") (by rfl) c_LETTERS ⟨_, rfl⟩) (by rfl)) (pw_and1 (pt_cmpR op_notIn_sign (pv 1) (pe_glob (v := .str "0123456789") (by rfl) c_FIGURES ⟨_, rfl⟩) (by rfl))))) (pss_one (ps_ret pe_bl)) pss_nil))) (pss_one (ps_ret pe_bl))))), ?_⟩
    rcases h with ⟨z, rfl, hz, q⟩ | ⟨x, t, rfl, tx, hk, q⟩
    · have qf : ¬ Nm z → Q (.bl false) H := fun n => by rw [isNm_f n] at q; exact q
      have qt : Nm z → Q (.bl true) H := fun n => by rw [isNm_t n] at q; exact q
      refine ⟨_, rfl, _, _, _, _, _, rfl, .ty _, .base (.str z), kit_ty (b := "str") (r := true) (by decide +kernel), _, rfl, iteF ?_⟩
      refine ⟨_, rfl, _, rfl, hz, _, _, rfl, rfl, _, rfl, ite2 (fun e => ?_) (fun e => ?_)⟩
      · refine ⟨_, _, rfl, rfl, _, rfl, ?_⟩
        have e1 := of_decide_eq_true e
        by_cases h12 : ((z.length : Nat) : Int) ≤ 12
        · refine cF (nd_f h12) ?_
          have hl1 : 0 < z.cps.toList.length := by rw [sz_len]; omega
          have e0 : z.cps.toList[0]? = some (z.cps.toList[0]) := List.getElem?_eq_getElem hl1
          refine ⟨_, rfl, z, _, _, rfl, rfl, hz, atI_nat (j := 0) e0, _, _, rfl, rfl, _, rfl, ?_⟩
          by_cases hf : z.cps.toList[0] ∈ lets.cps.toList
          · refine cF (nd_f hf) ⟨_, rfl, _, _, rfl, .inr (rs _), rfl, rfl, _, rfl, ?_⟩
            by_cases hr2 : inV (.str z) resv = true
            · exact cT hr2 (qf fun n => by rw [n.res] at hr2; cases hr2)
            · have hr3 : inV (.str z) resv = false := by simpa using hr2
              refine cF hr3 ?_
              refine ⟨_, rfl, z, rfl, for_it walk_str (fun i σ H2 => ∃ y1, σ = [some (.str z), y1] ∧ H2 = H ∧ ∀ c, c ∈ z.cps.toList.take i → c ∈ both.cps.toList) ⟨none, rfl, rfl, fun c hc => by simp at hc⟩ (fun _ _ _ _ _ => trivial) ?_ ?_⟩
              · rintro i y σ H2 H3 hi ⟨y1, rfl, rfl, ha⟩ ⟨rfl, c, hc, rfl⟩
                have hc' := at_sz hc
                have next : c ∈ both.cps.toList → ∃ y1 : Option V, ([some (V.str z), some (V.str ⟨#[c]⟩)] : L2.St) = [some (.str z), y1] ∧ H3 = H3 ∧ ∀ c', c' ∈ z.cps.toList.take (i + 1) → c' ∈ both.cps.toList := fun hb => ⟨_, rfl, rfl, fun c' h' => by
                  rw [List.take_add_one, hc'] at h'
                  rcases List.mem_append.mp h' with h' | h'
                  · exact ha c' h'
                  · have e3 : c' = c := by simpa using h'
                    rw [e3]; exact hb⟩
                refine ⟨_, rfl, _, _, rfl, rfl, _, rfl, ?_⟩
                by_cases h1 : c ∈ lets.cps.toList
                · exact cF (nd_f h1) (iteF (next (in_both.mpr (.inl h1))))
                · refine cT (nd_t h1) ⟨_, rfl, _, _, rfl, rfl, _, rfl, ?_⟩
                  by_cases h2 : c ∈ figs.cps.toList
                  · exact cF (nd_f h2) (next (in_both.mpr (.inr h2)))
                  · refine cT (nd_t h2) (qf fun n => ?_)
                    rcases in_both.mp (n.all_ c (List.mem_of_getElem? hc')) with h3 | h3
                    · exact h1 h3
                    · exact h2 h3
              · rintro σ H2 ⟨y1, rfl, rfl, ha⟩
                refine qt ⟨by omega, by omega, fun c hc => by rw [e0] at hc; rw [← Option.some.inj hc]; exact hf, by simpa using hr2, fun c hc => ha c ?_⟩
                rw [List.take_of_length_le (by simp)]
                exact hc
          · exact cT (nd_t hf) (cT rfl (qf fun n => hf (n.first _ e0)))
        · exact cT (nd_t h12) (qf fun n => h12 (by have := n.hi; omega))
      · exact ⟨_, rfl, cT (k := !false) rfl (qf fun n => e (decide_eq_true (by have := n.lo; omega)))⟩
    · exact ⟨_, rfl, _, _, _, _, _, rfl, .ty _, tx, kit_ty (b := "str") (r := false) hk, _, rfl, iteT q⟩
end
/-! ### set(xs) of a list or a tuple of ints and texts: what it holds, how many -/
theorem sub_len {α : Type} [DecidableEq α] : ∀ (d l : List α), d.Nodup → (∀ x, x ∈ d → x ∈ l) → d.length ≤ l.length
  | [], _, _, _ => Nat.zero_le _
  | x :: d, l, nd, sub => by
    have two := List.nodup_cons.mp nd
    have inl := sub x (List.mem_cons_self ..)
    have step := sub_len d (l.erase x) two.2 (fun y hy => (List.mem_erase_of_ne (fun e => two.1 (by rw [← e]; exact hy))).mpr (sub y (List.mem_cons_of_mem _ hy)))
    have shorter := List.length_erase_of_mem inl
    have some_ := List.length_pos_of_mem inl
    simp only [List.length_cons]
    omega
theorem dup_shorter {α : Type} [DecidableEq α] : ∀ (l : List α), ¬ l.Nodup → ∃ l' : List α, l'.length < l.length ∧ ∀ x, x ∈ l → x ∈ l'
  | [], h => absurd List.nodup_nil h
  | x :: l, h => by
    by_cases hx : x ∈ l
    · exact ⟨l, Nat.lt_succ_self _, fun y hy => (List.mem_cons.mp hy).elim (fun e => by rw [e]; exact hx) id⟩
    · obtain ⟨l', h1, h2⟩ := dup_shorter l (fun hl => h (List.nodup_cons.mpr ⟨hx, hl⟩))
      refine ⟨x :: l', Nat.succ_lt_succ h1, fun y hy => ?_⟩
      rcases List.mem_cons.mp hy with e | hy
      · rw [e]; exact List.mem_cons_self ..
      · exact List.mem_cons_of_mem _ (h2 y hy)
/-- c different ones in l -/
def Cnt {α : Type} (l : List α) (c : Nat) : Prop := ∃ d : List α, d.Nodup ∧ (∀ k, k ∈ d ↔ k ∈ l) ∧ d.length = c
theorem Cnt.nil {α : Type} : Cnt ([] : List α) 0 := ⟨[], List.nodup_nil, fun _ => Iff.rfl, rfl⟩
theorem Cnt.old {α : Type} {l : List α} {c : Nat} {k : α} (h : Cnt l c) (hk : k ∈ l) : Cnt (l ++ [k]) c := by
  obtain ⟨d, h1, h2, h3⟩ := h
  refine ⟨d, h1, fun x => (h2 x).trans ⟨List.mem_append_left _, fun hx => ?_⟩, h3⟩
  rcases List.mem_append.mp hx with hx | hx
  · exact hx
  · rw [List.mem_singleton.mp hx]; exact hk
theorem Cnt.new {α : Type} {l : List α} {c : Nat} {k : α} (h : Cnt l c) (hk : ¬ k ∈ l) : Cnt (l ++ [k]) (c + 1) := by
  obtain ⟨d, h1, h2, h3⟩ := h
  refine ⟨k :: d, List.nodup_cons.mpr ⟨fun hd => hk ((h2 k).mp hd), h1⟩, fun x => ?_, by rw [List.length_cons, h3]⟩
  rw [List.mem_cons, h2 x, List.mem_append, List.mem_singleton]
  exact Or.comm
theorem Cnt.le {α : Type} [DecidableEq α] {l : List α} {c : Nat} (h : Cnt l c) : c ≤ l.length := by
  obtain ⟨d, h1, h2, rfl⟩ := h
  exact sub_len d l h1 fun x hx => (h2 x).mp hx
theorem Cnt.all {α : Type} [DecidableEq α] {l : List α} {c : Nat} (h : Cnt l c) : c = l.length ↔ l.Nodup := by
  obtain ⟨d, h1, h2, rfl⟩ := h
  constructor
  · intro e
    by_cases hn : l.Nodup
    · exact hn
    · obtain ⟨l', a, b⟩ := dup_shorter l hn
      have := sub_len d l' h1 fun x hx => b x ((h2 x).mp hx)
      omega
  · intro hn
    exact Nat.le_antisymm (sub_len d l h1 fun x hx => (h2 x).mp hx) (sub_len l d hn fun x hx => (h2 x).mpr hx)
section
variable {P : Program} {w : World} {A : Around} {E : Value → Shared → Prop} {R : Result → Shared → Prop} {it : Addr} {fp wr : List Addr} {G : Array GenState → Array GenState → Prop} {n : Nat} {Pv : Nat → Value → Prop} {St : Nat → Shared → Prop}
theorem setOf_moves {h h' : Heap} {a : Addr} {S : Key → Bool} {c : Nat} (q : h.SetOf (mixKind P w) a S c) (k : ∀ o, h.get? a = some o → h'.get? a = some o) : h'.SetOf (mixKind P w) a S c := setOf_at q k
/-- k stands in l -/
def memK (l : List Key) (k : Key) : Bool := l.any fun j => decide (j = k)
theorem memK_iff {l : List Key} {k : Key} : memK l k = true ↔ k ∈ l := by
  unfold memK
  rw [List.any_eq_true]
  exact ⟨fun ⟨x, h1, h2⟩ => of_decide_eq_true h2 ▸ h1, fun h => ⟨k, h, decide_eq_true rfl⟩⟩
theorem memK_snoc {l : List Key} {k j : Key} : memK (l ++ [k]) j = (memK l j || decide (j = k)) := by
  unfold memK
  rw [List.any_append, List.any_cons, List.any_nil, Bool.or_false]
  congr 1
  exact decide_eq_decide.mpr ⟨Eq.symm, Eq.symm⟩
theorem setOf_as {h : Heap} {a : Addr} {S S' : Key → Bool} {c : Nat} (q : h.SetOf (mixKind P w) a S c) (e : ∀ k, S k = S' k) : h.SetOf (mixKind P w) a S' c := by
  have e' : S = S' := funext e
  rw [← e']; exact q
/-- the loop of set.update, one key a turn -/
theorem keys_loop (W : WalksS P w A.in1 it fp wr G n Pv St) (S : Addr) (out : S ∉ fp) (ks : List Key) (len : n = ks.length) (room : n + 1 < scanBound)
    (val : ∀ i v, Pv i v → ∃ k, ks[i]? = some k ∧ keyIs k v = true ∧ v.scannable = true) : ∀ (m i : Nat) (s : Shared), n - i = m → i ≤ n → St i s →
      (∃ c, Cnt (ks.take i) c ∧ s.heap.SetOf (mixKind P w) S (memK (ks.take i)) c) →
      (∀ s' c, Moved (S :: wr) G s s' → Cnt ks c → s'.heap.SetOf (mixKind P w) S (memK ks) c → R (.ok (.ret .none)) s') → codeAny (model P w) A (.builtin "set.update.loop" ⟨[.ref S, .ref it], []⟩) R s := by
  have outW : S ∉ wr := fun z => out (W.sub _ z)
  have wider : ∀ b ∈ wr, b ∈ S :: wr := fun _ z => List.mem_cons_of_mem _ z
  intro m
  induction m with
  | zero =>
    intro i s e1 e2 st ⟨c, hc, hS⟩ fin
    have ei : i = n := by omega
    subst ei
    refine codeAny_builtin F.entry_set_update_loop ?_; rw [Around.under_plainId F.plain_set_update_loop _]
    show wpAny _ A.in1 (pyNext (.ref it) >>= _) _ _ s
    refine wpAny_bind (W.done s _ _ st fun s' mv => ?_)
    have all : ks.take i = ks := List.take_of_length_le (Nat.le_of_eq len.symm)
    rw [all] at hc hS
    exact wpAny_pure (fin s' c (mv.mono wider) hc (setOf_moves hS fun o z => mv.heap S o outW z))
  | succ m ih =>
    intro i s e1 e2 st ⟨c, hc, hS⟩ fin
    refine codeAny_builtin F.entry_set_update_loop ?_; rw [Around.under_plainId F.plain_set_update_loop _]
    show wpAny _ A.in1 (pyNext (.ref it) >>= _) _ _ s
    refine wpAny_bind (W.item i s _ _ (by omega) st fun v s' pv st' mv => ?_)
    obtain ⟨k, hk, kv, sc⟩ := val i v pv
    have nx : ks.take (i + 1) = ks.take i ++ [k] := by rw [List.take_add_one, hk]; rfl
    have hS' := setOf_moves hS fun o z => mv.heap S o outW z
    have cl : c ≤ i := Nat.le_trans hc.le (List.length_take_le _ _)
    show wpAny _ A.in1 (holding [v] (setAdd S v) >>= _) _ _ s'
    refine wpAny_bind (wpAny_holding ?_); unfold setAdd; refine wpAny_holding (wpAny_bind ((mixKind P w).pyHash (k := k) kv ?_))
    refine wpAny_setAddHashed_of (knd := mixKind P w) (s := { s' with toks := s'.toks + 1 }) kv sc hS' (by omega) fun h2 same hS2 => ?_
    have inv2 : ∃ c2, Cnt (ks.take (i + 1)) c2 ∧ h2.SetOf (mixKind P w) S (memK (ks.take (i + 1))) c2 := by
      cases hm : memK (ks.take i) k with
      | true =>
        refine ⟨c, nx ▸ hc.old (memK_iff.mp hm), ?_⟩
        rw [hm, if_pos rfl] at hS2
        exact setOf_as hS2 fun j => by rw [nx, memK_snoc]
      | false =>
        refine ⟨c + 1, nx ▸ hc.new (fun z => by rw [memK_iff.mpr z] at hm; cases hm), ?_⟩
        rw [hm, if_neg Bool.false_ne_true] at hS2
        exact setOf_as hS2 fun j => by rw [nx, memK_snoc]
    refine wpAny_pure ⟨plainId_quiet F.plain_set_update_loop _, ih (i + 1) _ (by omega) (by omega) (W.frame _ s' _ _ st' (Nat.le_succ _) fun b hb o z => ?_) inv2 fun s3 c3 mv3 hc3 hS3 => ?_⟩
    · exact (same.2 b (fun e => out (e ▸ hb))).trans z
    · refine fin s3 c3 (Moved.trans W.gtrans ((mv.mono wider).then_heap (Nat.le_succ _) fun b o hb z => ?_) mv3) hc3 hS3
      exact (same.2 b (fun e => hb (e ▸ List.mem_cons_self ..))).trans z
end
section
variable {P : Program} {w : World} {A : Around} {E : Value → Shared → Prop} {s : Shared}
abbrev emptySet (led : Bool) : Obj := { cls := .type "set", dict := none, data := .set #[] 0 (.fresh 0 0 led) }
theorem empty_setOf {h : Heap} {a : Addr} {led : Bool} (e : h.get? a = some (emptySet led)) : h.SetOf (mixKind P w) a (fun _ => false) 0 :=
  ⟨_, #[], 0, _, e, ⟨rfl, rfl, rfl⟩, rfl, fun z hz => (by simp at hz), fun k => (by simp), by decide, rfl, rfl⟩
set_option maxHeartbeats 8000000 in
/-- set(l), l a tuple of keys -/
theorem set_of_tuple {l : Addr} {items : Array Value} {ks : List Key} {Q : Value → Shared → Prop} (hh : A.handled = none) (src : s.heap.IsTuple l items) (len : items.size = ks.length) (room : ks.length + 1 < scanBound)
    (val : ∀ (i : Nat) (v : Value), items[i]? = some v → ∃ k, ks[i]? = some k ∧ keyIs k v = true ∧ v.scannable = true)
    (fin : ∀ h' tk c, Cnt ks c → h'.SetOf (mixKind P w) s.heap.objs.size (memK ks) c → (∀ b o, s.heap.get? b = some o → h'.get? b = some o) → Q (.ref s.heap.objs.size) { s with heap := h', toks := tk }) :
    wpAny (model P w) A (call (.type "set") [.ref l]) Q E s := by
  have ⟨mc, mt, mro⟩ := F.called_set.mro; have made := F.called_set.made; have subs := F.called_set.sub
  refine wpAny_call (codeAny_of_tree ?_); show wpAny _ _ (callAny (.type "set") _) _ _ _
  refine wpAny_pure ⟨Code.quiet_builtin _ (by decide +kernel), codeAny_builtin F.entry_type_call ?_⟩; rw [Around.under_plain (weight_type_call_type "set" [.ref l] []) rfl]
  have f1 := F.called_set.notType; have f2 := F.called_set.canCreate; have f3 := F.typeCall_set_1 (.ref l)
  repeat (any_goals (first | assumption | wp_step))
  refine codeAny_mono (code_set_new_1 (.ref l) (E := E) (Q₁ := fun ob s1 => ∃ led : Bool, ob = .ref s.heap.objs.size ∧ s1 = { s with heap := s.heap.push (emptySet led) }) fun led => ⟨led, rfl, rfl⟩) fun r s1 hr => ?_
  rcases r with e | fl
  · exact hr
  rcases fl with _ | _ | _ | ob
  all_goals first | exact hr.elim | skip
  obtain ⟨led, rfl, rfl⟩ := hr
  have at0 : (s.heap.push (emptySet led)).get? s.heap.objs.size = some (emptySet led) := Heap.get?_push_size _ rfl
  have isS : Shared.TypeIs { s with heap := s.heap.push (emptySet led) } (.ref s.heap.objs.size) "set" := ⟨_, at0, rfl⟩
  have f4 := F.called_set.init.lookup; have f5 := F.called_set.init.bind (.ref s.heap.objs.size)
  repeat (any_goals (first | assumption | wp_step))
  refine codeAny_mono (codeAny_call_builtin (R := wants (fun r s2 => r = .none ∧ ∃ h' tk c, s2 = { s with heap := h', toks := tk } ∧ Cnt ks c ∧ h'.SetOf (mixKind P w) s.heap.objs.size (memK ks) c ∧ ∀ b o, s.heap.get? b = some o → h'.get? b = some o) E)
    F.called_set.init.plain F.entry_set_init (check_set_init_1 isS ?_)) fun r2 s2 hr2 => ?_
  · obtain ⟨ol, atl, cl, nl, dl⟩ := src; obtain ⟨oc, od, odt, osl⟩ := ol; simp only at cl dl; subst cl dl
    have ltl : l < s.heap.objs.size := Heap.lt_size atl
    have at1 : (s.heap.push (emptySet led)).get? l = some { cls := .type "tuple", dict := od, data := .seq items nl, slots := osl } := Heap.get?_push_of_some _ atl
    have g1 := F.sub_tuple_set; have g2 := F.sub_tuple_frozenset; have g3 : (Value.type "tuple" == Value.type "dict") = false := by decide
    have src1 : (s.heap.push (emptySet led)).IsTuple l items := ⟨_, at1, rfl, nl, rfl⟩
    have szp : (s.heap.push (emptySet led)).objs.size = s.heap.objs.size + 1 := Heap.size_push ..
    unfold Builtin.«set.__init__» noKeywords Builtin.Frozenset.updateFrom
    generalize keepIter : pyIter = PI
    wp_walk
    subst keepIter
    refine wpAny_pyIter_tuple src1 (wpAny_bind (wpAny_runValue ?_))
    have neI : l ≠ (s.heap.push (emptySet led)).objs.size := by rw [szp]; exact Nat.ne_of_lt (Nat.lt_succ_of_lt ltl)
    have notIn : s.heap.objs.size ∉ [(s.heap.push (emptySet led)).objs.size, l] := fun z => by
      rw [szp] at z
      rcases List.mem_cons.mp z with z | z
      · exact absurd z (Nat.ne_of_lt (Nat.lt_succ_self _))
      · exact absurd (List.mem_singleton.mp z).symm (Nat.ne_of_lt ltl)
    refine keys_loop ((Walks.tuple (show A.in1.in1.in1.handled = none by simp [hh]) _ l neI items).toS) s.heap.objs.size notIn ks len (by rw [len]; exact room) val (items.size - 0) 0 _ (by omega) (Nat.zero_le _)
      ⟨⟨_, Heap.get?_push_size _ rfl, rfl, rfl⟩, src1.push _⟩ ⟨0, .nil, ?_⟩ fun s' c mv hc hS => ?_
    · exact setOf_as (empty_setOf (led := led) (Heap.get?_push_of_some _ at0)) fun k => rfl
    · obtain ⟨h', g', d', tk', os'⟩ := s'
      obtain rfl : g' = s.gens := mv.gens
      obtain rfl : d' = s.drawn := mv.drawn
      obtain rfl : os' = s.os := mv.os
      refine wpAny_pure (wpAny_pure ⟨rfl, h', tk', c, rfl, hc, hS, fun b o z => ?_⟩)
      have lb := Heap.lt_size z
      refine mv.heap b o (fun hm => ?_) (Heap.get?_push_of_some _ (Heap.get?_push_of_some _ z))
      rcases List.mem_cons.mp hm with e | hm
      · exact absurd e (Nat.ne_of_lt lb)
      · have e := List.mem_singleton.mp hm
        rw [szp] at e
        exact absurd e (Nat.ne_of_lt (Nat.lt_succ_of_lt lb))
  · rcases r2 with e | fl2
    · exact hr2
    rcases fl2 with _ | _ | _ | r
    all_goals first | exact hr2.elim | skip
    obtain ⟨rfl, h', tk, c, rfl, hc, hS, hk⟩ := hr2
    repeat (any_goals (first | assumption | wp_step))
    exact fin _ _ _ hc hS hk
set_option maxHeartbeats 8000000 in
/-- set(l), l a list of keys -/
theorem set_of_list {l : Addr} {items : Array Value} {ks : List Key} {Q : Value → Shared → Prop} (hh : A.handled = none) (src : s.heap.IsList l items) (len : items.size = ks.length) (room : ks.length + 1 < scanBound)
    (val : ∀ (i : Nat) (v : Value), items[i]? = some v → ∃ k, ks[i]? = some k ∧ keyIs k v = true ∧ v.scannable = true)
    (fin : ∀ h' tk c, Cnt ks c → h'.SetOf (mixKind P w) s.heap.objs.size (memK ks) c → (∀ b o, s.heap.get? b = some o → h'.get? b = some o) → Q (.ref s.heap.objs.size) { s with heap := h', toks := tk }) :
    wpAny (model P w) A (call (.type "set") [.ref l]) Q E s := by
  have ⟨mc, mt, mro⟩ := F.called_set.mro; have made := F.called_set.made; have subs := F.called_set.sub
  refine wpAny_call (codeAny_of_tree ?_); show wpAny _ _ (callAny (.type "set") _) _ _ _
  refine wpAny_pure ⟨Code.quiet_builtin _ (by decide +kernel), codeAny_builtin F.entry_type_call ?_⟩; rw [Around.under_plain (weight_type_call_type "set" [.ref l] []) rfl]
  have f1 := F.called_set.notType; have f2 := F.called_set.canCreate; have f3 := F.typeCall_set_1 (.ref l)
  repeat (any_goals (first | assumption | wp_step))
  refine codeAny_mono (code_set_new_1 (.ref l) (E := E) (Q₁ := fun ob s1 => ∃ led : Bool, ob = .ref s.heap.objs.size ∧ s1 = { s with heap := s.heap.push (emptySet led) }) fun led => ⟨led, rfl, rfl⟩) fun r s1 hr => ?_
  rcases r with e | fl
  · exact hr
  rcases fl with _ | _ | _ | ob
  all_goals first | exact hr.elim | skip
  obtain ⟨led, rfl, rfl⟩ := hr
  have at0 : (s.heap.push (emptySet led)).get? s.heap.objs.size = some (emptySet led) := Heap.get?_push_size _ rfl
  have isS : Shared.TypeIs { s with heap := s.heap.push (emptySet led) } (.ref s.heap.objs.size) "set" := ⟨_, at0, rfl⟩
  have f4 := F.called_set.init.lookup; have f5 := F.called_set.init.bind (.ref s.heap.objs.size)
  repeat (any_goals (first | assumption | wp_step))
  refine codeAny_mono (codeAny_call_builtin (R := wants (fun r s2 => r = .none ∧ ∃ h' tk c, s2 = { s with heap := h', toks := tk } ∧ Cnt ks c ∧ h'.SetOf (mixKind P w) s.heap.objs.size (memK ks) c ∧ ∀ b o, s.heap.get? b = some o → h'.get? b = some o) E)
    F.called_set.init.plain F.entry_set_init (check_set_init_1 isS ?_)) fun r2 s2 hr2 => ?_
  · obtain ⟨ol, atl, cl, nl, dl⟩ := src; obtain ⟨oc, od, odt, osl⟩ := ol; simp only at cl dl; subst cl dl
    have ltl : l < s.heap.objs.size := Heap.lt_size atl
    have at1 : (s.heap.push (emptySet led)).get? l = some { cls := .type "list", dict := od, data := .seq items nl, slots := osl } := Heap.get?_push_of_some _ atl
    have g1 := F.sub_list_set; have g2 := F.sub_list_frozenset; have g3 : (Value.type "list" == Value.type "dict") = false := by decide
    have src1 : (s.heap.push (emptySet led)).IsList l items := ⟨_, at1, rfl, nl, rfl⟩
    have szp : (s.heap.push (emptySet led)).objs.size = s.heap.objs.size + 1 := Heap.size_push ..
    unfold Builtin.«set.__init__» noKeywords Builtin.Frozenset.updateFrom
    generalize keepIter : pyIter = PI
    wp_walk
    subst keepIter
    refine wpAny_pyIter_list src1 (wpAny_bind (wpAny_runValue ?_))
    have neI : l ≠ (s.heap.push (emptySet led)).objs.size := by rw [szp]; exact Nat.ne_of_lt (Nat.lt_succ_of_lt ltl)
    have notIn : s.heap.objs.size ∉ [(s.heap.push (emptySet led)).objs.size, l] := fun z => by
      rw [szp] at z
      rcases List.mem_cons.mp z with z | z
      · exact absurd z (Nat.ne_of_lt (Nat.lt_succ_self _))
      · exact absurd (List.mem_singleton.mp z).symm (Nat.ne_of_lt ltl)
    refine keys_loop ((Walks.list (show A.in1.in1.in1.handled = none by simp [hh]) _ l neI items).toS) s.heap.objs.size notIn ks len (by rw [len]; exact room) val (items.size - 0) 0 _ (by omega) (Nat.zero_le _)
      ⟨⟨_, Heap.get?_push_size _ rfl, rfl, rfl⟩, src1.push _⟩ ⟨0, .nil, ?_⟩ fun s' c mv hc hS => ?_
    · exact setOf_as (empty_setOf (led := led) (Heap.get?_push_of_some _ at0)) fun k => rfl
    · obtain ⟨h', g', d', tk', os'⟩ := s'
      obtain rfl : g' = s.gens := mv.gens
      obtain rfl : d' = s.drawn := mv.drawn
      obtain rfl : os' = s.os := mv.os
      refine wpAny_pure (wpAny_pure ⟨rfl, h', tk', c, rfl, hc, hS, fun b o z => ?_⟩)
      have lb := Heap.lt_size z
      refine mv.heap b o (fun hm => ?_) (Heap.get?_push_of_some _ (Heap.get?_push_of_some _ z))
      rcases List.mem_cons.mp hm with e | hm
      · exact absurd e (Nat.ne_of_lt lb)
      · have e := List.mem_singleton.mp hm
        rw [szp] at e
        exact absurd e (Nat.ne_of_lt (Nat.lt_succ_of_lt lb))
  · rcases r2 with e | fl2
    · exact hr2
    rcases fl2 with _ | _ | _ | r
    all_goals first | exact hr2.elim | skip
    obtain ⟨rfl, h', tk, c, rfl, hc, hS, hk⟩ := hr2
    repeat (any_goals (first | assumption | wp_step))
    exact fin _ _ _ hc hS hk
end
section
variable {X : Cx}
theorem keys_val : ∀ {ks : List Key} {us : List Value}, Vals (ks.map kV) us → ∀ (i : Nat) (v : Value), us[i]? = some v → ∃ k, ks[i]? = some k ∧ keyIs k v = true ∧ v.scannable = true
  | [], _, .nil, i, v, h => by simp at h
  | k :: ks, _, .cons r t, 0, v, h => by
    have e := Option.some.inj h
    subst e
    exact ⟨k, rfl, by cases k with | inl i => obtain ⟨t, rfl⟩ := r; exact keyIs_int i t | inr x => obtain ⟨t, rfl⟩ := r; exact keyIs_str x t, key_scan r⟩
  | k :: ks, _, .cons r t, i + 1, v, h => keys_val t i v h
/-- set(xs), xs a list or a tuple of ints and texts -/
def rSetK (K : PySem.W.Frag) (P : Program) (w : World) : List V → Hp → VK → Prop := fun xs H Q => ∃ (l : Addr) (ks : List Key), xs = [V.ref l] ∧ (SqL K H l (ks.map kV) ∨ SqT K H l (ks.map kV)) ∧ ks.length ≤ 4000 ∧
  ∀ p c, H p = none → Cnt ks c → Q (.ref p) (upd H p (SetK P w p (memK ks) c))
theorem cr_setK (hc : X.calm = true) : CallR X (.type "set") (rSetK X.K X.prog X.w) := by
  intro pins s σ H xs us Q I r h
  obtain ⟨l, ks, rfl, hq, few, q⟩ := h
  rw [Vals.ref1 r]
  have new := I.hok.fresh (Nat.le_refl s.heap.objs.size)
  have small : ks.length + 1 < scanBound := Nat.lt_of_le_of_lt (Nat.succ_le_succ few) (by decide)
  rcases hq with hq | hq
  · obtain ⟨its, rv, pl, hz⟩ := I.list hq
    refine set_of_list (I.ok.hd hc) pl.isList (by rw [List.size_toArray, ← rv.length, List.length_map]) small (fun i v hv => keys_val rv i v (by simpa using hv)) fun h' tk c hcn hS k => ?_
    exact ⟨.ref s.heap.objs.size, upd H s.heap.objs.size (SetK X.prog X.w s.heap.objs.size (memK ks) c), I.laid (t' := tk) k (Nat.le_refl _) (setK_new hS), rfl, q _ c new hcn⟩
  · obtain ⟨its, rv, tp, hz⟩ := I.tuple hq
    refine set_of_tuple (I.ok.hd hc) (show s.heap.IsTuple l its.toArray from tp) (by rw [List.size_toArray, ← rv.length, List.length_map]) small (fun i v hv => keys_val rv i v (by simpa using hv)) fun h' tk c hcn hS k => ?_
    exact ⟨.ref s.heap.objs.size, upd H s.heap.objs.size (SetK X.prog X.w s.heap.objs.size (memK ks) c), I.laid (t' := tk) k (Nat.le_refl _) (setK_new hS), rfl, q _ c new hcn⟩
/-- len of a set of keys -/
def rLenSK (P : Program) (w : World) : List V → Hp → VK → Prop := fun xs H Q => ∃ (a : Addr) (S : Key → Bool) (n : Nat), xs = [V.ref a] ∧ H a = some (SetK P w a S n) ∧ Q (.int n) H
theorem call_lenSK : CallR X (.builtin "len") (rLenSK X.prog X.w) := by
  intro pins s σ H xs us Q I r h
  obtain ⟨a, S, n, rfl, ha, q⟩ := h
  rw [Vals.ref1 r]
  obtain ⟨o, es, ep, t, ho, hex, hd, _, _, hb, hf, hn⟩ := setK_get I ha
  have fit : (es.size : Int) < 2 ^ 63 := by
    have h1 : es.size < 4096 := hb
    omega
  exact call_len_set ho hex hd hf fit ⟨.int n, H, I.tok _, ⟨_, by rw [hn]⟩, q⟩
end
/-! ### formulas as data -/
inductive Hd where
  | rel (n : Str) (as : List Str)
  | eq (x y : Str)
  | less (x y : Str)
  | no
  | con
  | dis
  | ex (vs : List Str)
  | al (vs : List Str)
  | lfp (n : Str) (vs as : List Str)
  | pfp (n : Str) (vs as : List Str)
  | tc (vs as : List Str)
  | gs (n : Str) (k : Nat)
inductive Fm where
  | mk (h : Hd) (ps : List Fm)
theorem Fm.ind {P : Fm → Prop} (step : ∀ h ps, (∀ p, p ∈ ps → P p) → P (.mk h ps)) : ∀ f, P f := fun f =>
  Fm.rec (motive_1 := P) (motive_2 := fun ps => ∀ p, p ∈ ps → P p) (fun h ps ih => step h ps ih) (fun _ hp => nomatch hp)
    (fun q qs h1 h2 p hp => (List.mem_cons.mp hp).elim (fun e => e ▸ h1) (h2 p)) f
mutual
def Fm.fold {α : Type} (g : Hd → List α → α) : Fm → α
  | .mk h ps => g h (Fm.folds g ps)
def Fm.folds {α : Type} (g : Hd → List α → α) : List Fm → List α
  | [] => []
  | p :: ps => Fm.fold g p :: Fm.folds g ps
end
theorem Fm.folds_map {α : Type} (g : Hd → List α → α) : ∀ ps : List Fm, Fm.folds g ps = ps.map (Fm.fold g)
  | [] => by rw [Fm.folds]; rfl
  | p :: ps => by rw [Fm.folds, Fm.folds_map g ps]; rfl
theorem Fm.fold_mk {α : Type} (g : Hd → List α → α) (h : Hd) (ps : List Fm) : Fm.fold g (.mk h ps) = g h (ps.map (Fm.fold g)) := by
  rw [Fm.fold, Fm.folds_map]
def Fm.hd : Fm → Hd
  | .mk h _ => h
def Fm.parts : Fm → List Fm
  | .mk _ ps => ps
/-! heads -/
def tS (as : List Str) : PyData := .tuple (as.map PyData.str)
inductive Kd where
  | rel
  | eq
  | less
  | no
  | con
  | dis
  | ex
  | al
  | lfp
  | pfp
  | tc
  | gs
  deriving DecidableEq
def Kd.word : Kd → Str
  | .rel => "rel"
  | .eq => "eq"
  | .less => "less"
  | .no => "not"
  | .con => "and"
  | .dis => "or"
  | .ex => "some"
  | .al => "all"
  | .lfp => "lfp"
  | .pfp => "pfp"
  | .tc => "tc"
  | .gs => "guess"
def Hd.kd : Hd → Kd
  | .rel _ _ => .rel
  | .eq _ _ => .eq
  | .less _ _ => .less
  | .no => .no
  | .con => .con
  | .dis => .dis
  | .ex _ => .ex
  | .al _ => .al
  | .lfp _ _ _ => .lfp
  | .pfp _ _ _ => .pfp
  | .tc _ _ => .tc
  | .gs _ _ => .gs
abbrev Hd.word (h : Hd) : Str := h.kd.word
/-- what stands behind the word -/
def Hd.rest (h : Hd) (ds : List PyData) : List PyData := match h with
  | .rel n as => [.str n, tS as]
  | .eq x y => [.str x, .str y]
  | .less x y => [.str x, .str y]
  | .no => ds
  | .con => [.tuple ds]
  | .dis => [.tuple ds]
  | .ex vs => tS vs :: ds
  | .al vs => tS vs :: ds
  | .lfp n vs as => .str n :: tS vs :: (ds ++ [tS as])
  | .pfp n vs as => .str n :: tS vs :: (ds ++ [tS as])
  | .tc vs as => tS vs :: (ds ++ [tS as])
  | .gs n k => .str n :: .int k :: ds
def Hd.data (h : Hd) (ds : List PyData) : PyData := .tuple (.str h.word :: h.rest ds)
def Fm.data : Fm → PyData := Fm.fold Hd.data
theorem Fm.data_mk (h : Hd) (ps : List Fm) : (Fm.mk h ps).data = h.data (ps.map Fm.data) := Fm.fold_mk _ h ps
/-- how many formulas stand directly in it (none: any number) -/
def Hd.one : Hd → Option Nat
  | .rel _ _ => some 0
  | .eq _ _ => some 0
  | .less _ _ => some 0
  | .con => none
  | .dis => none
  | _ => some 1
def Hd.own : Hd → List Str
  | .ex vs => vs
  | .al vs => vs
  | .lfp _ vs _ => vs
  | .pfp _ vs _ => vs
  | .tc vs _ => vs
  | _ => []
def Hd.args : Hd → List Str
  | .rel _ as => as
  | .eq x y => [x, y]
  | .less x y => [x, y]
  | .lfp _ _ as => as
  | .pfp _ _ as => as
  | .tc _ as => as
  | _ => []
def Hd.bound : Hd → Option (Str × Nat)
  | .lfp n vs _ => some (n, vs.length)
  | .pfp n vs _ => some (n, vs.length)
  | .gs n k => some (n, k)
  | _ => none
def Names (vs : List Str) : Prop := ∀ v, v ∈ vs → Nm v
def OwnOk (vs : List Str) : Prop := 1 ≤ vs.length ∧ vs.length ≤ 6 ∧ Names vs ∧ vs.Nodup
/-- a head with n formulas in it is well formed -/
def Hd.Ok (h : Hd) (n : Nat) : Prop := match h with
  | .rel m as => Nm m ∧ as.length ≤ 6 ∧ Names as ∧ n = 0
  | .eq x y => Nm x ∧ Nm y ∧ n = 0
  | .less x y => Nm x ∧ Nm y ∧ n = 0
  | .no => n = 1
  | .con => n ≤ 40
  | .dis => n ≤ 40
  | .ex vs => OwnOk vs ∧ n = 1
  | .al vs => OwnOk vs ∧ n = 1
  | .lfp m vs as => Nm m ∧ OwnOk vs ∧ as.length = vs.length ∧ Names as ∧ n = 1
  | .pfp m vs as => Nm m ∧ OwnOk vs ∧ as.length = vs.length ∧ Names as ∧ n = 1
  | .tc vs as => (vs.length = 2 ∨ vs.length = 4 ∨ vs.length = 6 ∨ vs.length = 8) ∧ Names vs ∧ vs.Nodup ∧ as.length = vs.length ∧ Names as ∧ n = 1
  | .gs m k => Nm m ∧ k ≤ 3 ∧ n = 1
/-! measures -/
def sumN (xs : List Nat) : Nat := xs.foldr (· + ·) 0
def maxN (xs : List Nat) : Nat := xs.foldr max 0
def Fm.cnt : Fm → Nat := Fm.fold fun _ xs => 1 + sumN xs
def Fm.dep : Fm → Nat := Fm.fold fun _ xs => 1 + maxN xs
theorem Fm.cnt_mk (h : Hd) (ps : List Fm) : (Fm.mk h ps).cnt = 1 + sumN (ps.map Fm.cnt) := Fm.fold_mk _ h ps
theorem Fm.dep_mk (h : Hd) (ps : List Fm) : (Fm.mk h ps).dep = 1 + maxN (ps.map Fm.dep) := Fm.fold_mk _ h ps
theorem le_maxN : ∀ {xs : List Nat} {x : Nat}, x ∈ xs → x ≤ maxN xs
  | [], _, h => nomatch h
  | y :: ys, x, h => by
    show x ≤ max y (maxN ys)
    rcases List.mem_cons.mp h with e | h
    · rw [e]; exact Nat.le_max_left _ _
    · exact Nat.le_trans (le_maxN h) (Nat.le_max_right _ _)
theorem le_sumN : ∀ {xs : List Nat} {x : Nat}, x ∈ xs → x ≤ sumN xs
  | [], _, h => nomatch h
  | y :: ys, x, h => by
    show x ≤ y + sumN ys
    rcases List.mem_cons.mp h with e | h
    · omega
    · have := le_sumN h; omega
theorem dep_part {h : Hd} {ps : List Fm} {p : Fm} (hp : p ∈ ps) : p.dep < (Fm.mk h ps).dep := by
  rw [Fm.dep_mk]
  have := le_maxN (List.mem_map_of_mem (f := Fm.dep) hp)
  omega
theorem dep_pos (f : Fm) : 1 ≤ f.dep := by
  obtain ⟨h, ps⟩ := f
  rw [Fm.dep_mk]
  omega
/-- every head in it is well formed -/
inductive Fm.Ok : Fm → Prop
  | mk {h : Hd} {ps : List Fm} (a : h.Ok ps.length) (b : ∀ p, p ∈ ps → p.Ok) : (Fm.mk h ps).Ok
theorem Fm.Ok.hd_ {h : Hd} {ps : List Fm} (k : (Fm.mk h ps).Ok) : h.Ok ps.length := by cases k; assumption
theorem Fm.Ok.part {h : Hd} {ps : List Fm} (k : (Fm.mk h ps).Ok) {p : Fm} (hp : p ∈ ps) : p.Ok := by cases k with | mk a b => exact b p hp
theorem get_map {α β : Type} {f : α → β} {l : List α} {i : Nat} {y : β} (h : (l.map f)[i]? = some y) : ∃ x, l[i]? = some x ∧ y = f x := by
  rw [List.getElem?_map] at h
  cases e : l[i]? with
  | none => rw [e] at h; cases h
  | some x => rw [e] at h; exact ⟨x, rfl, (Option.some.inj h).symm⟩
/-! data in the heap -/
section
variable {K : PySem.W.Frag} {H H' : Hp}
theorem Same.sqt {a : Addr} {xs : List V} (e : Same H H') (h : SqT K H a xs) : SqT K H' a xs := by
  rcases h with (h | ⟨o, h⟩) | h
  · exact .inl (.inl (e _ _ h))
  · exact .inl (.inr ⟨o, e _ _ h⟩)
  · exact .inr h
mutual
theorem Dp.same (e : Same H H') : ∀ {v : V} {d : PyData}, Dp K H v d → Dp K H' v d
  | _, _, .non => .non
  | _, _, .bl b => .bl b
  | _, _, .int i => .int i
  | _, _, .str x => .str x
  | _, _, .lst h t => .lst (e.seq h) (DpAll.same e t)
  | _, _, .tup h t => .tup (Same.sqt e h) (DpAll.same e t)
theorem DpAll.same (e : Same H H') : ∀ {vs : List V} {ds : List PyData}, DpAll K H vs ds → DpAll K H' vs ds
  | _, _, .nil => .nil
  | _, _, .cons h t => .cons (Dp.same e h) (DpAll.same e t)
end
theorem Dp.tup_inv {v : V} {ds : List PyData} (h : Dp K H v (.tuple ds)) : ∃ a xs, v = .ref a ∧ SqT K H a xs ∧ DpAll K H xs ds := by
  cases h with | tup a b => exact ⟨_, _, rfl, a, b⟩
theorem Dp.lst_inv {v : V} {ds : List PyData} (h : Dp K H v (.list ds)) : ∃ a xs, v = .ref a ∧ SqL K H a xs ∧ DpAll K H xs ds := by
  cases h with | lst a b => exact ⟨_, _, rfl, a, b⟩
theorem Dp.str_inv {v : V} {z : Str} (h : Dp K H v (.str z)) : v = .str z := by cases h; rfl
theorem Dp.int_inv {v : V} {i : Int} (h : Dp K H v (.int i)) : v = .int i := by cases h; rfl
theorem Dp.bl_inv {v : V} {i : Bool} (h : Dp K H v (.bool i)) : v = .bl i := by cases h; rfl
theorem DpAll.cons_inv {vs : List V} {d : PyData} {ds : List PyData} (h : DpAll K H vs (d :: ds)) : ∃ v ws, vs = v :: ws ∧ Dp K H v d ∧ DpAll K H ws ds := by
  cases h with | cons a b => exact ⟨_, _, rfl, a, b⟩
theorem DpAll.nil_inv {vs : List V} (h : DpAll K H vs []) : vs = [] := by cases h; rfl
theorem DpAll.length : ∀ {vs : List V} {ds : List PyData}, DpAll K H vs ds → vs.length = ds.length
  | _, _, .nil => rfl
  | _, _, .cons _ t => congrArg Nat.succ (DpAll.length t)
theorem DpAll.get : ∀ {vs : List V} {ds : List PyData} {i : Nat} {d : PyData}, DpAll K H vs ds → ds[i]? = some d → ∃ v, vs[i]? = some v ∧ Dp K H v d
  | _, _, i, d, .nil, h => by simp at h
  | _, _, 0, d, .cons a t, h => by
    have e := Option.some.inj h
    subst e
    exact ⟨_, rfl, a⟩
  | _, _, i + 1, d, .cons a t, h => DpAll.get (i := i) t h
theorem DpAll.get' : ∀ {vs : List V} {ds : List PyData} {i : Nat} {v : V}, DpAll K H vs ds → vs[i]? = some v → ∃ d, ds[i]? = some d ∧ Dp K H v d
  | _, _, i, d, .nil, h => by simp at h
  | _, _, 0, d, .cons a t, h => by
    have e := Option.some.inj h
    subst e
    exact ⟨_, rfl, a⟩
  | _, _, i + 1, d, .cons a t, h => DpAll.get' (i := i) t h
theorem DpAll.append : ∀ {vs ws : List V} {ds es : List PyData}, DpAll K H vs ds → DpAll K H ws es → DpAll K H (vs ++ ws) (ds ++ es)
  | _, _, _, _, .nil, s => s
  | _, _, _, _, .cons a t, s => .cons a (DpAll.append t s)
theorem DpAll.strs : ∀ {vs : List V} {as : List Str}, DpAll K H vs (as.map PyData.str) → vs = as.map V.str
  | _, [], h => by rw [DpAll.nil_inv h]; rfl
  | _, a :: as, h => by
    obtain ⟨v, ws, rfl, h1, h2⟩ := DpAll.cons_inv h
    rw [Dp.str_inv h1, DpAll.strs h2]; rfl
theorem DpAll.of_strs : ∀ (as : List Str), DpAll K H (as.map V.str) (as.map PyData.str)
  | [] => .nil
  | a :: as => .cons (.str a) (DpAll.of_strs as)
theorem tS_inv {v : V} {as : List Str} (h : Dp K H v (tS as)) : ∃ a, v = .ref a ∧ SqT K H a (as.map V.str) := by
  obtain ⟨a, xs, rfl, h1, h2⟩ := Dp.tup_inv h
  rw [DpAll.strs h2] at h1
  exact ⟨a, rfl, h1⟩
theorem tS_of {a : Addr} {as : List Str} (h : SqT K H a (as.map V.str)) : Dp K H (.ref a) (tS as) := .tup h (DpAll.of_strs as)
/-- a formula's value: a tuple that begins with its word -/
theorem hd_inv {v : V} {h : Hd} {ds : List PyData} (q : Dp K H v (h.data ds)) : ∃ a xs, v = .ref a ∧ SqT K H a (.str h.word :: xs) ∧ DpAll K H xs (h.rest ds) := by
  obtain ⟨a, ys, rfl, h1, h2⟩ := Dp.tup_inv q
  obtain ⟨w, xs, rfl, h3, h4⟩ := DpAll.cons_inv h2
  rw [Dp.str_inv h3] at h1
  exact ⟨a, xs, rfl, h1, h4⟩
end
/-! ### the heap without the draws -/
def wo (d : Addr) (H : Hp) : Hp := fun b => if b = d then none else H b
theorem wo_ne {d b : Addr} {H : Hp} (h : b ≠ d) : wo d H b = H b := if_neg h
theorem wo_sub {d : Addr} {H : Hp} : Same (wo d H) H := fun b o e => by
  by_cases h : b = d
  · rw [show wo d H b = none from if_pos h] at e; cases e
  · rw [wo_ne h] at e; exact e
theorem wo_kp {d : Addr} {H H' : Hp} (k : Kp d H H') : Same (wo d H) (wo d H') := fun b o e => by
  by_cases h : b = d
  · rw [show wo d H b = none from if_pos h] at e; cases e
  · rw [wo_ne h] at e ⊢; exact k b o e h
theorem wo_same {d : Addr} {H H' : Hp} (k : Same H H') : Same (wo d H) (wo d H') := wo_kp (.of k)
theorem wo_at {d b : Addr} {H : Hp} {o : HO} (h : b ≠ d) (e : H b = some o) : wo d H b = some o := by rw [wo_ne h]; exact e
section
variable {K : PySem.W.Frag} {H : Hp}
theorem strsL {v : V} {as : List Str} (h : Dp K H v (.list (as.map PyData.str))) : ∃ a, v = .ref a ∧ SqL K H a (as.map V.str) := by
  obtain ⟨a, xs, rfl, h1, h2⟩ := Dp.lst_inv h
  rw [DpAll.strs h2] at h1
  exact ⟨a, rfl, h1⟩
theorem strsL_of {a : Addr} {as : List Str} (h : SqL K H a (as.map V.str)) : Dp K H (.ref a) (.list (as.map PyData.str)) := .lst h (DpAll.of_strs as)
end
theorem eraseIdx_map {α β : Type} (f : α → β) : ∀ (l : List α) (i : Nat), (l.map f).eraseIdx i = (l.eraseIdx i).map f
  | [], i => by simp
  | a :: r, 0 => by simp
  | a :: r, i + 1 => by simp [eraseIdx_map f r i]
theorem eraseIdx_perm {α : Type} : ∀ {l : List α} {i : Nat} {x : α}, l[i]? = some x → l.Perm (x :: l.eraseIdx i)
  | [], _, _, h => by simp at h
  | a :: r, 0, x, h => by have e := Option.some.inj h; rw [← e]; exact List.Perm.refl _
  | a :: r, i + 1, x, h => ((eraseIdx_perm (l := r) (i := i) h).cons a).trans (List.Perm.swap _ _ _)
theorem wo_none {d p : Addr} {H : Hp} (h : H p = none) : wo d H p = none := by
  unfold wo
  split
  · rfl
  · exact h
theorem wo_upd {d p : Addr} {H : Hp} {o : HO} (n : p ≠ d) : wo d (upd H p o) p = some o := by rw [wo_ne n, upd_same]
/-- a new object leaves all else -/
theorem kp_new {d p : Addr} {H H' : Hp} {o : HO} (k : Kp d H H') (np : H' p = none) : Kp d H (upd H' p o) := k.trans (.of (same_upd np))
/-- an object of one's own is changed: what stood before it was made stays -/
theorem kp_own {d p : Addr} {H H' : Hp} {o : HO} (k : Kp d H H') (np : H p = none) : Kp d H (upd H' p o) := fun b x e n => by
  rw [upd_ne (ne_of_none e np)]
  exact k b x e n
theorem bounds_ok {i : Int} {n : Nat} (h0 : 0 ≤ i) (h1 : i < n) (hn : n ≤ 1000) : -(2 ^ 63) ≤ i ∧ i < 2 ^ 63 := by omega
def spSomeOf (K : PySem.W.Frag) : Sp := fun vs H Q _ => ∃ (d l : Addr) (pv : V) (pool : List Str) (m : Nat), vs = [.ref d, pv, .int (m : Nat)] ∧ DrA H d l ∧ Dp K (wo d H) pv (.list (pool.map PyData.str)) ∧ m ≤ pool.length ∧ pool.length ≤ 20 ∧
  ∀ (H' : Hp) (r : Addr) (ch : List Str), DrA H' d l → Kp d H H' → Dp K (wo d H') (.ref r) (.list (ch.map PyData.str)) → ch.length = m → (∀ x, x ∈ ch → x ∈ pool) → (pool.Nodup → ch.Nodup) → Q (.ref r) H'
section
variable {P : Program} {w : World} {K : PySem.W.Frag} {mg : Str → Option Value} {base : Heap}
theorem sc_some_of : FnScope ["draws", "pool", "many", "left", "chosen", "k"] ["draws", "pool", "many"] (defScope (top 61)) := ⟨rfl, rfl, rfl, by decide +kernel, rfl, by decide +kernel, by decide +kernel⟩
theorem has_some_of (D : Def K mg "_law_some_of" ["draws", "pool", "many"] (top 61)) (T : Txt mg) (C1 : Has P w K mg base 2 "_law_draw" ["draws"] spDraw) : Has P w K mg base 3 "_law_some_of" ["draws", "pool", "many"] (spSomeOf K) := D.has fun f fd F => by
  obtain ⟨f1, fd1, G_law_draw, g_law_draw, k_law_draw, b_law_draw⟩ := C1
  refine F.ok sc_some_of (fun vs H Q E h => ?_) (fun cdv A outer s H vs Q E hr h => ?_)
  · obtain ⟨d, l, vp, pool, m, rfl, _⟩ := h; rfl
  · obtain ⟨d, l, vp, pool, m, rfl, dr, dp, hm, h20, q⟩ := h
    have R_law_draw : Room 2 _ := hr.mono (by decide)
    refine ⟨_, PSs.nox (pss_cons (ps_set (i := 3) sc_some_of.nd rfl (Or.inl rfl) (pe_callTy call_list_of (by rfl) T.n_list (by decide +kernel) (pa_cons (pv 1) pa_nil))) (pss_cons (ps_set (i := 4) sc_some_of.nd rfl (Or.inl rfl) (pe_lst pa_nil)) (pss_cons (ps_for PassesOwn.never rfl (pi_range1 (by rfl) T.n_range (pa_cons (pv 2) pa_nil)) (pg_name (i := 5) sc_some_of.nd rfl (Or.inl rfl)) (pss_one (ps_expr (pe_bm PySem.F.plainAttrs_list PySem.F.slot_list_append PySem.F.type_list_append mt_append (pv 4) (pa_cons (pe_bm PySem.F.plainAttrs_list PySem.F.slot_list_pop PySem.F.type_list_pop mt_popAt (pv 3) (pa_cons (pe_op op_mod (pe_call G_law_draw R_law_draw (by rfl) g_law_draw k_law_draw b_law_draw .nil pass0 (pa_cons (pv 0) pa_nil)) (pe_callB call_len_seq (by rfl) T.n_len PySem.boot_len (pa_cons (pv 3) pa_nil))) pa_nil)) pa_nil))))) (pss_one (ps_ret (pv 4)))))), ?_⟩
    obtain ⟨b, rfl, hb⟩ := strsL dp
    have hb' : SqL K H b (pool.map V.str) := wo_sub.seq hb
    refine ⟨_, rfl, b, _, rfl, .inl hb', fun e ne => ?_⟩
    obtain ⟨ned, nel⟩ := dr.ne ne
    have dr1 : DrA (upd H e (.lst (pool.map V.str))) d l := dr.same (same_upd ne)
    have k1 : Kp d H (upd H e (.lst (pool.map V.str))) := .of (same_upd ne)
    have he : (upd H e (.lst (pool.map V.str))) e = some (.lst (pool.map V.str)) := upd_same
    revert dr1 k1 he
    generalize upd H e (.lst (pool.map V.str)) = H1
    intro dr1 k1 he
    refine ⟨Nat.zero_le _, fun c nc => ?_⟩
    obtain ⟨ncd, ncl⟩ := dr1.ne nc
    have nce : e ≠ c := ne_of_none he nc
    have nc0 : H c = none := k1.free ncd nc
    refine ⟨_, rfl, m, rfl, by omega, by omega, for_range (n := m) (fun i σ H2 => ∃ (y5 : Option V) (rem ch : List Str), σ = [some (.ref d), some (.ref b), some (.int (m : Nat)), some (.ref e), some (.ref c), y5] ∧ DrA H2 d l ∧ Kp d H H2 ∧
      H2 e = some (.lst (rem.map V.str)) ∧ H2 c = some (.lst (ch.map V.str)) ∧ ch.length = i ∧ rem.length + i = pool.length ∧ pool.Perm (ch ++ rem))
      ⟨none, pool, [], rfl, dr1.same (same_upd nc), kp_new k1 nc, by rw [upd_ne nce]; exact he, upd_same, rfl, rfl, List.Perm.refl _⟩ ?_ ?_⟩
    · rintro i σ H2 hi ⟨y5, rem, ch, rfl, dr2, k2, he2, hc2, hl, hrl, pm⟩
      refine ⟨_, rfl, .inl ⟨rfl, _, SqL.of hc2⟩, ?_⟩
      refine ⟨_, rfl, .inl ⟨rfl, _, SqL.of he2⟩, ?_⟩
      refine ⟨_, rfl, d, l, rfl, dr2, fun z H3 z0 z1 dr3 k3 => ?_⟩
      have he3 := k3 _ _ he2 ned
      have hc3 := k3 _ _ hc2 ncd
      have rl : 0 < rem.length := by omega
      have i0 : 0 ≤ z % (rem.length : Int) := Int.emod_nonneg _ (by omega)
      have i1 : z % (rem.length : Int) < (rem.length : Int) := Int.emod_lt_of_pos _ (by omega)
      have il : (z % (rem.length : Int)).toNat < rem.length := by omega
      obtain ⟨x, hx⟩ : ∃ x, rem[(z % (rem.length : Int)).toNat]? = some x := ⟨_, List.getElem?_eq_getElem il⟩
      refine ⟨_, rfl, e, _, rfl, .inl (SqL.of he3), _, _, rfl, rfl, (by show (0 : Int) < (((rem.map V.str).length : Nat) : Int); rw [List.length_map]; omega), ?_⟩
      rw [List.length_map]
      refine ⟨e, _, _, (z % (rem.length : Int)).toNat, .str x, rfl, rfl, he3, by omega, by omega, by rw [List.length_map]; exact seqIndex_of i0 i1, by rw [List.getElem?_map, hx]; rfl, ?_⟩
      have hc4 : (upd H3 e (.lst ((rem.map V.str).eraseIdx (z % (rem.length : Int)).toNat))) c = some (.lst (ch.map V.str)) := by rw [upd_ne nce.symm]; exact hc3
      refine ⟨c, _, _, rfl, rfl, hc4, ?_, ?_⟩
      · rw [List.length_map]
        exact small1000 (by omega)
      · refine ⟨_, rem.eraseIdx (z % (rem.length : Int)).toNat, ch ++ [x], rfl, ?_, ?_, ?_, ?_, ?_, ?_, ?_⟩
        · exact (dr3.kp Kp.upd ⟨ned, nel⟩).kp Kp.upd ⟨ncd, ncl⟩
        · exact kp_own (kp_own (k2.trans k3) ne) nc0
        · rw [upd_ne nce, upd_same, eraseIdx_map]
        · rw [upd_same, List.map_append]
          rfl
        · rw [List.length_append, hl]; rfl
        · rw [List.length_eraseIdx_of_lt il]; omega
        · refine pm.trans ?_
          have p2 := eraseIdx_perm hx
          have p3 : (ch ++ rem).Perm (ch ++ (x :: rem.eraseIdx (z % (rem.length : Int)).toNat)) := List.Perm.append_left ch p2
          rw [List.append_assoc]
          exact p3
    · rintro σ H2 ⟨y5, rem, ch, rfl, dr2, k2, he2, hc2, hl, hrl, pm⟩
      refine ⟨_, rfl, q H2 c ch dr2 k2 (strsL_of (SqL.of (wo_at ncd hc2))) hl (fun x hx => pm.mem_iff.mpr (List.mem_append_left _ hx)) fun nd => ?_⟩
      exact (List.nodup_append.mp (pm.nodup_iff.mp nd)).1
end
/-! ### rules within a comprehension -/
section
variable {X : Cx} {K : PySem.W.Frag}
theorem ix_listK (h : X.K = K) : IxR X (rIxL K) := h ▸ ix_list
theorem ix_tupK (h : X.K = K) : IxR X (rIxT K) := h ▸ ix_tup
theorem sl_listK (h : X.K = K) : SlR X (rSlL K) := h ▸ sl_list
theorem op_in_seqK (h : X.K = K) : OpR X (compareOp .In) (rIn K false) := h ▸ op_in_seq
theorem op_notIn_seqK (h : X.K = K) : OpR X (compareOp .NotIn) (rIn K true) := h ▸ op_notIn_seq
theorem call_len_seqK (h : X.K = K) : CallR X (.builtin "len") (fun xs H Q => ∃ p ys, xs = [.ref p] ∧ (SqL K H p ys ∨ SqT K H p ys) ∧ Q (.int ys.length) H) := h ▸ call_len_seq
end
/-! ### data that the draws are no part of -/
def int1 : List PyData → Bool
  | _ :: .int _ :: _ => false
  | _ => true
mutual
def good : PyData → Bool
  | .list ts => goods ts && int1 ts
  | .tuple ts => goods ts
  | _ => true
def goods : List PyData → Bool
  | [] => true
  | t :: ts => good t && goods ts
end
theorem goods_cons {t : PyData} {ts : List PyData} : goods (t :: ts) = (good t && goods ts) := by rw [goods]
theorem goods_append : ∀ (ts us : List PyData), goods (ts ++ us) = (goods ts && goods us)
  | [], us => by rw [goods]; rfl
  | t :: ts, us => by rw [List.cons_append, goods_cons, goods_cons, goods_append ts us, Bool.and_assoc]
theorem goods_all : ∀ {ts : List PyData}, (∀ t, t ∈ ts → good t = true) → goods ts = true
  | [], _ => by rw [goods]
  | t :: ts, h => by
    rw [goods_cons, h t (List.mem_cons_self ..), goods_all fun u hu => h u (List.mem_cons_of_mem _ hu)]; rfl
theorem good_str {z : Str} : good (.str z) = true := by rw [good]; all_goals (intros; contradiction)
theorem good_int {z : Int} : good (.int z) = true := by rw [good]; all_goals (intros; contradiction)
theorem good_tup {ts : List PyData} (h : goods ts = true) : good (.tuple ts) = true := by rw [good]; exact h
theorem good_lst {ts : List PyData} (h : goods ts = true) (n : ∀ t, t ∈ ts → ∀ i : Int, t ≠ .int i) : good (.list ts) = true := by
  rw [good, h]
  cases ts with
  | nil => rfl
  | cons a r =>
    cases r with
    | nil => rfl
    | cons b r =>
      cases b with
      | int i => exact absurd rfl (n (.int i) (by simp) i)
      | _ => rfl
theorem goods_strs (as : List Str) : goods (as.map PyData.str) = true := goods_all fun t ht => by
  obtain ⟨z, _, rfl⟩ := List.mem_map.mp ht
  exact good_str
theorem good_tS (as : List Str) : good (tS as) = true := good_tup (goods_strs as)
theorem good_strl (as : List Str) : good (.list (as.map PyData.str)) = true := good_lst (goods_strs as) fun t ht i e => by
  obtain ⟨z, _, rfl⟩ := List.mem_map.mp ht
  cases e
theorem good_hd {h : Hd} {ds : List PyData} (g : goods ds = true) : good (h.data ds) = true := by
  refine good_tup ?_
  rw [goods_cons, good_str]
  have n0 : goods [] = true := by rw [goods]
  cases h <;> simp only [Hd.rest, goods_cons, goods_append, good_str, good_int, good_tS, g, n0, good_tup g, Bool.and_self, Bool.true_and]
theorem Fm.good : ∀ f : Fm, SaysoV.good f.data = true := Fm.ind fun h ps ih => by
  rw [Fm.data_mk]
  refine good_hd (goods_all fun t ht => ?_)
  obtain ⟨p, hp, rfl⟩ := List.mem_map.mp ht
  exact ih p hp
section
variable {K : PySem.W.Frag} {H H' : Hp} {d l : Addr} {n : Int}
theorem SqT.wo {a : Addr} {xs ys : List V} (h1 : H d = some (.lst ys)) (h : SqT K H a xs) : SqT K (wo d H) a xs := by
  have ne : ∀ {o : HO}, H a = some o → (∀ zs, o ≠ .lst zs) → a ≠ d := fun e k z => by
    rw [z, h1] at e
    exact k ys (Option.some.inj e).symm
  rcases h with (h | ⟨o, h⟩) | h
  · exact .inl (.inl (by rw [wo_ne (ne h fun zs z => nomatch z)]; exact h))
  · exact .inl (.inr ⟨o, by rw [wo_ne (ne h fun zs z => nomatch z)]; exact h⟩)
  · exact .inr h
theorem SqL.wo {a : Addr} {xs ys : List V} (h1 : H d = some (.lst ys)) (n : xs ≠ ys) (h : SqL K H a xs) : SqL K (wo d H) a xs := by
  rcases h with (h | ⟨o, h⟩) | h
  · refine .inl (.inl ?_)
    by_cases e : a = d
    · rw [e, h1] at h
      exact absurd (HO.lst.inj (Option.some.inj h)).symm n
    · rw [wo_ne e]; exact h
  · refine .inl (.inr ⟨o, ?_⟩)
    by_cases e : a = d
    · rw [e, h1] at h
      cases h
    · rw [wo_ne e]; exact h
  · exact .inr h
theorem no_ints {l : Addr} {n : Int} {ds : List PyData} (t : DpAll K H [.ref l, .int n] ds) : good (.list ds) = false := by
  cases t with
  | cons a t =>
    cases t with
    | cons b t =>
      cases t
      cases b
      rw [good]
      exact Bool.and_false _
mutual
theorem Dp.woG (h1 : H d = some (.lst [.ref l, .int n])) : ∀ {v : V} {t : PyData}, Dp K H v t → good t = true → Dp K (wo d H) v t
  | _, _, .non, _ => .non
  | _, _, .bl b, _ => .bl b
  | _, _, .int i, _ => .int i
  | _, _, .str x, _ => .str x
  | _, _, .lst h t, g => .lst (SqL.wo h1 (fun z => by rw [z] at t; rw [no_ints t] at g; cases g) h) (DpAll.woG h1 t (by rw [good] at g; exact (Bool.and_eq_true_iff.mp g).1))
  | _, _, .tup h t, g => .tup (SqT.wo h1 h) (DpAll.woG h1 t (by rw [good] at g; exact g))
theorem DpAll.woG (h1 : H d = some (.lst [.ref l, .int n])) : ∀ {vs : List V} {ts : List PyData}, DpAll K H vs ts → goods ts = true → DpAll K (wo d H) vs ts
  | _, _, .nil, _ => .nil
  | _, _, .cons h t, g => .cons (Dp.woG h1 h (by rw [goods_cons] at g; exact (Bool.and_eq_true_iff.mp g).1)) (DpAll.woG h1 t (by rw [goods_cons] at g; exact (Bool.and_eq_true_iff.mp g).2))
end
theorem Dp.wod {v : V} {t : PyData} (r : DrA H d l) (h : Dp K H v t) (g : good t = true) : Dp K (SaysoV.wo d H) v t := by
  obtain ⟨n, ms, h1, _⟩ := r
  exact Dp.woG h1 h g
/-- a draw leaves it -/
theorem Dp.kpA {v : V} {t : PyData} (h : Dp K H v t) (r : DrA H d l) (g : good t = true) (k : Kp d H H') : Dp K H' v t := Dp.same wo_sub (Dp.same (wo_kp k) (Dp.wod r h g))
theorem DpAll.kpA {vs : List V} {ts : List PyData} (h : DpAll K H vs ts) (r : DrA H d l) (g : goods ts = true) (k : Kp d H H') : DpAll K H' vs ts := by
  obtain ⟨n, ms, h1, _⟩ := r
  exact DpAll.same wo_sub (DpAll.same (wo_kp k) (DpAll.woG h1 h g))
end
/-! data without lists: whatever becomes of lists, it stays -/
mutual
def noL : PyData → Bool
  | .list _ => false
  | .tuple ts => noLs ts
  | _ => true
def noLs : List PyData → Bool
  | [] => true
  | t :: ts => noL t && noLs ts
end
theorem noLs_cons {t : PyData} {ts : List PyData} : noLs (t :: ts) = (noL t && noLs ts) := by rw [noLs]
theorem noLs_append : ∀ (ts us : List PyData), noLs (ts ++ us) = (noLs ts && noLs us)
  | [], us => by rw [noLs]; rfl
  | t :: ts, us => by rw [List.cons_append, noLs_cons, noLs_cons, noLs_append ts us, Bool.and_assoc]
theorem noLs_all : ∀ {ts : List PyData}, (∀ t, t ∈ ts → noL t = true) → noLs ts = true
  | [], _ => by rw [noLs]
  | t :: ts, h => by
    rw [noLs_cons, h t (List.mem_cons_self ..), noLs_all fun u hu => h u (List.mem_cons_of_mem _ hu)]; rfl
theorem noL_str {z : Str} : noL (.str z) = true := by rw [noL]; all_goals (intros; contradiction)
theorem noL_int {z : Int} : noL (.int z) = true := by rw [noL]; all_goals (intros; contradiction)
theorem noL_tup {ts : List PyData} (h : noLs ts = true) : noL (.tuple ts) = true := by rw [noL]; exact h
theorem noLs_strs (as : List Str) : noLs (as.map PyData.str) = true := noLs_all fun t ht => by
  obtain ⟨z, _, rfl⟩ := List.mem_map.mp ht
  exact noL_str
theorem noL_tS (as : List Str) : noL (tS as) = true := noL_tup (noLs_strs as)
theorem noL_hd {h : Hd} {ds : List PyData} (g : noLs ds = true) : noL (h.data ds) = true := by
  refine noL_tup ?_
  rw [noLs_cons, noL_str]
  have n0 : noLs [] = true := by rw [noLs]
  cases h <;> simp only [Hd.rest, noLs_cons, noLs_append, noL_str, noL_int, noL_tS, g, n0, noL_tup g, Bool.and_self, Bool.true_and]
theorem Fm.noL : ∀ f : Fm, SaysoV.noL f.data = true := Fm.ind fun h ps ih => by
  rw [Fm.data_mk]
  refine noL_hd (noLs_all fun t ht => ?_)
  obtain ⟨p, hp, rfl⟩ := List.mem_map.mp ht
  exact ih p hp
theorem fms_noL (ps : List Fm) : noLs (ps.map Fm.data) = true := noLs_all fun t ht => by
  obtain ⟨p, _, rfl⟩ := List.mem_map.mp ht
  exact p.noL
/-- all but lists stays -/
def Kl (H H' : Hp) : Prop := ∀ b o, H b = some o → (∀ ys, o ≠ .lst ys) → H' b = some o
theorem Kl.refl (H : Hp) : Kl H H := fun _ _ e _ => e
theorem Kl.of {H H' : Hp} (s : Same H H') : Kl H H' := fun b o e _ => s b o e
theorem Kl.trans {H H1 H2 : Hp} (a : Kl H H1) (b : Kl H1 H2) : Kl H H2 := fun c o e n => b c o (a c o e n) n
theorem Kl.kp {H H' : Hp} {d : Addr} {ys : List V} (k : Kp d H H') (h : H d = some (.lst ys)) : Kl H H' := fun b o e n => k b o e fun z => by
  rw [z, h] at e
  exact n ys (Option.some.inj e).symm
theorem Kl.dr {H H' : Hp} {d l : Addr} (k : Kp d H H') (r : DrA H d l) : Kl H H' := by
  obtain ⟨n, ms, h1, _⟩ := r
  exact .kp k h1
theorem Kl.upd {H : Hp} {p : Addr} {o : HO} {ys : List V} (h : H p = some (.lst ys)) : Kl H (L2.upd H p o) := fun b x e n => by
  rw [upd_ne fun z => by rw [z, h] at e; exact n ys (Option.some.inj e).symm]
  exact e
theorem Kl.new {H : Hp} {p : Addr} {o : HO} (h : H p = none) : Kl H (L2.upd H p o) := .of (same_upd h)
section
variable {K : PySem.W.Frag} {H H' : Hp}
theorem SqT.kl {a : Addr} {xs : List V} (k : Kl H H') (h : SqT K H a xs) : SqT K H' a xs := by
  rcases h with (h | ⟨o, h⟩) | h
  · exact .inl (.inl (k _ _ h fun zs z => nomatch z))
  · exact .inl (.inr ⟨o, k _ _ h fun zs z => nomatch z⟩)
  · exact .inr h
mutual
theorem Dp.kl (k : Kl H H') : ∀ {v : V} {t : PyData}, Dp K H v t → noL t = true → Dp K H' v t
  | _, _, .non, _ => .non
  | _, _, .bl b, _ => .bl b
  | _, _, .int i, _ => .int i
  | _, _, .str x, _ => .str x
  | _, _, .lst h t, g => by rw [noL] at g; cases g
  | _, _, .tup h t, g => .tup (SqT.kl k h) (DpAll.kl k t (by rw [noL] at g; exact g))
theorem DpAll.kl (k : Kl H H') : ∀ {vs : List V} {ts : List PyData}, DpAll K H vs ts → noLs ts = true → DpAll K H' vs ts
  | _, _, .nil, _ => .nil
  | _, _, .cons h t, g => .cons (Dp.kl k h (by rw [noLs_cons] at g; exact (Bool.and_eq_true_iff.mp g).1)) (DpAll.kl k t (by rw [noLs_cons] at g; exact (Bool.and_eq_true_iff.mp g).2))
end
end
/-! ### the lists of names: name, arity, mode -/
abbrev NE := Str × Nat × Nat
def nD (p : NE) : PyData := .tuple [.str p.1, .int p.2.1, .int p.2.2]
def nsD (ns : List NE) : PyData := .list (ns.map nD)
theorem good_nD (p : NE) : good (nD p) = true := good_tup (by rw [goods_cons, goods_cons, goods_cons, good_str, good_int, good_int, goods]; rfl)
theorem noL_nD (p : NE) : noL (nD p) = true := noL_tup (by rw [noLs_cons, noLs_cons, noLs_cons, noL_str, noL_int, noL_int, noLs]; rfl)
theorem ns_noL (ns : List NE) : noLs (ns.map nD) = true := noLs_all fun t ht => by
  obtain ⟨p, _, rfl⟩ := List.mem_map.mp ht
  exact noL_nD p
theorem good_nsD (ns : List NE) : good (nsD ns) = true := good_lst (goods_all fun t ht => by
  obtain ⟨z, _, rfl⟩ := List.mem_map.mp ht
  exact good_nD z) fun t ht i e => by
  obtain ⟨z, _, rfl⟩ := List.mem_map.mp ht
  cases e
def within (ns : List NE) (p : NE) : List NE := (ns.filter fun q => !decide (q.1 = p.1)) ++ [p]
def mode4 (a b c e : Nat) (m : Nat) : Nat := match m with
  | 0 => a
  | 1 => b
  | 2 => c
  | _ => e
def turned (ns : List NE) : List NE := ns.map fun p => (p.1, p.2.1, mode4 0 2 1 3 p.2.2)
def barred (ns : List NE) : List NE := ns.map fun p => (p.1, p.2.1, mode4 0 3 3 3 p.2.2)
section
variable {K : PySem.W.Frag} {H H' : Hp}
theorem nD_inv {v : V} {p : NE} (h : Dp K H v (nD p)) : ∃ t, v = .ref t ∧ SqT K H t [.str p.1, .int p.2.1, .int p.2.2] := by
  obtain ⟨a, xs, rfl, h1, h2⟩ := Dp.tup_inv h
  obtain ⟨v1, w1, rfl, e1, h2⟩ := DpAll.cons_inv h2
  obtain ⟨v2, w2, rfl, e2, h2⟩ := DpAll.cons_inv h2
  obtain ⟨v3, w3, rfl, e3, h2⟩ := DpAll.cons_inv h2
  rw [Dp.str_inv e1, Dp.int_inv e2, Dp.int_inv e3, DpAll.nil_inv h2] at h1
  exact ⟨a, rfl, h1⟩
theorem nD_of {t : Addr} {p : NE} (h : SqT K H t [.str p.1, .int p.2.1, .int p.2.2]) : Dp K H (.ref t) (nD p) := .tup h (.cons (.str _) (.cons (.int _) (.cons (.int _) .nil)))
theorem DpAll.snoc {vs : List V} {ds : List PyData} {v : V} {t : PyData} (h : DpAll K H vs ds) (e : Dp K H v t) : DpAll K H (vs ++ [v]) (ds ++ [t]) := DpAll.append h (.cons e .nil)
end
theorem filter_snoc {α : Type} {p : α → Bool} {l : List α} {i : Nat} {x : α} (h : l[i]? = some x) : (l.take (i + 1)).filter p = (l.take i).filter p ++ (if p x then [x] else []) := by
  rw [List.take_add_one, h, List.filter_append]
  congr 1
  show List.filter p [x] = _
  cases e : p x <;> simp [List.filter, e]
def spWithin (K : PySem.W.Frag) : Sp := fun vs H Q _ => ∃ (nv : V) (name : Str) (k m : Nat) (ns : List NE), vs = [nv, .str name, .int k, .int m] ∧ Dp K H nv (nsD ns) ∧ ns.length ≤ 100 ∧ ∀ (H' : Hp) (r : V), Same H H' → Dp K H' r (nsD (within ns (name, k, m))) → Q r H'
def spMode (K : PySem.W.Frag) (F : List NE → List NE) : Sp := fun vs H Q _ => ∃ (nv : V) (ns : List NE), vs = [nv] ∧ Dp K H nv (nsD ns) ∧ ns.length ≤ 100 ∧ (∀ p, p ∈ ns → p.2.2 ≤ 3) ∧ ∀ (H' : Hp) (r : V), Same H H' → Dp K H' r (nsD (F ns)) → Q r H'
section
variable {P : Program} {w : World} {K : PySem.W.Frag} {mg : Str → Option Value} {base : Heap}
theorem sc_within : FnScope ["names", "name", "arity", "mode", "one"] ["names", "name", "arity", "mode"] (defScope (top 63)) := ⟨rfl, rfl, rfl, by decide +kernel, rfl, by decide +kernel, by decide +kernel⟩
theorem has_within (D : Def K mg "_law_within" ["names", "name", "arity", "mode"] (top 63)) : Has P w K mg base 1 "_law_within" ["names", "name", "arity", "mode"] (spWithin K) := D.has fun f fd F => by
  refine F.ok sc_within (fun vs H Q E h => ?_) (fun cdv A outer s H vs Q E hr h => ?_)
  · obtain ⟨nv, name, k, m, ns, rfl, _⟩ := h; rfl
  · obtain ⟨nv, name, k, m, ns, rfl, dn, hl, q⟩ := h
    refine ⟨_, PSs.nox (pss_one (ps_ret (pe_op op_cat (pe_lc (own := [("one", 4)]) rfl sc_within.nd (pi_list (pv 0)) (blkOk_by (N := ["names", "name", "arity", "mode", "one"]) (sc := defScope (top 63)) (by decide +kernel)) (fun _ _ _ _ _ => (pg_name (i := 4) sc_within.nd rfl (Or.inl rfl))) (fun _ _ _ _ _ => (pts_one (pt_cmpR op_ne (pe_ix (ix_tupK (K := K) rfl) (pv 4) pe_int (fun _ _ => rfl)) (pv 1) (nomark _)))) (fun _ _ _ _ _ => (pv 4))) (pe_lst (pa_cons (pe_tup (pa_cons (pv 1) (pa_cons (pv 2) (pa_cons (pv 3) pa_nil)))) pa_nil))))), ?_⟩
    obtain ⟨a, xs, rfl, ha, hx⟩ := Dp.lst_inv dn
    refine ⟨_, rfl, a, rfl, ⟨_, ha⟩, fun L nL => ?_⟩
    refine lc_it (walk_list (K := K) (a := a) (xs := xs)) (fun i H2 => ∃ acc, H2 L = some (.lst acc) ∧ DpAll K H acc (((ns.take i).filter fun p => !decide (p.1 = name)).map nD) ∧ Same H H2) ⟨[], upd_same, .nil, same_upd nL⟩ (fun i H2 _ ⟨_, _, _, s2⟩ => s2.seq ha) ?_ ?_
    · rintro i y H2 H3 hi ⟨acc, hL, hacc, s2⟩ ⟨rfl, hy⟩
      obtain ⟨dd, hd, dpy⟩ := DpAll.get' hx hy
      obtain ⟨p, hp, rfl⟩ := get_map hd
      obtain ⟨t, rfl, ht⟩ := nD_inv dpy
      refine ⟨rfl, _, rfl, t, _, _, _, rfl, rfl, Same.sqt s2 ht, atI_nat (j := 0) rfl, _, rfl, rfl, _, rfl, ?_⟩
      have ed : decide (V.str p.1 = V.str name) = decide (p.1 = name) := decide_eq_decide.mpr ⟨fun y => V.str.inj y, fun y => congrArg V.str y⟩
      have ef := filter_snoc (p := fun p : NE => !decide (p.1 = name)) hp
      by_cases e : p.1 = name
      · refine cF (k := !decide (V.str p.1 = V.str name)) (by rw [ed, decide_eq_true e]; rfl) ⟨acc, hL, ?_, s2⟩
        rw [show (if (!decide (p.1 = name)) = true then [p] else []) = [] by simp [e], List.append_nil] at ef
        rw [ef]
        exact hacc
      · refine cT (k := !decide (V.str p.1 = V.str name)) (by rw [ed, decide_eq_false e]; rfl) ⟨_, rfl, _, hL, ?_, ?_⟩
        · have e1 := DpAll.length hacc
          rw [List.length_map] at e1
          have e2 := List.length_filter_le (fun p : NE => !decide (p.1 = name)) (ns.take i)
          have e3 := List.length_take_le' i ns
          exact small1000 (by omega)
        · refine ⟨_, upd_same, ?_, fun b o eb => by rw [upd_ne (ne_of_none eb nL)]; exact s2 _ _ eb⟩
          rw [show (if (!decide (p.1 = name)) = true then [p] else []) = [p] by simp [e]] at ef
          rw [ef, List.map_append]
          exact DpAll.snoc hacc (nD_of ht)
    · rintro H2 ⟨acc, hL, hacc, s2⟩
      have el : xs.length = ns.length := by rw [DpAll.length hx, List.length_map]
      rw [List.take_of_length_le (show ns.length ≤ xs.length by omega)] at hacc
      refine ⟨_, rfl, _, rfl, _, rfl, (by show 3 ≤ sizeLine; decide), fun t nt => ⟨(by show 1 ≤ sizeLine; decide), fun b nb => ?_⟩⟩
      have t1 : Same H2 (upd H2 t (.tup [.str name, .int k, .int m])) := same_upd nt
      have t2 := same_upd (o := .lst [.ref t]) nb
      refine ⟨L, b, acc, [.ref t], rfl, rfl, t2 _ _ (t1 _ _ hL), upd_same, ?_, fun p np => ?_⟩
      · have e1 := DpAll.length hacc
        rw [List.length_map] at e1
        have e2 := List.length_filter_le (fun p : NE => !decide (p.1 = name)) ns
        have := small1000 (n := acc.length + 1) (by omega)
        show acc.length + 1 ≤ sizeLine
        omega
      · have t3 := same_upd (o := .lst (acc ++ [.ref t])) np
        have s4 : Same H _ := ((s2.trans t1).trans t2).trans t3
        refine q _ _ s4 (.lst (.inl (.inl upd_same)) ?_)
        show DpAll K _ _ (((ns.filter fun q => !decide (q.1 = name)) ++ [(name, k, m)]).map nD)
        rw [List.map_append]
        exact DpAll.snoc (DpAll.same s4 hacc) (nD_of (Same.sqt t3 (Same.sqt t2 (.inl (.inl upd_same)))))
theorem mode_at {a b c e m : Nat} (h : m ≤ 3) : [V.int a, V.int b, V.int c, V.int e][m]? = some (.int (mode4 a b c e m : Nat)) := by
  match m, h with
  | 0, _ => rfl
  | 1, _ => rfl
  | 2, _ => rfl
  | 3, _ => rfl
theorem sc_turned : FnScope ["names", "one"] ["names"] (defScope (top 64)) := ⟨rfl, rfl, rfl, by decide +kernel, rfl, by decide +kernel, by decide +kernel⟩
theorem has_turned (D : Def K mg "_law_turned" ["names"] (top 64)) : Has P w K mg base 1 "_law_turned" ["names"] (spMode K turned) := D.has fun f fd F => by
  refine F.ok sc_turned (fun vs H Q E h => ?_) (fun cdv A outer s H vs Q E hr h => ?_)
  · obtain ⟨nv, ns, rfl, _⟩ := h; rfl
  · obtain ⟨nv, ns, rfl, dn, hl, hm, q⟩ := h
    refine ⟨_, PSs.nox (pss_one (ps_ret (pe_lc (own := [("one", 1)]) rfl sc_turned.nd (pi_list (pv 0)) (blkOk_by (N := ["names", "one"]) (sc := defScope (top 64)) (by decide +kernel)) (fun _ _ _ _ _ => (pg_name (i := 1) sc_turned.nd rfl (Or.inl rfl))) (fun _ _ _ _ _ => pts_nil) (fun _ _ _ _ _ => (pe_tup (pa_cons (pe_ix (ix_tupK (K := K) rfl) (pv 1) pe_int (fun _ _ => rfl)) (pa_cons (pe_ix (ix_tupK (K := K) rfl) (pv 1) pe_int (fun _ _ => rfl)) (pa_cons (pe_ix (ix_listK (K := K) rfl) (pe_lst (pa_cons pe_int (pa_cons pe_int (pa_cons pe_int (pa_cons pe_int pa_nil))))) (pe_ix (ix_tupK (K := K) rfl) (pv 1) pe_int (fun _ _ => rfl)) (fun _ _ => rfl)) pa_nil)))))))), ?_⟩
    obtain ⟨a, xs, rfl, ha, hx⟩ := Dp.lst_inv dn
    refine ⟨_, rfl, a, rfl, ⟨_, ha⟩, fun L nL => ?_⟩
    refine lc_it (walk_list (K := K) (a := a) (xs := xs)) (fun i H2 => ∃ acc, H2 L = some (.lst acc) ∧ DpAll K H2 acc ((turned (ns.take i)).map nD) ∧ Same H H2) ⟨[], upd_same, .nil, same_upd nL⟩ (fun i H2 _ ⟨_, _, _, s2⟩ => s2.seq ha) ?_ ?_
    · rintro i y H2 H3 hi ⟨acc, hL, hacc, s2⟩ ⟨rfl, hy⟩
      obtain ⟨dd, hd, dpy⟩ := DpAll.get' hx hy
      obtain ⟨p, hp, rfl⟩ := get_map hd
      obtain ⟨t, rfl, ht⟩ := nD_inv (Dp.same s2 dpy)
      have hm3 := hm p (List.mem_of_getElem? hp)
      refine ⟨rfl, _, rfl, t, _, _, _, rfl, rfl, ht, atI_nat (j := 0) rfl, ?_⟩
      refine ⟨_, rfl, t, _, _, _, rfl, rfl, ht, atI_nat (j := 1) rfl, ?_⟩
      refine ⟨(by show 4 ≤ sizeLine; decide), fun c nc => ?_⟩
      have t1 := same_upd (o := .lst [V.int 0, V.int 2, V.int 1, V.int 3]) nc
      refine ⟨_, rfl, t, _, _, _, rfl, rfl, Same.sqt t1 ht, atI_nat (j := 2) rfl, c, _, _, _, rfl, rfl, .inl (.inl upd_same), atI_nat (mode_at hm3), ?_⟩
      refine ⟨(by show 3 ≤ sizeLine; decide), fun e ne => ?_⟩
      have t2 := same_upd (o := .tup [.str p.1, .int p.2.1, .int (mode4 0 2 1 3 p.2.2 : Nat)]) ne
      have t12 := t1.trans t2
      refine ⟨acc, t12 _ _ hL, ?_, acc ++ [.ref e], upd_same, ?_, fun b o eb => by rw [upd_ne (ne_of_none eb nL)]; exact t12 _ _ (s2 _ _ eb)⟩
      · have e1 := DpAll.length hacc
        rw [List.length_map] at e1
        have e2 : (turned (ns.take i)).length = (ns.take i).length := List.length_map ..
        have e3 := List.length_take_le' i ns
        exact small1000 (by omega)
      · have et : turned (ns.take (i + 1)) = turned (ns.take i) ++ [(p.1, p.2.1, mode4 0 2 1 3 p.2.2)] := by
          rw [List.take_add_one, hp]
          exact List.map_append
        rw [et, List.map_append]
        have d2 : Dp K (upd (upd H3 c (.lst [V.int 0, V.int 2, V.int 1, V.int 3])) e (.tup [.str p.1, .int p.2.1, .int (mode4 0 2 1 3 p.2.2 : Nat)])) (.ref e) (nD (p.1, p.2.1, mode4 0 2 1 3 p.2.2)) := nD_of (.inl (.inl upd_same))
        exact DpAll.kl (Kl.upd (t12 _ _ hL)) (DpAll.snoc (DpAll.kl (.of t12) hacc (ns_noL _)) d2) (by rw [noLs_append, ns_noL, ns_noL]; rfl)
    · rintro H2 ⟨acc, hL, hacc, s2⟩
      have el : xs.length = ns.length := by rw [DpAll.length hx, List.length_map]
      rw [List.take_of_length_le (show ns.length ≤ xs.length by omega)] at hacc
      exact q H2 (.ref L) s2 (.lst (.inl (.inl hL)) hacc)
theorem sc_barred : FnScope ["names", "one"] ["names"] (defScope (top 65)) := ⟨rfl, rfl, rfl, by decide +kernel, rfl, by decide +kernel, by decide +kernel⟩
theorem has_barred (D : Def K mg "_law_barred" ["names"] (top 65)) : Has P w K mg base 1 "_law_barred" ["names"] (spMode K barred) := D.has fun f fd F => by
  refine F.ok sc_barred (fun vs H Q E h => ?_) (fun cdv A outer s H vs Q E hr h => ?_)
  · obtain ⟨nv, ns, rfl, _⟩ := h; rfl
  · obtain ⟨nv, ns, rfl, dn, hl, hm, q⟩ := h
    refine ⟨_, PSs.nox (pss_one (ps_ret (pe_lc (own := [("one", 1)]) rfl sc_barred.nd (pi_list (pv 0)) (blkOk_by (N := ["names", "one"]) (sc := defScope (top 65)) (by decide +kernel)) (fun _ _ _ _ _ => (pg_name (i := 1) sc_barred.nd rfl (Or.inl rfl))) (fun _ _ _ _ _ => pts_nil) (fun _ _ _ _ _ => (pe_tup (pa_cons (pe_ix (ix_tupK (K := K) rfl) (pv 1) pe_int (fun _ _ => rfl)) (pa_cons (pe_ix (ix_tupK (K := K) rfl) (pv 1) pe_int (fun _ _ => rfl)) (pa_cons (pe_ix (ix_listK (K := K) rfl) (pe_lst (pa_cons pe_int (pa_cons pe_int (pa_cons pe_int (pa_cons pe_int pa_nil))))) (pe_ix (ix_tupK (K := K) rfl) (pv 1) pe_int (fun _ _ => rfl)) (fun _ _ => rfl)) pa_nil)))))))), ?_⟩
    obtain ⟨a, xs, rfl, ha, hx⟩ := Dp.lst_inv dn
    refine ⟨_, rfl, a, rfl, ⟨_, ha⟩, fun L nL => ?_⟩
    refine lc_it (walk_list (K := K) (a := a) (xs := xs)) (fun i H2 => ∃ acc, H2 L = some (.lst acc) ∧ DpAll K H2 acc ((barred (ns.take i)).map nD) ∧ Same H H2) ⟨[], upd_same, .nil, same_upd nL⟩ (fun i H2 _ ⟨_, _, _, s2⟩ => s2.seq ha) ?_ ?_
    · rintro i y H2 H3 hi ⟨acc, hL, hacc, s2⟩ ⟨rfl, hy⟩
      obtain ⟨dd, hd, dpy⟩ := DpAll.get' hx hy
      obtain ⟨p, hp, rfl⟩ := get_map hd
      obtain ⟨t, rfl, ht⟩ := nD_inv (Dp.same s2 dpy)
      have hm3 := hm p (List.mem_of_getElem? hp)
      refine ⟨rfl, _, rfl, t, _, _, _, rfl, rfl, ht, atI_nat (j := 0) rfl, ?_⟩
      refine ⟨_, rfl, t, _, _, _, rfl, rfl, ht, atI_nat (j := 1) rfl, ?_⟩
      refine ⟨(by show 4 ≤ sizeLine; decide), fun c nc => ?_⟩
      have t1 := same_upd (o := .lst [V.int 0, V.int 3, V.int 3, V.int 3]) nc
      refine ⟨_, rfl, t, _, _, _, rfl, rfl, Same.sqt t1 ht, atI_nat (j := 2) rfl, c, _, _, _, rfl, rfl, .inl (.inl upd_same), atI_nat (mode_at hm3), ?_⟩
      refine ⟨(by show 3 ≤ sizeLine; decide), fun e ne => ?_⟩
      have t2 := same_upd (o := .tup [.str p.1, .int p.2.1, .int (mode4 0 3 3 3 p.2.2 : Nat)]) ne
      have t12 := t1.trans t2
      refine ⟨acc, t12 _ _ hL, ?_, acc ++ [.ref e], upd_same, ?_, fun b o eb => by rw [upd_ne (ne_of_none eb nL)]; exact t12 _ _ (s2 _ _ eb)⟩
      · have e1 := DpAll.length hacc
        rw [List.length_map] at e1
        have e2 : (barred (ns.take i)).length = (ns.take i).length := List.length_map ..
        have e3 := List.length_take_le' i ns
        exact small1000 (by omega)
      · have et : barred (ns.take (i + 1)) = barred (ns.take i) ++ [(p.1, p.2.1, mode4 0 3 3 3 p.2.2)] := by
          rw [List.take_add_one, hp]
          exact List.map_append
        rw [et, List.map_append]
        have d2 : Dp K (upd (upd H3 c (.lst [V.int 0, V.int 3, V.int 3, V.int 3])) e (.tup [.str p.1, .int p.2.1, .int (mode4 0 3 3 3 p.2.2 : Nat)])) (.ref e) (nD (p.1, p.2.1, mode4 0 3 3 3 p.2.2)) := nD_of (.inl (.inl upd_same))
        exact DpAll.kl (Kl.upd (t12 _ _ hL)) (DpAll.snoc (DpAll.kl (.of t12) hacc (ns_noL _)) d2) (by rw [noLs_append, ns_noL, ns_noL]; rfl)
    · rintro H2 ⟨acc, hL, hacc, s2⟩
      have el : xs.length = ns.length := by rw [DpAll.length hx, List.length_map]
      rw [List.take_of_length_le (show ns.length ≤ xs.length by omega)] at hacc
      exact q H2 (.ref L) s2 (.lst (.inl (.inl hL)) hacc)
end
/-! ### reading written dicts -/
section
variable {X : Cx} {o e : Expr} {td ty : TE} {apos cpos : Pos}
/-- d.get(k), d a dict of the module -/
def tKGet (K : PySem.W.Frag) (w : World) (td ty : TE) : TE := fun σ H Q => td σ H fun x H1 => ∃ p es n, x = .ref p ∧ KDict K w p es n ∧ ty σ H1 fun y H2 => ∃ (z : Str) (r : Option Value) (v : V), y = .str z ∧ PySem.W.nsIn K p z = some r ∧ RelV v (r.getD .none) ∧ Q v H2
theorem pe_kget (ho : PE X o td) (he : PE X e ty) (m : M1 X o "get" apos e cpos) : PE X (.Call (.Attribute o "get" apos) [e] [] cpos) (tKGet X.K X.w td ty) := by
  refine ⟨fun pins s σ H Q I h => ?_⟩
  refine wpAny_Call_method m.base m.few m.line PySem.F.plainAttrs_dict PySem.F.slot_dict_get PySem.F.type_dict_get (thn (ho.run pins s σ H _ I h) fun u s1 ⟨x, H1, I1, rx, p, es, n, ex, D, q1⟩ => ?_)
  subst ex
  obtain rfl : u = Value.ref p := rx
  refine ⟨kd_type D I1, fun b eb => by cases eb; exact ⟨_, I1.kIn _ _ D.at_, rfl⟩, ?_⟩
  rw [m.trees]
  refine Calls.callWith_builtin rfl (Calls.evalArgs_plain (Calls.spliced_cons (thn (he.run pins s1 σ H1 _ I1 q1) fun iv s2 ⟨y, H2, I2, ry, z, r, v, ey, en, rv, q2⟩ => Calls.spliced_nil ?_)))
  subst ey
  obtain ⟨t, rfl⟩ := ry
  refine call_meetsIn PySem.F.slot_dict_get (kd_type D I2) PySem.F.entry_dict_get (PySem.F.args_dict_get_2 _ _) (meets_dict_get (PySem.strKind X.prog X.w) p (PySem.strKind_is X.prog X.w z t) D.low) ⟨_, PySem.W.mapOf_K (prog := X.prog) I2.kIn D.at_ D.lit, ?_⟩
  rw [PySem.W.find_K D.at_ en]
  exact ⟨v, H2, I2.tok _, rv, q2⟩
end
/-- what the module's dict x holds under twelve words -/
structure KTab (K : PySem.W.Frag) (w : World) (mg : Str → Option Value) (x : Str) (kvs : List (Str × V)) : Prop where
  g : mg x = some (.ref (He.ga K x))
  d : ∃ es n, KDict K w (He.ga K x) es n
  there : ∀ k v, (k, v) ∈ kvs → ∃ u, PySem.W.nsIn K (He.ga K x) k = some (some u) ∧ RelV v u
def words12 : List Str := ["rel", "eq", "less", "not", "and", "or", "some", "all", "lfp", "pfp", "tc", "guess"]
def Miss (K : PySem.W.Frag) (x : Str) (ks : List Str) : Prop := ∀ k, k ∈ ks → PySem.W.nsIn K (He.ga K x) k = some none
theorem KTab.dct {K : PySem.W.Frag} {w : World} {mg : Str → Option Value} {x : Str} {kvs : List (Str × V)} (t : KTab K w mg x kvs) {k : Str} {v : V} (h : (k, v) ∈ kvs) : KDct K w (He.ga K x) k v := by
  obtain ⟨es, n, D⟩ := t.d
  obtain ⟨u, h1, h2⟩ := t.there k v h
  exact ⟨es, n, u, D.at_, D.lit, h1, h2⟩
/-! ### the tables of heads -/
def Kd.bodyAt : Kd → Option Nat
  | .no => some 1
  | .ex => some 2
  | .al => some 2
  | .lfp => some 3
  | .pfp => some 3
  | .tc => some 2
  | .gs => some 3
  | _ => none
def Kd.ownAt : Kd → Option Nat
  | .ex => some 1
  | .al => some 1
  | .lfp => some 2
  | .pfp => some 2
  | .tc => some 1
  | _ => none
def Kd.argsAt : Kd → Option Nat
  | .rel => some 2
  | .lfp => some 4
  | .pfp => some 4
  | .tc => some 3
  | _ => none
def Kd.many : Kd → Nat
  | .rel => 3
  | .eq => 3
  | .less => 3
  | .no => 2
  | .con => 2
  | .dis => 2
  | .ex => 3
  | .al => 3
  | .lfp => 5
  | .pfp => 5
  | .tc => 4
  | .gs => 4
def bodyTab : List (Str × V) := [("not", .int 1), ("some", .int 2), ("all", .int 2), ("lfp", .int 3), ("pfp", .int 3), ("tc", .int 2), ("guess", .int 3)]
def ownTab : List (Str × V) := [("some", .int 1), ("all", .int 1), ("lfp", .int 2), ("pfp", .int 2), ("tc", .int 1)]
def argsTab : List (Str × V) := [("rel", .int 2), ("lfp", .int 4), ("pfp", .int 4), ("tc", .int 3)]
def lenTab : List (Str × V) := [("rel", .int 3), ("eq", .int 3), ("less", .int 3), ("not", .int 2), ("and", .int 2), ("or", .int 2), ("some", .int 3), ("all", .int 3), ("lfp", .int 5), ("pfp", .int 5), ("tc", .int 4), ("guess", .int 4)]
def Kd.test : Kd → Str
  | .rel => "_is_rel"
  | .eq => "_is_comparison"
  | .less => "_is_comparison"
  | .no => "_is_negation"
  | .con => "_is_joined"
  | .dis => "_is_joined"
  | .ex => "_is_quantified"
  | .al => "_is_quantified"
  | .lfp => "_is_fixed_point"
  | .pfp => "_is_fixed_point"
  | .tc => "_is_closure"
  | .gs => "_is_guess"
def testTab (K : PySem.W.Frag) : List (Str × V) := [("rel", .ref (He.ga K "_is_rel")), ("eq", .ref (He.ga K "_is_comparison")), ("less", .ref (He.ga K "_is_comparison")), ("not", .ref (He.ga K "_is_negation")), ("and", .ref (He.ga K "_is_joined")), ("or", .ref (He.ga K "_is_joined")),
  ("some", .ref (He.ga K "_is_quantified")), ("all", .ref (He.ga K "_is_quantified")), ("lfp", .ref (He.ga K "_is_fixed_point")), ("pfp", .ref (He.ga K "_is_fixed_point")), ("tc", .ref (He.ga K "_is_closure")), ("guess", .ref (He.ga K "_is_guess"))]
/-- the constants of shapes -/
structure Shp (K : PySem.W.Frag) (w : World) (mg : Str → Option Value) : Prop where
  joined : ∃ t, mg "MOST_JOINED" = some (.int 40 t)
  guess : ∃ t, mg "LARGEST_GUESS" = some (.int 3 t)
  relG : mg "REL_COUNTS" = some (.ref (He.ga K "REL_COUNTS"))
  relC : ∀ H : Hp, SqT K H (He.ga K "REL_COUNTS") (([0, 1, 2, 3, 4, 5, 6] : List Int).map V.int)
  ownG : mg "OWN_COUNTS" = some (.ref (He.ga K "OWN_COUNTS"))
  ownC : ∀ H : Hp, SqT K H (He.ga K "OWN_COUNTS") (([1, 2, 3, 4, 5, 6] : List Int).map V.int)
  tcG : mg "TC_COUNTS" = some (.ref (He.ga K "TC_COUNTS"))
  tcC : ∀ H : Hp, SqT K H (He.ga K "TC_COUNTS") (([2, 4, 6, 8] : List Int).map V.int)
  lens : KTab K w mg "LENGTHS" lenTab
  body : KTab K w mg "BODY_AT" bodyTab
  own : KTab K w mg "OWN_AT" ownTab
  tests : KTab K w mg "TESTS" (testTab K)
  bodyM : Miss K "BODY_AT" ["rel", "eq", "less", "and", "or"]
  ownM : Miss K "OWN_AT" ["rel", "eq", "less", "not", "and", "or", "guess"]
/-! ### the promises -/
/-- the number of formulas in it is right -/
def Hd.fits (h : Hd) (n : Nat) : Prop := ∀ k, h.one = some k → n = k
theorem Hd.Ok.fits {h : Hd} {n : Nat} (k : h.Ok n) : h.fits n := by
  intro m e
  cases h <;> first | (cases e; exact k.2.2) | (cases e; exact k.2.2.2) | (cases e; exact k) | (cases e; exact k.2) | (cases e; exact k.2.2.2.2) | (cases e; exact k.2.2.2.2.2) | cases e
/-- a function of a formula's head and parts that changes nothing -/
def spHd (K : PySem.W.Frag) (R : Hd → List PyData → V → Hp → Prop) : Sp := fun vs H Q _ => ∃ (v : V) (h : Hd) (ds : List PyData), vs = [v] ∧ Dp K H v (h.data ds) ∧ h.fits ds.length ∧ ∀ (H' : Hp) (r : V), Same H H' → R h ds r H' → Q r H'
abbrev spInner (K : PySem.W.Frag) : Sp := spHd K fun _ ds r H' => Dp K H' r (.tuple ds)
abbrev spOwn (K : PySem.W.Frag) : Sp := spHd K fun h _ r H' => Dp K H' r (tS h.own)
abbrev spArgs (K : PySem.W.Frag) : Sp := spHd K fun h _ r H' => Dp K H' r (tS h.args)
abbrev spBName (K : PySem.W.Frag) : Sp := spHd K fun h _ r _ => r = match h.bound with | some (n, _) => V.str n | none => .non
abbrev spBArity (K : PySem.W.Frag) : Sp := fun vs H Q _ => ∃ (v : V) (h : Hd) (ds : List PyData) (n : Str) (k : Nat), vs = [v] ∧ Dp K H v (h.data ds) ∧ h.bound = some (n, k) ∧ ∀ (H' : Hp), Same H H' → Q (.int k) H'
theorem body_mem : ∀ (k : Kd) (i : Nat), k.bodyAt = some i → (k.word, V.int (i : Nat)) ∈ bodyTab := by
  intro k i e
  cases k <;> first | (cases e; decide +kernel) | cases e
theorem body_mis : ∀ k : Kd, k.bodyAt = none → k.word ∈ (["rel", "eq", "less", "and", "or"] : List Str) := by
  intro k e
  cases k <;> first | decide +kernel | cases e
theorem own_mem : ∀ (k : Kd) (i : Nat), k.ownAt = some i → (k.word, V.int (i : Nat)) ∈ ownTab := by
  intro k i e
  cases k <;> first | (cases e; decide +kernel) | cases e
theorem own_mis : ∀ k : Kd, k.ownAt = none → k.word ∈ (["rel", "eq", "less", "not", "and", "or", "guess"] : List Str) := by
  intro k e
  cases k <;> first | decide +kernel | cases e
theorem args_mem : ∀ (k : Kd) (i : Nat), k.argsAt = some i → (k.word, V.int (i : Nat)) ∈ argsTab := by
  intro k i e
  cases k <;> first | (cases e; decide +kernel) | cases e
theorem args_mis : ∀ k : Kd, k.argsAt = none → k.word ∈ (["eq", "less", "not", "and", "or", "some", "all", "guess"] : List Str) := by
  intro k e
  cases k <;> first | decide +kernel | cases e
theorem len_mem : ∀ (k : Kd), (k.word, V.int (k.many : Nat)) ∈ lenTab := by
  intro k
  cases k <;> decide +kernel
theorem kd_isJ : ∀ k : Kd, inV (.str k.word) [.str "and", .str "or"] = true → k = .con ∨ k = .dis := by
  intro k; cases k <;> decide +kernel
theorem kd_isJ' : ∀ k : Kd, inV (.str k.word) [.str "and", .str "or"] = false → k ≠ .con ∧ k ≠ .dis := by
  intro k; cases k <;> decide +kernel
theorem kd_isE : ∀ k : Kd, inV (.str k.word) [.str "eq", .str "less"] = true → k = .eq ∨ k = .less := by
  intro k; cases k <;> decide +kernel
theorem kd_isE' : ∀ k : Kd, inV (.str k.word) [.str "eq", .str "less"] = false → k ≠ .eq ∧ k ≠ .less := by
  intro k; cases k <;> decide +kernel
theorem isJ (h : Hd) (z : inV (.str h.word) [.str "and", .str "or"] = true) : h = .con ∨ h = .dis := by
  rcases kd_isJ _ z with e | e <;> cases h <;> first | exact Or.inl rfl | exact Or.inr rfl | cases e
theorem isJ' (h : Hd) (z : inV (.str h.word) [.str "and", .str "or"] = false) : h ≠ .con ∧ h ≠ .dis := by
  have := kd_isJ' _ z
  exact ⟨fun e => this.1 (by rw [e]; rfl), fun e => this.2 (by rw [e]; rfl)⟩
theorem isE (h : Hd) (z : inV (.str h.word) [.str "eq", .str "less"] = true) : ∃ x y, (h = .eq x y ∨ h = .less x y) := by
  rcases kd_isE _ z with e | e <;> cases h <;> first | exact ⟨_, _, Or.inl rfl⟩ | exact ⟨_, _, Or.inr rfl⟩ | cases e
theorem isE' (h : Hd) (z : inV (.str h.word) [.str "eq", .str "less"] = false) : ∀ x y, h ≠ .eq x y ∧ h ≠ .less x y := by
  have := kd_isE' _ z
  exact fun x y => ⟨fun e => this.1 (by rw [e]; rfl), fun e => this.2 (by rw [e]; rfl)⟩
section
variable {P : Program} {w : World} {K : PySem.W.Frag} {mg : Str → Option Value} {base : Heap}
theorem at0 {v : V} {xs : List V} : (v :: xs)[0]? = some v := rfl
theorem atS {v d : V} {xs : List V} {i : Nat} (h : xs[i]? = some d) : (v :: xs)[i + 1]? = some d := h
theorem sc_inner : FnScope ["formula"] ["formula"] (defScope (top 36)) := ⟨rfl, rfl, rfl, by decide +kernel, rfl, by decide +kernel, by decide +kernel⟩
theorem has_inner (D : Def K mg "inner" ["formula"] (top 36)) (T : Txt mg) (S : Shp K w mg) : Has P w K mg base 1 "inner" ["formula"] (spInner K) := D.has fun f fd F => by
  have c_BODY_AT := S.body.g
  obtain ⟨es, n, D_BODY_AT⟩ := S.body.d
  refine F.ok sc_inner (fun vs H Q E h => ?_) (fun cdv A outer s H vs Q E hr h => ?_)
  · obtain ⟨v, h, ds, rfl, _⟩ := h; rfl
  · obtain ⟨v, h, ds, rfl, dp, fit, q⟩ := h
    refine ⟨_, PSs.nox (pss_cons (ps_if (pt_cmpR op_in_seq (pe_ix ix_tup (pv 0) pe_int (fun _ _ => rfl)) (pe_tup (pa_cons pe_str (pa_cons pe_str pa_nil))) (by rfl)) (pss_one (ps_ret (pe_ix ix_tup (pv 0) pe_int (fun _ _ => rfl)))) pss_nil) (pss_cons (ps_if (pt_cmpR (op_in_kd D_BODY_AT) (pe_ix ix_tup (pv 0) pe_int (fun _ _ => rfl)) (pe_glob (v := .ref (He.ga K "BODY_AT")) (by rfl) c_BODY_AT rfl) (by rfl)) (pss_one (ps_ret (pe_tup (pa_cons (pe_ix ix_tup (pv 0) (pe_ix ix_kdict (pe_glob (v := .ref (He.ga K "BODY_AT")) (by rfl) c_BODY_AT rfl) (pe_ix ix_tup (pv 0) pe_int (fun _ _ => rfl)) (fun _ _ => rfl)) (fun _ _ => rfl)) pa_nil)))) pss_nil) (pss_one (ps_ret (pe_tup pa_nil))))), ?_⟩
    obtain ⟨a, xs, rfl, hT, hx⟩ := hd_inv dp
    refine ⟨_, rfl, a, _, _, _, rfl, rfl, hT, atI_nat (j := 0) rfl, (by show 2 ≤ sizeLine; decide), fun p np => ⟨p, _, rfl, .inr (SqT.of upd_same), rfl, rfl, _, rfl, ?_⟩⟩
    have sp : Same H (upd H p (.tup [.str "and", .str "or"])) := same_upd np
    have hT1 := Same.sqt sp hT
    have dp1 : DpAll K (upd H p (.tup [.str "and", .str "or"])) xs (h.rest ds) := DpAll.same sp hx
    by_cases j : inV (.str h.word) [.str "and", .str "or"] = true
    · refine cT j ?_
      have e : h.rest ds = [.tuple ds] := by rcases isJ h j with e | e <;> rw [e] <;> rfl
      rw [e] at dp1
      obtain ⟨v1, ws, rfl, h1, _⟩ := DpAll.cons_inv dp1
      exact ⟨_, rfl, a, _, _, _, rfl, rfl, hT1, atI_nat (j := 1) rfl, q _ _ sp h1⟩
    · have j' : inV (.str h.word) [.str "and", .str "or"] = false := by simpa using j
      refine cF j' ?_
      have nj := isJ' h j'
      refine ⟨_, rfl, a, _, _, _, rfl, rfl, hT1, atI_nat (j := 0) rfl, ?_⟩
      cases hb : h.kd.bodyAt with
      | some i =>
        have mem := body_mem _ _ hb
        obtain ⟨u, n1, ru⟩ := S.body.there _ _ mem
        refine ⟨_, _, rfl, rfl, n1, _, rfl, cT (k := (some u).isSome) rfl ?_⟩
        have one : ∃ d v2, ds = [d] ∧ (V.str h.word :: xs)[i]? = some v2 ∧ Dp K (upd H p (.tup [.str "and", .str "or"])) v2 d := by
          have l1 : ds.length = 1 := fit 1 (by cases h <;> first | cases hb; rfl | cases hb)
          obtain ⟨d, rfl⟩ := List.length_eq_one_iff.mp l1
          have g : (PyData.str h.word :: h.rest [d])[i]? = some d := by cases h <;> first | cases hb; rfl | cases hb
          obtain ⟨v2, g2, g3⟩ := DpAll.get (DpAll.cons (.str h.word) dp1) g
          exact ⟨d, v2, rfl, g2, g3⟩
        obtain ⟨d, v2, rfl, g2, g3⟩ := one
        refine ⟨_, rfl, _, rfl, a, _, _, _, rfl, rfl, hT1, atI_nat (j := 0) rfl, _, _, _, rfl, rfl, S.body.dct mem, a, _, _, _, rfl, rfl, hT1, atI_nat g2, (by show 1 ≤ sizeLine; decide), fun p2 np2 => ?_⟩
        exact q _ _ (sp.trans (same_upd np2)) (.tup (SqT.of upd_same) (.cons (Dp.same (same_upd np2) g3) .nil))
      | none =>
        have mem := body_mis _ hb
        refine ⟨_, _, rfl, rfl, S.bodyM _ mem, _, rfl, cF (k := (none : Option Value).isSome) rfl ?_⟩
        have e0 : ds = [] := by
          have l0 : ds.length = 0 := fit 0 (by cases h <;> first | rfl | exact absurd rfl nj.1 | exact absurd rfl nj.2 | cases hb)
          exact List.eq_nil_of_length_eq_zero l0
        subst e0
        refine ⟨(by show 0 ≤ sizeLine; decide), fun p2 np2 => ?_⟩
        exact q _ _ (sp.trans (same_upd np2)) (.tup (SqT.of upd_same) .nil)
theorem sc_own : FnScope ["formula"] ["formula"] (defScope (top 37)) := ⟨rfl, rfl, rfl, by decide +kernel, rfl, by decide +kernel, by decide +kernel⟩
theorem has_own (D : Def K mg "own" ["formula"] (top 37)) (T : Txt mg) (S : Shp K w mg) : Has P w K mg base 1 "own" ["formula"] (spOwn K) := D.has fun f fd F => by
  have c_OWN_AT := S.own.g
  obtain ⟨es, n, D_OWN_AT⟩ := S.own.d
  refine F.ok sc_own (fun vs H Q E h => ?_) (fun cdv A outer s H vs Q E hr h => ?_)
  · obtain ⟨v, h, ds, rfl, _⟩ := h; rfl
  · obtain ⟨v, h, ds, rfl, dp, fit, q⟩ := h
    refine ⟨_, PSs.nox (pss_cons (ps_if (pt_cmpR (op_in_kd D_OWN_AT) (pe_ix ix_tup (pv 0) pe_int (fun _ _ => rfl)) (pe_glob (v := .ref (He.ga K "OWN_AT")) (by rfl) c_OWN_AT rfl) (by rfl)) (pss_one (ps_ret (pe_ix ix_tup (pv 0) (pe_ix ix_kdict (pe_glob (v := .ref (He.ga K "OWN_AT")) (by rfl) c_OWN_AT rfl) (pe_ix ix_tup (pv 0) pe_int (fun _ _ => rfl)) (fun _ _ => rfl)) (fun _ _ => rfl)))) pss_nil) (pss_one (ps_ret (pe_tup pa_nil)))), ?_⟩
    obtain ⟨a, xs, rfl, hT, hx⟩ := hd_inv dp
    refine ⟨_, rfl, a, _, _, _, rfl, rfl, hT, atI_nat (j := 0) rfl, ?_⟩
    cases hb : h.kd.ownAt with
    | some i =>
      have mem := own_mem _ _ hb
      obtain ⟨u, n1, ru⟩ := S.own.there _ _ mem
      refine ⟨_, _, rfl, rfl, n1, _, rfl, cT (k := (some u).isSome) rfl ?_⟩
      have g : (PyData.str h.word :: h.rest ds)[i]? = some (tS h.own) := by cases h <;> first | cases hb; rfl | cases hb
      obtain ⟨v2, g2, g3⟩ := DpAll.get (DpAll.cons (.str h.word) hx) g
      refine ⟨_, rfl, _, rfl, a, _, _, _, rfl, rfl, hT, atI_nat (j := 0) rfl, _, _, _, rfl, rfl, S.own.dct mem, a, _, _, _, rfl, rfl, hT, atI_nat g2, ?_⟩
      exact q _ _ (.refl _) g3
    | none =>
      have mem := own_mis _ hb
      refine ⟨_, _, rfl, rfl, S.ownM _ mem, _, rfl, cF (k := (none : Option Value).isSome) rfl ?_⟩
      have e0 : h.own = [] := by cases h <;> first | rfl | cases hb
      refine ⟨(by show 0 ≤ sizeLine; decide), fun p2 np2 => ?_⟩
      exact q _ _ (same_upd np2) (by show Dp K _ _ (tS h.own); rw [e0]; exact .tup (SqT.of upd_same) .nil)
end
section
variable {P : Program} {w : World} {K : PySem.W.Frag} {mg : Str → Option Value} {base : Heap}
theorem kd_isB : ∀ k : Kd, inV (.str k.word) [.str "lfp", .str "pfp", .str "guess"] = true → k = .lfp ∨ k = .pfp ∨ k = .gs := by
  intro k; cases k <;> decide +kernel
theorem kd_isB' : ∀ k : Kd, inV (.str k.word) [.str "lfp", .str "pfp", .str "guess"] = false → k ≠ .lfp ∧ k ≠ .pfp ∧ k ≠ .gs := by
  intro k; cases k <;> decide +kernel
theorem rest_bound {h : Hd} {ds : List PyData} {n : Str} {k : Nat} (b : h.bound = some (n, k)) : (h.rest ds)[0]? = some (.str n) := by
  cases h <;> first | (cases b; rfl) | cases b
theorem bound_kd {h : Hd} (z : h.kd = .lfp ∨ h.kd = .pfp ∨ h.kd = .gs) : ∃ n k, h.bound = some (n, k) := by
  rcases z with e | e | e <;> cases h <;> first | exact ⟨_, _, rfl⟩ | cases e
theorem bound_kd' {h : Hd} (z : h.kd ≠ .lfp ∧ h.kd ≠ .pfp ∧ h.kd ≠ .gs) : h.bound = none := by
  cases h <;> first | rfl | exact absurd rfl z.1 | exact absurd rfl z.2.1 | exact absurd rfl z.2.2
theorem sc_bound_name : FnScope ["formula"] ["formula"] (defScope (top 38)) := ⟨rfl, rfl, rfl, by decide +kernel, rfl, by decide +kernel, by decide +kernel⟩
theorem has_bound_name (D : Def K mg "bound_name" ["formula"] (top 38)) : Has P w K mg base 1 "bound_name" ["formula"] (spBName K) := D.has fun f fd F => by
  refine F.ok sc_bound_name (fun vs H Q E h => ?_) (fun cdv A outer s H vs Q E hr h => ?_)
  · obtain ⟨v, h, ds, rfl, _⟩ := h; rfl
  · obtain ⟨v, h, ds, rfl, dp, fit, q⟩ := h
    refine ⟨_, PSs.nox (pss_cons (ps_if (pt_cmpR op_in_seq (pe_ix ix_tup (pv 0) pe_int (fun _ _ => rfl)) (pe_tup (pa_cons pe_str (pa_cons pe_str (pa_cons pe_str pa_nil)))) (by rfl)) (pss_one (ps_ret (pe_ix ix_tup (pv 0) pe_int (fun _ _ => rfl)))) pss_nil) (pss_one (ps_ret pe_non))), ?_⟩
    obtain ⟨a, xs, rfl, hT, hx⟩ := hd_inv dp
    refine ⟨_, rfl, a, _, _, _, rfl, rfl, hT, atI_nat (j := 0) rfl, (by show 3 ≤ sizeLine; decide), fun p np => ⟨p, _, rfl, .inr (SqT.of upd_same), rfl, rfl, _, rfl, ?_⟩⟩
    have sp : Same H (upd H p (.tup [.str "lfp", .str "pfp", .str "guess"])) := same_upd np
    by_cases j : inV (.str h.word) [.str "lfp", .str "pfp", .str "guess"] = true
    · refine cT j ?_
      obtain ⟨n, k, b⟩ := bound_kd (kd_isB _ j)
      obtain ⟨v2, g2, g3⟩ := DpAll.get hx (rest_bound b)
      refine ⟨_, rfl, a, _, _, _, rfl, rfl, Same.sqt sp hT, atI_nat (j := 1) (atS g2), ?_⟩
      refine q _ _ sp ?_
      show v2 = match h.bound with | some (n, _) => V.str n | none => .non
      rw [b]
      exact Dp.str_inv g3
    · have j' : inV (.str h.word) [.str "lfp", .str "pfp", .str "guess"] = false := by simpa using j
      refine cF j' ?_
      refine q _ _ sp ?_
      show V.non = match h.bound with | some (n, _) => V.str n | none => .non
      rw [bound_kd' (kd_isB' _ j')]
theorem kd_gs : ∀ k : Kd, decide (V.str k.word = V.str "guess") = true → k = .gs := by
  intro k; cases k <;> decide +kernel
theorem sc_bound_arity : FnScope ["formula"] ["formula"] (defScope (top 39)) := ⟨rfl, rfl, rfl, by decide +kernel, rfl, by decide +kernel, by decide +kernel⟩
theorem has_bound_arity (D : Def K mg "bound_arity" ["formula"] (top 39)) (T : Txt mg) : Has P w K mg base 1 "bound_arity" ["formula"] (spBArity K) := D.has fun f fd F => by
  refine F.ok sc_bound_arity (fun vs H Q E h => ?_) (fun cdv A outer s H vs Q E hr h => ?_)
  · obtain ⟨v, h, ds, n, k, rfl, _⟩ := h; rfl
  · obtain ⟨v, h, ds, n, k, rfl, dp, b, q⟩ := h
    refine ⟨_, PSs.nox (pss_cons (ps_if (pt_cmpR op_eq (pe_ix ix_tup (pv 0) pe_int (fun _ _ => rfl)) pe_str (nomark _)) (pss_one (ps_ret (pe_ix ix_tup (pv 0) pe_int (fun _ _ => rfl)))) pss_nil) (pss_one (ps_ret (pe_callB call_len_seq (by rfl) T.n_len PySem.boot_len (pa_cons (pe_ix ix_tup (pv 0) pe_int (fun _ _ => rfl)) pa_nil))))), ?_⟩
    obtain ⟨a, xs, rfl, hT, hx⟩ := hd_inv dp
    refine ⟨_, rfl, a, _, _, _, rfl, rfl, hT, atI_nat (j := 0) rfl, rfl, _, rfl, ite2 (fun e => ?_) (fun e => ?_)⟩
    · have ek := kd_gs _ e
      have g : (h.rest ds)[1]? = some (.int k) := by cases h <;> first | (cases b; rfl) | cases ek
      obtain ⟨v2, g2, g3⟩ := DpAll.get hx g
      rw [Dp.int_inv g3] at g2
      exact ⟨_, rfl, a, _, _, _, rfl, rfl, hT, atI_nat (j := 2) (atS g2), q _ (.refl _)⟩
    · have g : ∃ us : List Str, (h.rest ds)[1]? = some (tS us) ∧ us.length = k := by
        cases h <;> first | (cases b; exact ⟨_, rfl, rfl⟩) | (cases b; exact absurd rfl e) | cases b
      obtain ⟨us, g, rfl⟩ := g
      obtain ⟨v2, g2, g3⟩ := DpAll.get hx g
      obtain ⟨t, rfl, ht⟩ := tS_inv g3
      refine ⟨_, rfl, a, _, _, _, rfl, rfl, hT, atI_nat (j := 2) (atS g2), t, _, rfl, .inr ht, ?_⟩
      have := q _ (.refl H)
      rw [List.length_map]
      exact this
/-- are these variables, as many as one of the counts -/
noncomputable def allNm (as : List Str) : Bool := as.all isNm
def spAreVars (K : PySem.W.Frag) : Sp := fun vs H Q _ => ∃ (v : V) (as : List Str) (c : Addr) (ns : List Int), vs = [v, .ref c] ∧ Dp K H v (tS as) ∧ SqT K H c (ns.map V.int) ∧ (∀ z, z ∈ as → z.length ≤ sizeLine) ∧ as.length ≤ 1000 ∧
  ∀ (H' : Hp), Same H H' → Q (.bl (decide ((as.length : Int) ∈ ns) && allNm as)) H'
theorem inV_int {i : Int} : ∀ {ns : List Int}, inV (.int i) (ns.map V.int) = decide (i ∈ ns)
  | [] => by simp [inV]
  | n :: ns => by
    have ih := inV_int (i := i) (ns := ns)
    unfold inV at ih ⊢
    rw [List.map_cons, List.any_cons, ih]
    show ((n == i) || _) = _
    by_cases e : n = i
    · subst e; simp
    · have e2 : i ≠ n := fun z => e z.symm
      simp [e, e2]
theorem flat_ints : ∀ (ns : List Int), (ns.map V.int).all flatV = true
  | [] => rfl
  | n :: ns => by rw [List.map_cons, List.all_cons, flat_ints ns]; rfl
theorem flat_strs : ∀ (ns : List Str), (ns.map V.str).all flatV = true
  | [] => rfl
  | n :: ns => by rw [List.map_cons, List.all_cons, flat_strs ns]; rfl
theorem ty_tup {H : Hp} {a : Addr} {xs : List V} (h : SqT K H a xs) : TyX K H (.ref a) (.type "tuple") := by
  rcases h with (h | ⟨o, h⟩) | ⟨o, its, n, h, c, _⟩
  · exact .base (.tup h)
  · exact .fTuple h
  · exact .kTuple h c
theorem get_str {ns : List Str} {i : Nat} {y : V} (h : (ns.map V.str)[i]? = some y) : ∃ z, ns[i]? = some z ∧ y = .str z := by
  rw [List.getElem?_map] at h
  cases e : ns[i]? with
  | none => rw [e] at h; cases h
  | some z => rw [e] at h; exact ⟨z, rfl, (Option.some.inj h).symm⟩
theorem sc_are_variables : FnScope ["value", "counts", "variable"] ["value", "counts"] (defScope (top 24)) := ⟨rfl, rfl, rfl, by decide +kernel, rfl, by decide +kernel, by decide +kernel⟩
theorem has_are_variables (D : Def K mg "_are_variables" ["value", "counts"] (top 24)) (T : Txt mg) (C1 : Has P w K mg base 1 "is_name" ["text"] (spIsName K)) : Has P w K mg base 2 "_are_variables" ["value", "counts"] (spAreVars K) := D.has fun f fd F => by
  obtain ⟨f1, fd1, G_is_name, g_is_name, k_is_name, b_is_name⟩ := C1
  refine F.ok sc_are_variables (fun vs H Q E h => ?_) (fun cdv A outer s H vs Q E hr h => ?_)
  · obtain ⟨v, as, c, ns, rfl, _⟩ := h; rfl
  · obtain ⟨v, as, c, ns, rfl, dp, hc, lz, few, q⟩ := h
    have R_is_name : Room 1 _ := hr.mono (by decide)
    refine ⟨_, PSs.nox (pss_cons (ps_if (PW.pt (pw_or (pt_not (pt_val (pe_callB call_isi (by rfl) T.n_isinstance (by decide +kernel) (pa_cons (pv 0) (pa_cons (pe_bltn (v := .ty "tuple") (by rfl) T.n_tuple (by decide +kernel) rfl) pa_nil))))) (pw_or1 (pt_cmpR op_notIn_seq (pe_callB call_len_seq (by rfl) T.n_len PySem.boot_len (pa_cons (pv 0) pa_nil)) (pv 1) (by rfl))))) (pss_one (ps_ret pe_bl)) pss_nil) (pss_one (ps_ret (pe_callB (cr_all rfl) (by rfl) T.n_all (by decide +kernel) (pa_cons (pe_lc (own := [("variable", 2)]) rfl sc_are_variables.nd (pi_tup (pv 0)) (blkOk_by (N := ["value", "counts", "variable"]) (sc := defScope (top 24)) (by decide +kernel)) (fun _ _ _ _ _ => (pg_name (i := 2) sc_are_variables.nd rfl (Or.inl rfl))) (fun _ _ _ _ _ => pts_nil) (fun _ _ _ _ _ => (pe_call G_is_name R_is_name (by rfl) g_is_name k_is_name b_is_name .nil pass0 (pa_cons (pv 2) pa_nil)))) pa_nil))))), ?_⟩
    obtain ⟨t, rfl, ht⟩ := tS_inv dp
    refine ⟨_, rfl, _, _, _, _, _, rfl, .ty _, ty_tup ht, kit_ty (b := "tuple") (r := true) (by decide +kernel), _, rfl, iteF ?_⟩
    refine ⟨_, rfl, t, _, rfl, .inr ht, _, rfl, c, _, rfl, .inr hc, rfl, flat_ints ns, _, rfl, ?_⟩
    have el : inV (.int ((as.map V.str).length : Nat)) (ns.map V.int) = decide ((as.length : Int) ∈ ns) := by rw [List.length_map]; exact inV_int
    cases hin : decide ((as.length : Int) ∈ ns) with
    | false =>
      rw [hin] at el
      refine cT (k := !inV (.int ((as.map V.str).length : Nat)) (ns.map V.int)) (by rw [el]; rfl) ?_
      have := q H (.refl H)
      rw [hin] at this
      exact this
    | true =>
      rw [hin] at el
      refine cF (k := !inV (.int ((as.map V.str).length : Nat)) (ns.map V.int)) (by rw [el]; rfl) ?_
      refine ⟨_, rfl, t, rfl, ⟨_, ht⟩, fun L nL => ?_⟩
      refine lc_it (walk_tup (K := K) (a := t) (xs := as.map V.str)) (fun i H2 => H2 L = some (.lst (((as.take i).map isNm).map V.bl)) ∧ Same H H2) ⟨upd_same, same_upd nL⟩ (fun i H2 _ ⟨_, s2⟩ => Same.sqt s2 ht) ?_ ?_
      · rintro i y H2 H3 hi ⟨hL, s2⟩ ⟨rfl, hy⟩
        obtain ⟨z, hz, rfl⟩ := get_str hy
        refine ⟨rfl, _, rfl, .inl ⟨z, rfl, lz z (List.mem_of_getElem? hz), _, hL, ?_, ?_, fun b o eb => ?_⟩⟩
        · rw [List.length_map, List.length_map]
          exact Nat.lt_of_le_of_lt (List.length_take_le' _ _) (small1000 few)
        · rw [upd_same, List.take_add_one, hz, List.map_append, List.map_append]
          rfl
        · rw [upd_ne (ne_of_none eb nL)]
          exact s2 _ _ eb
      · rintro H2 ⟨hL, s2⟩
        have et : as.take (as.map V.str).length = as := by rw [List.length_map]; exact List.take_length
        rw [et] at hL
        refine ⟨L, as.map isNm, rfl, SqL.of hL, ?_⟩
        have e2 : (as.map isNm).all id = allNm as := by rw [List.all_map]; rfl
        have := q H2 s2
        rw [hin] at this
        show Q (.bl ((as.map isNm).all id)) H2
        rw [e2]
        exact this
end
section
variable {P : Program} {w : World} {K : PySem.W.Frag} {mg : Str → Option Value} {base : Heap}
def spAreDiff (K : PySem.W.Frag) : Sp := fun vs H Q _ => ∃ (v : V) (as : List Str) (c : Addr) (ns : List Int), vs = [v, .ref c] ∧ Dp K H v (tS as) ∧ SqT K H c (ns.map V.int) ∧ (∀ z, z ∈ as → z.length ≤ sizeLine) ∧ as.length ≤ 1000 ∧
  ∀ (H' : Hp), Same H H' → Q (.bl ((decide ((as.length : Int) ∈ ns) && allNm as) && decide as.Nodup)) H'
theorem strs_kV (as : List Str) : (as.map (Sum.inr : Str → Key)).map kV = as.map V.str := by
  rw [List.map_map]; rfl
theorem nodup_inr {as : List Str} : (as.map (Sum.inr : Str → Key)).Nodup ↔ as.Nodup := by
  constructor
  · intro h
    exact List.Pairwise.of_map _ (fun a b hne e => hne (congrArg _ e)) h
  · intro h
    exact List.Pairwise.map _ (fun a b hne e => hne (Sum.inr.inj e)) h
theorem sc_are_different : FnScope ["value", "counts"] ["value", "counts"] (defScope (top 25)) := ⟨rfl, rfl, rfl, by decide +kernel, rfl, by decide +kernel, by decide +kernel⟩
theorem has_are_different (D : Def K mg "are_different" ["value", "counts"] (top 25)) (T : Txt mg) (C1 : Has P w K mg base 2 "_are_variables" ["value", "counts"] (spAreVars K)) : Has P w K mg base 3 "are_different" ["value", "counts"] (spAreDiff K) := D.has fun f fd F => by
  obtain ⟨f1, fd1, G_are_variables, g_are_variables, k_are_variables, b_are_variables⟩ := C1
  refine F.ok sc_are_different (fun vs H Q E h => ?_) (fun cdv A outer s H vs Q E hr h => ?_)
  · obtain ⟨v, as, c, ns, rfl, _⟩ := h; rfl
  · obtain ⟨v, as, c, ns, rfl, dp, hc, lz, few, q⟩ := h
    have R_are_variables : Room 2 _ := hr.mono (by decide)
    refine ⟨_, PSs.nox (pss_one (ps_ret (pe_and (pe_call G_are_variables R_are_variables (by rfl) g_are_variables k_are_variables b_are_variables .nil pass0 (pa_cons (pv 0) (pa_cons (pv 1) pa_nil))) (pe_one (pe_cmpR op_eq (pe_callB call_lenSK (by rfl) T.n_len PySem.boot_len (pa_cons (pe_callTy (cr_setK rfl) (by rfl) T.n_set (by decide +kernel) (pa_cons (pv 0) pa_nil)) pa_nil)) (pe_callB call_len_seq (by rfl) T.n_len PySem.boot_len (pa_cons (pv 0) pa_nil)) (nomark _)))))), ?_⟩
    refine ⟨_, rfl, _, rfl, v, as, c, ns, rfl, dp, hc, lz, few, fun H1 s1 => ⟨_, rfl, ?_⟩⟩
    cases hb : (decide ((as.length : Int) ∈ ns) && allNm as) with
    | false =>
      refine iteF ?_
      have := q H1 s1
      rw [hb] at this
      exact this
    | true =>
      refine iteT ?_
      obtain ⟨t, rfl, ht⟩ := tS_inv (Dp.same s1 dp)
      refine ⟨_, rfl, t, as.map Sum.inr, rfl, .inr (by rw [strs_kV]; exact ht), (by rw [List.length_map]; omega), fun p c2 np hc2 => ?_⟩
      have s2 := s1.trans (same_upd (o := SetK P w p (memK (as.map Sum.inr)) c2) np)
      refine ⟨p, _, _, rfl, upd_same, _, rfl, t, _, rfl, .inr (Same.sqt (same_upd np) ht), rfl, ?_⟩
      have := q _ s2
      rw [hb] at this
      have e : decide (V.int (c2 : Nat) = V.int ((as.map V.str).length : Nat)) = (true && decide as.Nodup) := by
        have z := hc2.all
        rw [nodup_inr, List.length_map] at z
        rw [List.length_map]
        by_cases hn : as.Nodup
        · rw [z.mpr hn, decide_eq_true hn]
          exact decide_eq_true rfl
        · rw [decide_eq_false hn]
          refine decide_eq_false fun h => hn (z.mp ?_)
          have h2 : (c2 : Int) = (as.length : Nat) := V.int.inj h
          omega
      show Q (.bl (decide (V.int (c2 : Nat) = V.int ((as.map V.str).length : Nat)))) _
      rw [e]
      exact this
/-- the promise of a test of heads -/
def spTest (K : PySem.W.Frag) (x : Str) : Sp := fun vs H Q _ => ∃ (v : V) (h : Hd) (ds : List PyData), vs = [v] ∧ Dp K H v (h.data ds) ∧ h.Ok ds.length ∧ h.kd.test = x ∧ ∀ (H' : Hp), Same H H' → Q (.bl true) H'
theorem Nm.short {z : Str} (n : Nm z) : z.length ≤ sizeLine := Nat.le_trans n.hi (by decide)
theorem names_all {as : List Str} (h : Names as) : allNm as = true := List.all_eq_true.mpr fun z hz => isNm_t (h z hz)
theorem names_short {as : List Str} (h : Names as) : ∀ z, z ∈ as → z.length ≤ sizeLine := fun z hz => (h z hz).short
theorem vars_t {as : List Str} {ns : List Int} (h : Names as) (m : (as.length : Int) ∈ ns) : (decide ((as.length : Int) ∈ ns) && allNm as) = true := by
  rw [decide_eq_true m, names_all h]; rfl
theorem diff_t {as : List Str} {ns : List Int} (h : Names as) (m : (as.length : Int) ∈ ns) (d : as.Nodup) : ((decide ((as.length : Int) ∈ ns) && allNm as) && decide as.Nodup) = true := by
  rw [vars_t h m, decide_eq_true d]; rfl
theorem kd_tn : ∀ (k : Kd), (k.test = "_is_rel" → k = .rel) ∧ (k.test = "_is_comparison" → k = .eq ∨ k = .less) ∧ (k.test = "_is_joined" → k = .con ∨ k = .dis) ∧ (k.test = "_is_quantified" → k = .ex ∨ k = .al) ∧
    (k.test = "_is_fixed_point" → k = .lfp ∨ k = .pfp) ∧ (k.test = "_is_closure" → k = .tc) ∧ (k.test = "_is_guess" → k = .gs) := by
  intro k; cases k <;> decide +kernel
theorem sc_is_rel : FnScope ["value"] ["value"] (defScope (top 26)) := ⟨rfl, rfl, rfl, by decide +kernel, rfl, by decide +kernel, by decide +kernel⟩
theorem has_is_rel (D : Def K mg "_is_rel" ["value"] (top 26)) (S : Shp K w mg) (C1 : Has P w K mg base 1 "is_name" ["text"] (spIsName K)) (C2 : Has P w K mg base 2 "_are_variables" ["value", "counts"] (spAreVars K)) : Has P w K mg base 4 "_is_rel" ["value"] (spTest K "_is_rel") := D.has fun f fd F => by
  obtain ⟨f1, fd1, G_is_name, g_is_name, k_is_name, b_is_name⟩ := C1
  obtain ⟨f2, fd2, G_are_variables, g_are_variables, k_are_variables, b_are_variables⟩ := C2
  have c_REL_COUNTS := S.relG
  refine F.ok sc_is_rel (fun vs H Q E h => ?_) (fun cdv A outer s H vs Q E hr h => ?_)
  · obtain ⟨v, h, ds, rfl, _⟩ := h; rfl
  · obtain ⟨v, h, ds, rfl, dp, ok, tn, q⟩ := h
    have R_is_name : Room 1 _ := hr.mono (by decide)
    have R_are_variables : Room 2 _ := hr.mono (by decide)
    refine ⟨_, PSs.nox (pss_one (ps_ret (pe_and (pe_call G_is_name R_is_name (by rfl) g_is_name k_is_name b_is_name .nil pass0 (pa_cons (pe_ix ix_tup (pv 0) pe_int (fun _ _ => rfl)) pa_nil)) (pe_one (pe_call G_are_variables R_are_variables (by rfl) g_are_variables k_are_variables b_are_variables .nil pass0 (pa_cons (pe_ix ix_tup (pv 0) pe_int (fun _ _ => rfl)) (pa_cons (pe_glob (v := .ref (He.ga K "REL_COUNTS")) (by rfl) c_REL_COUNTS rfl) pa_nil))))))), ?_⟩
    have ek := (kd_tn _).1 tn
    cases h with
    | rel n as =>
      obtain ⟨hn, hl, hs, _⟩ := ok
      obtain ⟨a, xs, rfl, hT, hx⟩ := hd_inv dp
      obtain ⟨v1, ws, rfl, h1, h2⟩ := DpAll.cons_inv hx
      obtain ⟨v2, ws2, rfl, h3, h4⟩ := DpAll.cons_inv h2
      rw [Dp.str_inv h1] at hT
      refine ⟨_, rfl, a, _, _, _, rfl, rfl, hT, atI_nat (j := 1) rfl, .inl ⟨n, rfl, hn.short, _, rfl, ?_⟩⟩
      refine cT (isNm_t hn) ⟨_, rfl, a, _, _, _, rfl, rfl, hT, atI_nat (j := 2) rfl, v2, as, _, [0, 1, 2, 3, 4, 5, 6], rfl, h3, S.relC _, names_short hs, by omega, fun H1 s1 => ?_⟩
      have m : (as.length : Int) ∈ ([0, 1, 2, 3, 4, 5, 6] : List Int) := by simp only [List.mem_cons, List.not_mem_nil, or_false]; omega
      rw [vars_t hs m]
      exact q H1 s1
    | _ => cases ek
theorem sc_is_comparison : FnScope ["value"] ["value"] (defScope (top 27)) := ⟨rfl, rfl, rfl, by decide +kernel, rfl, by decide +kernel, by decide +kernel⟩
theorem has_is_comparison (D : Def K mg "_is_comparison" ["value"] (top 27)) (C1 : Has P w K mg base 1 "is_name" ["text"] (spIsName K)) : Has P w K mg base 4 "_is_comparison" ["value"] (spTest K "_is_comparison") := D.has fun f fd F => by
  obtain ⟨f1, fd1, G_is_name, g_is_name, k_is_name, b_is_name⟩ := C1
  refine F.ok sc_is_comparison (fun vs H Q E h => ?_) (fun cdv A outer s H vs Q E hr h => ?_)
  · obtain ⟨v, h, ds, rfl, _⟩ := h; rfl
  · obtain ⟨v, h, ds, rfl, dp, ok, tn, q⟩ := h
    have R_is_name : Room 1 _ := hr.mono (by decide)
    refine ⟨_, PSs.nox (pss_one (ps_ret (pe_and (pe_call G_is_name R_is_name (by rfl) g_is_name k_is_name b_is_name .nil pass0 (pa_cons (pe_ix ix_tup (pv 0) pe_int (fun _ _ => rfl)) pa_nil)) (pe_one (pe_call G_is_name R_is_name (by rfl) g_is_name k_is_name b_is_name .nil pass0 (pa_cons (pe_ix ix_tup (pv 0) pe_int (fun _ _ => rfl)) pa_nil)))))), ?_⟩
    have two : ∃ x y, Nm x ∧ Nm y ∧ h.rest ds = [.str x, .str y] := by
      rcases (kd_tn _).2.1 tn with e | e <;> cases h <;> first | exact ⟨_, _, ok.1, ok.2.1, rfl⟩ | cases e
    obtain ⟨x, y, nx, ny, e⟩ := two
    obtain ⟨a, xs, rfl, hT, hx⟩ := hd_inv dp
    rw [e] at hx
    rw [DpAll.strs (as := [x, y]) hx] at hT
    refine ⟨_, rfl, a, _, _, _, rfl, rfl, hT, atI_nat (j := 1) rfl, .inl ⟨x, rfl, nx.short, _, rfl, ?_⟩⟩
    refine cT (isNm_t nx) ⟨_, rfl, a, _, _, _, rfl, rfl, hT, atI_nat (j := 2) rfl, .inl ⟨y, rfl, ny.short, ?_⟩⟩
    rw [isNm_t ny]
    exact q H (.refl H)
theorem sc_is_negation : FnScope ["_value"] ["_value"] (defScope (top 28)) := ⟨rfl, rfl, rfl, by decide +kernel, rfl, by decide +kernel, by decide +kernel⟩
theorem has_is_negation (D : Def K mg "_is_negation" ["_value"] (top 28)) : Has P w K mg base 4 "_is_negation" ["_value"] (spTest K "_is_negation") := D.has fun f fd F => by
  refine F.ok sc_is_negation (fun vs H Q E h => ?_) (fun cdv A outer s H vs Q E hr h => ?_)
  · obtain ⟨v, h, ds, rfl, _⟩ := h; rfl
  · obtain ⟨v, h, ds, rfl, dp, ok, tn, q⟩ := h
    exact ⟨_, PSs.nox (pss_one (ps_ret pe_bl)), q H (.refl H)⟩
theorem sc_is_joined : FnScope ["value"] ["value"] (defScope (top 29)) := ⟨rfl, rfl, rfl, by decide +kernel, rfl, by decide +kernel, by decide +kernel⟩
theorem has_is_joined (D : Def K mg "_is_joined" ["value"] (top 29)) (T : Txt mg) (S : Shp K w mg) : Has P w K mg base 4 "_is_joined" ["value"] (spTest K "_is_joined") := D.has fun f fd F => by
  obtain ⟨t1, c_MOST_JOINED⟩ := S.joined
  refine F.ok sc_is_joined (fun vs H Q E h => ?_) (fun cdv A outer s H vs Q E hr h => ?_)
  · obtain ⟨v, h, ds, rfl, _⟩ := h; rfl
  · obtain ⟨v, h, ds, rfl, dp, ok, tn, q⟩ := h
    refine ⟨_, PSs.nox (pss_one (ps_ret (pe_and (pe_callB call_isi (by rfl) T.n_isinstance (by decide +kernel) (pa_cons (pe_ix ix_tup (pv 0) pe_int (fun _ _ => rfl)) (pa_cons (pe_bltn (v := .ty "tuple") (by rfl) T.n_tuple (by decide +kernel) rfl) pa_nil))) (pe_one (pe_cmpR op_le (pe_callB call_len_seq (by rfl) T.n_len PySem.boot_len (pa_cons (pe_ix ix_tup (pv 0) pe_int (fun _ _ => rfl)) pa_nil)) (pe_glob (v := .int 40) (by rfl) c_MOST_JOINED ⟨_, rfl⟩) (nomark _)))))), ?_⟩
    have two : ds.length ≤ 40 ∧ h.rest ds = [.tuple ds] := by
      rcases (kd_tn _).2.2.1 tn with e | e <;> cases h <;> first | exact ⟨ok, rfl⟩ | cases e
    obtain ⟨l40, e⟩ := two
    obtain ⟨a, xs, rfl, hT, hx⟩ := hd_inv dp
    rw [e] at hx
    obtain ⟨v1, ws, rfl, h1, h2⟩ := DpAll.cons_inv hx
    obtain ⟨b, ys, rfl, hb, hy⟩ := Dp.tup_inv h1
    refine ⟨_, rfl, a, _, _, _, rfl, rfl, hT, atI_nat (j := 1) rfl, _, _, _, _, _, rfl, .ty _, ty_tup hb, kit_ty (b := "tuple") (r := true) (by decide +kernel), _, rfl, iteT ?_⟩
    refine ⟨_, rfl, a, _, _, _, rfl, rfl, hT, atI_nat (j := 1) rfl, b, _, rfl, .inr hb, _, _, rfl, rfl, ?_⟩
    show Q (.bl (decide (((ys.length : Nat) : Int) ≤ 40))) H
    rw [decide_eq_true (show ((ys.length : Nat) : Int) ≤ 40 by rw [DpAll.length hy]; omega)]
    exact q H (.refl H)
theorem sc_is_quantified : FnScope ["value"] ["value"] (defScope (top 30)) := ⟨rfl, rfl, rfl, by decide +kernel, rfl, by decide +kernel, by decide +kernel⟩
theorem has_is_quantified (D : Def K mg "_is_quantified" ["value"] (top 30)) (S : Shp K w mg) (C2 : Has P w K mg base 3 "are_different" ["value", "counts"] (spAreDiff K)) : Has P w K mg base 4 "_is_quantified" ["value"] (spTest K "_is_quantified") := D.has fun f fd F => by
  obtain ⟨f2, fd2, G_are_different, g_are_different, k_are_different, b_are_different⟩ := C2
  have c_OWN_COUNTS := S.ownG
  refine F.ok sc_is_quantified (fun vs H Q E h => ?_) (fun cdv A outer s H vs Q E hr h => ?_)
  · obtain ⟨v, h, ds, rfl, _⟩ := h; rfl
  · obtain ⟨v, h, ds, rfl, dp, ok, tn, q⟩ := h
    have R_are_different : Room 3 _ := hr.mono (by decide)
    refine ⟨_, PSs.nox (pss_one (ps_ret (pe_call G_are_different R_are_different (by rfl) g_are_different k_are_different b_are_different .nil pass0 (pa_cons (pe_ix ix_tup (pv 0) pe_int (fun _ _ => rfl)) (pa_cons (pe_glob (v := .ref (He.ga K "OWN_COUNTS")) (by rfl) c_OWN_COUNTS rfl) pa_nil))))), ?_⟩
    have two : ∃ us, OwnOk us ∧ h.rest ds = tS us :: ds := by
      rcases (kd_tn _).2.2.2.1 tn with e | e <;> cases h <;> first | exact ⟨_, ok.1, rfl⟩ | cases e
    obtain ⟨us, ⟨o1, o6, on, od⟩, e⟩ := two
    obtain ⟨a, xs, rfl, hT, hx⟩ := hd_inv dp
    rw [e] at hx
    obtain ⟨v1, ws, rfl, h1, h2⟩ := DpAll.cons_inv hx
    refine ⟨_, rfl, a, _, _, _, rfl, rfl, hT, atI_nat (j := 1) rfl, v1, us, _, [1, 2, 3, 4, 5, 6], rfl, h1, S.ownC _, names_short on, by omega, fun H1 s1 => ?_⟩
    have m : (us.length : Int) ∈ ([1, 2, 3, 4, 5, 6] : List Int) := by simp only [List.mem_cons, List.not_mem_nil, or_false]; omega
    rw [diff_t on m od]
    exact q H1 s1
theorem sc_is_fixed_point : FnScope ["value"] ["value"] (defScope (top 31)) := ⟨rfl, rfl, rfl, by decide +kernel, rfl, by decide +kernel, by decide +kernel⟩
theorem has_is_fixed_point (D : Def K mg "_is_fixed_point" ["value"] (top 31)) (T : Txt mg) (S : Shp K w mg) (C1 : Has P w K mg base 1 "is_name" ["text"] (spIsName K)) (C2 : Has P w K mg base 2 "_are_variables" ["value", "counts"] (spAreVars K))
    (C3 : Has P w K mg base 3 "are_different" ["value", "counts"] (spAreDiff K)) : Has P w K mg base 4 "_is_fixed_point" ["value"] (spTest K "_is_fixed_point") := D.has fun f fd F => by
  obtain ⟨f1, fd1, G_is_name, g_is_name, k_is_name, b_is_name⟩ := C1
  obtain ⟨f2, fd2, G_are_variables, g_are_variables, k_are_variables, b_are_variables⟩ := C2
  obtain ⟨f3, fd3, G_are_different, g_are_different, k_are_different, b_are_different⟩ := C3
  have c_OWN_COUNTS := S.ownG
  refine F.ok sc_is_fixed_point (fun vs H Q E h => ?_) (fun cdv A outer s H vs Q E hr h => ?_)
  · obtain ⟨v, h, ds, rfl, _⟩ := h; rfl
  · obtain ⟨v, h, ds, rfl, dp, ok, tn, q⟩ := h
    have R_is_name : Room 1 _ := hr.mono (by decide)
    have R_are_variables : Room 2 _ := hr.mono (by decide)
    have R_are_different : Room 3 _ := hr.mono (by decide)
    refine ⟨_, PSs.nox (pss_cons (ps_if (PW.pt (pw_or (pt_not (pt_val (pe_call G_is_name R_is_name (by rfl) g_is_name k_is_name b_is_name .nil pass0 (pa_cons (pe_ix ix_tup (pv 0) pe_int (fun _ _ => rfl)) pa_nil)))) (pw_or1 (pt_not (pt_val (pe_call G_are_different R_are_different (by rfl) g_are_different k_are_different b_are_different .nil pass0 (pa_cons (pe_ix ix_tup (pv 0) pe_int (fun _ _ => rfl)) (pa_cons (pe_glob (v := .ref (He.ga K "OWN_COUNTS")) (by rfl) c_OWN_COUNTS rfl) pa_nil)))))))) (pss_one (ps_ret pe_bl)) pss_nil) (pss_one (ps_ret (pe_call G_are_variables R_are_variables (by rfl) g_are_variables k_are_variables b_are_variables .nil pass0 (pa_cons (pe_ix ix_tup (pv 0) pe_int (fun _ _ => rfl)) (pa_cons (pe_tup (pa_cons (pe_callB call_len_seq (by rfl) T.n_len PySem.boot_len (pa_cons (pe_ix ix_tup (pv 0) pe_int (fun _ _ => rfl)) pa_nil)) pa_nil)) pa_nil)))))), ?_⟩
    have two : ∃ n us as d, Nm n ∧ OwnOk us ∧ as.length = us.length ∧ Names as ∧ h.rest ds = [.str n, tS us, d, tS as] := by
      rcases (kd_tn _).2.2.2.2.1 tn with e | e <;> cases h <;> first | cases e; done | skip
      all_goals first | cases e; done | (obtain ⟨a1, a2, a3, a4, a5⟩ := ok; obtain ⟨d, rfl⟩ := List.length_eq_one_iff.mp a5; exact ⟨_, _, _, d, a1, a2, a3, a4, rfl⟩)
    obtain ⟨n, us, as, d, nn, ⟨o1, o6, on, od⟩, el, an, e⟩ := two
    obtain ⟨a, xs, rfl, hT, hx⟩ := hd_inv dp
    rw [e] at hx
    obtain ⟨v1, ws1, rfl, h1, hx⟩ := DpAll.cons_inv hx
    obtain ⟨v2, ws2, rfl, h2, hx⟩ := DpAll.cons_inv hx
    obtain ⟨v3, ws3, rfl, h3, hx⟩ := DpAll.cons_inv hx
    obtain ⟨v4, ws4, rfl, h4, hx⟩ := DpAll.cons_inv hx
    rw [Dp.str_inv h1] at hT
    refine ⟨_, rfl, a, _, _, _, rfl, rfl, hT, atI_nat (j := 1) rfl, .inl ⟨n, rfl, nn.short, _, rfl, ?_⟩⟩
    refine cF (k := !isNm n) (by rw [isNm_t nn]; rfl) ?_
    refine ⟨_, rfl, a, _, _, _, rfl, rfl, hT, atI_nat (j := 2) rfl, v2, us, _, [1, 2, 3, 4, 5, 6], rfl, h2, S.ownC _, names_short on, by omega, fun H1 s1 => ⟨_, rfl, ?_⟩⟩
    have m : (us.length : Int) ∈ ([1, 2, 3, 4, 5, 6] : List Int) := by simp only [List.mem_cons, List.not_mem_nil, or_false]; omega
    refine cF (k := !_) (by rw [diff_t on m od]; rfl) ?_
    have hT1 := Same.sqt s1 hT
    obtain ⟨t2, rfl, ht2⟩ := tS_inv (Dp.same s1 h2)
    refine ⟨_, rfl, a, _, _, _, rfl, rfl, hT1, atI_nat (j := 4) rfl, _, rfl, a, _, _, _, rfl, rfl, hT1, atI_nat (j := 2) rfl, t2, _, rfl, .inr ht2, (by show 1 ≤ sizeLine; decide), fun p np => ?_⟩
    refine ⟨v4, as, p, [((us.map V.str).length : Nat)], rfl, Dp.same (s1.trans (same_upd np)) h4, SqT.of upd_same, names_short an, by omega, fun H2 s2 => ?_⟩
    have m2 : (as.length : Int) ∈ ([((us.map V.str).length : Nat)] : List Int) := by rw [List.length_map, el]; exact List.mem_singleton.mpr rfl
    rw [vars_t an m2]
    exact q H2 ((s1.trans (same_upd np)).trans s2)
theorem sc_is_closure : FnScope ["value"] ["value"] (defScope (top 32)) := ⟨rfl, rfl, rfl, by decide +kernel, rfl, by decide +kernel, by decide +kernel⟩
theorem has_is_closure (D : Def K mg "_is_closure" ["value"] (top 32)) (T : Txt mg) (S : Shp K w mg) (C2 : Has P w K mg base 2 "_are_variables" ["value", "counts"] (spAreVars K))
    (C3 : Has P w K mg base 3 "are_different" ["value", "counts"] (spAreDiff K)) : Has P w K mg base 4 "_is_closure" ["value"] (spTest K "_is_closure") := D.has fun f fd F => by
  obtain ⟨f2, fd2, G_are_variables, g_are_variables, k_are_variables, b_are_variables⟩ := C2
  obtain ⟨f3, fd3, G_are_different, g_are_different, k_are_different, b_are_different⟩ := C3
  have c_TC_COUNTS := S.tcG
  refine F.ok sc_is_closure (fun vs H Q E h => ?_) (fun cdv A outer s H vs Q E hr h => ?_)
  · obtain ⟨v, h, ds, rfl, _⟩ := h; rfl
  · obtain ⟨v, h, ds, rfl, dp, ok, tn, q⟩ := h
    have R_are_variables : Room 2 _ := hr.mono (by decide)
    have R_are_different : Room 3 _ := hr.mono (by decide)
    refine ⟨_, PSs.nox (pss_one (ps_ret (pe_and (pe_call G_are_different R_are_different (by rfl) g_are_different k_are_different b_are_different .nil pass0 (pa_cons (pe_ix ix_tup (pv 0) pe_int (fun _ _ => rfl)) (pa_cons (pe_glob (v := .ref (He.ga K "TC_COUNTS")) (by rfl) c_TC_COUNTS rfl) pa_nil))) (pe_one (pe_call G_are_variables R_are_variables (by rfl) g_are_variables k_are_variables b_are_variables .nil pass0 (pa_cons (pe_ix ix_tup (pv 0) pe_int (fun _ _ => rfl)) (pa_cons (pe_tup (pa_cons (pe_callB call_len_seq (by rfl) T.n_len PySem.boot_len (pa_cons (pe_ix ix_tup (pv 0) pe_int (fun _ _ => rfl)) pa_nil)) pa_nil)) pa_nil))))))), ?_⟩
    have ek := (kd_tn _).2.2.2.2.2.1 tn
    cases h with
    | tc us as =>
      obtain ⟨lens, on, od, el, an, one⟩ := ok
      obtain ⟨d, rfl⟩ := List.length_eq_one_iff.mp one
      obtain ⟨a, xs, rfl, hT, hx⟩ := hd_inv dp
      obtain ⟨v1, ws1, rfl, h1, hx⟩ := DpAll.cons_inv hx
      obtain ⟨v2, ws2, rfl, h2, hx⟩ := DpAll.cons_inv hx
      obtain ⟨v3, ws3, rfl, h3, hx⟩ := DpAll.cons_inv hx
      refine ⟨_, rfl, a, _, _, _, rfl, rfl, hT, atI_nat (j := 1) rfl, v1, us, _, [2, 4, 6, 8], rfl, h1, S.tcC _, names_short on, by omega, fun H1 s1 => ⟨_, rfl, ?_⟩⟩
      have m : (us.length : Int) ∈ ([2, 4, 6, 8] : List Int) := by simp only [List.mem_cons, List.not_mem_nil, or_false]; omega
      refine cT (diff_t on m od) ?_
      have hT1 := Same.sqt s1 hT
      obtain ⟨t2, rfl, ht2⟩ := tS_inv (Dp.same s1 h1)
      refine ⟨_, rfl, a, _, _, _, rfl, rfl, hT1, atI_nat (j := 3) rfl, _, rfl, a, _, _, _, rfl, rfl, hT1, atI_nat (j := 1) rfl, t2, _, rfl, .inr ht2, (by show 1 ≤ sizeLine; decide), fun p np => ?_⟩
      refine ⟨v3, as, p, [((us.map V.str).length : Nat)], rfl, Dp.same (s1.trans (same_upd np)) h3, SqT.of upd_same, names_short an, by omega, fun H2 s2 => ?_⟩
      have m2 : (as.length : Int) ∈ ([((us.map V.str).length : Nat)] : List Int) := by rw [List.length_map, el]; exact List.mem_singleton.mpr rfl
      rw [vars_t an m2]
      exact q H2 ((s1.trans (same_upd np)).trans s2)
    | _ => cases ek
end
/-! ### whole numbers -/
def isI : V → Bool
  | .int _ => true
  | _ => false
def btw (lo hi : Int) : V → Bool
  | .int i => decide (lo ≤ i) && decide (i ≤ hi)
  | _ => false
def spWhole : Sp := fun vs H Q _ => ∃ x : V, vs = [x] ∧ flatV x = true ∧ Q (.bl (isI x)) H
def spBetween : Sp := fun vs H Q _ => ∃ (x : V) (lo hi : Int), vs = [x, .int lo, .int hi] ∧ flatV x = true ∧ Q (.bl (btw lo hi x)) H
section
variable {P : Program} {w : World} {K : PySem.W.Frag} {mg : Str → Option Value} {base : Heap}
theorem sc_is_whole : FnScope ["value"] ["value"] (defScope (top 5)) := ⟨rfl, rfl, rfl, by decide +kernel, rfl, by decide +kernel, by decide +kernel⟩
theorem has_is_whole (D : Def K mg "is_whole" ["value"] (top 5)) (T : Txt mg) : Has P w K mg base 1 "is_whole" ["value"] spWhole := D.has fun f fd F => by
  refine F.ok sc_is_whole (fun vs H Q E h => ?_) (fun cdv A outer s H vs Q E hr h => ?_)
  · obtain ⟨x, rfl, _⟩ := h; rfl
  · obtain ⟨x, rfl, fx, q⟩ := h
    refine ⟨_, PSs.nox (pss_one (ps_ret (pe_and (pe_callB call_isi (by rfl) T.n_isinstance (by decide +kernel) (pa_cons (pv 0) (pa_cons (pe_bltn (v := .ty "int") (by rfl) T.n_int (by decide +kernel) rfl) pa_nil))) (pe_one (pe_not (pe_callB call_isi (by rfl) T.n_isinstance (by decide +kernel) (pa_cons (pv 0) (pa_cons (pe_bltn (v := .ty "bool") (by rfl) T.n_bool (by decide +kernel) rfl) pa_nil)))))))), ?_⟩
    cases x with
    | int i => exact isi_q rfl (.base (.int i)) (b := true) (by decide +kernel) ⟨_, rfl, iteT (isi_q rfl (.base (.int i)) (b := false) (by decide +kernel) ⟨_, rfl, q⟩)⟩
    | bl b => exact isi_q rfl (.base (.bl b)) (b := true) (by decide +kernel) ⟨_, rfl, iteT (isi_q rfl (.base (.bl b)) (b := true) (by decide +kernel) ⟨_, rfl, q⟩)⟩
    | str z => exact isi_q rfl (.base (.str z)) (b := false) (by decide +kernel) ⟨_, rfl, iteF q⟩
    | non => exact isi_q rfl (.base .non) (b := false) (by decide +kernel) ⟨_, rfl, iteF q⟩
    | byt _ => cases fx
    | flt _ => cases fx
    | ref _ => cases fx
    | ty _ => cases fx
theorem sc_is_between : FnScope ["value", "low", "high"] ["value", "low", "high"] (defScope (top 6)) := ⟨rfl, rfl, rfl, by decide +kernel, rfl, by decide +kernel, by decide +kernel⟩
theorem has_is_between (D : Def K mg "is_between" ["value", "low", "high"] (top 6)) (C1 : Has P w K mg base 1 "is_whole" ["value"] spWhole) : Has P w K mg base 2 "is_between" ["value", "low", "high"] spBetween := D.has fun f fd F => by
  obtain ⟨f1, fd1, G_is_whole, g_is_whole, k_is_whole, b_is_whole⟩ := C1
  refine F.ok sc_is_between (fun vs H Q E h => ?_) (fun cdv A outer s H vs Q E hr h => ?_)
  · obtain ⟨x, lo, hi, rfl, _⟩ := h; rfl
  · obtain ⟨x, lo, hi, rfl, fx, q⟩ := h
    have R_is_whole : Room 1 _ := hr.mono (by decide)
    refine ⟨_, PSs.nox (pss_one (ps_ret (pe_and (pe_call G_is_whole R_is_whole (by rfl) g_is_whole k_is_whole b_is_whole .nil pass0 (pa_cons (pv 0) pa_nil)) (pe_one (pe_chain op_le op_le (pv 1) (pv 0) (pv 2)))))), ?_⟩
    refine ⟨_, rfl, x, rfl, fx, _, rfl, ?_⟩
    cases x with
    | int i =>
      refine iteT ⟨_, rfl, _, rfl, _, _, rfl, rfl, _, rfl, ?_⟩
      have q' : Q (.bl (decide (lo ≤ i) && decide (i ≤ hi))) H := q
      by_cases e : lo ≤ i
      · refine cT (decide_eq_true e) ⟨_, rfl, _, _, rfl, rfl, ?_⟩
        rw [decide_eq_true e] at q'
        exact q'
      · refine cF (decide_eq_false e) ?_
        rw [decide_eq_false e] at q'
        exact q'
    | bl b => exact iteF q
    | str z => exact iteF q
    | non => exact iteF q
    | byt _ => cases fx
    | flt _ => cases fx
    | ref _ => cases fx
    | ty _ => cases fx
end
section
variable {P : Program} {w : World} {K : PySem.W.Frag} {mg : Str → Option Value} {base : Heap}
theorem sc_is_guess : FnScope ["value"] ["value"] (defScope (top 33)) := ⟨rfl, rfl, rfl, by decide +kernel, rfl, by decide +kernel, by decide +kernel⟩
theorem has_is_guess (D : Def K mg "_is_guess" ["value"] (top 33)) (S : Shp K w mg) (C1 : Has P w K mg base 1 "is_name" ["text"] (spIsName K)) (C2 : Has P w K mg base 2 "is_between" ["value", "low", "high"] spBetween) : Has P w K mg base 4 "_is_guess" ["value"] (spTest K "_is_guess") := D.has fun f fd F => by
  obtain ⟨f1, fd1, G_is_name, g_is_name, k_is_name, b_is_name⟩ := C1
  obtain ⟨f2, fd2, G_is_between, g_is_between, k_is_between, b_is_between⟩ := C2
  obtain ⟨t1, c_LARGEST_GUESS⟩ := S.guess
  refine F.ok sc_is_guess (fun vs H Q E h => ?_) (fun cdv A outer s H vs Q E hr h => ?_)
  · obtain ⟨v, h, ds, rfl, _⟩ := h; rfl
  · obtain ⟨v, h, ds, rfl, dp, ok, tn, q⟩ := h
    have R_is_name : Room 1 _ := hr.mono (by decide)
    have R_is_between : Room 2 _ := hr.mono (by decide)
    refine ⟨_, PSs.nox (pss_one (ps_ret (pe_and (pe_call G_is_name R_is_name (by rfl) g_is_name k_is_name b_is_name .nil pass0 (pa_cons (pe_ix ix_tup (pv 0) pe_int (fun _ _ => rfl)) pa_nil)) (pe_one (pe_call G_is_between R_is_between (by rfl) g_is_between k_is_between b_is_between .nil pass0 (pa_cons (pe_ix ix_tup (pv 0) pe_int (fun _ _ => rfl)) (pa_cons pe_int (pa_cons (pe_glob (v := .int 3) (by rfl) c_LARGEST_GUESS ⟨_, rfl⟩) pa_nil)))))))), ?_⟩
    have ek := (kd_tn _).2.2.2.2.2.2 tn
    cases h with
    | gs n k =>
      obtain ⟨nn, k3, _⟩ := ok
      obtain ⟨a, xs, rfl, hT, hx⟩ := hd_inv dp
      obtain ⟨v1, ws1, rfl, h1, hx⟩ := DpAll.cons_inv hx
      obtain ⟨v2, ws2, rfl, h2, hx⟩ := DpAll.cons_inv hx
      rw [Dp.str_inv h1, Dp.int_inv h2] at hT
      refine ⟨_, rfl, a, _, _, _, rfl, rfl, hT, atI_nat (j := 1) rfl, .inl ⟨n, rfl, nn.short, _, rfl, ?_⟩⟩
      refine cT (isNm_t nn) ⟨_, rfl, a, _, _, _, rfl, rfl, hT, atI_nat (j := 2) rfl, .int k, 0, 3, rfl, rfl, ?_⟩
      have e : btw 0 3 (.int (k : Nat)) = true := by
        show (decide ((0 : Int) ≤ (k : Nat)) && decide (((k : Nat) : Int) ≤ 3)) = true
        rw [decide_eq_true (by omega), decide_eq_true (by omega)]; rfl
      rw [e]
      exact q H (.refl H)
    | _ => cases ek
def spShape (K : PySem.W.Frag) : Sp := fun vs H Q _ => ∃ (v : V) (h : Hd) (ds : List PyData), vs = [v] ∧ Dp K H v (h.data ds) ∧ h.Ok ds.length ∧ ∀ (H' : Hp), Same H H' → Q (.bl true) H'
theorem rest_len {h : Hd} {ds : List PyData} (ok : h.fits ds.length) : (h.rest ds).length + 1 = h.kd.many := by
  cases h with
  | no => have e := ok 1 rfl; show ds.length + 1 = 2; omega
  | ex us => have e := ok 1 rfl; show ds.length + 1 + 1 = 3; omega
  | al us => have e := ok 1 rfl; show ds.length + 1 + 1 = 3; omega
  | lfp n us as => have e := ok 1 rfl; show (ds ++ [tS as]).length + 1 + 1 + 1 = 5; rw [List.length_append, e]; rfl
  | pfp n us as => have e := ok 1 rfl; show (ds ++ [tS as]).length + 1 + 1 + 1 = 5; rw [List.length_append, e]; rfl
  | tc us as => have e := ok 1 rfl; show (ds ++ [tS as]).length + 1 + 1 = 4; rw [List.length_append, e]; rfl
  | gs n k => have e := ok 1 rfl; show ds.length + 1 + 1 + 1 = 4; omega
  | _ => rfl
theorem test_mem (K : PySem.W.Frag) (k : Kd) : (k.word, V.ref (He.ga K k.test)) ∈ testTab K := by
  cases k <;> simp [testTab, Kd.word, Kd.test]
structure Tests (P : Program) (w : World) (K : PySem.W.Frag) (mg : Str → Option Value) (base : Heap) : Prop where
  at_ : ∀ k : Kd, mg k.test = some (.ref (He.ga K k.test))
  has : ∀ k : Kd, ∃ ps, Has P w K mg base 4 k.test ps (spTest K k.test)
theorem sc_is_shape : FnScope ["value", "test"] ["value"] (defScope (top 35)) := ⟨rfl, rfl, rfl, by decide +kernel, rfl, by decide +kernel, by decide +kernel⟩
theorem has_is_shape (D : Def K mg "is_shape" ["value"] (top 35)) (T : Txt mg) (S : Shp K w mg) (C : Tests P w K mg base) : Has P w K mg base 5 "is_shape" ["value"] (spShape K) := D.has fun f fd F => by
  have c_LENGTHS := S.lens.g
  have c_TESTS := S.tests.g
  refine F.ok sc_is_shape (fun vs H Q E h => ?_) (fun cdv A outer s H vs Q E hr h => ?_)
  · obtain ⟨v, h, ds, rfl, _⟩ := h; rfl
  · obtain ⟨v, h, ds, rfl, dp, ok, q⟩ := h
    obtain ⟨ps1, f1, fd1, G1, g1, k1, b1⟩ := C.has h.kd
    have ef : f1 = He.ga K h.kd.test := by
      have := g1.symm.trans (C.at_ h.kd)
      injection this with this
      injection this
    have R1 : Room 4 _ := hr.mono (by decide)
    refine ⟨_, PSs.nox (pss_cons (ps_if (PW.pt (pw_or (pt_not (pt_val (pe_callB call_isi (by rfl) T.n_isinstance (by decide +kernel) (pa_cons (pv 0) (pa_cons (pe_bltn (v := .ty "tuple") (by rfl) T.n_tuple (by decide +kernel) rfl) pa_nil))))) (pw_or (pt_not (pt_truth (pv 0) (by intro _; rfl))) (pw_or1 (pt_not (pt_val (pe_callB call_isi (by rfl) T.n_isinstance (by decide +kernel) (pa_cons (pe_ix ix_tup (pv 0) pe_int (fun _ _ => rfl)) (pa_cons (pe_bltn (v := .ty "str") (by rfl) T.n_str (by decide +kernel) rfl) pa_nil))))))))) (pss_one (ps_ret pe_bl)) pss_nil) (pss_cons (ps_if (pt_cmpR op_ne (pe_kget (pe_glob (v := .ref (He.ga K "LENGTHS")) (by rfl) c_LENGTHS rfl) (pe_ix ix_tup (pv 0) pe_int (fun _ _ => rfl)) ⟨rfl, rfl, rfl, rfl⟩) (pe_callB call_len_seq (by rfl) T.n_len PySem.boot_len (pa_cons (pv 0) pa_nil)) (nomark _)) (pss_one (ps_ret pe_bl)) pss_nil) (pss_cons (ps_set (i := 1) sc_is_shape.nd rfl (Or.inl rfl) (pe_ix ix_kdict (pe_glob (v := .ref (He.ga K "TESTS")) (by rfl) c_TESTS rfl) (pe_ix ix_tup (pv 0) pe_int (fun _ _ => rfl)) (fun _ _ => rfl))) (pss_one (ps_ret (pe_callL (i := 1) G1 R1 rfl (Or.inl rfl) k1 b1 .nil pass0 (pa_cons (pv 0) pa_nil))))))), ?_⟩
    obtain ⟨a, xs, rfl, hT, hx⟩ := hd_inv dp
    refine ⟨_, rfl, _, _, _, _, _, rfl, .ty _, ty_tup hT, kit_ty (b := "tuple") (r := true) (by decide +kernel), _, rfl, iteF ?_⟩
    refine ⟨_, rfl, true, .inr (.inl ⟨_, hT, rfl⟩), iteF ?_⟩
    refine ⟨_, rfl, a, _, _, _, rfl, rfl, hT, atI_nat (j := 0) rfl, _, _, _, _, _, rfl, .ty _, .base (.str _), kit_ty (b := "str") (r := true) (by decide +kernel), _, rfl, iteF ?_⟩
    obtain ⟨es, n, DL⟩ := S.lens.d
    obtain ⟨u, n1, ru⟩ := S.lens.there _ _ (len_mem h.kd)
    refine ⟨_, es, n, rfl, DL, _, rfl, a, _, _, _, rfl, rfl, hT, atI_nat (j := 0) rfl, _, _, .int (h.kd.many : Nat), rfl, n1, ru, _, rfl, a, _, rfl, .inr hT, rfl, _, rfl, ?_⟩
    have el : decide (V.int (h.kd.many : Nat) = V.int (((V.str h.word :: xs).length : Nat) : Int)) = true := decide_eq_true (by rw [List.length_cons, DpAll.length hx, rest_len ok.fits])
    refine cF (k := !decide (V.int (h.kd.many : Nat) = V.int (((V.str h.word :: xs).length : Nat) : Int))) (by rw [el]; rfl) ?_
    refine ⟨_, rfl, a, _, _, _, rfl, rfl, hT, atI_nat (j := 0) rfl, _, _, _, rfl, rfl, S.tests.dct (test_mem K h.kd), ?_⟩
    refine ⟨?_, _, rfl, _, h, ds, rfl, dp, ok, rfl, q⟩
    rw [ef]
    rfl
end
/-! ### going through a formula -/
theorem sumN_append : ∀ (xs ys : List Nat), sumN (xs ++ ys) = sumN xs + sumN ys
  | [], ys => (Nat.zero_add _).symm
  | x :: xs, ys => by show x + sumN (xs ++ ys) = x + sumN xs + sumN ys; rw [sumN_append xs ys]; omega
theorem sumN_take {xs : List Nat} {i x : Nat} (h : xs[i]? = some x) : sumN (xs.take (i + 1)) = sumN (xs.take i) + x := by
  rw [List.take_add_one, h, sumN_append]; rfl
theorem sumN_take_le (xs : List Nat) (i : Nat) : sumN (xs.take i) ≤ sumN xs := by
  have e := sumN_append (xs.take i) (xs.drop i)
  rw [List.take_append_drop] at e
  omega
/-- the names that a formula gives to its own relation -/
def Hd.sgn (h : Hd) (s : Int) : Int := match h with
  | .no => -s
  | .pfp _ _ _ => 0
  | _ => s
def Hd.bname (h : Hd) : Option Str := h.bound.map (·.1)
def posStep (h : Hd) (xs : List (Str → Int → Bool)) (name : Str) (s : Int) : Bool := match h with
  | .rel n _ => s == 1 || !decide (n = name)
  | _ => if h.bname = some name then true else xs.all fun g => g name (h.sgn s)
def Fm.pos : Fm → Str → Int → Bool := Fm.fold posStep
theorem Fm.pos_mk (h : Hd) (ps : List Fm) (name : Str) (s : Int) : (Fm.mk h ps).pos name s = posStep h (ps.map Fm.pos) name s := congrFun (congrFun (Fm.fold_mk posStep h ps) name) s
theorem Fm.pos_rel {n : Str} {as : List Str} {ps : List Fm} {name : Str} {s : Int} : (Fm.mk (.rel n as) ps).pos name s = (s == 1 || !decide (n = name)) := Fm.pos_mk _ _ _ _
theorem Fm.pos_other {h : Hd} {ps : List Fm} {name : Str} {s : Int} (nr : h.kd ≠ .rel) : (Fm.mk h ps).pos name s = if h.bname = some name then true else ps.all fun p => p.pos name (h.sgn s) := by
  rw [Fm.pos_mk]
  have e : posStep h (ps.map Fm.pos) name s = if h.bname = some name then true else (ps.map Fm.pos).all fun g => g name (h.sgn s) := by cases h <;> first | rfl | exact absurd rfl nr
  rw [e, List.all_map]
  rfl
/-- the body of each lfp is positive in its name -/
inductive Fm.PosOk : Fm → Prop
  | mk {h : Hd} {ps : List Fm} (a : ∀ n us as, h = .lfp n us as → ∀ p, p ∈ ps → p.pos n 1 = true) (b : ∀ p, p ∈ ps → p.PosOk) : (Fm.mk h ps).PosOk
theorem Fm.PosOk.part {h : Hd} {ps : List Fm} (k : (Fm.mk h ps).PosOk) {p : Fm} (hp : p ∈ ps) : p.PosOk := by cases k with | mk a b => exact b p hp
theorem Fm.PosOk.here {n : Str} {us as : List Str} {ps : List Fm} (k : (Fm.mk (.lfp n us as) ps).PosOk) {p : Fm} (hp : p ∈ ps) : p.pos n 1 = true := by cases k with | mk a b => exact a n us as rfl p hp
/-! ### the promises -/
section
variable {P : Program} {w : World} {K : PySem.W.Frag} {mg : Str → Option Value} {base : Heap}
def spCS (K : PySem.W.Frag) (n : Nat) : Sp := fun vs H Q _ => ∃ (v : V) (l p : Int) (f : Fm), vs = [v, .int l, .int p] ∧ Dp K H v f.data ∧ f.Ok ∧ f.dep ≤ n ∧ (f.dep : Int) ≤ l ∧ (f.cnt : Int) ≤ p ∧ ∀ (H' : Hp), Same H H' → Q (.int (p - f.cnt)) H'
theorem sc_check_shapes : FnScope ["value", "levels_left", "parts_left", "part"] ["value", "levels_left", "parts_left"] (defScope (top 43)) := ⟨rfl, rfl, rfl, by decide +kernel, rfl, by decide +kernel, by decide +kernel⟩
theorem has_check_shapes (D : Def K mg "_check_shapes" ["value", "levels_left", "parts_left"] (top 43)) (C1 : Has P w K mg base 5 "is_shape" ["value"] (spShape K)) (C2 : Has P w K mg base 1 "inner" ["formula"] (spInner K)) :
    ∀ n : Nat, Has P w K mg base (6 + n) "_check_shapes" ["value", "levels_left", "parts_left"] (spCS K n) := by
  obtain ⟨f1, fd1, G_is_shape, g_is_shape, k_is_shape, b_is_shape⟩ := C1
  obtain ⟨f2, fd2, G_inner, g_inner, k_inner, b_inner⟩ := C2
  intro n
  induction n with
  | zero =>
    refine D.has fun f fd F => F.ok sc_check_shapes (fun vs H Q E h => ?_) (fun cdv A outer s H vs Q E hr h => ?_)
    · obtain ⟨v, l, p, f, rfl, _⟩ := h; rfl
    · obtain ⟨v, l, p, f, rfl, _, _, h0, _⟩ := h
      have := dep_pos f
      omega
  | succ n ih =>
    obtain ⟨f3, fd3, G_check_shapes, g_check_shapes, k_check_shapes, b_check_shapes⟩ := ih
    refine D.has fun f fd F => F.ok sc_check_shapes (fun vs H Q E h => ?_) (fun cdv A outer s H vs Q E hr h => ?_)
    · obtain ⟨v, l, p, f, rfl, _⟩ := h; rfl
    · obtain ⟨v, l, p, f, rfl, dp, ok, hn, hl, hp, q⟩ := h
      have R_is_shape : Room 5 _ := hr.mono (Nat.le_trans (by decide) (Nat.le_add_right 6 n))
      have R_inner : Room 1 _ := hr.mono (Nat.le_trans (by decide) (Nat.le_add_right 6 n))
      have R_check_shapes : Room (6 + n) _ := hr
      refine ⟨_, PSs.nox (pss_cons (ps_if (PW.pt (pw_or (pt_cmpR op_lt (pv 1) pe_int (nomark _)) (pw_or1 (pt_cmpR op_lt (pv 2) pe_int (nomark _))))) pss_never pss_nil) (pss_cons (ps_if (pt_not (pt_val (pe_call G_is_shape R_is_shape (by rfl) g_is_shape k_is_shape b_is_shape .nil pass0 (pa_cons (pv 0) pa_nil)))) pss_never pss_nil) (pss_cons (ps_aug (i := 2) sc_check_shapes.nd rfl (Or.inl rfl) pe_int ip_sub) (pss_cons (ps_for PassesOwn.never rfl (pi_tup (pe_call G_inner R_inner (by rfl) g_inner k_inner b_inner .nil pass0 (pa_cons (pv 0) pa_nil))) (pg_name (i := 3) sc_check_shapes.nd rfl (Or.inl rfl)) (pss_one (ps_set (i := 2) sc_check_shapes.nd rfl (Or.inl rfl) (pe_call G_check_shapes R_check_shapes (by rfl) g_check_shapes k_check_shapes b_check_shapes .nil pass0 (pa_cons (pv 3) (pa_cons (pe_op op_sub (pv 1) pe_int) (pa_cons (pv 2) pa_nil))))))) (pss_one (ps_ret (pv 2))))))), ?_⟩
      obtain ⟨h, ps⟩ := f
      rw [Fm.data_mk] at dp
      have hd1 : 1 ≤ (Fm.mk h ps).dep := dep_pos _
      have hc1 : (Fm.mk h ps).cnt = 1 + sumN (ps.map Fm.cnt) := Fm.cnt_mk h ps
      have fit : h.Ok (ps.map Fm.data).length := by rw [List.length_map]; exact ok.hd_
      refine ⟨_, rfl, _, _, rfl, rfl, _, rfl, cF (k := decide (l < 1)) (decide_eq_false (by omega)) ⟨_, rfl, _, _, rfl, rfl, _, rfl, cF (k := decide (p < 1)) (decide_eq_false (by omega)) ?_⟩⟩
      refine ⟨_, rfl, v, h, _, rfl, dp, fit, fun H1 s1 => ⟨_, rfl, iteF ?_⟩⟩
      refine ⟨_, rfl, _, _, rfl, rfl, ?_⟩
      refine ⟨_, rfl, v, h, _, rfl, Dp.same s1 dp, fit.fits, fun H2 r s2 hr2 => ?_⟩
      obtain ⟨b, ys, rfl, hb, hy⟩ := Dp.tup_inv hr2
      refine ⟨b, rfl, ⟨_, hb⟩, for_tup (K := K) (a := b) (xs := ys) (fun i σ H3 => ∃ y3, σ = [some v, some (.int l), some (.int (p - 1 - (sumN ((ps.map Fm.cnt).take i) : Nat))), y3] ∧ Same H2 H3)
        ⟨none, by show _ = [some v, some (.int l), some (.int (p - 1 - ((0 : Nat) : Int))), none]; rw [show (p - 1 - ((0 : Nat) : Int)) = p - 1 by omega]; rfl, .refl _⟩ (fun i σ H3 _ ⟨_, _, s3⟩ => Same.sqt s3 hb) ?_ ?_⟩
      · rintro i y σ H3 hi ⟨y3, rfl, s3⟩
        obtain ⟨d, hd, dpy⟩ := DpAll.get' hy hi
        obtain ⟨g, hg, rfl⟩ := get_map hd
        have mem := List.mem_of_getElem? hg
        have dl : g.dep < (Fm.mk h ps).dep := dep_part mem
        have eg : (ps.map Fm.cnt)[i]? = some g.cnt := by rw [List.getElem?_map, hg]; rfl
        have es := sumN_take eg
        have el := sumN_take_le (ps.map Fm.cnt) (i + 1)
        refine ⟨_, rfl, _, rfl, _, _, rfl, rfl, _, rfl, y, l - 1, _, g, rfl, Dp.same s3 dpy, ok.part mem, by omega, by omega, by omega, fun H4 s4 => ?_⟩
        refine ⟨some y, ?_, s3.trans s4⟩
        rw [es]
        have e5 : p - 1 - ((sumN ((ps.map Fm.cnt).take i) : Nat) : Int) - (g.cnt : Int) = p - 1 - ((sumN ((ps.map Fm.cnt).take i) + g.cnt : Nat) : Int) := by omega
        rw [e5]
        rfl
      · rintro σ H3 ⟨y3, rfl, s3⟩
        have ey : ys.length = ps.length := by rw [DpAll.length hy, List.length_map]
        have et : (ps.map Fm.cnt).take ys.length = ps.map Fm.cnt := List.take_of_length_le (by rw [List.length_map]; omega)
        refine ⟨_, rfl, ?_⟩
        have e6 : p - 1 - ((sumN ((ps.map Fm.cnt).take ys.length) : Nat) : Int) = p - (((Fm.mk h ps).cnt : Nat) : Int) := by rw [et, hc1]; omega
        show Q (.int (p - 1 - ((sumN ((ps.map Fm.cnt).take ys.length) : Nat) : Int))) H3
        rw [e6]
        exact q H3 ((s1.trans s2).trans s3)
theorem kw_rel : ∀ k : Kd, decide (V.str k.word = V.str "rel") = decide (k = .rel) := by intro k; cases k <;> decide +kernel
theorem kw_not : ∀ k : Kd, decide (V.str k.word = V.str "not") = decide (k = .no) := by intro k; cases k <;> decide +kernel
theorem kw_pfp : ∀ k : Kd, decide (V.str k.word = V.str "pfp") = decide (k = .pfp) := by intro k; cases k <;> decide +kernel
theorem kw_lfp : ∀ k : Kd, decide (V.str k.word = V.str "lfp") = decide (k = .lfp) := by intro k; cases k <;> decide +kernel
def spPos (K : PySem.W.Frag) (n : Nat) : Sp := fun vs H Q _ => ∃ (v : V) (name : Str) (sg : Int) (f : Fm), vs = [v, .str name, .int sg] ∧ Dp K H v f.data ∧ f.Ok ∧ f.dep ≤ n ∧ ∀ (H' : Hp), Same H H' → Q (.bl (f.pos name sg)) H'
theorem sc_is_positive : FnScope ["formula", "name", "sign", "part"] ["formula", "name", "sign"] (defScope (top 45)) := ⟨rfl, rfl, rfl, by decide +kernel, rfl, by decide +kernel, by decide +kernel⟩
theorem has_is_positive (D : Def K mg "is_positive_in" ["formula", "name", "sign"] (top 45)) (C1 : Has P w K mg base 1 "bound_name" ["formula"] (spBName K)) (C2 : Has P w K mg base 1 "inner" ["formula"] (spInner K)) :
    ∀ n : Nat, Has P w K mg base (2 + n) "is_positive_in" ["formula", "name", "sign"] (spPos K n) := by
  obtain ⟨f1, fd1, G_bound_name, g_bound_name, k_bound_name, b_bound_name⟩ := C1
  obtain ⟨f2, fd2, G_inner, g_inner, k_inner, b_inner⟩ := C2
  intro n
  induction n with
  | zero =>
    refine D.has fun f fd F => F.ok sc_is_positive (fun vs H Q E h => ?_) (fun cdv A outer s H vs Q E hr h => ?_)
    · obtain ⟨v, l, p, f, rfl, _⟩ := h; rfl
    · obtain ⟨v, l, p, f, rfl, _, _, h0, _⟩ := h
      have := dep_pos f
      omega
  | succ n ih =>
    obtain ⟨f3, fd3, G_is_positive_in, g_is_positive_in, k_is_positive_in, b_is_positive_in⟩ := ih
    refine D.has fun f fd F => F.ok sc_is_positive (fun vs H Q E h => ?_) (fun cdv A outer s H vs Q E hr h => ?_)
    · obtain ⟨v, l, p, f, rfl, _⟩ := h; rfl
    · obtain ⟨v, name, sg, f, rfl, dp, ok, hn, q⟩ := h
      have R_bound_name : Room 1 _ := hr.mono (Nat.le_trans (by decide) (Nat.le_add_right 2 n))
      have R_inner : Room 1 _ := hr.mono (Nat.le_trans (by decide) (Nat.le_add_right 2 n))
      have R_is_positive_in : Room (2 + n) _ := hr
      refine ⟨_, PSs.nox (pss_cons (ps_if (pt_cmpR op_eq (pe_ix ix_tup (pv 0) pe_int (fun _ _ => rfl)) pe_str (nomark _)) (pss_one (ps_ret (pe_or (pe_cmpR op_eq (pv 2) pe_int (nomark _)) (pe_one (pe_cmpR op_ne (pe_ix ix_tup (pv 0) pe_int (fun _ _ => rfl)) (pv 1) (nomark _)))))) pss_nil) (pss_cons (ps_if (pt_cmpR op_eq (pe_call G_bound_name R_bound_name (by rfl) g_bound_name k_bound_name b_bound_name .nil pass0 (pa_cons (pv 0) pa_nil)) (pv 1) (nomark _)) (pss_one (ps_ret pe_bl)) pss_nil) (pss_cons (ps_if (pt_cmpR op_eq (pe_ix ix_tup (pv 0) pe_int (fun _ _ => rfl)) pe_str (nomark _)) (pss_one (ps_set (i := 2) sc_is_positive.nd rfl (Or.inl rfl) (pe_un un_neg (pv 2)))) pss_nil) (pss_cons (ps_if (pt_cmpR op_eq (pe_ix ix_tup (pv 0) pe_int (fun _ _ => rfl)) pe_str (nomark _)) (pss_one (ps_set (i := 2) sc_is_positive.nd rfl (Or.inl rfl) pe_int)) pss_nil) (pss_cons (ps_for PassesOwn.never rfl (pi_tup (pe_call G_inner R_inner (by rfl) g_inner k_inner b_inner .nil pass0 (pa_cons (pv 0) pa_nil))) (pg_name (i := 3) sc_is_positive.nd rfl (Or.inl rfl)) (pss_one (ps_if (pt_not (pt_val (pe_call G_is_positive_in R_is_positive_in (by rfl) g_is_positive_in k_is_positive_in b_is_positive_in .nil pass0 (pa_cons (pv 3) (pa_cons (pv 1) (pa_cons (pv 2) pa_nil)))))) (pss_one (ps_ret pe_bl)) pss_nil))) (pss_one (ps_ret pe_bl))))))), ?_⟩
      obtain ⟨h, ps⟩ := f
      rw [Fm.data_mk] at dp
      have fit : h.Ok (ps.map Fm.data).length := by rw [List.length_map]; exact ok.hd_
      obtain ⟨a, xs, rfl, hT, hx⟩ := hd_inv dp
      refine ⟨_, rfl, a, _, _, _, rfl, rfl, hT, atI_nat (j := 0) rfl, rfl, _, rfl, ?_⟩
      by_cases kr : h.kd = .rel
      · refine cT (k := decide (V.str h.word = V.str "rel")) (by rw [kw_rel, decide_eq_true kr]) ?_
        cases h with
        | rel m as =>
          obtain ⟨v1, ws1, rfl, h1, _⟩ := DpAll.cons_inv hx
          rw [Dp.str_inv h1] at hT
          have q' := q H (.refl H)
          rw [Fm.pos_rel] at q'
          refine ⟨_, rfl, rfl, _, rfl, ?_⟩
          by_cases e1 : sg = 1
          · refine cT (decide_eq_true (by rw [e1])) ?_
            have e2 : (sg == 1) = true := by rw [e1]; rfl
            rw [e2] at q'
            exact q'
          · refine cF (decide_eq_false fun z => e1 (V.int.inj z)) ⟨_, rfl, a, _, _, _, rfl, rfl, hT, atI_nat (j := 1) rfl, _, rfl, rfl, ?_⟩
            have e2 : (sg == 1) = false := by simpa using e1
            rw [e2] at q'
            have e3 : decide (V.str m = V.str name) = decide (m = name) := decide_eq_decide.mpr ⟨fun y => V.str.inj y, fun y => congrArg V.str y⟩
            show Q (.bl (!decide (V.str m = V.str name))) H
            rw [e3]
            exact q'
        | _ => cases kr
      · refine cF (k := decide (V.str h.word = V.str "rel")) (by rw [kw_rel, decide_eq_false kr]) ?_
        rw [Fm.pos_other kr] at q
        refine ⟨_, rfl, _, h, _, rfl, dp, fit.fits, fun H1 r1 s1 er => ?_⟩
        have eb : scal r1 (.str name) = true ∧ decide (r1 = V.str name) = decide (h.bname = some name) := by
          rw [er]
          cases eb : h.bound with
          | none =>
            refine ⟨rfl, ?_⟩
            have e1 : h.bname = none := by unfold Hd.bname; rw [eb]; rfl
            rw [e1]
            rfl
          | some z =>
            refine ⟨rfl, ?_⟩
            have e1 : h.bname = some z.1 := by unfold Hd.bname; rw [eb]; rfl
            rw [e1]
            exact decide_eq_decide.mpr ⟨fun y => congrArg some (V.str.inj y), fun y => congrArg V.str (Option.some.inj y)⟩
        refine ⟨_, rfl, eb.1, _, rfl, ?_⟩
        by_cases hb : h.bname = some name
        · refine cT (k := decide (r1 = V.str name)) (by rw [eb.2, decide_eq_true hb]) ?_
          have q' := q H1 s1
          rw [if_pos hb] at q'
          exact q'
        · refine cF (k := decide (r1 = V.str name)) (by rw [eb.2, decide_eq_false hb]) ?_
          have q' : ∀ H', Same H H' → Q (.bl (ps.all fun p => p.pos name (h.sgn sg))) H' := fun H' s' => by
            have := q H' s'
            rw [if_neg hb] at this
            exact this
          have hT1 := Same.sqt s1 hT
          have go : ∀ (σ : L2.St), σ = [some (.ref a), some (.str name), some (.int (h.sgn sg)), none] → tSeq (tFor (iTup K (tCall (spInner K) [] E0 (tCons (tVar 0) tNil))) (gName 3) (tIfS (tNot (tB (tCall (spPos K n) [] E0 (tCons (tVar 3) (tCons (tVar 1) (tCons (tVar 2) tNil)))))) (tRet (tC (.bl false))) tNext)) (tRet (tC (.bl true)))
              { nx := fun _ H' => Q .non H', rt := Q } σ H1 := by
            rintro σ rfl
            refine ⟨_, rfl, _, h, _, rfl, Dp.same s1 dp, fit.fits, fun H2 r s2 hr2 => ?_⟩
            obtain ⟨b, ys, rfl, hb2, hy⟩ := Dp.tup_inv hr2
            refine ⟨b, rfl, ⟨_, hb2⟩, for_tup (K := K) (a := b) (xs := ys) (fun i σ H3 => ∃ y3, σ = [some (.ref a), some (.str name), some (.int (h.sgn sg)), y3] ∧ Same H2 H3 ∧ ∀ p, p ∈ ps.take i → p.pos name (h.sgn sg) = true)
              ⟨none, rfl, .refl _, fun p hp => by simp at hp⟩ (fun i σ H3 _ ⟨_, _, s3, _⟩ => Same.sqt s3 hb2) ?_ ?_⟩
            · rintro i y σ H3 hi ⟨y3, rfl, s3, all⟩
              obtain ⟨d, hd, dpy⟩ := DpAll.get' hy hi
              obtain ⟨g, hg, rfl⟩ := get_map hd
              have mem := List.mem_of_getElem? hg
              have dl : g.dep < (Fm.mk h ps).dep := dep_part mem
              refine ⟨_, rfl, _, rfl, _, rfl, y, name, h.sgn sg, g, rfl, Dp.same s3 dpy, ok.part mem, by omega, fun H4 s4 => ⟨_, rfl, ?_⟩⟩
              cases eg : g.pos name (h.sgn sg) with
              | false =>
                refine iteT ?_
                have e7 : (ps.all fun p => p.pos name (h.sgn sg)) = false := by
                  cases z : (ps.all fun p => p.pos name (h.sgn sg)) with
                  | false => rfl
                  | true => rw [List.all_eq_true.mp z g mem] at eg; cases eg
                have := q' H4 (((s1.trans s2).trans s3).trans s4)
                rw [e7] at this
                exact this
              | true =>
                refine iteF ⟨_, rfl, s3.trans s4, fun p hp => ?_⟩
                rw [List.take_add_one, hg] at hp
                rcases List.mem_append.mp hp with hp | hp
                · exact all p hp
                · have e8 : p = g := by simpa using hp
                  rw [e8]; exact eg
            · rintro σ H3 ⟨y3, rfl, s3, all⟩
              have ey : ys.length = ps.length := by rw [DpAll.length hy, List.length_map]
              have e9 : (ps.all fun p => p.pos name (h.sgn sg)) = true := List.all_eq_true.mpr fun p hp => all p (by rw [List.take_of_length_le (by omega)]; exact hp)
              have := q' H3 ((s1.trans s2).trans s3)
              rw [e9] at this
              exact this
          refine ⟨_, rfl, a, _, _, _, rfl, rfl, hT1, atI_nat (j := 0) rfl, rfl, _, rfl, ?_⟩
          by_cases kn : h.kd = .no
          · refine cT (k := decide (V.str h.word = V.str "not")) (by rw [kw_not, decide_eq_true kn]) ⟨_, rfl, _, rfl, ?_⟩
            refine ⟨_, rfl, a, _, _, _, rfl, rfl, hT1, atI_nat (j := 0) rfl, rfl, _, rfl, ?_⟩
            refine cF (k := decide (V.str h.word = V.str "pfp")) (by rw [kw_pfp, decide_eq_false (by rw [kn]; exact fun z => nomatch z)]) ?_
            refine go _ ?_
            have e9 : h.sgn sg = -sg := by cases h <;> first | rfl | cases kn
            rw [e9]
            rfl
          · refine cF (k := decide (V.str h.word = V.str "not")) (by rw [kw_not, decide_eq_false kn]) ?_
            refine ⟨_, rfl, a, _, _, _, rfl, rfl, hT1, atI_nat (j := 0) rfl, rfl, _, rfl, ?_⟩
            by_cases kp : h.kd = .pfp
            · refine cT (k := decide (V.str h.word = V.str "pfp")) (by rw [kw_pfp, decide_eq_true kp]) ?_
              refine go _ ?_
              have e9 : h.sgn sg = 0 := by cases h <;> first | rfl | cases kp
              rw [e9]
              rfl
            · refine cF (k := decide (V.str h.word = V.str "pfp")) (by rw [kw_pfp, decide_eq_false kp]) ?_
              refine go _ ?_
              have e9 : h.sgn sg = sg := by cases h <;> first | rfl | exact absurd rfl kn | exact absurd rfl kp
              rw [e9]
              rfl
def spCF (K : PySem.W.Frag) (n : Nat) : Sp := fun vs H Q _ => ∃ (v : V) (f : Fm), vs = [v] ∧ Dp K H v f.data ∧ f.Ok ∧ f.PosOk ∧ f.dep ≤ n ∧ ∀ (H' : Hp), Same H H' → Q .non H'
theorem sc_check_fixed_points : FnScope ["formula", "part"] ["formula"] (defScope (top 46)) := ⟨rfl, rfl, rfl, by decide +kernel, rfl, by decide +kernel, by decide +kernel⟩
theorem has_check_fixed_points (D : Def K mg "_check_fixed_points" ["formula"] (top 46)) (C1 : ∀ n, Has P w K mg base (2 + n) "is_positive_in" ["formula", "name", "sign"] (spPos K n)) (C2 : Has P w K mg base 1 "inner" ["formula"] (spInner K)) :
    ∀ n : Nat, Has P w K mg base (3 + n) "_check_fixed_points" ["formula"] (spCF K n) := by
  obtain ⟨f2, fd2, G_inner, g_inner, k_inner, b_inner⟩ := C2
  intro n
  induction n with
  | zero =>
    refine D.has fun f fd F => F.ok sc_check_fixed_points (fun vs H Q E h => ?_) (fun cdv A outer s H vs Q E hr h => ?_)
    · obtain ⟨v, f, rfl, _⟩ := h; rfl
    · obtain ⟨v, f, rfl, _, _, _, h0, _⟩ := h
      have := dep_pos f
      omega
  | succ n ih =>
    obtain ⟨f1, fd1, G_is_positive_in, g_is_positive_in, k_is_positive_in, b_is_positive_in⟩ := C1 n
    obtain ⟨f3, fd3, G_check_fixed_points, g_check_fixed_points, k_check_fixed_points, b_check_fixed_points⟩ := ih
    refine D.has fun f fd F => F.ok sc_check_fixed_points (fun vs H Q E h => ?_) (fun cdv A outer s H vs Q E hr h => ?_)
    · obtain ⟨v, f, rfl, _⟩ := h; rfl
    · obtain ⟨v, f, rfl, dp, ok, po, hn, q⟩ := h
      have R_is_positive_in : Room (2 + n) _ := hr.mono (Nat.add_le_add_right (by decide) n)
      have R_inner : Room 1 _ := hr.mono (Nat.le_trans (by decide) (Nat.le_add_right 3 n))
      have R_check_fixed_points : Room (3 + n) _ := hr
      refine ⟨_, PSs.nox (pss_cons (ps_if (PW.pt (pw_and (pt_cmpR op_eq (pe_ix ix_tup (pv 0) pe_int (fun _ _ => rfl)) pe_str (nomark _)) (pw_and1 (pt_not (pt_val (pe_call G_is_positive_in R_is_positive_in (by rfl) g_is_positive_in k_is_positive_in b_is_positive_in .nil pass0 (pa_cons (pe_ix ix_tup (pv 0) pe_int (fun _ _ => rfl)) (pa_cons (pe_ix ix_tup (pv 0) pe_int (fun _ _ => rfl)) (pa_cons pe_int pa_nil))))))))) pss_never pss_nil) (pss_one (ps_for PassesOwn.never rfl (pi_tup (pe_call G_inner R_inner (by rfl) g_inner k_inner b_inner .nil pass0 (pa_cons (pv 0) pa_nil))) (pg_name (i := 1) sc_check_fixed_points.nd rfl (Or.inl rfl)) (pss_one (ps_expr (pe_call G_check_fixed_points R_check_fixed_points (by rfl) g_check_fixed_points k_check_fixed_points b_check_fixed_points .nil pass0 (pa_cons (pv 1) pa_nil))))))), ?_⟩
      obtain ⟨h, ps⟩ := f
      rw [Fm.data_mk] at dp
      have fit : h.Ok (ps.map Fm.data).length := by rw [List.length_map]; exact ok.hd_
      obtain ⟨a, xs, rfl, hT, hx⟩ := hd_inv dp
      have go : ∀ (H1 : Hp), Same H H1 → tFor (iTup K (tCall (spInner K) [] E0 (tCons (tVar 0) tNil))) (gName 1) (tDrop (tCall (spCF K n) [] E0 (tCons (tVar 1) tNil))) { nx := fun _ H' => Q .non H', rt := Q } [some (.ref a), none] H1 := by
        intro H1 s1
        refine ⟨_, rfl, _, h, _, rfl, Dp.same s1 dp, fit.fits, fun H2 r s2 hr2 => ?_⟩
        obtain ⟨b, ys, rfl, hb2, hy⟩ := Dp.tup_inv hr2
        refine ⟨b, rfl, ⟨_, hb2⟩, for_tup (K := K) (a := b) (xs := ys) (fun i σ H3 => ∃ y3, σ = [some (.ref a), y3] ∧ Same H2 H3) ⟨none, rfl, .refl _⟩ (fun i σ H3 _ ⟨_, _, s3⟩ => Same.sqt s3 hb2) ?_ ?_⟩
        · rintro i y σ H3 hi ⟨y3, rfl, s3⟩
          obtain ⟨d, hd, dpy⟩ := DpAll.get' hy hi
          obtain ⟨g, hg, rfl⟩ := get_map hd
          have mem := List.mem_of_getElem? hg
          have dl : g.dep < (Fm.mk h ps).dep := dep_part mem
          exact ⟨_, rfl, y, g, rfl, Dp.same s3 dpy, ok.part mem, po.part mem, by omega, fun H4 s4 => ⟨_, rfl, s3.trans s4⟩⟩
        · rintro σ H3 ⟨y3, rfl, s3⟩
          exact q H3 ((s1.trans s2).trans s3)
      refine ⟨_, rfl, a, _, _, _, rfl, rfl, hT, atI_nat (j := 0) rfl, rfl, _, rfl, ?_⟩
      by_cases kl : h.kd = .lfp
      · refine cT (k := decide (V.str h.word = V.str "lfp")) (by rw [kw_lfp, decide_eq_true kl]) ?_
        cases h with
        | lfp m us as =>
          have l1 : (ps.map Fm.data).length = 1 := fit.fits 1 rfl
          rw [List.length_map] at l1
          obtain ⟨g, rfl⟩ := List.length_eq_one_iff.mp l1
          obtain ⟨v1, ws1, rfl, h1, hx⟩ := DpAll.cons_inv hx
          obtain ⟨v2, ws2, rfl, h2, hx⟩ := DpAll.cons_inv hx
          obtain ⟨v3, ws3, rfl, h3, hx⟩ := DpAll.cons_inv hx
          rw [Dp.str_inv h1] at hT
          have mem : g ∈ [g] := List.mem_singleton.mpr rfl
          have dl : g.dep < (Fm.mk (.lfp m us as) [g]).dep := dep_part mem
          refine ⟨_, rfl, a, _, _, _, rfl, rfl, hT, atI_nat (j := 3) rfl, _, rfl, a, _, _, _, rfl, rfl, hT, atI_nat (j := 1) rfl, v3, m, 1, g, rfl, h3, ok.part mem, by omega, fun H1 s1 => ⟨_, rfl, ?_⟩⟩
          refine cF (k := !_) (by rw [po.here mem]; rfl) ?_
          exact go H1 s1
        | _ => cases kl
      · exact cF (k := decide (V.str h.word = V.str "lfp")) (by rw [kw_lfp, decide_eq_false kl]) (go H (.refl H))
end
/-! ### the symbols of a formula -/
def symStep (h : Hd) (xs : List (List (Str × Nat))) : List (Str × Nat) := match h with
  | .rel n as => [(n, as.length)]
  | _ => xs.flatten.filter fun p => !decide (h.bname = some p.1)
def Fm.syms : Fm → List (Str × Nat) := Fm.fold symStep
theorem Fm.syms_mk (h : Hd) (ps : List Fm) : (Fm.mk h ps).syms = symStep h (ps.map Fm.syms) := Fm.fold_mk symStep h ps
theorem Fm.syms_rel {n : Str} {as : List Str} {ps : List Fm} : (Fm.mk (.rel n as) ps).syms = [(n, as.length)] := Fm.syms_mk _ _
theorem Fm.syms_mem {h : Hd} {ps : List Fm} (nr : h.kd ≠ .rel) {p : Str × Nat} : p ∈ (Fm.mk h ps).syms ↔ h.bname ≠ some p.1 ∧ ∃ g, g ∈ ps ∧ p ∈ g.syms := by
  have e : symStep h (ps.map Fm.syms) = (ps.map Fm.syms).flatten.filter fun p => !decide (h.bname = some p.1) := by cases h <;> first | rfl | exact absurd rfl nr
  rw [Fm.syms_mk, e, List.mem_filter, List.mem_flatten]
  constructor
  · rintro ⟨⟨l, hl, hp⟩, hb⟩
    obtain ⟨g, hg, rfl⟩ := List.mem_map.mp hl
    exact ⟨by simpa using hb, g, hg, hp⟩
  · rintro ⟨hb, g, hg, hp⟩
    exact ⟨⟨_, List.mem_map.mpr ⟨g, hg, rfl⟩, hp⟩, by simpa using hb⟩
abbrev ArE := Str → Option Nat
def Hd.env (h : Hd) (Γ : ArE) : ArE := match h.bound with
  | some (n, k) => fun m => if m = n then some k else Γ m
  | none => Γ
/-- each name has the arity that Γ, or what binds it, says -/
inductive Fm.Typed : ArE → Fm → Prop
  | rel {Γ : ArE} {n : Str} {as : List Str} {ps : List Fm} (e : Γ n = some as.length) : Fm.Typed Γ (.mk (.rel n as) ps)
  | other {Γ : ArE} {h : Hd} {ps : List Fm} (nr : h.kd ≠ .rel) (b : ∀ p, p ∈ ps → Fm.Typed (h.env Γ) p) : Fm.Typed Γ (.mk h ps)
theorem Fm.Typed.part {Γ : ArE} {h : Hd} {ps : List Fm} (nr : h.kd ≠ .rel) (t : (Fm.mk h ps).Typed Γ) {p : Fm} (hp : p ∈ ps) : p.Typed (h.env Γ) := by
  cases t with
  | rel e => exact absurd rfl nr
  | other _ b => exact b p hp
theorem typed_sym : ∀ (f : Fm) (Γ : ArE), f.Typed Γ → ∀ p, p ∈ f.syms → Γ p.1 = some p.2 := fun f => Fm.ind (P := fun f => ∀ (Γ : ArE), f.Typed Γ → ∀ p, p ∈ f.syms → Γ p.1 = some p.2) (fun h ps ih Γ t p hp => by
  by_cases nr : h.kd = .rel
  · cases h with
    | rel n as =>
      rw [Fm.syms_rel] at hp
      have e := List.mem_singleton.mp hp
      subst e
      cases t with
      | rel e => exact e
      | other nr2 _ => exact absurd rfl nr2
    | _ => cases nr
  · obtain ⟨hb, g, hg, hpg⟩ := (Fm.syms_mem nr).mp hp
    have e := ih g hg _ (t.part nr hg) p hpg
    unfold Hd.env at e
    cases hbd : h.bound with
    | none => rw [hbd] at e; exact e
    | some z =>
      obtain ⟨n, k⟩ := z
      rw [hbd] at e
      have ne : p.1 ≠ n := fun z => hb (by unfold Hd.bname; rw [hbd, z]; rfl)
      simpa [ne] using e) f
theorem sum_lens : ∀ (ps : List Fm), (∀ p, p ∈ ps → p.syms.length ≤ p.cnt) → (ps.map Fm.syms).flatten.length ≤ sumN (ps.map Fm.cnt)
  | [], _ => Nat.zero_le _
  | p :: ps, h => by
    have a := h p (List.mem_cons_self ..)
    have b := sum_lens ps fun q hq => h q (List.mem_cons_of_mem _ hq)
    show ((p.syms) ++ (ps.map Fm.syms).flatten).length ≤ p.cnt + sumN (ps.map Fm.cnt)
    rw [List.length_append]
    omega
theorem syms_cnt : ∀ f : Fm, f.syms.length ≤ f.cnt := Fm.ind fun h ps ih => by
  rw [Fm.syms_mk, Fm.cnt_mk]
  have := sum_lens ps ih
  by_cases nr : h.kd = .rel
  · have e : (symStep h (ps.map Fm.syms)).length = 1 := by cases h <;> first | rfl | cases nr
    omega
  · have e : symStep h (ps.map Fm.syms) = (ps.map Fm.syms).flatten.filter fun p => !decide (h.bname = some p.1) := by cases h <;> first | rfl | exact absurd rfl nr
    rw [e]
    have := List.length_filter_le (fun p => !decide (h.bname = some p.1)) (ps.map Fm.syms).flatten
    omega
/-! dicts of names and numbers -/
def enc (p : Str × Nat) : Key × V := (Sum.inr p.1, .int (p.2 : Nat))
theorem val_enc : ∀ {l : List (Str × Nat)} {n : Str} {v : V}, valV (l.map enc) (Sum.inr n) = some v → ∃ a, (n, a) ∈ l ∧ v = .int (a : Nat)
  | [], n, v, h => by cases h
  | p :: l, n, v, h => by
    by_cases e : p.1 = n
    · rw [List.map_cons, valV_pos (by show Sum.inr p.1 = Sum.inr n; rw [e])] at h
      exact ⟨p.2, by rw [← e]; exact List.mem_cons_self .., (Option.some.inj h).symm⟩
    · rw [List.map_cons, valV_neg (by intro z; exact e (Sum.inr.inj z))] at h
      obtain ⟨a, h1, h2⟩ := val_enc h
      exact ⟨a, List.mem_cons_of_mem _ h1, h2⟩
theorem val_enc_none : ∀ {l : List (Str × Nat)} {n : Str}, valV (l.map enc) (Sum.inr n) = none ↔ ¬ n ∈ l.map (·.1)
  | [], n => by simp [valV]
  | p :: l, n => by
    by_cases e : p.1 = n
    · rw [List.map_cons, valV_pos (by show Sum.inr p.1 = Sum.inr n; rw [e])]
      simp [e]
    · rw [List.map_cons, valV_neg (by intro z; exact e (Sum.inr.inj z)), val_enc_none]
      have e2 : ¬ n = p.1 := fun z => e z.symm
      simp [e2]
theorem drop_enc (l : List (Str × Nat)) (n : Str) : dropK (l.map enc) (Sum.inr n) = (l.filter fun p => !decide (p.1 = n)).map enc := by
  unfold dropK
  rw [List.filter_map]
  congr 1
  refine List.filter_congr fun p _ => ?_
  show decide ((Sum.inr p.1 : Key) ≠ Sum.inr n) = !decide (p.1 = n)
  by_cases e : p.1 = n
  · rw [decide_eq_true e]
    exact decide_eq_false fun z => z (congrArg Sum.inr e)
  · rw [decide_eq_false e]
    exact decide_eq_true fun z => e (Sum.inr.inj z)
theorem val_of : ∀ {l : List (Str × Nat)} {n : Str} {a : Nat}, (l.map (·.1)).Nodup → (n, a) ∈ l → valV (l.map enc) (Sum.inr n) = some (.int (a : Nat))
  | [], _, _, _, h => nomatch h
  | p :: l, n, a, nd, h => by
    rw [List.map_cons] at nd
    obtain ⟨nd1, nd2⟩ := List.nodup_cons.mp nd
    by_cases e : p.1 = n
    · rw [List.map_cons, valV_pos (by show Sum.inr p.1 = Sum.inr n; rw [e])]
      rcases List.mem_cons.mp h with e1 | h
      · rw [← e1]; rfl
      · exact absurd (by rw [e]; exact List.mem_map.mpr ⟨_, h, rfl⟩) nd1
    · rw [List.map_cons, valV_neg (by intro z; exact e (Sum.inr.inj z))]
      rcases List.mem_cons.mp h with e1 | h
      · exact absurd (by rw [← e1]) e
      · exact val_of nd2 h
theorem nodup_val {l : List (Str × Nat)} {n : Str} {a b : Nat} : (l.map (·.1)).Nodup → (n, a) ∈ l → (n, b) ∈ l → a = b := by
  induction l with
  | nil => intro _ h; cases h
  | cons p l ih =>
    intro nd h1 h2
    rw [List.map_cons] at nd
    obtain ⟨nd1, nd2⟩ := List.nodup_cons.mp nd
    rcases List.mem_cons.mp h1 with e1 | h1
    · rcases List.mem_cons.mp h2 with e2 | h2
      · rw [← e1] at e2; exact (congrArg Prod.snd e2).symm
      · exact absurd (by rw [← e1]; exact List.mem_map.mpr ⟨_, h2, rfl⟩) nd1
    · rcases List.mem_cons.mp h2 with e2 | h2
      · exact absurd (by rw [← e2]; exact List.mem_map.mpr ⟨_, h1, rfl⟩) nd1
      · exact ih nd2 h1 h2
/-- the dict l holds just what stands in xs -/
structure DictOf (l xs : List (Str × Nat)) : Prop where
  nd : (l.map (·.1)).Nodup
  mem : ∀ p, p ∈ l ↔ p ∈ xs
theorem DictOf.add {l xs : List (Str × Nat)} {n : Str} {a : Nat} (d : DictOf l xs) (h : ¬ n ∈ l.map (·.1)) : DictOf (l ++ [(n, a)]) (xs ++ [(n, a)]) := by
  refine ⟨?_, fun p => by rw [List.mem_append, List.mem_append, d.mem]⟩
  rw [List.map_append, List.nodup_append]
  refine ⟨d.nd, by simp, fun x hx y hy => ?_⟩
  have : y = n := by simpa using hy
  rw [this]
  exact fun z => h (by rw [← z]; exact hx)
theorem DictOf.keep {l xs : List (Str × Nat)} {p : Str × Nat} (d : DictOf l xs) (h : p ∈ l) : DictOf l (xs ++ [p]) :=
  ⟨d.nd, fun q => by
    rw [List.mem_append, d.mem]
    exact ⟨.inl, fun z => z.elim id fun z => by rw [List.mem_singleton.mp z]; exact (d.mem p).mp h⟩⟩
theorem DictOf.as {l xs ys : List (Str × Nat)} (d : DictOf l xs) (e : ∀ p, p ∈ xs ↔ p ∈ ys) : DictOf l ys := ⟨d.nd, fun p => (d.mem p).trans (e p)⟩
theorem DictOf.len {l xs : List (Str × Nat)} (d : DictOf l xs) : l.length ≤ xs.length :=
  sub_len l xs (List.Pairwise.of_map (·.1) (fun a b hne e => hne (by rw [e])) d.nd) fun p hp => (d.mem p).mp hp
theorem take_flat {ps : List Fm} {i : Nat} {g : Fm} (h : ps[i]? = some g) : ((ps.take (i + 1)).map Fm.syms).flatten = ((ps.take i).map Fm.syms).flatten ++ g.syms := by
  rw [List.take_add_one, h, List.map_append, List.flatten_append]
  show _ ++ (g.syms ++ []) = _
  rw [List.append_nil]
/-- d is neither a list nor a tuple -/
def NotSeq (H : Hp) (d : Addr) : Prop := ∃ kvs, H d = some (.dK kvs)
section
variable {K : PySem.W.Frag} {H H' : Hp} {d : Addr}
theorem Kp.sqt' {a : Addr} {xs : List V} (k : Kp d H H') (n : NotSeq H d) (h : SqT K H a xs) : SqT K H' a xs := by
  obtain ⟨kvs, n⟩ := n
  rcases h with (h | ⟨o, h⟩) | h
  · exact .inl (.inl (k _ _ h (ne_of h n (fun z => nomatch z))))
  · exact .inl (.inr ⟨o, k _ _ h (ne_of h n (fun z => nomatch z))⟩)
  · exact .inr h
theorem Kp.sql' {a : Addr} {xs : List V} (k : Kp d H H') (n : NotSeq H d) (h : SqL K H a xs) : SqL K H' a xs := by
  obtain ⟨kvs, n⟩ := n
  rcases h with (h | ⟨o, h⟩) | h
  · exact .inl (.inl (k _ _ h (ne_of h n (fun z => nomatch z))))
  · exact .inl (.inr ⟨o, k _ _ h (ne_of h n (fun z => nomatch z))⟩)
  · exact .inr h
mutual
theorem Dp.kpD (k : Kp d H H') (n : NotSeq H d) : ∀ {v : V} {t : PyData}, Dp K H v t → Dp K H' v t
  | _, _, .non => .non
  | _, _, .bl b => .bl b
  | _, _, .int i => .int i
  | _, _, .str x => .str x
  | _, _, .lst h t => .lst (k.sql' n h) (DpAll.kpD k n t)
  | _, _, .tup h t => .tup (k.sqt' n h) (DpAll.kpD k n t)
theorem DpAll.kpD (k : Kp d H H') (n : NotSeq H d) : ∀ {vs : List V} {ts : List PyData}, DpAll K H vs ts → DpAll K H' vs ts
  | _, _, .nil => .nil
  | _, _, .cons h t => .cons (Dp.kpD k n h) (DpAll.kpD k n t)
end
end
section
variable {P : Program} {w : World} {K : PySem.W.Frag} {mg : Str → Option Value} {base : Heap}
def spAr (K : PySem.W.Frag) (n : Nat) : Sp := fun vs H Q _ => ∃ (v : V) (f : Fm) (Γ : ArE), vs = [v] ∧ Dp K H v f.data ∧ f.Ok ∧ f.Typed Γ ∧ f.dep ≤ n ∧ f.cnt ≤ 2000 ∧
  ∀ (H' : Hp) (d : Addr) (l : List (Str × Nat)), Same H H' → H d = none → H' d = some (.dK (l.map enc)) → DictOf l f.syms → Q (.ref d) H'
theorem sc_arities : FnScope ["formula", "found", "part", "within", "name", "bound"] ["formula"] (defScope (top 44)) := ⟨rfl, rfl, rfl, by decide +kernel, rfl, by decide +kernel, by decide +kernel⟩
theorem has_arities (D : Def K mg "arities_in" ["formula"] (top 44)) (T : Txt mg) (C1 : Has P w K mg base 1 "bound_name" ["formula"] (spBName K)) (C2 : Has P w K mg base 1 "inner" ["formula"] (spInner K)) (C3 : Has P w K mg base 1 "bound_arity" ["formula"] (spBArity K)) :
    ∀ n : Nat, Has P w K mg base (2 + n) "arities_in" ["formula"] (spAr K n) := by
  obtain ⟨f1, fd1, G_bound_name, g_bound_name, k_bound_name, b_bound_name⟩ := C1
  obtain ⟨f2, fd2, G_inner, g_inner, k_inner, b_inner⟩ := C2
  obtain ⟨f4, fd4, G_bound_arity, g_bound_arity, k_bound_arity, b_bound_arity⟩ := C3
  intro n
  induction n with
  | zero =>
    refine D.has fun f fd F => F.ok sc_arities (fun vs H Q E h => ?_) (fun cdv A outer s H vs Q E hr h => ?_)
    · obtain ⟨v, f, Γ, rfl, _⟩ := h; rfl
    · obtain ⟨v, f, Γ, rfl, _, _, _, h0, _⟩ := h
      have := dep_pos f
      omega
  | succ n ih =>
    obtain ⟨f3, fd3, G_arities_in, g_arities_in, k_arities_in, b_arities_in⟩ := ih
    refine D.has fun f fd F => F.ok sc_arities (fun vs H Q E h => ?_) (fun cdv A outer s H vs Q E hr h => ?_)
    · obtain ⟨v, f, Γ, rfl, _⟩ := h; rfl
    · obtain ⟨v, f, Γ, rfl, dp, ok, ty, hn, hc, q⟩ := h
      have R_bound_name : Room 1 _ := hr.mono (Nat.le_trans (by decide) (Nat.le_add_right 2 n))
      have R_bound_arity : Room 1 _ := hr.mono (Nat.le_trans (by decide) (Nat.le_add_right 2 n))
      have R_inner : Room 1 _ := hr.mono (Nat.le_trans (by decide) (Nat.le_add_right 2 n))
      have R_arities_in : Room (2 + n) _ := hr
      refine ⟨_, PSs.nox (pss_cons (ps_if (pt_cmpR op_eq (pe_ix ix_tup (pv 0) pe_int (fun _ _ => rfl)) pe_str (nomark _)) (pss_one (ps_ret (pe_disp (pps_cons (pe_ix ix_tup (pv 0) pe_int (fun _ _ => rfl)) (pe_callB call_len_seq (by rfl) T.n_len PySem.boot_len (pa_cons (pe_ix ix_tup (pv 0) pe_int (fun _ _ => rfl)) pa_nil)) pps_nil) (by rfl) (by rfl) (fun z => by cases z) (by decide)))) pss_nil) (pss_cons (ps_set (i := 1) sc_arities.nd rfl (Or.inl rfl) pe_dnewK) (pss_cons (ps_for PassesOwn.never rfl (pi_tup (pe_call G_inner R_inner (by rfl) g_inner k_inner b_inner .nil pass0 (pa_cons (pv 0) pa_nil))) (pg_name (i := 2) sc_arities.nd rfl (Or.inl rfl)) (pss_cons (ps_set (i := 3) sc_arities.nd rfl (Or.inl rfl) (pe_call G_arities_in R_arities_in (by rfl) g_arities_in k_arities_in b_arities_in .nil pass0 (pa_cons (pv 2) pa_nil))) (pss_one (ps_lock (ps_for PassesOwn.never rfl (pi_keys (pv 3)) (pg_name (i := 4) sc_arities.nd rfl (Or.inl rfl)) (pss_one (ps_if (pt_cmpR op_ne (pe_dsetd (pv 1) (pv 4) (pe_dget (hu_of hr) (pv 3) (pv 4) (fun _ _ => rfl)) ⟨rfl, rfl, rfl, rfl⟩) (pe_dget (hu_of hr) (pv 3) (pv 4) (fun _ _ => rfl)) (nomark _)) pss_never pss_nil))))))) (pss_cons (ps_set (i := 5) sc_arities.nd rfl (Or.inl rfl) (pe_call G_bound_name R_bound_name (by rfl) g_bound_name k_bound_name b_bound_name .nil pass0 (pa_cons (pv 0) pa_nil))) (pss_cons (ps_if (pt_cmp (pc_dinN (hu_of hr) (pv 5) (pv 1))) (pss_one (ps_if (pt_cmpR op_ne (pe_dpop1 (pv 1) (pv 5) ⟨rfl, rfl, rfl, rfl⟩) (pe_call G_bound_arity R_bound_arity (by rfl) g_bound_arity k_bound_arity b_bound_arity .nil pass0 (pa_cons (pv 0) pa_nil)) (nomark _)) pss_never pss_nil)) pss_nil) (pss_one (ps_ret (pv 1)))))))), ?_⟩
      obtain ⟨h, ps⟩ := f
      rw [Fm.data_mk] at dp
      have fit : h.Ok (ps.map Fm.data).length := by rw [List.length_map]; exact ok.hd_
      obtain ⟨a, xs, rfl, hT, hx⟩ := hd_inv dp
      refine ⟨_, rfl, a, _, _, _, rfl, rfl, hT, atI_nat (j := 0) rfl, rfl, _, rfl, ?_⟩
      by_cases kr : h.kd = .rel
      · refine cT (k := decide (V.str h.word = V.str "rel")) (by rw [kw_rel, decide_eq_true kr]) ?_
        cases h with
        | rel m as =>
          obtain ⟨v1, ws1, rfl, h1, hx⟩ := DpAll.cons_inv hx
          obtain ⟨v2, ws2, rfl, h2, _⟩ := DpAll.cons_inv hx
          rw [Dp.str_inv h1] at hT
          obtain ⟨t2, rfl, ht2⟩ := tS_inv h2
          intro p np
          have sp := same_upd (o := .dK []) np
          refine ⟨_, rfl, a, _, _, _, rfl, rfl, Same.sqt sp hT, atI_nat (j := 1) rfl, _, rfl, a, _, _, _, rfl, rfl, Same.sqt sp hT, atI_nat (j := 2) rfl, t2, _, rfl, .inr (Same.sqt sp ht2), upd_same, [enc (m, (as.map V.str).length)], rfl, (by show 1 ≤ 15; decide), ?_⟩
          refine q _ p [(m, as.length)] (fun b o eb => ?_) np ?_ ?_
          · rw [upd_ne (ne_of_none eb np)]
            exact sp _ _ eb
          · rw [upd_same, List.length_map]
            rfl
          · rw [Fm.syms_rel]
            exact ⟨by simp, fun _ => Iff.rfl⟩
        | _ => cases kr
      · refine cF (k := decide (V.str h.word = V.str "rel")) (by rw [kw_rel, decide_eq_false kr]) ?_
        -- found = {}
        intro d nd
        have s0 := same_upd (o := .dK []) nd
        have hd0 : (upd H d (.dK [])) d = some (.dK (([] : List (Str × Nat)).map enc)) := upd_same
        revert s0 hd0
        generalize upd H d (.dK []) = H0
        intro s0 hd0
        refine ⟨_, rfl, _, h, _, rfl, Dp.same s0 dp, fit.fits, fun H2 r s2 hr2 => ?_⟩
        obtain ⟨b, ys, rfl, hb2, hy⟩ := Dp.tup_inv hr2
        have s02 := s0.trans s2
        have ndb : ∀ {x : Addr} {o : HO}, H x = some o → x ≠ d := fun e z => by rw [z, nd] at e; cases e
        have n2 : NotSeq H2 d := ⟨_, s2 _ _ hd0⟩
        have same3 : ∀ {H3 : Hp}, Kp d H2 H3 → Same H H3 := fun k c o e => k c o (s02 c o e) (ndb e)
        have lenE : ∀ {l : List (Str × Nat)} {i : Nat}, DictOf l ((ps.take i).map Fm.syms).flatten → l.length ≤ 2000 := fun {l i} dd => by
          have e1 := dd.len
          have e2 : ((ps.take i).map Fm.syms).flatten.length ≤ (ps.map Fm.syms).flatten.length := by
            have z : (ps.map Fm.syms).flatten = ((ps.take i).map Fm.syms).flatten ++ ((ps.drop i).map Fm.syms).flatten := by rw [← List.flatten_append, ← List.map_append, List.take_append_drop]
            rw [z, List.length_append]
            omega
          have e3 := sum_lens ps fun p _ => syms_cnt p
          rw [Fm.cnt_mk] at hc
          omega
        refine ⟨b, rfl, ⟨_, hb2⟩, for_tup (K := K) (a := b) (xs := ys) (fun i σ H3 => ∃ (y2 y3 y4 : Option V) (l : List (Str × Nat)), σ = [some (.ref a), some (.ref d), y2, y3, y4, none] ∧ Kp d H2 H3 ∧ H3 d = some (.dK (List.map enc l)) ∧ DictOf l ((ps.take i).map Fm.syms).flatten)
          ⟨none, none, none, [], rfl, .refl _ _, s2 _ _ hd0, ⟨List.nodup_nil, fun p => by simp⟩⟩ (fun i σ H3 _ ⟨_, _, _, _, _, k3, _⟩ => k3.sqt' n2 hb2) ?_ ?_⟩
        · rintro i y σ H3 hi ⟨y2, y3, y4, l, rfl, k3, hd3, dl⟩
          obtain ⟨dd, hdd, dpy⟩ := DpAll.get' hy hi
          obtain ⟨g, hg, rfl⟩ := get_map hdd
          have mem := List.mem_of_getElem? hg
          have dep1 : g.dep < (Fm.mk h ps).dep := dep_part mem
          have cnt1 : g.cnt ≤ 2000 := by
            have := le_sumN (List.mem_map_of_mem (f := Fm.cnt) mem)
            rw [Fm.cnt_mk] at hc
            omega
          have tg := ty.part kr mem
          refine ⟨_, rfl, y, g, h.env Γ, rfl, Dp.kpD k3 n2 dpy, ok.part mem, tg, by omega, cnt1, fun H4 e l2 s4 ne he d2 => ?_⟩
          have ned : e ≠ d := fun z => by rw [z, hd3] at ne; cases ne
          have l2len : l2.length ≤ 2000 := by
            have := d2.len
            have := syms_cnt g
            omega
          refine ⟨e, .dK (l2.map enc), he, trivial, fun od => ?_⟩
          refine ⟨_, rfl, e, od, rfl, .inl ⟨_, upd_same, for_it walk_keys (fun j σ H5 => ∃ (y4 : Option V) (l' : List (Str × Nat)), σ = [some (.ref a), some (.ref d), some y, some (.ref e), y4, none] ∧ H5 e = some (.frz od (.dK (l2.map enc))) ∧ (∀ c o, H4 c = some o → c ≠ d → c ≠ e → H5 c = some o) ∧
            H5 d = some (.dK (l'.map enc)) ∧ DictOf l' (((ps.take i).map Fm.syms).flatten ++ l2.take j))
            ⟨y4, l, rfl, upd_same, fun c o ec nc ne2 => by rw [upd_ne ne2]; exact ec, by rw [upd_ne ned.symm]; exact s4 _ _ hd3, by rw [List.take_zero, List.append_nil]; exact dl⟩ (fun j σ H5 _ ⟨_, _, _, q1, _⟩ => q1) ?_ ?_⟩⟩
          · rintro j x σ H5 H6 hj ⟨y4, l', rfl, he5, k5, hd5, dl'⟩ ⟨rfl, kk, vv, hkv, rfl⟩
            obtain ⟨p, hp, ep⟩ := get_map hkv
            have ek : kk = Sum.inr p.1 := congrArg Prod.fst ep
            subst ek
            have pm := List.mem_of_getElem? hp
            have vp : valV (l2.map enc) (Sum.inr p.1) = some (.int (p.2 : Nat)) := val_of d2.nd pm
            have ep2 : (h.env Γ) p.1 = some p.2 := typed_sym g _ tg p ((d2.mem p).mp pm)
            have tk : l2.take (j + 1) = l2.take j ++ [p] := by rw [List.take_add_one, hp]; rfl
            have lens : l'.length < sizeLine := by
              have e1 := dl'.len
              rw [List.length_append] at e1
              have e2 : ((ps.take i).map Fm.syms).flatten.length ≤ 2000 := by
                have z : (ps.map Fm.syms).flatten = ((ps.take i).map Fm.syms).flatten ++ ((ps.drop i).map Fm.syms).flatten := by rw [← List.flatten_append, ← List.map_append, List.take_append_drop]
                have e3 := sum_lens ps fun p _ => syms_cnt p
                rw [Fm.cnt_mk] at hc
                rw [z, List.length_append] at e3
                omega
              have e4 := List.length_take_le j l2
              exact Nat.lt_of_le_of_lt (show l'.length ≤ 4000 by have := List.length_take_le' j l2; omega) (by decide)
            have get2 : ∀ H7 : Hp, H7 e = some (.frz od (.dK (l2.map enc))) → DGet H7 e (.str p.1) (some (.int (p.2 : Nat))) := fun H7 e7 => .inl ⟨_, Sum.inr p.1, .inr ⟨od, e7⟩, rfl, vp.symm⟩
            refine ⟨_, rfl, d, rfl, .inl ⟨_, Rd.of hd5⟩, _, rfl, _, rfl, _, rfl, e, _, rfl, get2 _ he5, _, Sum.inr p.1, hd5, rfl, by rw [List.length_map]; exact lens, fun v hv => ?_, fun hv => ?_⟩
            · obtain ⟨a2, ha2, rfl⟩ := val_enc hv
              have ea : (h.env Γ) p.1 = some a2 := by
                rcases List.mem_append.mp ((dl'.mem _).mp ha2) with z | z
                · obtain ⟨lz, hlz, hz⟩ := List.mem_flatten.mp z
                  obtain ⟨g2, hg2, rfl⟩ := List.mem_map.mp hlz
                  exact typed_sym g2 _ (ty.part kr (List.mem_of_mem_take hg2)) _ hz
                · exact typed_sym g _ tg _ ((d2.mem _).mp (List.mem_of_mem_take z))
              have e22 : a2 = p.2 := Option.some.inj (ea.symm.trans ep2)
              refine ⟨_, rfl, _, rfl, e, _, rfl, get2 _ he5, rfl, _, rfl, ?_⟩
              refine cF (k := !decide (V.int (a2 : Nat) = V.int (p.2 : Nat))) (by rw [e22, decide_eq_true rfl]; rfl) ?_
              refine ⟨_, l', rfl, he5, k5, hd5, ?_⟩
              rw [tk, ← List.append_assoc]
              rw [e22] at ha2
              exact dl'.keep ha2
            · have hn2 := val_enc_none.mp hv
              rw [putK_new _ hv]
              have e23 : (l'.map enc) ++ [((Sum.inr p.1 : Key), V.int (p.2 : Nat))] = (l' ++ [p]).map enc := by rw [List.map_append]; rfl
              rw [e23]
              have he6 : (upd H6 d (.dK ((l' ++ [p]).map enc))) e = some (.frz od (.dK (l2.map enc))) := by rw [upd_ne ned]; exact he5
              refine ⟨_, rfl, _, rfl, e, _, rfl, get2 _ he6, rfl, _, rfl, ?_⟩
              refine cF (k := !decide (V.int (p.2 : Nat) = V.int (p.2 : Nat))) (by rw [decide_eq_true rfl]; rfl) ?_
              refine ⟨_, l' ++ [p], rfl, he6, fun c o ec nc ne2 => by rw [upd_ne nc]; exact k5 c o ec nc ne2, upd_same, ?_⟩
              rw [tk, ← List.append_assoc]
              exact dl'.add hn2
          · rintro σ H5 ⟨y4, l', rfl, he5, k5, hd5, dl'⟩
            refine ⟨he5, _, _, _, l', rfl, fun c o ec nc => ?_, ?_, ?_⟩
            · have e3 := k3 c o ec nc
              have nce : c ≠ e := ne_of_none e3 ne
              rw [upd_ne nce]
              exact k5 c o (s4 _ _ e3) nc nce
            · rw [upd_ne ned.symm]
              exact hd5
            · have tl : l2.take (l2.map enc).length = l2 := List.take_of_length_le (by rw [List.length_map]; exact Nat.le_refl _)
              rw [tl] at dl'
              rw [take_flat hg]
              exact dl'.as fun p => by rw [List.mem_append, List.mem_append, d2.mem]
        · rintro σ H3 ⟨y2, y3, y4, l, rfl, k3, hd3, dl⟩
          have ey : ys.length = ps.length := by rw [DpAll.length hy, List.length_map]
          rw [List.take_of_length_le (show ps.length ≤ ys.length by omega)] at dl
          have s3 := same3 k3
          refine ⟨_, rfl, _, h, _, rfl, Dp.same s3 dp, fit.fits, fun H6 r1 s6 er => ?_⟩
          have er : r1 = match h.bound with | some (n, _) => V.str n | none => .non := er
          have hd6 := s6 _ _ hd3
          have s36 := s3.trans s6
          have fin : h.bname = none → Q (.ref d) H6 := fun hb => q H6 d l s36 nd hd6 (dl.as fun p => by
            rw [Fm.syms_mem kr, hb]
            constructor
            · intro z
              obtain ⟨lz, hlz, hz⟩ := List.mem_flatten.mp z
              obtain ⟨g2, hg2, rfl⟩ := List.mem_map.mp hlz
              exact ⟨(fun z => nomatch z), g2, hg2, hz⟩
            · rintro ⟨_, g2, hg2, hz⟩
              exact List.mem_flatten.mpr ⟨_, List.mem_map.mpr ⟨g2, hg2, rfl⟩, hz⟩)
          cases hbd : h.bound with
          | none =>
            rw [hbd] at er
            subst er
            refine ⟨_, rfl, _, rfl, .inr ⟨d, _, rfl, rfl, Rd.of hd6, _, rfl, iteF ?_⟩⟩
            exact ⟨_, rfl, fin (by unfold Hd.bname; rw [hbd]; rfl)⟩
          | some z =>
            obtain ⟨n0, k0⟩ := z
            rw [hbd] at er
            have hbn : h.bname = some n0 := by unfold Hd.bname; rw [hbd]; rfl
            subst er
            refine ⟨_, rfl, _, rfl, .inl ⟨d, _, rfl, DGet.k (k := Sum.inr n0) hd6, _, rfl, ?_⟩⟩
            cases hv : valV (l.map enc) (Sum.inr n0) with
            | none =>
              refine cF (k := (none : Option V).isSome) rfl ⟨_, rfl, q H6 d l s36 nd hd6 (dl.as fun p => ?_)⟩
              have nin := val_enc_none.mp hv
              rw [Fm.syms_mem kr, hbn]
              constructor
              · intro z
                have pl : p ∈ l := (dl.mem p).mpr z
                obtain ⟨lz, hlz, hz⟩ := List.mem_flatten.mp z
                obtain ⟨g2, hg2, rfl⟩ := List.mem_map.mp hlz
                exact ⟨fun z => nin (List.mem_map.mpr ⟨p, pl, (Option.some.inj z).symm⟩), g2, hg2, hz⟩
              · rintro ⟨_, g2, hg2, hz⟩
                exact List.mem_flatten.mpr ⟨_, List.mem_map.mpr ⟨g2, hg2, rfl⟩, hz⟩
            | some v =>
              obtain ⟨a2, ha2, rfl⟩ := val_enc hv
              have ea : a2 = k0 := by
                obtain ⟨lz, hlz, hz⟩ := List.mem_flatten.mp ((dl.mem _).mp ha2)
                obtain ⟨g2, hg2, rfl⟩ := List.mem_map.mp hlz
                have e1 := typed_sym g2 _ (ty.part kr hg2) _ hz
                unfold Hd.env at e1
                rw [hbd] at e1
                have e2 : some k0 = some a2 := by simpa using e1
                exact (Option.some.inj e2).symm
              refine cT (k := (some (V.int (a2 : Nat))).isSome) rfl ?_
              have s37 : Same H (upd H6 d (.dK (dropK (l.map enc) (Sum.inr n0)))) := fun c o e => by rw [upd_ne (ndb e)]; exact s36 c o e
              refine ⟨_, rfl, d, rfl, .inl ⟨_, Rd.of hd6⟩, _, rfl, _, Sum.inr n0, _, hd6, rfl, hv, ?_⟩
              refine ⟨_, rfl, _, h, _, n0, k0, rfl, Dp.same s37 dp, hbd, fun H7 s7 => ⟨rfl, _, rfl, ?_⟩⟩
              refine cF (k := !decide (V.int (a2 : Nat) = V.int (k0 : Nat))) (by rw [ea, decide_eq_true rfl]; rfl) ?_
              refine ⟨_, rfl, q H7 d (l.filter fun p => !decide (p.1 = n0)) (s37.trans s7) nd ?_ ⟨?_, fun p => ?_⟩⟩
              · rw [← drop_enc]
                exact s7 _ _ upd_same
              · exact List.Nodup.sublist ((List.filter_sublist (p := fun p => !decide (p.1 = n0)) (l := l)).map _) dl.nd
              · rw [List.mem_filter, dl.mem, Fm.syms_mem kr, hbn]
                constructor
                · rintro ⟨z, zn⟩
                  obtain ⟨lz, hlz, hz⟩ := List.mem_flatten.mp z
                  obtain ⟨g2, hg2, rfl⟩ := List.mem_map.mp hlz
                  refine ⟨fun z => ?_, g2, hg2, hz⟩
                  have e9 : n0 = p.1 := Option.some.inj z
                  rw [e9] at zn
                  simp at zn
                · rintro ⟨zn, g2, hg2, hz⟩
                  refine ⟨List.mem_flatten.mpr ⟨_, List.mem_map.mpr ⟨g2, hg2, rfl⟩, hz⟩, ?_⟩
                  have e9 : ¬ p.1 = n0 := fun z => zn (by rw [z])
                  simp [e9]
end
/-! ### check_formula of a right formula -/
structure Fm.Wf (f : Fm) : Prop where
  ok : f.Ok
  dep : f.dep ≤ 40
  cnt : f.cnt ≤ 2000
  pos : f.PosOk
  ty : ∃ Γ, f.Typed Γ
section
variable {P : Program} {w : World} {K : PySem.W.Frag} {mg : Str → Option Value} {base : Heap}
/-- a function of a right formula that changes nothing -/
def spWf (K : PySem.W.Frag) (R : Fm → V → Hp → Prop) : Sp := fun vs H Q _ => ∃ (v : V) (f : Fm), vs = [v] ∧ Dp K H v f.data ∧ f.Wf ∧ ∀ (H' : Hp) (r : V), Same H H' → R f r H' → Q r H'
abbrev spCheck (K : PySem.W.Frag) : Sp := spWf K fun _ r _ => r = .non
theorem sc_check_formula : FnScope ["formula"] ["formula"] (defScope (top 47)) := ⟨rfl, rfl, rfl, by decide +kernel, rfl, by decide +kernel, by decide +kernel⟩
theorem has_check_formula (D : Def K mg "check_formula" ["formula"] (top 47)) (k1 : ∃ t, mg "MOST_DEEP" = some (.int 40 t)) (k2 : ∃ t, mg "MOST_PARTS" = some (.int 2000 t))
    (C1 : ∀ n, Has P w K mg base (6 + n) "_check_shapes" ["value", "levels_left", "parts_left"] (spCS K n)) (C2 : ∀ n, Has P w K mg base (2 + n) "arities_in" ["formula"] (spAr K n)) (C3 : ∀ n, Has P w K mg base (3 + n) "_check_fixed_points" ["formula"] (spCF K n)) :
    Has P w K mg base 47 "check_formula" ["formula"] (spCheck K) := D.has fun f fd F => by
  obtain ⟨f1, fd1, G_check_shapes, g_check_shapes, k_check_shapes, b_check_shapes⟩ := C1 40
  obtain ⟨f2, fd2, G_arities_in, g_arities_in, k_arities_in, b_arities_in⟩ := C2 40
  obtain ⟨f3, fd3, G_check_fixed_points, g_check_fixed_points, k_check_fixed_points, b_check_fixed_points⟩ := C3 40
  obtain ⟨t1, c_MOST_DEEP⟩ := k1
  obtain ⟨t2, c_MOST_PARTS⟩ := k2
  refine F.ok sc_check_formula (fun vs H Q E h => ?_) (fun cdv A outer s H vs Q E hr h => ?_)
  · obtain ⟨v, f, rfl, _⟩ := h; rfl
  · obtain ⟨v, f, rfl, dp, wf, q⟩ := h
    have R_check_shapes : Room (6 + 40) _ := hr.mono (by decide)
    have R_arities_in : Room (2 + 40) _ := hr.mono (by decide)
    have R_check_fixed_points : Room (3 + 40) _ := hr.mono (by decide)
    refine ⟨_, PSs.nox (pss_cons (ps_expr (pe_call G_check_shapes R_check_shapes (by rfl) g_check_shapes k_check_shapes b_check_shapes .nil pass0 (pa_cons (pv 0) (pa_cons (pe_glob (v := .int 40) (by rfl) c_MOST_DEEP ⟨_, rfl⟩) (pa_cons (pe_glob (v := .int 2000) (by rfl) c_MOST_PARTS ⟨_, rfl⟩) pa_nil))))) (pss_cons (ps_expr (pe_call G_arities_in R_arities_in (by rfl) g_arities_in k_arities_in b_arities_in .nil pass0 (pa_cons (pv 0) pa_nil))) (pss_one (ps_expr (pe_call G_check_fixed_points R_check_fixed_points (by rfl) g_check_fixed_points k_check_fixed_points b_check_fixed_points .nil pass0 (pa_cons (pv 0) pa_nil)))))), ?_⟩
    obtain ⟨Γ, ty⟩ := wf.ty
    have h1 := wf.dep
    have h2 := wf.cnt
    refine ⟨_, rfl, v, 40, 2000, f, rfl, dp, wf.ok, h1, by omega, by omega, fun H1 s1 => ?_⟩
    refine ⟨_, rfl, v, f, Γ, rfl, Dp.same s1 dp, wf.ok, ty, h1, h2, fun H2 d l s2 _ _ _ => ?_⟩
    refine ⟨_, rfl, v, f, rfl, Dp.same (s1.trans s2) dp, wf.ok, wf.pos, h1, fun H3 s3 => ?_⟩
    exact q H3 .non ((s1.trans s2).trans s3) rfl
end
/-! ### what the law's formulas are -/
def sgOf (m : Nat) : Option Int := match m with
  | 0 => none
  | 1 => some 1
  | 2 => some (-1)
  | _ => some 0
def five : List Str := ["e", "p", "q", "r", "s"]
def Hd.vars (h : Hd) : List Str := h.own ++ h.args
def Hd.rn (h : Hd) : List Str := match h with
  | .rel n _ => [n]
  | _ => []
/-- all variables that occur, all names of relations that occur -/
def Fm.vars : Fm → List Str := Fm.fold fun h xs => h.vars ++ xs.flatten
def Fm.rns : Fm → List Str := Fm.fold fun h xs => h.rn ++ xs.flatten
theorem Fm.vars_mk (h : Hd) (ps : List Fm) : (Fm.mk h ps).vars = h.vars ++ (ps.map Fm.vars).flatten := Fm.fold_mk _ h ps
theorem Fm.rns_mk (h : Hd) (ps : List Fm) : (Fm.mk h ps).rns = h.rn ++ (ps.map Fm.rns).flatten := Fm.fold_mk _ h ps
structure Occ (pool : List Str) (f : Fm) : Prop where
  vs : ∀ x, x ∈ f.vars → x ∈ pool
  rs : ∀ x, x ∈ f.rns → x ∈ five
theorem Occ.part {pool : List Str} {h : Hd} {ps : List Fm} {p : Fm} (o : Occ pool (.mk h ps)) (hp : p ∈ ps) : Occ pool p :=
  ⟨fun x hx => o.vs x (by rw [Fm.vars_mk]; exact List.mem_append_right _ (List.mem_flatten.mpr ⟨_, List.mem_map.mpr ⟨p, hp, rfl⟩, hx⟩)),
   fun x hx => o.rs x (by rw [Fm.rns_mk]; exact List.mem_append_right _ (List.mem_flatten.mpr ⟨_, List.mem_map.mpr ⟨p, hp, rfl⟩, hx⟩))⟩
theorem Occ.mk' {pool : List Str} {h : Hd} {ps : List Fm} (a : ∀ x, x ∈ h.vars → x ∈ pool) (b : ∀ x, x ∈ h.rn → x ∈ five) (c : ∀ p, p ∈ ps → Occ pool p) : Occ pool (.mk h ps) := by
  refine ⟨fun x hx => ?_, fun x hx => ?_⟩
  · rw [Fm.vars_mk] at hx
    rcases List.mem_append.mp hx with hx | hx
    · exact a x hx
    · obtain ⟨l, hl, hx⟩ := List.mem_flatten.mp hx
      obtain ⟨p, hp, rfl⟩ := List.mem_map.mp hl
      exact (c p hp).vs x hx
  · rw [Fm.rns_mk] at hx
    rcases List.mem_append.mp hx with hx | hx
    · exact b x hx
    · obtain ⟨l, hl, hx⟩ := List.mem_flatten.mp hx
      obtain ⟨p, hp, rfl⟩ := List.mem_map.mp hl
      exact (c p hp).rs x hx
structure NOk (ns : List NE) (Γ : ArE) : Prop where
  nm : ∀ p, p ∈ ns → Nm p.1
  ar : ∀ p, p ∈ ns → p.2.1 ≤ 3
  md : ∀ p, p ∈ ns → p.2.2 ≤ 3
  fit : ∀ p, p ∈ ns → Γ p.1 = some p.2.1
  uni : ∀ p q, p ∈ ns → q ∈ ns → p.1 = q.1 → p = q
  fv : ∀ p, p ∈ ns → p.1 ∈ five
theorem mode_le {a b c e m : Nat} (ha : a ≤ 3) (hb : b ≤ 3) (hc : c ≤ 3) (he : e ≤ 3) : mode4 a b c e m ≤ 3 := by
  unfold mode4
  split <;> assumption
theorem NOk.map {ns : List NE} {Γ : ArE} (F : Nat → Nat) (hF : ∀ m, F m ≤ 3) (k : NOk ns Γ) : NOk (ns.map fun p => (p.1, p.2.1, F p.2.2)) Γ := by
  have inv : ∀ p, p ∈ (ns.map fun p : NE => (p.1, p.2.1, F p.2.2)) → ∃ q, q ∈ ns ∧ p = (q.1, q.2.1, F q.2.2) := fun p hp => by
    obtain ⟨q, hq, e⟩ := List.mem_map.mp hp
    exact ⟨q, hq, e.symm⟩
  refine ⟨fun p hp => ?_, fun p hp => ?_, fun p hp => ?_, fun p hp => ?_, fun p q hp hq e => ?_, fun p hp => ?_⟩
  · obtain ⟨q, hq, rfl⟩ := inv p hp; exact k.nm q hq
  · obtain ⟨q, hq, rfl⟩ := inv p hp; exact k.ar q hq
  · obtain ⟨q, hq, rfl⟩ := inv p hp; exact hF _
  · obtain ⟨q, hq, rfl⟩ := inv p hp; exact k.fit q hq
  · obtain ⟨p0, hp0, rfl⟩ := inv p hp
    obtain ⟨q0, hq0, rfl⟩ := inv q hq
    rw [k.uni p0 q0 hp0 hq0 e]
  · obtain ⟨q, hq, rfl⟩ := inv p hp; exact k.fv q hq
theorem NOk.turned {ns : List NE} {Γ : ArE} (k : NOk ns Γ) : NOk (turned ns) Γ := k.map _ fun m => mode_le (by decide) (by decide) (by decide) (by decide)
theorem NOk.barred {ns : List NE} {Γ : ArE} (k : NOk ns Γ) : NOk (barred ns) Γ := k.map _ fun m => mode_le (by decide) (by decide) (by decide) (by decide)
theorem mem_within {ns : List NE} {p q : NE} : q ∈ within ns p ↔ (q ∈ ns ∧ q.1 ≠ p.1) ∨ q = p := by
  unfold within
  rw [List.mem_append, List.mem_filter, List.mem_singleton]
  simp
theorem NOk.within {ns : List NE} {Γ Δ : ArE} {p : NE} (k : NOk ns Γ) (hn : Nm p.1) (h5 : p.1 ∈ five) (ha : p.2.1 ≤ 3) (hm : p.2.2 ≤ 3) (hΔ : ∀ x, Δ x = if x = p.1 then some p.2.1 else Γ x) : NOk (within ns p) Δ := by
  refine ⟨fun q hq => ?_, fun q hq => ?_, fun q hq => ?_, fun q hq => ?_, fun q r hq hr e => ?_, fun q hq => ?_⟩
  · rcases mem_within.mp hq with ⟨h, _⟩ | rfl
    · exact k.nm q h
    · exact hn
  · rcases mem_within.mp hq with ⟨h, _⟩ | rfl
    · exact k.ar q h
    · exact ha
  · rcases mem_within.mp hq with ⟨h, _⟩ | rfl
    · exact k.md q h
    · exact hm
  · rw [hΔ]
    rcases mem_within.mp hq with ⟨h, n⟩ | rfl
    · rw [if_neg n]; exact k.fit q h
    · rw [if_pos rfl]
  · rcases mem_within.mp hq with ⟨h, n⟩ | rfl
    · rcases mem_within.mp hr with ⟨h2, n2⟩ | rfl
      · exact k.uni q r h h2 e
      · exact absurd e n
    · rcases mem_within.mp hr with ⟨h2, n2⟩ | rfl
      · exact absurd e.symm n2
      · rfl
  · rcases mem_within.mp hq with ⟨h, _⟩ | rfl
    · exact k.fv q h
    · exact h5
structure Gen (pool : List Str) (ns : List NE) (Γ : ArE) (f : Fm) (n : Nat) : Prop where
  ok : f.Ok
  ty : f.Typed Γ
  po : f.PosOk
  md : ∀ p, p ∈ ns → ∀ s, sgOf p.2.2 = some s → f.pos p.1 s = true
  dep : f.dep ≤ n
  cnt : 2 * f.cnt + 1 ≤ 3 ^ n
  oc : Occ pool f
theorem Gen.mono {pool : List Str} {ns : List NE} {Γ : ArE} {f : Fm} {n m : Nat} (g : Gen pool ns Γ f n) (h : n ≤ m) : Gen pool ns Γ f m :=
  ⟨g.ok, g.ty, g.po, g.md, Nat.le_trans g.dep h, Nat.le_trans g.cnt (Nat.pow_le_pow_right (by decide) h), g.oc⟩
theorem Gen.rel {pool : List Str} {ns : List NE} {Γ : ArE} {p : NE} {as : List Str} (k : NOk ns Γ) (hp : p ∈ ns) (u : p.2.2 < 2) (len : as.length = p.2.1) (hs : Names as) (hv : ∀ x, x ∈ as → x ∈ pool) : Gen pool ns Γ (.mk (.rel p.1 as) []) 1 := by
  refine ⟨.mk ⟨k.nm p hp, ?_, hs, rfl⟩ (fun q hq => nomatch hq), .rel (by rw [len]; exact k.fit p hp), .mk (fun n us as e => by cases e) (fun q hq => nomatch hq), fun q hq s hs => ?_, by rw [Fm.dep_mk]; exact Nat.le_refl _, by rw [Fm.cnt_mk]; exact Nat.le_refl _, .mk' hv (fun x hx => by rw [List.mem_singleton.mp hx]; exact k.fv p hp) (fun q hq => nomatch hq)⟩
  · have := k.ar p hp
    omega
  · rw [Fm.pos_rel]
    by_cases e : p.1 = q.1
    · have e2 := k.uni p q hp hq e
      subst e2
      obtain ⟨a, b, m⟩ := p
      have u : m < 2 := u
      match m, u with
      | 0, _ => cases hs
      | 1, _ =>
        have : s = 1 := (Option.some.inj hs).symm
        rw [this]; rfl
    · rw [decide_eq_false e]
      exact Bool.or_true _
theorem Gen.cmp {pool : List Str} {ns : List NE} {Γ : ArE} {h : Hd} (c : (∃ x y, h = .eq x y ∧ (Nm x ∧ x ∈ pool) ∧ Nm y ∧ y ∈ pool) ∨ (∃ x y, h = .less x y ∧ (Nm x ∧ x ∈ pool) ∧ Nm y ∧ y ∈ pool)) : Gen pool ns Γ (.mk h []) 1 := by
  have nr : h.kd ≠ .rel := by rcases c with ⟨x, y, rfl, _⟩ | ⟨x, y, rfl, _⟩ <;> exact fun z => nomatch z
  refine ⟨.mk ?_ (fun q hq => nomatch hq), .other nr (fun q hq => nomatch hq), .mk (fun n us as e => ?_) (fun q hq => nomatch hq), fun q hq s hs => ?_, by rw [Fm.dep_mk]; exact Nat.le_refl _, by rw [Fm.cnt_mk]; exact Nat.le_refl _, .mk' (fun z hz => ?_) (fun z hz => ?_) (fun q hq => nomatch hq)⟩
  · rcases c with ⟨x, y, rfl, h1, h2⟩ | ⟨x, y, rfl, h1, h2⟩ <;> exact ⟨h1.1, h2.1, rfl⟩
  · rcases c with ⟨x, y, rfl, h1, h2⟩ | ⟨x, y, rfl, h1, h2⟩ <;> cases e
  · rw [Fm.pos_other nr]
    split <;> rfl
  · rcases c with ⟨x, y, rfl, h1, h2⟩ | ⟨x, y, rfl, h1, h2⟩
    · have hz : z ∈ [x, y] := hz
      rcases List.mem_cons.mp hz with rfl | hz
      · exact h1.2
      · rw [List.mem_singleton.mp hz]; exact h2.2
    · have hz : z ∈ [x, y] := hz
      rcases List.mem_cons.mp hz with rfl | hz
      · exact h1.2
      · rw [List.mem_singleton.mp hz]; exact h2.2
  · rcases c with ⟨x, y, rfl, h1, h2⟩ | ⟨x, y, rfl, h1, h2⟩ <;> exact nomatch hz
theorem rn_none {h : Hd} (nr : h.kd ≠ .rel) : h.rn = [] := by cases h <;> first | rfl | exact absurd rfl nr
theorem sum_gen {n : Nat} : ∀ (ps : List Fm), (∀ p, p ∈ ps → 2 * p.cnt + 1 ≤ 3 ^ n) → 2 * sumN (ps.map Fm.cnt) + ps.length ≤ ps.length * 3 ^ n
  | [], _ => Nat.zero_le _
  | p :: ps, h => by
    have a := h p (List.mem_cons_self ..)
    have b := sum_gen ps fun q hq => h q (List.mem_cons_of_mem _ hq)
    show 2 * (p.cnt + sumN (ps.map Fm.cnt)) + (ps.length + 1) ≤ (ps.length + 1) * 3 ^ n
    rw [Nat.add_mul, Nat.one_mul]
    omega
theorem maxN_le {n : Nat} : ∀ (xs : List Nat), (∀ x, x ∈ xs → x ≤ n) → maxN xs ≤ n
  | [], _ => Nat.zero_le _
  | x :: xs, h => Nat.max_le.mpr ⟨h x (List.mem_cons_self ..), maxN_le xs fun y hy => h y (List.mem_cons_of_mem _ hy)⟩
theorem Gen.step {pool : List Str} {ns ns' : List NE} {Γ : ArE} {h : Hd} {ps : List Fm} {n : Nat} (nr : h.kd ≠ .rel) (ok : h.Ok ps.length) (hv : ∀ x, x ∈ h.vars → x ∈ pool) (hg : ∀ g, g ∈ ps → Gen pool ns' (h.env Γ) g n) (len : ps.length ≤ 3)
    (hl : ∀ m us as, h = .lfp m us as → ∃ q, q ∈ ns' ∧ q.1 = m ∧ sgOf q.2.2 = some 1)
    (tr : ∀ p, p ∈ ns → h.bname ≠ some p.1 → ∀ s, sgOf p.2.2 = some s → ∃ q, q ∈ ns' ∧ q.1 = p.1 ∧ sgOf q.2.2 = some (h.sgn s)) : Gen pool ns Γ (.mk h ps) (n + 1) := by
  refine ⟨.mk ok fun p hp => (hg p hp).ok, .other nr fun p hp => (hg p hp).ty, .mk (fun m us as e p hp => ?_) fun p hp => (hg p hp).po, fun p hp s hs => ?_, ?_, ?_, .mk' hv (fun x hx => by rw [rn_none nr] at hx; cases hx) fun p hp => (hg p hp).oc⟩
  · obtain ⟨q, hq, e1, e2⟩ := hl m us as e
    rw [← e1]
    exact (hg p hp).md q hq 1 e2
  · rw [Fm.pos_other nr]
    by_cases hb : h.bname = some p.1
    · rw [if_pos hb]
    · rw [if_neg hb]
      refine List.all_eq_true.mpr fun g hgm => ?_
      obtain ⟨q, hq, e1, e2⟩ := tr p hp hb s hs
      rw [← e1]
      exact (hg g hgm).md q hq _ e2
  · rw [Fm.dep_mk]
    have := maxN_le (n := n) (ps.map Fm.dep) fun x hx => by
      obtain ⟨g, hgm, rfl⟩ := List.mem_map.mp hx
      exact (hg g hgm).dep
    omega
  · rw [Fm.cnt_mk]
    have h1 := sum_gen ps fun p hp => (hg p hp).cnt
    have h2 : 1 ≤ 3 ^ n := Nat.one_le_pow _ _ (by decide)
    rw [Nat.pow_succ]
    generalize sumN (ps.map Fm.cnt) = S at h1 ⊢
    generalize 3 ^ n = T at h1 h2 ⊢
    match hL : ps.length, len with
    | 0, _ => rw [hL] at h1; omega
    | 1, _ => rw [hL] at h1; omega
    | 2, _ => rw [hL] at h1; omega
    | 3, _ => rw [hL] at h1; omega
theorem sgOf_turn {m : Nat} {s : Int} (h : sgOf m = some s) : sgOf (mode4 0 2 1 3 m) = some (-s) := by
  match m with
  | 0 => cases h
  | 1 => rw [← Option.some.inj h]; rfl
  | 2 => rw [← Option.some.inj h]; rfl
  | _ + 3 => rw [← Option.some.inj h]; rfl
theorem sgOf_bar {m : Nat} {s : Int} (h : sgOf m = some s) : sgOf (mode4 0 3 3 3 m) = some 0 := by
  match m with
  | 0 => cases h
  | 1 => rfl
  | 2 => rfl
  | _ + 3 => rfl
theorem Gen.no {pool : List Str} {ns : List NE} {Γ : ArE} {g : Fm} {n : Nat} (hg : Gen pool (turned ns) Γ g n) : Gen pool ns Γ (.mk .no [g]) (n + 1) :=
  .step (ns' := SaysoV.turned ns) (fun z => nomatch z) rfl (fun x hx => nomatch hx) (fun f hf => by rw [List.mem_singleton.mp hf]; exact hg) (show 1 ≤ 3 by decide) (fun m us as e => by cases e) fun p hp _ s hs => ⟨(p.1, p.2.1, mode4 0 2 1 3 p.2.2), List.mem_map.mpr ⟨p, hp, rfl⟩, rfl, sgOf_turn hs⟩
theorem Gen.con {pool : List Str} {ns : List NE} {Γ : ArE} {h : Hd} {ps : List Fm} {n : Nat} (c : h = .con ∨ h = .dis) (hg : ∀ g, g ∈ ps → Gen pool ns Γ g n) (len : ps.length ≤ 3) : Gen pool ns Γ (.mk h ps) (n + 1) := by
  refine .step (ns' := ns) ?_ ?_ ?_ (fun f hf => ?_) len ?_ ?_
  · rcases c with rfl | rfl <;> exact fun z => nomatch z
  · rcases c with rfl | rfl <;> exact Nat.le_trans len (by decide)
  · rcases c with rfl | rfl <;> exact fun x hx => nomatch hx
  · rcases c with rfl | rfl <;> exact hg f hf
  · rcases c with rfl | rfl <;> exact fun m us as e => by cases e
  · rcases c with rfl | rfl <;> exact fun p hp _ s hs => ⟨p, hp, rfl, hs⟩
theorem Gen.quant {pool : List Str} {ns : List NE} {Γ : ArE} {h : Hd} {vs : List Str} {g : Fm} {n : Nat} (c : h = .ex vs ∨ h = .al vs) (o : OwnOk vs) (hv : ∀ x, x ∈ vs → x ∈ pool) (hg : Gen pool ns Γ g n) : Gen pool ns Γ (.mk h [g]) (n + 1) := by
  refine .step (ns' := ns) ?_ ?_ ?_ (fun f hf => ?_) (show 1 ≤ 3 by decide) ?_ ?_
  · rcases c with rfl | rfl <;> exact fun z => nomatch z
  · rcases c with rfl | rfl <;> exact ⟨o, rfl⟩
  · intro x hx
    refine hv x ?_
    rcases c with rfl | rfl
    · have hx : x ∈ vs ++ [] := hx
      rwa [List.append_nil] at hx
    · have hx : x ∈ vs ++ [] := hx
      rwa [List.append_nil] at hx
  · rw [List.mem_singleton.mp hf]
    rcases c with rfl | rfl <;> exact hg
  · rcases c with rfl | rfl <;> exact fun m us as e => by cases e
  · rcases c with rfl | rfl <;> exact fun p hp _ s hs => ⟨p, hp, rfl, hs⟩
theorem Gen.tc {pool : List Str} {ns : List NE} {Γ : ArE} {vs as : List Str} {g : Fm} {n : Nat} (l2 : vs.length = 2) (nv : Names vs) (nd : vs.Nodup) (la : as.length = 2) (na : Names as) (hv : ∀ x, x ∈ vs → x ∈ pool) (hw : ∀ x, x ∈ as → x ∈ pool) (hg : Gen pool ns Γ g n) : Gen pool ns Γ (.mk (.tc vs as) [g]) (n + 1) :=
  .step (ns' := ns) (fun z => nomatch z) ⟨.inl l2, nv, nd, by rw [l2, la], na, rfl⟩ (fun x hx => (List.mem_append.mp (show x ∈ vs ++ as from hx)).elim (hv x) (hw x)) (fun f hf => by rw [List.mem_singleton.mp hf]; exact hg) (show 1 ≤ 3 by decide) (fun m us as e => by cases e) fun p hp _ s hs => ⟨p, hp, rfl, hs⟩
theorem Gen.lfp {pool : List Str} {ns : List NE} {Γ : ArE} {name : Str} {vs as : List Str} {g : Fm} {n : Nat} (nn : Nm name) (o : OwnOk vs) (la : as.length = vs.length) (na : Names as) (hv : ∀ x, x ∈ vs → x ∈ pool) (hw : ∀ x, x ∈ as → x ∈ pool) (hg : Gen pool (SaysoV.within ns (name, vs.length, 1)) (Hd.env (.lfp name vs as) Γ) g n) : Gen pool ns Γ (.mk (.lfp name vs as) [g]) (n + 1) :=
  .step (fun z => nomatch z) ⟨nn, o, la, na, rfl⟩ (fun x hx => (List.mem_append.mp (show x ∈ vs ++ as from hx)).elim (hv x) (hw x)) (fun f hf => by rw [List.mem_singleton.mp hf]; exact hg) (show 1 ≤ 3 by decide)
    (fun m us as e => ⟨_, mem_within.mpr (.inr rfl), by injection e, rfl⟩)
    fun p hp hb s hs => ⟨p, mem_within.mpr (.inl ⟨hp, fun e => hb (congrArg some e.symm)⟩), rfl, hs⟩
theorem Gen.pfp {pool : List Str} {ns : List NE} {Γ : ArE} {name : Str} {vs as : List Str} {g : Fm} {n : Nat} (nn : Nm name) (o : OwnOk vs) (la : as.length = vs.length) (na : Names as) (hv : ∀ x, x ∈ vs → x ∈ pool) (hw : ∀ x, x ∈ as → x ∈ pool) (hg : Gen pool (SaysoV.within (SaysoV.barred ns) (name, vs.length, 0)) (Hd.env (.pfp name vs as) Γ) g n) : Gen pool ns Γ (.mk (.pfp name vs as) [g]) (n + 1) :=
  .step (fun z => nomatch z) ⟨nn, o, la, na, rfl⟩ (fun x hx => (List.mem_append.mp (show x ∈ vs ++ as from hx)).elim (hv x) (hw x)) (fun f hf => by rw [List.mem_singleton.mp hf]; exact hg) (show 1 ≤ 3 by decide)
    (fun m us as e => by cases e)
    fun p hp hb s hs => ⟨(p.1, p.2.1, mode4 0 3 3 3 p.2.2), mem_within.mpr (.inl ⟨List.mem_map.mpr ⟨p, hp, rfl⟩, fun e => hb (congrArg some e.symm)⟩), rfl, sgOf_bar hs⟩
theorem Gen.gs {pool : List Str} {ns : List NE} {Γ : ArE} {name : Str} {k : Nat} {g : Fm} {n : Nat} (nn : Nm name) (hk : k ≤ 3) (hg : Gen pool (SaysoV.within ns (name, k, 0)) (Hd.env (.gs name k) Γ) g n) : Gen pool ns Γ (.mk (.gs name k) [g]) (n + 1) :=
  .step (fun z => nomatch z) ⟨nn, hk, rfl⟩ (fun x hx => nomatch hx) (fun f hf => by rw [List.mem_singleton.mp hf]; exact hg) (show 1 ≤ 3 by decide)
    (fun m us as e => by cases e)
    fun p hp hb s hs => ⟨p, mem_within.mpr (.inl ⟨hp, fun e => hb (congrArg some e.symm)⟩), rfl, hs⟩
/-! ### the heap under draws -/
def Far (xs : List V) : Prop := ∀ (l : Addr) (n : Int), xs ≠ [.ref l, .int n]
theorem far_strs (as : List Str) : Far (as.map V.str) := fun l n e => by
  cases as with
  | nil => cases e
  | cons a r => injection e with h _; cases h
section
variable {K : PySem.W.Frag} {H H' : Hp} {d l : Addr}
theorem far_dp {xs : List V} {ts : List PyData} (h : DpAll K H xs ts) (g : good (.list ts) = true) : Far xs := fun l n e => by
  rw [e] at h
  rw [no_ints h] at g
  cases g
theorem SqL.kpA {a : Addr} {xs : List V} (h : SqL K H a xs) (far : Far xs) (r : DrA H d l) (k : Kp d H H') : SqL K H' a xs := by
  obtain ⟨n, ms, h1, _⟩ := r
  exact wo_sub.seq ((wo_kp k).seq (SqL.wo h1 (far l n) h))
end
theorem DpAll.inMem {K : PySem.W.Frag} {H : Hp} {xs : List V} {ts : List PyData} {v : V} (h : DpAll K H xs ts) (m : v ∈ xs) : ∃ t, t ∈ ts ∧ Dp K H v t := by
  obtain ⟨i, hi⟩ := List.mem_iff_getElem?.mp m
  obtain ⟨t, ht, e⟩ := DpAll.get' h hi
  exact ⟨t, List.mem_of_getElem? ht, e⟩
theorem atI_mod {xs : List V} (z : Int) (h : 0 < xs.length) : ∃ v, v ∈ xs ∧ atI xs (z % (xs.length : Int)) = some v := by
  have i0 : 0 ≤ z % (xs.length : Int) := Int.emod_nonneg _ (by omega)
  have i1 : z % (xs.length : Int) < (xs.length : Int) := Int.emod_lt_of_pos _ (by omega)
  obtain ⟨j, hj⟩ : ∃ j : Nat, z % (xs.length : Int) = (j : Int) := ⟨(z % (xs.length : Int)).toNat, by omega⟩
  rw [hj] at i1 ⊢
  have hl : j < xs.length := by omega
  exact ⟨xs[j], List.getElem_mem hl, atI_nat (List.getElem?_eq_getElem hl)⟩
theorem atI_str {as : List Str} (z : Int) (h : 0 < as.length) : ∃ x, x ∈ as ∧ atI (as.map V.str) (z % ((as.map V.str).length : Int)) = some (.str x) := by
  obtain ⟨v, hv, e⟩ := atI_mod (xs := as.map V.str) z (by rw [List.length_map]; exact h)
  obtain ⟨x, hx, rfl⟩ := List.mem_map.mp hv
  exact ⟨x, hx, e⟩
theorem swap2 {B G : Prop} (f : B → G) (b : B) : G := f b
structure Pool (pool : List Str) : Prop where
  nm : Names pool
  nd : pool.Nodup
  two : 2 ≤ pool.length
  few : pool.length ≤ 20
def spAtom (K : PySem.W.Frag) : Sp := fun vs H Q _ => ∃ (d l : Addr) (vp vn : V) (pool : List Str) (ns : List NE) (Γ : ArE), vs = [.ref d, vp, vn] ∧ DrA H d l ∧ Dp K H vp (.list (pool.map PyData.str)) ∧ Dp K H vn (nsD ns) ∧ NOk ns Γ ∧ Pool pool ∧ ns.length ≤ 100 ∧
  ∀ (H' : Hp) (r : V) (f : Fm), DrA H' d l → Kp d H H' → Dp K H' r f.data → Gen pool ns Γ f 1 → Q r H'
section
variable {P : Program} {w : World} {K : PySem.W.Frag} {mg : Str → Option Value} {base : Heap}
theorem sc_atom : FnScope ["draws", "pool", "names", "usable", "pick", "one", "word", "k"] ["draws", "pool", "names"] (defScope (top 62)) := ⟨rfl, rfl, rfl, by decide +kernel, rfl, by decide +kernel, by decide +kernel⟩
theorem has_atom (D : Def K mg "_law_atom" ["draws", "pool", "names"] (top 62)) (T : Txt mg) (C1 : Has P w K mg base 2 "_law_draw" ["draws"] spDraw) : Has P w K mg base 3 "_law_atom" ["draws", "pool", "names"] (spAtom K) := D.has fun f fd F => by
  obtain ⟨f1, fd1, G_law_draw, g_law_draw, k_law_draw, b_law_draw⟩ := C1
  refine F.ok sc_atom (fun vs H Q E h => ?_) (fun cdv A outer s H vs Q E hr h => ?_)
  · obtain ⟨d, l, vp, vn, pool, ns, Γ, rfl, _⟩ := h; rfl
  · obtain ⟨d, l, vp, vn, pool, ns, Γ, rfl, dr, dp, dn, ok, po, hl, q⟩ := h
    have R_law_draw : Room 2 _ := hr.mono (by decide)
    refine ⟨_, PSs.nox (pss_cons (ps_setLc (i := 3) (own := [("one", 5)]) rfl sc_atom.nd rfl rfl (sw_true rfl rfl rfl (by decide +kernel)) (pi_list (pv 2)) (blkOk_by (N := ["draws", "pool", "names", "usable", "pick", "one", "word", "k"]) (sc := defScope (top 62)) (by decide +kernel)) (fun _ _ _ _ _ => (pg_name (i := 5) sc_atom.nd rfl (Or.inl rfl))) (fun _ _ _ _ _ => (pts_one (pt_cmpR op_lt (pe_ix (ix_tupK (K := K) rfl) (pv 5) pe_int (fun _ _ => rfl)) pe_int (nomark _)))) (fun _ _ _ _ _ => (pv 5))) (pss_cons (ps_set (i := 4) sc_atom.nd rfl (Or.inl rfl) (pe_op op_mod (pe_call G_law_draw R_law_draw (by rfl) g_law_draw k_law_draw b_law_draw .nil pass0 (pa_cons (pv 0) pa_nil)) pe_int)) (pss_cons (ps_if (PW.pt (pw_and (pt_cmpR op_lt (pv 4) pe_int (nomark _)) (pw_and1 (pt_cmpR op_gt (pe_callB call_len_seq (by rfl) T.n_len PySem.boot_len (pa_cons (pv 3) pa_nil)) pe_int (nomark _))))) (pss_cons (ps_set (i := 5) sc_atom.nd rfl (Or.inl rfl) (pe_ix ix_list (pv 3) (pe_op op_mod (pe_call G_law_draw R_law_draw (by rfl) g_law_draw k_law_draw b_law_draw .nil pass0 (pa_cons (pv 0) pa_nil)) (pe_callB call_len_seq (by rfl) T.n_len PySem.boot_len (pa_cons (pv 3) pa_nil))) (fun _ _ => rfl))) (pss_one (ps_ret (pe_tup (pa_cons pe_str (pa_cons (pe_ix ix_tup (pv 5) pe_int (fun _ _ => rfl)) (pa_cons (pe_callTy call_tuple_of (by rfl) T.n_tuple (by decide +kernel) (pa_cons (pe_lc (own := [("k", 7)]) rfl sc_atom.nd (pi_range1 (by rfl) T.n_range (pa_cons (pe_ix ix_tup (pv 5) pe_int (fun _ _ => rfl)) pa_nil)) (blkOk_by (N := ["draws", "pool", "names", "usable", "pick", "one", "word", "k"]) (sc := defScope (top 62)) (by decide +kernel)) (fun _ _ _ _ _ => (pg_name (i := 7) sc_atom.nd rfl (Or.inl rfl))) (fun _ _ _ _ _ => pts_nil) (fun _ _ _ _ _ => (pe_ix (ix_listK (K := K) rfl) (pv 1) (pe_op op_mod (pe_call G_law_draw R_law_draw (by rfl) g_law_draw k_law_draw b_law_draw .nil pass0 (pa_cons (pv 0) pa_nil)) (pe_callB (call_len_seqK (K := K) rfl) (by rfl) T.n_len PySem.boot_len (pa_cons (pv 1) pa_nil))) (fun _ _ => rfl)))) pa_nil)) pa_nil))))))) pss_nil) (pss_cons (ps_set (i := 6) sc_atom.nd rfl (Or.inl rfl) (pe_ix ix_list (pe_lst (pa_cons pe_str (pa_cons pe_str pa_nil))) (pe_op op_mod (pe_call G_law_draw R_law_draw (by rfl) g_law_draw k_law_draw b_law_draw .nil pass0 (pa_cons (pv 0) pa_nil)) pe_int) (fun _ _ => rfl))) (pss_one (ps_ret (pe_tup (pa_cons (pv 6) (pa_cons (pe_ix ix_list (pv 1) (pe_op op_mod (pe_call G_law_draw R_law_draw (by rfl) g_law_draw k_law_draw b_law_draw .nil pass0 (pa_cons (pv 0) pa_nil)) (pe_callB call_len_seq (by rfl) T.n_len PySem.boot_len (pa_cons (pv 1) pa_nil))) (fun _ _ => rfl)) (pa_cons (pe_ix ix_list (pv 1) (pe_op op_mod (pe_call G_law_draw R_law_draw (by rfl) g_law_draw k_law_draw b_law_draw .nil pass0 (pa_cons (pv 0) pa_nil)) (pe_callB call_len_seq (by rfl) T.n_len PySem.boot_len (pa_cons (pv 1) pa_nil))) (fun _ _ => rfl)) pa_nil)))))))))), ?_⟩
    obtain ⟨b, rfl, hb⟩ := strsL dp
    obtain ⟨a, xs, rfl, ha, hx⟩ := Dp.lst_inv dn
    have p0 : 0 < pool.length := by have := po.two; omega
    -- usable
    refine ⟨_, rfl, a, rfl, ⟨_, ha⟩, fun L nL => ?_⟩
    refine lc_it (walk_list (K := K) (a := a) (xs := xs)) (fun i H2 => ∃ acc, H2 L = some (.lst acc) ∧ DpAll K H acc (((ns.take i).filter fun p : NE => decide (p.2.2 < 2)).map nD) ∧ Same H H2) ⟨[], upd_same, .nil, same_upd nL⟩ (fun i H2 _ ⟨_, _, _, s2⟩ => s2.seq ha) ?_ ?_
    · rintro i y H2 H3 hi ⟨acc, hL, hacc, s2⟩ ⟨rfl, hy⟩
      obtain ⟨dd, hd, dpy⟩ := DpAll.get' hx hy
      obtain ⟨p, hp, rfl⟩ := get_map hd
      obtain ⟨t, rfl, ht⟩ := nD_inv dpy
      refine ⟨rfl, _, rfl, t, _, _, _, rfl, rfl, Same.sqt s2 ht, atI_nat (j := 2) rfl, _, _, rfl, rfl, _, rfl, ?_⟩
      have ef := filter_snoc (p := fun p : NE => decide (p.2.2 < 2)) hp
      by_cases e : p.2.2 < 2
      · refine cT (k := decide ((p.2.2 : Int) < 2)) (decide_eq_true (by omega)) ⟨_, rfl, _, hL, ?_, ?_⟩
        · have e1 := DpAll.length hacc
          rw [List.length_map] at e1
          have e2 := List.length_filter_le (fun p : NE => decide (p.2.2 < 2)) (ns.take i)
          have e3 := List.length_take_le' i ns
          exact small1000 (by omega)
        · refine ⟨_, upd_same, ?_, fun b o eb => by rw [upd_ne (ne_of_none eb nL)]; exact s2 _ _ eb⟩
          rw [show (if decide (p.2.2 < 2) = true then [p] else []) = [p] by simp [e]] at ef
          rw [ef, List.map_append]
          exact DpAll.snoc hacc (nD_of ht)
      · refine cF (k := decide ((p.2.2 : Int) < 2)) (decide_eq_false (by omega)) ⟨acc, hL, ?_, s2⟩
        rw [show (if decide (p.2.2 < 2) = true then [p] else []) = [] by simp [e], List.append_nil] at ef
        rw [ef]
        exact hacc
    · rintro H2 ⟨acc, hL, hacc, s2⟩
      have el : xs.length = ns.length := by rw [DpAll.length hx, List.length_map]
      rw [List.take_of_length_le (show ns.length ≤ xs.length by omega)] at hacc
      have dr2 := dr.same s2
      have nd : L ≠ d ∧ L ≠ l := dr.ne nL
      refine ⟨_, rfl, d, l, rfl, dr2, fun z1 H3 _ _ dr3 k3 => ?_⟩
      refine ⟨_, _, rfl, rfl, (by show (0 : Int) < 5; decide), ?_⟩
      have hL3 := k3 _ _ hL nd.1
      have k03 : Kp d H H3 := (Kp.of s2).trans k3
      have Z : DpAll K H3 acc ((ns.filter fun p : NE => decide (p.2.2 < 2)).map nD) := DpAll.kl (.dr k03 dr) hacc (ns_noL _)
      have hb3 := SqL.kpA hb (far_strs _) dr k03
      by_cases hc : z1 % 5 < 3 ∧ 0 < acc.length
      · refine ⟨_, rfl, _, _, rfl, rfl, _, rfl, ite2 (fun e => ?_) (fun e => absurd (decide_eq_true hc.1) e)⟩
        refine ⟨_, rfl, L, _, rfl, .inl (SqL.of hL3), _, _, rfl, rfl, _, rfl, ?_⟩
        refine cT (k := decide ((0 : Int) < (acc.length : Nat))) (decide_eq_true (by omega)) ?_
        refine ⟨_, rfl, _, rfl, d, l, rfl, dr3, fun z2 H4 _ _ dr4 k4 => ?_⟩
        have hL4 := k4 _ _ hL3 nd.1
        obtain ⟨v, hv, hat⟩ := atI_mod z2 hc.2
        obtain ⟨t1, ht1, dv⟩ := DpAll.inMem Z hv
        obtain ⟨p, hp, rfl⟩ := List.mem_map.mp ht1
        obtain ⟨hp1, hp2⟩ := List.mem_filter.mp hp
        obtain ⟨t, rfl, ht⟩ := nD_inv (Dp.kl (.dr k4 dr3) dv (noL_nD p))
        refine ⟨_, rfl, L, _, rfl, .inl (SqL.of hL4), _, _, rfl, rfl, (by omega), L, _, _, _, rfl, rfl, SqL.of hL4, hat, ?_⟩
        have a3 := ok.ar p hp1
        refine ⟨_, rfl, t, _, _, _, rfl, rfl, ht, atI_nat (j := 0) rfl, ?_⟩
        refine ⟨_, rfl, t, _, _, _, rfl, rfl, ht, atI_nat (j := 1) rfl, p.2.1, rfl, by omega, by omega, fun M nM => ?_⟩
        have k04 := k03.trans k4
        have hb4 := SqL.kpA hb (far_strs _) dr k04
        obtain ⟨nMd, nMl⟩ := dr4.ne nM
        refine lc_it walk_range (fun i H5 => ∃ as : List Str, DrA H5 d l ∧ Kp d H4 H5 ∧ H5 M = some (.lst (as.map V.str)) ∧ as.length = i ∧ ∀ x, x ∈ as → x ∈ pool) ⟨[], dr4.same (same_upd nM), .of (same_upd nM), upd_same, rfl, fun x hx => nomatch hx⟩ (fun _ _ _ _ => trivial) ?_ ?_
        · rintro i y H5 H6 hi ⟨as, dr5, k5, hM, len, hs⟩ ⟨rfl, rfl⟩
          refine ⟨rfl, _, rfl, _, rfl, d, l, rfl, dr5, fun z6 H7 _ _ dr7 k7 => ?_⟩
          have hb7 := SqL.kpA hb4 (far_strs _) dr4 (k5.trans k7)
          obtain ⟨x, hx, hax⟩ := atI_str (as := pool) z6 p0
          have hM7 := k7 _ _ hM nMd
          refine ⟨_, rfl, b, _, rfl, .inl hb7, _, _, rfl, rfl, (by rw [List.length_map]; omega), b, _, _, _, rfl, rfl, hb7, hax, _, hM7, ?_, as ++ [x], dr7.kp Kp.upd ⟨nMd, nMl⟩, kp_own (k5.trans k7) nM, ?_, ?_, ?_⟩
          · rw [List.length_map]
            exact small1000 (by omega)
          · rw [upd_same, List.map_append]; rfl
          · rw [List.length_append, len]; rfl
          · intro y hy
            rcases List.mem_append.mp hy with hy | hy
            · exact hs y hy
            · rw [List.mem_singleton.mp hy]; exact hx
        · rintro H5 ⟨as, dr5, k5, hM, len, hs⟩
          refine ⟨M, _, rfl, .inl ⟨SqL.of hM, fun u nu => ?_⟩⟩
          refine ⟨(by show 3 ≤ sizeLine; decide), fun r nr => ?_⟩
          have s7 := same_upd (o := .tup (as.map V.str)) nu
          have s8 := same_upd (o := .tup [.str "rel", .str p.1, .ref u]) nr
          refine q _ _ (.mk (.rel p.1 as) []) (dr5.same (s7.trans s8)) ((k04.trans k5).trans (.of (s7.trans s8))) ?_ (.rel ok hp1 (by simpa using hp2) len (fun x hx => po.nm x (hs x hx)) hs)
          rw [Fm.data_mk]
          exact .tup (.inl (.inl upd_same)) (.cons (.str _) (.cons (.str _) (.cons (tS_of (Same.sqt s8 (.inl (.inl upd_same)))) .nil)))
      · refine swap2 (fun rest => ⟨_, rfl, _, _, rfl, rfl, _, rfl, ite2 (fun e => ⟨_, rfl, L, _, rfl, .inl (SqL.of hL3), _, _, rfl, rfl, _, rfl, cF (k := decide ((0 : Int) < (acc.length : Nat))) (decide_eq_false fun z => hc ⟨of_decide_eq_true e, by omega⟩) rest⟩) (fun e => iteF rest)⟩) ?_
        refine ⟨(by show 2 ≤ sizeLine; decide), fun c nc => ?_⟩
        have s3 := same_upd (o := .lst ((["eq", "less"] : List Str).map V.str)) nc
        have dr3' := dr3.same s3
        have nc3 := dr3.ne nc
        refine ⟨_, rfl, d, l, rfl, dr3', fun z2 H4 _ _ dr4 k4 => ?_⟩
        obtain ⟨wd, hw, hat⟩ := atI_str (as := ["eq", "less"]) z2 (by decide)
        have hc4 := k4 _ _ upd_same nc3.1
        refine ⟨_, _, rfl, rfl, (by show (0 : Int) < 2; decide), c, _, _, _, rfl, rfl, SqL.of hc4, hat, ?_⟩
        have k04 := (k03.trans (.of s3)).trans k4
        have hb4 := SqL.kpA hb (far_strs _) dr k04
        refine ⟨_, rfl, _, rfl, _, rfl, d, l, rfl, dr4, fun z5 H5 _ _ dr5 k5 => ?_⟩
        obtain ⟨x, hx, hax⟩ := atI_str (as := pool) z5 p0
        have hb5 := SqL.kpA hb4 (far_strs _) dr4 k5
        refine ⟨_, rfl, b, _, rfl, .inl hb5, _, _, rfl, rfl, (by rw [List.length_map]; omega), b, _, _, _, rfl, rfl, hb5, hax, ?_⟩
        refine ⟨_, rfl, _, rfl, d, l, rfl, dr5, fun z6 H6 _ _ dr6 k6 => ?_⟩
        obtain ⟨y, hy, hay⟩ := atI_str (as := pool) z6 p0
        have hb6 := SqL.kpA hb5 (far_strs _) dr5 k6
        refine ⟨_, rfl, b, _, rfl, .inl hb6, _, _, rfl, rfl, (by rw [List.length_map]; omega), b, _, _, _, rfl, rfl, hb6, hay, ?_⟩
        refine ⟨(by show 3 ≤ sizeLine; decide), fun r nr => ?_⟩
        have s8 := same_upd (o := .tup [.str wd, .str x, .str y]) nr
        have k06 := (k04.trans k5).trans k6
        rcases List.mem_cons.mp hw with rfl | hw
        · refine q _ _ (.mk (.eq x y) []) (dr6.same s8) (k06.trans (.of s8)) ?_ (.cmp (.inl ⟨x, y, rfl, ⟨po.nm x hx, hx⟩, po.nm y hy, hy⟩))
          rw [Fm.data_mk]
          exact .tup (.inl (.inl upd_same)) (.cons (.str _) (.cons (.str _) (.cons (.str _) .nil)))
        · rw [List.mem_singleton.mp hw] at s8 ⊢
          refine q _ _ (.mk (.less x y) []) (dr6.same s8) (k06.trans (.of s8)) ?_ (.cmp (.inr ⟨x, y, rfl, ⟨po.nm x hx, hx⟩, po.nm y hy, hy⟩))
          rw [Fm.data_mk]
          exact .tup (.inl (.inl upd_same)) (.cons (.str _) (.cons (.str _) (.cons (.str _) .nil)))
end
/-! ### the law's formulas are made -/
def kindsL : List Str := ["some", "all", "lfp", "pfp", "tc", "guess"]
/-- the list of kinds: some of the six -/
def Dk (K : PySem.W.Frag) (H : Hp) (v : V) : Prop := ∃ kl : List Str, 0 < kl.length ∧ (∀ x, x ∈ kl → x ∈ kindsL) ∧ Dp K H v (.list (kl.map PyData.str))
theorem Dk.kpA {K : PySem.W.Frag} {H H' : Hp} {d l : Addr} {v : V} (h : Dk K H v) (r : DrA H d l) (k : Kp d H H') : Dk K H' v := by
  obtain ⟨kl, a, b, c⟩ := h
  exact ⟨kl, a, b, Dp.kpA c r (good_strl _) k⟩
structure GA (K : PySem.W.Frag) (H : Hp) (d l : Addr) (vp vn vk : V) (pool : List Str) (ns : List NE) (Γ : ArE) (n : Nat) : Prop where
  dr : DrA H d l
  dp : Dp K H vp (.list (pool.map PyData.str))
  dn : Dp K H vn (nsD ns)
  dk : Dk K H vk
  ok : NOk ns Γ
  po : Pool pool
  few : ns.length + n ≤ 60
theorem GA.kp {K : PySem.W.Frag} {H H' : Hp} {d l : Addr} {vp vn vk : V} {pool : List Str} {ns : List NE} {Γ : ArE} {n : Nat} (g : GA K H d l vp vn vk pool ns Γ n) (k : Kp d H H') (dr : DrA H' d l) : GA K H' d l vp vn vk pool ns Γ n :=
  ⟨dr, Dp.kpA g.dp g.dr (good_strl _) k, Dp.kpA g.dn g.dr (good_nsD _) k, g.dk.kpA g.dr k, g.ok, g.po, g.few⟩
theorem GA.same {K : PySem.W.Frag} {H H' : Hp} {d l : Addr} {vp vn vk : V} {pool : List Str} {ns : List NE} {Γ : ArE} {n : Nat} (g : GA K H d l vp vn vk pool ns Γ n) (k : Same H H') : GA K H' d l vp vn vk pool ns Γ n := g.kp (.of k) (g.dr.same k)
theorem strsR {K : PySem.W.Frag} {H : Hp} {a : Addr} {as : List Str} (h : Dp K H (.ref a) (.list (as.map PyData.str))) : SqL K H a (as.map V.str) := by
  obtain ⟨b, e, h⟩ := strsL h
  cases e
  exact h
def spForm (K : PySem.W.Frag) (n : Nat) : Sp := fun vs H Q _ => ∃ (d l : Addr) (k : Int) (vp vn vk : V) (pool : List Str) (ns : List NE) (Γ : ArE) (m : Nat), vs = [.ref d, .int k, vp, vn, vk] ∧ k = (m : Nat) ∧ (1 ≤ m ∧ m ≤ n) ∧ GA K H d l vp vn vk pool ns Γ m ∧
  ∀ (H' : Hp) (r : V) (f : Fm), DrA H' d l → Kp d H H' → Dp K H' r f.data → Gen pool ns Γ f m → Q r H'
def spBound (K : PySem.W.Frag) (n : Nat) : Sp := fun vs H Q _ => ∃ (d l : Addr) (k : Int) (vp vn vk : V) (pool : List Str) (ns : List NE) (Γ : ArE) (m : Nat), vs = [.ref d, .int k, vp, vn, vk] ∧ k = (m : Nat) ∧ (2 ≤ m ∧ m ≤ n) ∧ GA K H d l vp vn vk pool ns Γ m ∧
  ∀ (H' : Hp) (r : V) (f : Fm), DrA H' d l → Kp d H H' → Dp K H' r f.data → Gen pool ns Γ f m → Q r H'
theorem within_len (ns : List NE) (p : NE) : (within ns p).length ≤ ns.length + 1 := by
  unfold within
  rw [List.length_append]
  have := List.length_filter_le (fun q : NE => !decide (q.1 = p.1)) ns
  show _ + 1 ≤ _
  omega
theorem barred_len (ns : List NE) : (barred ns).length = ns.length := List.length_map ..
theorem turned_len (ns : List NE) : (turned ns).length = ns.length := List.length_map ..
def nmB (z : Str) : Bool := decide (1 ≤ z.length) && decide (z.length ≤ 12) && (z.cps.toList[0]?).all (fun c => decide (c ∈ lets.cps.toList)) && !inV (.str z) resv && z.cps.toList.all (fun c => decide (c ∈ both.cps.toList))
theorem nm_of {z : Str} (h : nmB z = true) : Nm z := by
  unfold nmB at h
  simp only [Bool.and_eq_true, decide_eq_true_eq, Bool.not_eq_true', List.all_eq_true] at h
  obtain ⟨⟨⟨⟨h1, h2⟩, h3⟩, h4⟩, h5⟩ := h
  refine ⟨h1, h2, fun c hc => ?_, h4, h5⟩
  rw [hc] at h3
  simpa using h3
section
variable {P : Program} {w : World} {K : PySem.W.Frag} {mg : Str → Option Value} {base : Heap}
theorem sc_bound : FnScope ["draws", "deep", "pool", "names", "kinds", "pick", "args", "given", "name", "inner_v", "arity", "x"] ["draws", "deep", "pool", "names", "kinds"] (defScope (top 66)) := ⟨rfl, rfl, rfl, by decide +kernel, rfl, by decide +kernel, by decide +kernel⟩
theorem has_bound {n : Nat} (D : Def K mg "_law_bound" ["draws", "deep", "pool", "names", "kinds"] (top 66)) (T : Txt mg) (C1 : Has P w K mg base 2 "_law_draw" ["draws"] spDraw) (C2 : Has P w K mg base 3 "_law_some_of" ["draws", "pool", "many"] (spSomeOf K))
    (C3 : Has P w K mg base 1 "_law_within" ["names", "name", "arity", "mode"] (spWithin K)) (C4 : Has P w K mg base 1 "_law_barred" ["names"] (spMode K barred)) (C5 : Has P w K mg base (4 + 2 * n) "_law_formula" ["draws", "deep", "pool", "names", "kinds"] (spForm K n)) :
    Has P w K mg base (4 + 2 * n + 1) "_law_bound" ["draws", "deep", "pool", "names", "kinds"] (spBound K (n + 1)) := D.has fun f fd F => by
  obtain ⟨f1, fd1, G_law_draw, g_law_draw, k_law_draw, b_law_draw⟩ := C1
  obtain ⟨f2, fd2, G_law_some_of, g_law_some_of, k_law_some_of, b_law_some_of⟩ := C2
  obtain ⟨f3, fd3, G_law_within, g_law_within, k_law_within, b_law_within⟩ := C3
  obtain ⟨f4, fd4, G_law_barred, g_law_barred, k_law_barred, b_law_barred⟩ := C4
  obtain ⟨f5, fd5, G_law_formula, g_law_formula, k_law_formula, b_law_formula⟩ := C5
  refine F.ok sc_bound (fun vs H Q E h => ?_) (fun cdv A outer s H vs Q E hr h => ?_)
  · obtain ⟨d, l, k, vp, vn, vk, pool, ns, Γ, m, rfl, _⟩ := h; rfl
  · obtain ⟨d, l, k, vp, vn, vk, pool, ns, Γ, m0, rfl, hk, h2, ga, q⟩ := h
    obtain ⟨m, rfl⟩ : ∃ m, m0 = m + 1 := ⟨m0 - 1, by omega⟩
    have R_law_draw : Room 2 _ := hr.mono (Nat.le_trans (by decide) (Nat.le_add_right 4 (2 * n)))
    have R_law_some_of : Room 3 _ := hr.mono (Nat.le_trans (by decide) (Nat.le_add_right 4 (2 * n)))
    have R_law_within : Room 1 _ := hr.mono (Nat.le_trans (by decide) (Nat.le_add_right 4 (2 * n)))
    have R_law_barred : Room 1 _ := hr.mono (Nat.le_trans (by decide) (Nat.le_add_right 4 (2 * n)))
    have R_law_formula : Room (4 + 2 * n) _ := hr
    refine ⟨_, PSs.nox (pss_cons (ps_set (i := 5) sc_bound.nd rfl (Or.inl rfl) (pe_ix ix_list (pv 4) (pe_op op_mod (pe_call G_law_draw R_law_draw (by rfl) g_law_draw k_law_draw b_law_draw .nil pass0 (pa_cons (pv 0) pa_nil)) (pe_callB call_len_seq (by rfl) T.n_len PySem.boot_len (pa_cons (pv 4) pa_nil))) (fun _ _ => rfl))) (pss_cons (ps_if (PW.pt (pw_and (pt_cmpR op_eq (pe_callB call_len_seq (by rfl) T.n_len PySem.boot_len (pa_cons (pv 2) pa_nil)) pe_int (nomark _)) (pw_and1 (pt_cmpR op_eq (pv 5) pe_str (nomark _))))) pss_never pss_nil) (pss_cons (ps_set (i := 6) sc_bound.nd rfl (Or.inl rfl) (pe_call G_law_some_of R_law_some_of (by rfl) g_law_some_of k_law_some_of b_law_some_of .nil pass0 (pa_cons (pv 0) (pa_cons (pv 2) (pa_cons (pe_callB (call_min2 rfl) (by rfl) T.n_min (by decide +kernel) (pa_cons (pe_callB call_len_seq (by rfl) T.n_len PySem.boot_len (pa_cons (pv 2) pa_nil)) (pa_cons (pe_ix ix_list (pe_lst (pa_cons pe_int (pa_cons pe_int (pa_cons pe_int (pa_cons pe_int (pa_cons pe_int (pa_cons pe_int pa_nil))))))) (pe_op op_mod (pe_call G_law_draw R_law_draw (by rfl) g_law_draw k_law_draw b_law_draw .nil pass0 (pa_cons (pv 0) pa_nil)) pe_int) (fun _ _ => rfl)) pa_nil))) pa_nil))))) (pss_cons (ps_set (i := 7) sc_bound.nd rfl (Or.inl rfl) (pe_callTy call_tuple_of (by rfl) T.n_tuple (by decide +kernel) (pa_cons (pe_lc (own := [("x", 11)]) rfl sc_bound.nd (pi_list (pv 6)) (blkOk_by (N := ["draws", "deep", "pool", "names", "kinds", "pick", "args", "given", "name", "inner_v", "arity", "x"]) (sc := defScope (top 66)) (by decide +kernel)) (fun _ _ _ _ _ => (pg_name (i := 11) sc_bound.nd rfl (Or.inl rfl))) (fun _ _ _ _ _ => pts_nil) (fun _ _ _ _ _ => (pe_ix (ix_listK (K := K) rfl) (pv 2) (pe_op op_mod (pe_call G_law_draw R_law_draw (by rfl) g_law_draw k_law_draw b_law_draw .nil pass0 (pa_cons (pv 0) pa_nil)) (pe_callB (call_len_seqK (K := K) rfl) (by rfl) T.n_len PySem.boot_len (pa_cons (pv 2) pa_nil))) (fun _ _ => rfl)))) pa_nil))) (pss_cons (ps_set (i := 8) sc_bound.nd rfl (Or.inl rfl) (pe_ix ix_list (pe_lst (pa_cons pe_str (pa_cons pe_str (pa_cons pe_str pa_nil)))) (pe_op op_mod (pe_call G_law_draw R_law_draw (by rfl) g_law_draw k_law_draw b_law_draw .nil pass0 (pa_cons (pv 0) pa_nil)) pe_int) (fun _ _ => rfl))) (pss_cons (ps_if (PW.pt (pw_or (pt_cmpR op_eq (pv 5) pe_str (nomark _)) (pw_or1 (pt_cmpR op_eq (pv 5) pe_str (nomark _))))) (pss_one (ps_ret (pe_tup (pa_cons (pv 5) (pa_cons (pe_callTy call_tuple_of (by rfl) T.n_tuple (by decide +kernel) (pa_cons (pv 6) pa_nil)) (pa_cons (pe_call G_law_formula R_law_formula (by rfl) g_law_formula k_law_formula b_law_formula .nil pass0 (pa_cons (pv 0) (pa_cons (pe_op op_sub (pv 1) pe_int) (pa_cons (pv 2) (pa_cons (pv 3) (pa_cons (pv 4) pa_nil)))))) pa_nil)))))) pss_nil) (pss_cons (ps_if (pt_cmpR op_eq (pv 5) pe_str (nomark _)) (pss_cons (ps_set (i := 9) sc_bound.nd rfl (Or.inl rfl) (pe_call G_law_within R_law_within (by rfl) g_law_within k_law_within b_law_within .nil pass0 (pa_cons (pv 3) (pa_cons (pv 8) (pa_cons (pe_callB call_len_seq (by rfl) T.n_len PySem.boot_len (pa_cons (pv 6) pa_nil)) (pa_cons pe_int pa_nil)))))) (pss_one (ps_ret (pe_tup (pa_cons pe_str (pa_cons (pv 8) (pa_cons (pe_callTy call_tuple_of (by rfl) T.n_tuple (by decide +kernel) (pa_cons (pv 6) pa_nil)) (pa_cons (pe_call G_law_formula R_law_formula (by rfl) g_law_formula k_law_formula b_law_formula .nil pass0 (pa_cons (pv 0) (pa_cons (pe_op op_sub (pv 1) pe_int) (pa_cons (pv 2) (pa_cons (pv 9) (pa_cons (pv 4) pa_nil)))))) (pa_cons (pv 7) pa_nil))))))))) pss_nil) (pss_cons (ps_if (pt_cmpR op_eq (pv 5) pe_str (nomark _)) (pss_cons (ps_set (i := 9) sc_bound.nd rfl (Or.inl rfl) (pe_call G_law_within R_law_within (by rfl) g_law_within k_law_within b_law_within .nil pass0 (pa_cons (pe_call G_law_barred R_law_barred (by rfl) g_law_barred k_law_barred b_law_barred .nil pass0 (pa_cons (pv 3) pa_nil)) (pa_cons (pv 8) (pa_cons (pe_callB call_len_seq (by rfl) T.n_len PySem.boot_len (pa_cons (pv 6) pa_nil)) (pa_cons pe_int pa_nil)))))) (pss_one (ps_ret (pe_tup (pa_cons pe_str (pa_cons (pv 8) (pa_cons (pe_callTy call_tuple_of (by rfl) T.n_tuple (by decide +kernel) (pa_cons (pv 6) pa_nil)) (pa_cons (pe_call G_law_formula R_law_formula (by rfl) g_law_formula k_law_formula b_law_formula .nil pass0 (pa_cons (pv 0) (pa_cons (pe_op op_sub (pv 1) pe_int) (pa_cons (pv 2) (pa_cons (pv 9) (pa_cons (pv 4) pa_nil)))))) (pa_cons (pv 7) pa_nil))))))))) pss_nil) (pss_cons (ps_if (pt_cmpR op_eq (pv 5) pe_str (nomark _)) (pss_cons (ps_set (i := 6) sc_bound.nd rfl (Or.inl rfl) (pe_call G_law_some_of R_law_some_of (by rfl) g_law_some_of k_law_some_of b_law_some_of .nil pass0 (pa_cons (pv 0) (pa_cons (pv 2) (pa_cons pe_int pa_nil))))) (pss_cons (ps_set (i := 7) sc_bound.nd rfl (Or.inl rfl) (pe_tup (pa_cons (pe_ix ix_list (pv 2) (pe_op op_mod (pe_call G_law_draw R_law_draw (by rfl) g_law_draw k_law_draw b_law_draw .nil pass0 (pa_cons (pv 0) pa_nil)) (pe_callB call_len_seq (by rfl) T.n_len PySem.boot_len (pa_cons (pv 2) pa_nil))) (fun _ _ => rfl)) (pa_cons (pe_ix ix_list (pv 2) (pe_op op_mod (pe_call G_law_draw R_law_draw (by rfl) g_law_draw k_law_draw b_law_draw .nil pass0 (pa_cons (pv 0) pa_nil)) (pe_callB call_len_seq (by rfl) T.n_len PySem.boot_len (pa_cons (pv 2) pa_nil))) (fun _ _ => rfl)) pa_nil)))) (pss_one (ps_ret (pe_tup (pa_cons pe_str (pa_cons (pe_callTy call_tuple_of (by rfl) T.n_tuple (by decide +kernel) (pa_cons (pv 6) pa_nil)) (pa_cons (pe_call G_law_formula R_law_formula (by rfl) g_law_formula k_law_formula b_law_formula .nil pass0 (pa_cons (pv 0) (pa_cons (pe_op op_sub (pv 1) pe_int) (pa_cons (pv 2) (pa_cons (pv 3) (pa_cons (pv 4) pa_nil)))))) (pa_cons (pv 7) pa_nil))))))))) pss_nil) (pss_cons (ps_set (i := 10) sc_bound.nd rfl (Or.inl rfl) (pe_op op_mod (pe_call G_law_draw R_law_draw (by rfl) g_law_draw k_law_draw b_law_draw .nil pass0 (pa_cons (pv 0) pa_nil)) pe_int)) (pss_cons (ps_set (i := 9) sc_bound.nd rfl (Or.inl rfl) (pe_call G_law_within R_law_within (by rfl) g_law_within k_law_within b_law_within .nil pass0 (pa_cons (pv 3) (pa_cons (pv 8) (pa_cons (pv 10) (pa_cons pe_int pa_nil)))))) (pss_one (ps_ret (pe_tup (pa_cons pe_str (pa_cons (pv 8) (pa_cons (pv 10) (pa_cons (pe_call G_law_formula R_law_formula (by rfl) g_law_formula k_law_formula b_law_formula .nil pass0 (pa_cons (pv 0) (pa_cons (pe_op op_sub (pv 1) pe_int) (pa_cons (pv 2) (pa_cons (pv 9) (pa_cons (pv 4) pa_nil)))))) pa_nil)))))))))))))))))), ?_⟩
    obtain ⟨bp, rfl, _⟩ := strsL ga.dp
    obtain ⟨kl, kl0, klS, dk0⟩ := ga.dk
    obtain ⟨bk, rfl, hbk⟩ := strsL dk0
    have p2 := ga.po.two
    have p20 := ga.po.few
    have lp : (pool.map V.str).length = pool.length := List.length_map ..
    -- pick
    refine ⟨_, rfl, _, rfl, d, l, rfl, ga.dr, fun z1 H1 _ _ dr1 k1 => ?_⟩
    have ga1 := ga.kp k1 dr1
    obtain ⟨pick, hpick0, hat⟩ := atI_str (as := kl) z1 kl0
    have hpick := klS pick hpick0
    have hbk1 := SqL.kpA hbk (far_strs _) ga.dr k1
    refine ⟨_, rfl, bk, _, rfl, .inl hbk1, _, _, rfl, rfl, (by rw [List.length_map]; omega), bk, _, _, _, rfl, rfl, hbk1, hat, ?_⟩
    refine ⟨_, rfl, bp, _, rfl, .inl (strsR ga1.dp), rfl, _, rfl, ?_⟩
    refine cF (k := decide (V.int ((pool.map V.str).length : Nat) = V.int 1)) (decide_eq_false fun z => by have := V.int.inj z; omega) (iteF ?_)
    -- args
    refine ⟨_, rfl, _, rfl, _, rfl, bp, _, rfl, .inl (strsR ga1.dp), ?_⟩
    refine ⟨(by show 6 ≤ sizeLine; decide), fun c nc => ?_⟩
    have ga2 := ga1.same (same_upd (o := .lst [.int 1, .int 1, .int 1, .int 2, .int 2, .int 3]) nc)
    have ncd := (dr1.ne nc).1
    refine ⟨_, rfl, d, l, rfl, ga2.dr, fun z2 H2 _ _ dr2 k2 => ?_⟩
    have ga3 := ga2.kp k2 dr2
    have kk3 : Kp d H H2 := (k1.trans (.of (same_upd nc))).trans k2
    obtain ⟨v6, hv6, hat6⟩ := atI_mod (xs := [.int 1, .int 1, .int 1, .int 2, .int 2, .int 3]) z2 (by decide)
    obtain ⟨j, rfl, j1, j3⟩ : ∃ j : Nat, v6 = .int (j : Int) ∧ 1 ≤ j ∧ j ≤ 3 := by
      simp only [List.mem_cons, List.not_mem_nil, or_false] at hv6
      rcases hv6 with rfl | rfl | rfl | rfl | rfl | rfl
      · exact ⟨1, rfl, by decide, by decide⟩
      · exact ⟨1, rfl, by decide, by decide⟩
      · exact ⟨1, rfl, by decide, by decide⟩
      · exact ⟨2, rfl, by decide, by decide⟩
      · exact ⟨2, rfl, by decide, by decide⟩
      · exact ⟨3, rfl, by decide, by decide⟩
    refine ⟨_, _, rfl, rfl, (by show (0 : Int) < 6; decide), c, _, _, _, rfl, rfl, SqL.of (k2 _ _ upd_same ncd), hat6, ?_⟩
    have em : (if (j : Int) < ((pool.map V.str).length : Int) then (j : Int) else ((pool.map V.str).length : Int)) = ((min j pool.length : Nat) : Int) := by
      rw [lp]
      split <;> omega
    refine ⟨_, _, rfl, ?_⟩
    refine ⟨d, l, .ref bp, pool, min j pool.length, by rw [em]; rfl, dr2, Dp.wod dr2 ga3.dp (good_strl _), Nat.min_le_right _ _, p20, fun H3 ra ch dr3 k3 dch lch sub nd => ?_⟩
    have ga4 := ga3.kp k3 dr3
    have kk4 := kk3.trans k3
    have hra : SqL K H3 ra (ch.map V.str) := strsR (Dp.same wo_sub dch)
    have own : OwnOk ch := ⟨by omega, by omega, fun x hx => ga.po.nm x (sub x hx), nd ga.po.nd⟩
    have lc : (ch.map V.str).length = ch.length := List.length_map ..
    -- given
    refine ⟨_, rfl, ra, rfl, ⟨_, hra⟩, fun M nM => ?_⟩
    obtain ⟨nMd, nMl⟩ := dr3.ne nM
    refine lc_it (walk_list (K := K) (a := ra) (xs := ch.map V.str)) (fun i H5 => ∃ as : List Str, DrA H5 d l ∧ Kp d H3 H5 ∧ H5 M = some (.lst (as.map V.str)) ∧ as.length = i ∧ ∀ x, x ∈ as → x ∈ pool) ⟨[], dr3.same (same_upd nM), .of (same_upd nM), upd_same, rfl, fun x hx => nomatch hx⟩ (fun i H5 _ ⟨_, _, k5, _⟩ => SqL.kpA hra (far_strs _) dr3 k5) ?_ ?_
    · rintro i y H5 H6 hi ⟨as, dr5, k5, hM, len, hs⟩ ⟨rfl, _⟩
      refine ⟨rfl, _, rfl, _, rfl, d, l, rfl, dr5, fun z6 H7 _ _ dr7 k7 => ?_⟩
      have ga7 := ga4.kp (k5.trans k7) dr7
      obtain ⟨x, hx, hax⟩ := atI_str (as := pool) z6 (by omega)
      have hM7 := k7 _ _ hM nMd
      refine ⟨_, rfl, bp, _, rfl, .inl (strsR ga7.dp), _, _, rfl, rfl, (by omega), bp, _, _, _, rfl, rfl, strsR ga7.dp, hax, _, hM7, ?_, as ++ [x], dr7.kp Kp.upd ⟨nMd, nMl⟩, kp_own (k5.trans k7) nM, ?_, ?_, ?_⟩
      · rw [List.length_map]
        exact small1000 (by omega)
      · rw [upd_same, List.map_append]; rfl
      · rw [List.length_append, len]; rfl
      · intro y hy
        rcases List.mem_append.mp hy with hy | hy
        · exact hs y hy
        · rw [List.mem_singleton.mp hy]; exact hx
    · rintro H5 ⟨as, dr5, k5, hM, len, hva⟩
      have nas : Names as := fun x hx => ga.po.nm x (hva x hx)
      rw [lc] at len
      refine ⟨M, _, rfl, .inl ⟨SqL.of hM, fun u nu => ?_⟩⟩
      have su := same_upd (o := .tup (as.map V.str)) nu
      -- name
      refine ⟨(by show 3 ≤ sizeLine; decide), fun c2 nc2 => ?_⟩
      have sc2 := same_upd (o := .lst ((["r", "s", "e"] : List Str).map V.str)) nc2
      have dr6 := (dr5.same su).same sc2
      have nc2d := ((dr5.same su).ne nc2).1
      refine ⟨_, rfl, d, l, rfl, dr6, fun z3 H7 _ _ dr7 k7 => ?_⟩
      obtain ⟨nm, hnm, hatn⟩ := atI_str (as := ["r", "s", "e"]) z3 (by decide)
      have nmN : Nm nm := by
        simp only [List.mem_cons, List.not_mem_nil, or_false] at hnm
        rcases hnm with rfl | rfl | rfl <;> exact nm_of (by decide +kernel)
      have nm5 : nm ∈ five := by
        simp only [List.mem_cons, List.not_mem_nil, or_false] at hnm
        rcases hnm with rfl | rfl | rfl <;> decide +kernel
      refine ⟨_, _, rfl, rfl, (by show (0 : Int) < 3; decide), c2, _, _, _, rfl, rfl, SqL.of (k7 _ _ upd_same nc2d), hatn, ?_⟩
      have k37 : Kp d H3 H7 := ((k5.trans (.of su)).trans (.of sc2)).trans k7
      have kk7 := kk4.trans k37
      have ga7 := ga4.kp k37 dr7
      have hra7 : SqL K H7 ra (ch.map V.str) := SqL.kpA hra (far_strs _) dr3 k37
      have hu7 : SqT K H7 u (as.map V.str) := SqT.kl (.dr k7 dr6) (Same.sqt sc2 (.inl (.inl upd_same)))
      clear hatn hat6 hat hra hM
      have n1 : 1 ≤ m ∧ m ≤ n := by omega
      have f60 := ga.few
      simp only [kindsL, List.mem_cons, List.not_mem_nil, or_false] at hpick
      rcases hpick with rfl | rfl | rfl | rfl | rfl | rfl
      · refine ⟨_, rfl, rfl, _, rfl, cT (k := decide (V.str "some" = V.str "some")) (by decide +kernel) (iteT ?_)⟩
        refine ⟨_, rfl, _, rfl, ra, _, rfl, .inl ⟨hra7, fun u2 nu2 => ?_⟩⟩
        have su2 := same_upd (o := .tup (ch.map V.str)) nu2
        have ga8 := ga7.same su2
        refine ⟨_, rfl, _, rfl, _, _, rfl, rfl, _, rfl, _, rfl, _, rfl, d, l, _, .ref bp, vn, .ref bk, pool, ns, Γ, m, rfl, by omega, n1, ⟨ga8.dr, ga8.dp, ga8.dn, ga8.dk, ga8.ok, ga8.po, by omega⟩, fun H8 rf g dr8 k8 dg hg => ?_⟩
        refine ⟨(by show 3 ≤ sizeLine; decide), fun rr nr => ?_⟩
        have s8 := same_upd (o := .tup [.str "some", .ref u2, rf]) nr
        refine q _ _ (.mk (.ex ch) [g]) (dr8.same s8) (((kk7.trans (.of su2)).trans k8).trans (.of s8)) ?_ (.quant (.inl rfl) own sub hg)
        rw [Fm.data_mk]
        exact .tup (.inl (.inl upd_same)) (.cons (.str _) (.cons (tS_of (Same.sqt s8 (SqT.kl (.dr k8 ga8.dr) (.inl (.inl upd_same))))) (.cons (Dp.same s8 dg) .nil)))
      · refine ⟨_, rfl, rfl, _, rfl, cF (k := decide (V.str "all" = V.str "some")) (by decide +kernel) ⟨_, rfl, rfl, _, rfl, cT (k := decide (V.str "all" = V.str "all")) (by decide +kernel) ?_⟩⟩
        refine ⟨_, rfl, _, rfl, ra, _, rfl, .inl ⟨hra7, fun u2 nu2 => ?_⟩⟩
        have su2 := same_upd (o := .tup (ch.map V.str)) nu2
        have ga8 := ga7.same su2
        refine ⟨_, rfl, _, rfl, _, _, rfl, rfl, _, rfl, _, rfl, _, rfl, d, l, _, .ref bp, vn, .ref bk, pool, ns, Γ, m, rfl, by omega, n1, ⟨ga8.dr, ga8.dp, ga8.dn, ga8.dk, ga8.ok, ga8.po, by omega⟩, fun H8 rf g dr8 k8 dg hg => ?_⟩
        refine ⟨(by show 3 ≤ sizeLine; decide), fun rr nr => ?_⟩
        have s8 := same_upd (o := .tup [.str "all", .ref u2, rf]) nr
        refine q _ _ (.mk (.al ch) [g]) (dr8.same s8) (((kk7.trans (.of su2)).trans k8).trans (.of s8)) ?_ (.quant (.inr rfl) own sub hg)
        rw [Fm.data_mk]
        exact .tup (.inl (.inl upd_same)) (.cons (.str _) (.cons (tS_of (Same.sqt s8 (SqT.kl (.dr k8 ga8.dr) (.inl (.inl upd_same))))) (.cons (Dp.same s8 dg) .nil)))
      · refine ⟨_, rfl, rfl, _, rfl, cF (k := decide (V.str "lfp" = V.str "some")) (by decide +kernel) ⟨_, rfl, rfl, _, rfl, cF (k := decide (V.str "lfp" = V.str "all")) (by decide +kernel) ?_⟩⟩
        refine ⟨_, rfl, rfl, _, rfl, cT (k := decide (V.str "lfp" = V.str "lfp")) (by decide +kernel) ?_⟩
        refine ⟨_, rfl, _, rfl, _, rfl, ra, _, rfl, .inl hra7, ?_⟩
        refine ⟨vn, nm, (ch.map V.str).length, 1, ns, rfl, ga7.dn, by omega, fun H8 ri s8 di => ?_⟩
        rw [lc] at di
        have ga8 := ga7.same s8
        have wl := within_len ns (nm, ch.length, 1)
        refine ⟨_, rfl, _, rfl, ra, _, rfl, .inl ⟨s8.seq hra7, fun u2 nu2 => ?_⟩⟩
        have su2 := same_upd (o := .tup (ch.map V.str)) nu2
        have ga9 := ga8.same su2
        refine ⟨_, rfl, _, rfl, _, _, rfl, rfl, _, rfl, _, rfl, _, rfl, d, l, _, .ref bp, ri, .ref bk, pool, within ns (nm, ch.length, 1), Hd.env (.lfp nm ch as) Γ, m, rfl, by omega, n1, ⟨ga9.dr, ga9.dp, Dp.same su2 di, ga9.dk, ga9.ok.within nmN nm5 (by show ch.length ≤ 3; omega) (by show 1 ≤ 3; decide) (fun x => rfl), ga9.po, by omega⟩, fun H9 rf g dr9 k9 dg hg => ?_⟩
        refine ⟨_, rfl, (by show 5 ≤ sizeLine; decide), fun rr nr => ?_⟩
        have s9 := same_upd (o := .tup [.str "lfp", .str nm, .ref u2, rf, .ref u]) nr
        refine q _ _ (.mk (.lfp nm ch as) [g]) (dr9.same s9) ((((kk7.trans (.of s8)).trans (.of su2)).trans k9).trans (.of s9)) ?_ (.lfp nmN own len nas sub hva hg)
        rw [Fm.data_mk]
        exact .tup (.inl (.inl upd_same)) (.cons (.str _) (.cons (.str _) (.cons (tS_of (Same.sqt s9 (SqT.kl (.dr k9 ga9.dr) (.inl (.inl upd_same))))) (.cons (Dp.same s9 dg) (.cons (tS_of (Same.sqt s9 (SqT.kl (.dr k9 ga9.dr) (Same.sqt su2 (Same.sqt s8 hu7))))) .nil)))))
      · refine ⟨_, rfl, rfl, _, rfl, cF (k := decide (V.str "pfp" = V.str "some")) (by decide +kernel) ⟨_, rfl, rfl, _, rfl, cF (k := decide (V.str "pfp" = V.str "all")) (by decide +kernel) ?_⟩⟩
        refine ⟨_, rfl, rfl, _, rfl, cF (k := decide (V.str "pfp" = V.str "lfp")) (by decide +kernel) ?_⟩
        refine ⟨_, rfl, rfl, _, rfl, cT (k := decide (V.str "pfp" = V.str "pfp")) (by decide +kernel) ?_⟩
        refine ⟨_, rfl, vn, ns, rfl, ga7.dn, by omega, ga7.ok.md, fun H7b rb s7b db => ?_⟩
        refine ⟨_, rfl, _, rfl, ra, _, rfl, .inl (s7b.seq hra7), ?_⟩
        have bl := barred_len ns
        refine ⟨rb, nm, (ch.map V.str).length, 0, barred ns, rfl, db, by omega, fun H8 ri s8b di => ?_⟩
        have s8 := s7b.trans s8b
        rw [lc] at di
        have ga8 := ga7.same s8
        have wl := within_len (barred ns) (nm, ch.length, 0)
        refine ⟨_, rfl, _, rfl, ra, _, rfl, .inl ⟨s8.seq hra7, fun u2 nu2 => ?_⟩⟩
        have su2 := same_upd (o := .tup (ch.map V.str)) nu2
        have ga9 := ga8.same su2
        refine ⟨_, rfl, _, rfl, _, _, rfl, rfl, _, rfl, _, rfl, _, rfl, d, l, _, .ref bp, ri, .ref bk, pool, within (barred ns) (nm, ch.length, 0), Hd.env (.pfp nm ch as) Γ, m, rfl, by omega, n1, ⟨ga9.dr, ga9.dp, Dp.same su2 di, ga9.dk, ga9.ok.barred.within nmN nm5 (by show ch.length ≤ 3; omega) (by show 0 ≤ 3; decide) (fun x => rfl), ga9.po, by omega⟩, fun H9 rf g dr9 k9 dg hg => ?_⟩
        refine ⟨_, rfl, (by show 5 ≤ sizeLine; decide), fun rr nr => ?_⟩
        have s9 := same_upd (o := .tup [.str "pfp", .str nm, .ref u2, rf, .ref u]) nr
        refine q _ _ (.mk (.pfp nm ch as) [g]) (dr9.same s9) ((((kk7.trans (.of s8)).trans (.of su2)).trans k9).trans (.of s9)) ?_ (.pfp nmN own len nas sub hva hg)
        rw [Fm.data_mk]
        exact .tup (.inl (.inl upd_same)) (.cons (.str _) (.cons (.str _) (.cons (tS_of (Same.sqt s9 (SqT.kl (.dr k9 ga9.dr) (.inl (.inl upd_same))))) (.cons (Dp.same s9 dg) (.cons (tS_of (Same.sqt s9 (SqT.kl (.dr k9 ga9.dr) (Same.sqt su2 (Same.sqt s8 hu7))))) .nil)))))
      · refine ⟨_, rfl, rfl, _, rfl, cF (k := decide (V.str "tc" = V.str "some")) (by decide +kernel) ⟨_, rfl, rfl, _, rfl, cF (k := decide (V.str "tc" = V.str "all")) (by decide +kernel) ?_⟩⟩
        refine ⟨_, rfl, rfl, _, rfl, cF (k := decide (V.str "tc" = V.str "lfp")) (by decide +kernel) ?_⟩
        refine ⟨_, rfl, rfl, _, rfl, cF (k := decide (V.str "tc" = V.str "pfp")) (by decide +kernel) ?_⟩
        refine ⟨_, rfl, rfl, _, rfl, cT (k := decide (V.str "tc" = V.str "tc")) (by decide +kernel) ?_⟩
        refine ⟨_, rfl, _, rfl, d, l, .ref bp, pool, 2, rfl, ga7.dr, Dp.wod ga7.dr ga7.dp (good_strl _), p2, p20, fun H8 ra2 ch2 dr8 k8 dch2 lch2 sub2 nd2 => ?_⟩
        have ga8 := ga7.kp k8 dr8
        have hra8 : SqL K H8 ra2 (ch2.map V.str) := strsR (Dp.same wo_sub dch2)
        refine ⟨_, rfl, _, rfl, d, l, rfl, dr8, fun z5 H9 _ _ dr9 k9 => ?_⟩
        have ga9 := ga8.kp k9 dr9
        obtain ⟨x, hx, hax⟩ := atI_str (as := pool) z5 (by omega)
        refine ⟨_, rfl, bp, _, rfl, .inl (strsR ga9.dp), _, _, rfl, rfl, (by omega), bp, _, _, _, rfl, rfl, strsR ga9.dp, hax, ?_⟩
        refine ⟨_, rfl, _, rfl, d, l, rfl, dr9, fun z6 H10 _ _ dr10 k10 => ?_⟩
        have ga10 := ga9.kp k10 dr10
        obtain ⟨y, hy, hay⟩ := atI_str (as := pool) z6 (by omega)
        refine ⟨_, rfl, bp, _, rfl, .inl (strsR ga10.dp), _, _, rfl, rfl, (by omega), bp, _, _, _, rfl, rfl, strsR ga10.dp, hay, ?_⟩
        refine ⟨(by show 2 ≤ sizeLine; decide), fun ug nug => ?_⟩
        have sg := same_upd (o := .tup [.str x, .str y]) nug
        have ga11 := ga10.same sg
        have k8_11 : Kp d H8 _ := (k9.trans k10).trans (.of sg)
        refine ⟨_, rfl, ra2, _, rfl, .inl ⟨SqL.kpA hra8 (far_strs _) dr8 k8_11, fun u2 nu2 => ?_⟩⟩
        have su2 := same_upd (o := .tup (ch2.map V.str)) nu2
        have ga12 := ga11.same su2
        refine ⟨_, rfl, _, rfl, _, _, rfl, rfl, _, rfl, _, rfl, _, rfl, d, l, _, .ref bp, vn, .ref bk, pool, ns, Γ, m, rfl, by omega, n1, ⟨ga12.dr, ga12.dp, ga12.dn, ga12.dk, ga12.ok, ga12.po, by omega⟩, fun H13 rf g dr13 k13 dg hg => ?_⟩
        refine ⟨_, rfl, (by show 4 ≤ sizeLine; decide), fun rr nr => ?_⟩
        have s9 := same_upd (o := .tup [.str "tc", .ref u2, rf, .ref ug]) nr
        have xy : ∀ z, z ∈ [x, y] → z ∈ pool := fun z hz => by
          rcases List.mem_cons.mp hz with rfl | hz
          · exact hx
          · rw [List.mem_singleton.mp hz]; exact hy
        refine q _ _ (.mk (.tc ch2 [x, y]) [g]) (dr13.same s9) (((((kk7.trans k8).trans k8_11).trans (.of su2)).trans k13).trans (.of s9)) ?_ (.tc lch2 (fun z hz => ga.po.nm z (sub2 z hz)) (nd2 ga.po.nd) rfl (fun z hz => ga.po.nm z (xy z hz)) sub2 xy hg)
        rw [Fm.data_mk]
        exact .tup (.inl (.inl upd_same)) (.cons (.str _) (.cons (tS_of (Same.sqt s9 (SqT.kl (.dr k13 ga12.dr) (.inl (.inl upd_same))))) (.cons (Dp.same s9 dg) (.cons (tS_of (as := [x, y]) (Same.sqt s9 (SqT.kl (.dr k13 ga12.dr) (Same.sqt su2 (.inl (.inl upd_same)))))) .nil))))
      · refine ⟨_, rfl, rfl, _, rfl, cF (k := decide (V.str "guess" = V.str "some")) (by decide +kernel) ⟨_, rfl, rfl, _, rfl, cF (k := decide (V.str "guess" = V.str "all")) (by decide +kernel) ?_⟩⟩
        refine ⟨_, rfl, rfl, _, rfl, cF (k := decide (V.str "guess" = V.str "lfp")) (by decide +kernel) ?_⟩
        refine ⟨_, rfl, rfl, _, rfl, cF (k := decide (V.str "guess" = V.str "pfp")) (by decide +kernel) ?_⟩
        refine ⟨_, rfl, rfl, _, rfl, cF (k := decide (V.str "guess" = V.str "tc")) (by decide +kernel) ?_⟩
        refine ⟨_, rfl, d, l, rfl, ga7.dr, fun z4 H8 _ _ dr8 k8 => ?_⟩
        have ga8 := ga7.kp k8 dr8
        refine ⟨_, _, rfl, rfl, (by show (0 : Int) < 2; decide), ?_⟩
        obtain ⟨ka, hka, ka1⟩ : ∃ k : Nat, z4 % 2 = (k : Int) ∧ k ≤ 1 := ⟨(z4 % 2).toNat, by omega, by omega⟩
        show gName 10 (V.int (z4 % 2)) _ _ _
        rw [hka]
        refine ⟨_, rfl, _, rfl, _, rfl, ?_⟩
        refine ⟨vn, nm, ka, 0, ns, rfl, ga8.dn, by omega, fun H9 ri s9 di => ?_⟩
        have ga9 := ga8.same s9
        have wl := within_len ns (nm, ka, 0)
        refine ⟨_, rfl, _, rfl, ?_⟩
        refine ⟨_, rfl, _, rfl, _, _, rfl, rfl, _, rfl, _, rfl, _, rfl, d, l, _, .ref bp, ri, .ref bk, pool, within ns (nm, ka, 0), Hd.env (.gs nm ka) Γ, m, rfl, by omega, n1, ⟨ga9.dr, ga9.dp, di, ga9.dk, ga9.ok.within nmN nm5 (by show ka ≤ 3; omega) (by show 0 ≤ 3; decide) (fun x => rfl), ga9.po, by omega⟩, fun H10 rf g dr10 k10 dg hg => ?_⟩
        refine ⟨(by show 4 ≤ sizeLine; decide), fun rr nr => ?_⟩
        have s10 := same_upd (o := .tup [.str "guess", .str nm, .int (ka : Nat), rf]) nr
        refine q _ _ (.mk (.gs nm ka) [g]) (dr10.same s10) ((((kk7.trans k8).trans (.of s9)).trans k10).trans (.of s10)) ?_ (.gs nmN (by omega) hg)
        rw [Fm.data_mk]
        exact .tup (.inl (.inl upd_same)) (.cons (.str _) (.cons (.str _) (.cons (.int _) (.cons (Dp.same s10 dg) .nil))))
end
def spNamesL (K : PySem.W.Frag) : Sp := fun vs H Q _ => ∃ (d l : Addr), vs = [.ref d] ∧ DrA H d l ∧ ∀ (H' : Hp) (r : V) (ns : List NE) (Γ : ArE), DrA H' d l → Kp d H H' → Dp K H' r (nsD ns) → NOk ns Γ → ns.length ≤ 3 → Q r H'
def namesL : List NE := [(("e" : Str), 2, 0), (("p" : Str), 1, 0), (("q" : Str), 0, 0)]
def envL : ArE := fun x => if x = "e" then some 2 else if x = "p" then some 1 else some 0
theorem namesL_ok : NOk namesL envL := by
  have c : ∀ p, p ∈ namesL → p = (("e" : Str), 2, 0) ∨ p = (("p" : Str), 1, 0) ∨ p = (("q" : Str), 0, 0) := fun p hp => by simpa [namesL] using hp
  refine ⟨fun p hp => ?_, fun p hp => ?_, fun p hp => ?_, fun p hp => ?_, fun p q hp hq e => ?_, fun p hp => ?_⟩
  · rcases c p hp with rfl | rfl | rfl <;> exact nm_of (by decide +kernel)
  · rcases c p hp with rfl | rfl | rfl <;> decide
  · rcases c p hp with rfl | rfl | rfl <;> decide
  · rcases c p hp with rfl | rfl | rfl <;> decide +kernel
  · rcases c p hp with rfl | rfl | rfl <;> rcases c q hq with rfl | rfl | rfl <;> first | rfl | exact absurd e (by decide +kernel)
  · rcases c p hp with rfl | rfl | rfl <;> decide +kernel
theorem NOk.sub {ns ms : List NE} {Γ : ArE} (k : NOk ns Γ) (h : ∀ p, p ∈ ms → p ∈ ns) : NOk ms Γ :=
  ⟨fun p hp => k.nm p (h p hp), fun p hp => k.ar p (h p hp), fun p hp => k.md p (h p hp), fun p hp => k.fit p (h p hp), fun p q hp hq e => k.uni p q (h p hp) (h q hq) e, fun p hp => k.fv p (h p hp)⟩
theorem cut_map {xs : List V} {j : Nat} (h : xs.length < 1000) (k : j ≤ xs.length) : cutV xs none (some ((j : Nat) : Int)) = xs.take j := by
  unfold cutV
  have e1 : HT.sIx xs.length 0 none = 0 := rfl
  have e2 : HT.sIx xs.length xs.length (some ((j : Nat) : Int)) = j := by
    simp only [HT.sIx]
    split <;> omega
  rw [e1, e2]
  rfl
section
variable {P : Program} {w : World} {K : PySem.W.Frag} {mg : Str → Option Value} {base : Heap}
theorem DpAll.takeN {H : Hp} : ∀ {vs : List V} {ts : List PyData} (j : Nat), DpAll K H vs ts → DpAll K H (vs.take j) (ts.take j)
  | _, _, 0, _ => by rw [List.take_zero, List.take_zero]; exact .nil
  | _, _, j + 1, .nil => .nil
  | _, _, j + 1, .cons a t => .cons a (DpAll.takeN j t)
theorem sc_names : FnScope ["draws"] ["draws"] (defScope (top 68)) := ⟨rfl, rfl, rfl, by decide +kernel, rfl, by decide +kernel, by decide +kernel⟩
theorem has_names (D : Def K mg "_law_names" ["draws"] (top 68)) (T : Txt mg) (C1 : Has P w K mg base 2 "_law_draw" ["draws"] spDraw) : Has P w K mg base 3 "_law_names" ["draws"] (spNamesL K) := D.has fun f fd F => by
  obtain ⟨f1, fd1, G_law_draw, g_law_draw, k_law_draw, b_law_draw⟩ := C1
  refine F.ok sc_names (fun vs H Q E h => ?_) (fun cdv A outer s H vs Q E hr h => ?_)
  · obtain ⟨d, l, rfl, _⟩ := h; rfl
  · obtain ⟨d, l, rfl, dr, q⟩ := h
    have R_law_draw : Room 2 _ := hr
    refine ⟨_, PSs.nox (pss_one (ps_ret (pe_slice sl_list (pe_lst (pa_cons (pe_tup (pa_cons pe_str (pa_cons pe_int (pa_cons pe_int pa_nil)))) (pa_cons (pe_tup (pa_cons pe_str (pa_cons pe_int (pa_cons pe_int pa_nil)))) (pa_cons (pe_tup (pa_cons pe_str (pa_cons pe_int (pa_cons pe_int pa_nil)))) pa_nil)))) po_none (po_some (pe_op op_add pe_int (pe_op op_mod (pe_call G_law_draw R_law_draw (by rfl) g_law_draw k_law_draw b_law_draw .nil pass0 (pa_cons (pv 0) pa_nil)) pe_int)))))), ?_⟩
    refine ⟨(by show 3 ≤ sizeLine; decide), fun t1 n1 => ⟨(by show 3 ≤ sizeLine; decide), fun t2 n2 => ⟨(by show 3 ≤ sizeLine; decide), fun t3 n3 => ?_⟩⟩⟩
    have s1 := same_upd (o := .tup [.str "e", .int 2, .int 0]) n1
    have s2 := same_upd (o := .tup [.str "p", .int 1, .int 0]) n2
    have s3 := same_upd (o := .tup [.str "q", .int 0, .int 0]) n3
    refine ⟨(by show 3 ≤ sizeLine; decide), fun c nc => ?_⟩
    have s4 := same_upd (o := .lst [.ref t1, .ref t2, .ref t3]) nc
    have s14 := ((s1.trans s2).trans s3).trans s4
    have dr4 := dr.same s14
    have nd := ((dr.same ((s1.trans s2).trans s3)).ne nc).1
    have dall : DpAll K _ [.ref t1, .ref t2, .ref t3] (namesL.map nD) := .cons (nD_of (p := ("e", 2, 0)) (Same.sqt (s2.trans s3) (.inl (.inl upd_same)))) (.cons (nD_of (p := ("p", 1, 0)) (Same.sqt s3 (.inl (.inl upd_same)))) (.cons (nD_of (p := ("q", 0, 0)) (.inl (.inl upd_same))) .nil))
    refine ⟨_, rfl, d, l, rfl, dr4, fun z H5 _ _ dr5 k5 => ?_⟩
    refine ⟨_, _, rfl, rfl, (by show (0 : Int) < 3; decide), ?_⟩
    obtain ⟨j, hj, j2⟩ : ∃ k : Nat, z % 3 = (k : Int) ∧ k ≤ 2 := ⟨(z % 3).toNat, by omega, by omega⟩
    refine ⟨_, _, rfl, rfl, ?_⟩
    refine ⟨((1 + j : Nat) : Int), congrArg V.int (by omega), c, _, rfl, SqL.of (k5 _ _ upd_same nd), fun r nr => ?_⟩
    have s6 := same_upd (o := .lst (cutV [.ref t1, .ref t2, .ref t3] none (some ((1 + j : Nat) : Int)))) nr
    refine q _ (.ref r) (namesL.take (1 + j)) envL (dr5.same s6) (((Kp.of s14).trans k5).trans (.of s6)) (.lst (.inl (.inl upd_same)) ?_) (namesL_ok.sub fun p hp => List.mem_of_mem_take hp) (List.length_take_le' _ _)
    have ec := cut_map (xs := [.ref t1, .ref t2, .ref t3]) (j := 1 + j) (by show 3 < 1000; decide) (by show 1 + j ≤ 3; omega)
    revert s6
    rw [ec, List.map_take]
    intro s6
    exact DpAll.takeN _ (DpAll.same s6 (DpAll.kl (.dr k5 dr4) (DpAll.same s4 dall) (ns_noL _)))
theorem sc_formula : FnScope ["draws", "deep", "pool", "names", "kinds", "pick", "word", "many", "k"] ["draws", "deep", "pool", "names", "kinds"] (defScope (top 67)) := ⟨rfl, rfl, rfl, by decide +kernel, rfl, by decide +kernel, by decide +kernel⟩
theorem has_formula (D : Def K mg "_law_formula" ["draws", "deep", "pool", "names", "kinds"] (top 67)) (T : Txt mg) (C1 : Has P w K mg base 2 "_law_draw" ["draws"] spDraw) (C2 : Has P w K mg base 3 "_law_atom" ["draws", "pool", "names"] (spAtom K))
    (C3 : Has P w K mg base 1 "_law_turned" ["names"] (spMode K turned)) (C4 : ∀ n, Has P w K mg base (4 + 2 * n) "_law_formula" ["draws", "deep", "pool", "names", "kinds"] (spForm K n) → Has P w K mg base (4 + 2 * n + 1) "_law_bound" ["draws", "deep", "pool", "names", "kinds"] (spBound K (n + 1))) :
    ∀ n : Nat, Has P w K mg base (4 + 2 * n) "_law_formula" ["draws", "deep", "pool", "names", "kinds"] (spForm K n) := by
  obtain ⟨f1, fd1, G_law_draw, g_law_draw, k_law_draw, b_law_draw⟩ := C1
  obtain ⟨f2, fd2, G_law_atom, g_law_atom, k_law_atom, b_law_atom⟩ := C2
  obtain ⟨f3, fd3, G_law_turned, g_law_turned, k_law_turned, b_law_turned⟩ := C3
  intro n
  induction n with
  | zero =>
    refine D.has fun f fd F => F.ok sc_formula (fun vs H Q E h => ?_) (fun cdv A outer s H vs Q E hr h => ?_)
    · obtain ⟨d, l, k, vp, vn, vk, pool, ns, Γ, m, rfl, _⟩ := h; rfl
    · obtain ⟨d, l, k, vp, vn, vk, pool, ns, Γ, m, rfl, _, h0, _⟩ := h
      omega
  | succ n ih =>
    obtain ⟨f5, fd5, G_law_bound, g_law_bound, k_law_bound, b_law_bound⟩ := C4 n ih
    obtain ⟨f4, fd4, G_law_formula, g_law_formula, k_law_formula, b_law_formula⟩ := ih
    show Has P w K mg base (4 + 2 * n + 1 + 1) "_law_formula" ["draws", "deep", "pool", "names", "kinds"] (spForm K (n + 1))
    refine D.has fun f fd F => F.ok sc_formula (fun vs H Q E h => ?_) (fun cdv A outer s H vs Q E hr h => ?_)
    · obtain ⟨d, l, k, vp, vn, vk, pool, ns, Γ, m, rfl, _⟩ := h; rfl
    · obtain ⟨d, l, k, vp, vn, vk, pool, ns, Γ, m0, rfl, hk, h1, ga, q⟩ := h
      obtain ⟨m, rfl⟩ : ∃ m, m0 = m + 1 := ⟨m0 - 1, by omega⟩
      have R_law_draw : Room 2 _ := hr.mono (Nat.le_trans (Nat.le_trans (by decide) (Nat.le_add_right 4 (2 * n))) (Nat.le_add_right _ 1))
      have R_law_atom : Room 3 _ := hr.mono (Nat.le_trans (Nat.le_trans (by decide) (Nat.le_add_right 4 (2 * n))) (Nat.le_add_right _ 1))
      have R_law_turned : Room 1 _ := hr.mono (Nat.le_trans (Nat.le_trans (by decide) (Nat.le_add_right 4 (2 * n))) (Nat.le_add_right _ 1))
      have R_law_formula : Room (4 + 2 * n) _ := hr.mono (Nat.le_add_right _ 1)
      have R_law_bound : Room (4 + 2 * n + 1) _ := hr
      refine ⟨_, PSs.nox (pss_cons (ps_set (i := 5) sc_formula.nd rfl (Or.inl rfl) (pe_op op_mod (pe_call G_law_draw R_law_draw (by rfl) g_law_draw k_law_draw b_law_draw .nil pass0 (pa_cons (pv 0) pa_nil)) pe_int)) (pss_cons (ps_if (PW.pt (pw_or (pt_cmpR op_le (pv 1) pe_int (nomark _)) (pw_or1 (pt_cmpR op_eq (pv 5) pe_int (nomark _))))) (pss_one (ps_ret (pe_call G_law_atom R_law_atom (by rfl) g_law_atom k_law_atom b_law_atom .nil pass0 (pa_cons (pv 0) (pa_cons (pv 2) (pa_cons (pv 3) pa_nil)))))) pss_nil) (pss_cons (ps_if (pt_cmpR op_eq (pv 5) pe_int (nomark _)) (pss_one (ps_ret (pe_tup (pa_cons pe_str (pa_cons (pe_call G_law_formula R_law_formula (by rfl) g_law_formula k_law_formula b_law_formula .nil pass0 (pa_cons (pv 0) (pa_cons (pe_op op_sub (pv 1) pe_int) (pa_cons (pv 2) (pa_cons (pe_call G_law_turned R_law_turned (by rfl) g_law_turned k_law_turned b_law_turned .nil pass0 (pa_cons (pv 3) pa_nil)) (pa_cons (pv 4) pa_nil)))))) pa_nil))))) pss_nil) (pss_cons (ps_if (pt_cmpR op_lt (pv 5) pe_int (nomark _)) (pss_cons (ps_set (i := 6) sc_formula.nd rfl (Or.inl rfl) (pe_ix ix_list (pe_lst (pa_cons pe_str (pa_cons pe_str pa_nil))) (pe_op op_mod (pe_call G_law_draw R_law_draw (by rfl) g_law_draw k_law_draw b_law_draw .nil pass0 (pa_cons (pv 0) pa_nil)) pe_int) (fun _ _ => rfl))) (pss_cons (ps_set (i := 7) sc_formula.nd rfl (Or.inl rfl) (pe_ix ix_list (pe_lst (pa_cons pe_int (pa_cons pe_int (pa_cons pe_int (pa_cons pe_int (pa_cons pe_int (pa_cons pe_int pa_nil))))))) (pe_op op_mod (pe_call G_law_draw R_law_draw (by rfl) g_law_draw k_law_draw b_law_draw .nil pass0 (pa_cons (pv 0) pa_nil)) pe_int) (fun _ _ => rfl))) (pss_one (ps_ret (pe_tup (pa_cons (pv 6) (pa_cons (pe_callTy call_tuple_of (by rfl) T.n_tuple (by decide +kernel) (pa_cons (pe_lc (own := [("k", 8)]) rfl sc_formula.nd (pi_range1 (by rfl) T.n_range (pa_cons (pv 7) pa_nil)) (blkOk_by (N := ["draws", "deep", "pool", "names", "kinds", "pick", "word", "many", "k"]) (sc := defScope (top 67)) (by decide +kernel)) (fun _ _ _ _ _ => (pg_name (i := 8) sc_formula.nd rfl (Or.inl rfl))) (fun _ _ _ _ _ => pts_nil) (fun _ _ _ _ _ => (pe_call G_law_formula R_law_formula (by rfl) g_law_formula k_law_formula b_law_formula .nil pass0 (pa_cons (pv 0) (pa_cons (pe_op op_sub (pv 1) pe_int) (pa_cons (pv 2) (pa_cons (pv 3) (pa_cons (pv 4) pa_nil)))))))) pa_nil)) pa_nil))))))) pss_nil) (pss_one (ps_ret (pe_call G_law_bound R_law_bound (by rfl) g_law_bound k_law_bound b_law_bound .nil pass0 (pa_cons (pv 0) (pa_cons (pv 1) (pa_cons (pv 2) (pa_cons (pv 3) (pa_cons (pv 4) pa_nil)))))))))))), ?_⟩
      have f60 := ga.few
      refine ⟨_, rfl, d, l, rfl, ga.dr, fun z1 H1 _ _ dr1 k1 => ?_⟩
      have ga1 := ga.kp k1 dr1
      refine ⟨_, _, rfl, rfl, (by show (0 : Int) < 6; decide), ?_⟩
      by_cases ha : m = 0 ∨ z1 % 6 = 0
      · -- an atom
        have atom : tCall (spAtom K) [] E0 (tCons (tVar 0) (tCons (tVar 2) (tCons (tVar 3) tNil))) [some (.ref d), some (.int k), some vp, some vn, some vk, some (.int (z1 % 6)), none, none, none] H1 Q := by
          refine ⟨_, rfl, _, rfl, _, rfl, d, l, vp, vn, pool, ns, Γ, rfl, dr1, ga1.dp, ga1.dn, ga1.ok, ga1.po, by omega, fun H2 r f dr2 k2 df gf => ?_⟩
          exact q H2 r f dr2 (k1.trans k2) df (gf.mono (by omega))
        by_cases hn : m = 0
        · refine ⟨_, rfl, _, _, rfl, rfl, _, rfl, cT (k := decide (k ≤ 1)) (decide_eq_true (by omega)) (iteT atom)⟩
        · have hz : z1 % 6 = 0 := ha.resolve_left hn
          refine ⟨_, rfl, _, _, rfl, rfl, _, rfl, cF (k := decide (k ≤ 1)) (decide_eq_false (by omega)) ⟨_, rfl, rfl, _, rfl, cT (k := decide (V.int (z1 % 6) = V.int 0)) (decide_eq_true (by rw [hz])) atom⟩⟩
      · have hn : m ≠ 0 := fun z => ha (.inl z)
        have hz : z1 % 6 ≠ 0 := fun z => ha (.inr z)
        refine ⟨_, rfl, _, _, rfl, rfl, _, rfl, cF (k := decide (k ≤ 1)) (decide_eq_false (by omega)) ⟨_, rfl, rfl, _, rfl, cF (k := decide (V.int (z1 % 6) = V.int 0)) (decide_eq_false fun z => hz (V.int.inj z)) ?_⟩⟩
        refine ⟨_, rfl, rfl, _, rfl, ?_⟩
        by_cases h1z : z1 % 6 = 1
        · refine cT (k := decide (V.int (z1 % 6) = V.int 1)) (decide_eq_true (by rw [h1z])) ?_
          refine ⟨_, rfl, _, rfl, _, _, rfl, rfl, _, rfl, _, rfl, vn, ns, rfl, ga1.dn, by omega, ga1.ok.md, fun H2 rt s2 dt => ?_⟩
          have ga2 := ga1.same s2
          have tl := turned_len ns
          refine ⟨_, rfl, d, l, _, vp, rt, vk, pool, turned ns, Γ, m, rfl, by omega, by omega, ⟨ga2.dr, ga2.dp, dt, ga2.dk, ga2.ok.turned, ga2.po, by omega⟩, fun H3 rf g dr3 k3 dg hg => ?_⟩
          refine ⟨(by show 2 ≤ sizeLine; decide), fun rr nr => ?_⟩
          have s4 := same_upd (o := .tup [.str "not", rf]) nr
          refine q _ _ (.mk .no [g]) (dr3.same s4) (((k1.trans (.of s2)).trans k3).trans (.of s4)) ?_ (.no hg)
          rw [Fm.data_mk]
          exact .tup (.inl (.inl upd_same)) (.cons (.str _) (.cons (Dp.same s4 dg) .nil))
        · refine cF (k := decide (V.int (z1 % 6) = V.int 1)) (decide_eq_false fun z => h1z (V.int.inj z)) ?_
          refine ⟨_, rfl, _, _, rfl, rfl, _, rfl, ?_⟩
          by_cases h4 : z1 % 6 < 4
          · refine cT (k := decide (z1 % 6 < 4)) (decide_eq_true h4) ?_
            -- word
            refine ⟨(by show 2 ≤ sizeLine; decide), fun c nc => ?_⟩
            have s2 := same_upd (o := .lst ((["and", "or"] : List Str).map V.str)) nc
            have ncd := (dr1.ne nc).1
            refine ⟨_, rfl, d, l, rfl, dr1.same s2, fun z2 H3 _ _ dr3 k3 => ?_⟩
            obtain ⟨wd, hw, hat⟩ := atI_str (as := ["and", "or"]) z2 (by decide)
            refine ⟨_, _, rfl, rfl, (by show (0 : Int) < 2; decide), c, _, _, _, rfl, rfl, SqL.of (k3 _ _ upd_same ncd), hat, ?_⟩
            -- many
            refine ⟨(by show 6 ≤ sizeLine; decide), fun c2 nc2 => ?_⟩
            have s4 := same_upd (o := .lst [.int 0, .int 1, .int 2, .int 2, .int 2, .int 3]) nc2
            have nc2d := (dr3.ne nc2).1
            refine ⟨_, rfl, d, l, rfl, dr3.same s4, fun z3 H5 _ _ dr5 k5 => ?_⟩
            obtain ⟨v6, hv6, hat6⟩ := atI_mod (xs := [.int 0, .int 1, .int 2, .int 2, .int 2, .int 3]) z3 (by decide)
            obtain ⟨j, rfl, j3⟩ : ∃ j : Nat, v6 = .int (j : Int) ∧ j ≤ 3 := by
              simp only [List.mem_cons, List.not_mem_nil, or_false] at hv6
              rcases hv6 with rfl | rfl | rfl | rfl | rfl | rfl
              · exact ⟨0, rfl, by decide⟩
              · exact ⟨1, rfl, by decide⟩
              · exact ⟨2, rfl, by decide⟩
              · exact ⟨2, rfl, by decide⟩
              · exact ⟨2, rfl, by decide⟩
              · exact ⟨3, rfl, by decide⟩
            refine ⟨_, _, rfl, rfl, (by show (0 : Int) < 6; decide), c2, _, _, _, rfl, rfl, SqL.of (k5 _ _ upd_same nc2d), hat6, ?_⟩
            have k15 : Kp d H1 H5 := (((Kp.of s2).trans k3).trans (.of s4)).trans k5
            have ga5 := ga1.kp k15 dr5
            -- the parts
            refine ⟨_, rfl, _, rfl, j, rfl, by omega, by omega, fun M nM => ?_⟩
            obtain ⟨nMd, nMl⟩ := dr5.ne nM
            refine lc_it walk_range (fun i H6 => ∃ (vs : List V) (gs : List Fm), DrA H6 d l ∧ Kp d H5 H6 ∧ H6 M = some (.lst vs) ∧ DpAll K H6 vs (gs.map Fm.data) ∧ gs.length = i ∧ ∀ g, g ∈ gs → Gen pool ns Γ g m) ⟨[], [], dr5.same (same_upd nM), .of (same_upd nM), upd_same, .nil, rfl, fun x hx => nomatch hx⟩ (fun _ _ _ _ => trivial) ?_ ?_
            · rintro i y H6 H7 hi ⟨vs, gs, dr6, k6, hM, hvs, len, hs⟩ ⟨rfl, rfl⟩
              have ga6 := ga5.kp k6 dr6
              refine ⟨rfl, _, rfl, _, rfl, _, _, rfl, rfl, _, rfl, _, rfl, _, rfl, d, l, _, vp, vn, vk, pool, ns, Γ, m, rfl, by omega, by omega, ⟨ga6.dr, ga6.dp, ga6.dn, ga6.dk, ga6.ok, ga6.po, by omega⟩, fun H8 rf g dr8 k8 dg hg => ?_⟩
              have hM8 := k8 _ _ hM nMd
              have lv := DpAll.length hvs
              rw [List.length_map] at lv
              refine ⟨_, hM8, small1000 (by omega), vs ++ [rf], gs ++ [g], dr8.kp Kp.upd ⟨nMd, nMl⟩, kp_own (k6.trans k8) nM, upd_same, ?_, by rw [List.length_append, len]; rfl, fun x hx => ?_⟩
              · rw [List.map_append]
                exact DpAll.kl (Kl.upd hM8) (DpAll.snoc (DpAll.kl (.dr k8 dr6) hvs (fms_noL _)) dg) (by rw [noLs_append, fms_noL, fms_noL]; rfl)
              · rcases List.mem_append.mp hx with hx | hx
                · exact hs x hx
                · rw [List.mem_singleton.mp hx]; exact hg
            · rintro H6 ⟨vs, gs, dr6, k6, hM, hvs, len, hs⟩
              refine ⟨M, _, rfl, .inl ⟨SqL.of hM, fun u nu => ?_⟩⟩
              refine ⟨(by show 2 ≤ sizeLine; decide), fun r nr => ?_⟩
              have s7 := same_upd (o := .tup vs) nu
              have s8 := same_upd (o := .tup [.str wd, .ref u]) nr
              have kk : Kp d H _ := ((k1.trans k15).trans k6).trans (.of (s7.trans s8))
              have dd : DpAll K (upd (upd H6 u (.tup vs)) r (.tup [.str wd, .ref u])) vs (gs.map Fm.data) := DpAll.same (s7.trans s8) hvs
              rcases List.mem_cons.mp hw with rfl | hw
              · refine q _ _ (.mk .con gs) (dr6.same (s7.trans s8)) kk ?_ (.con (.inl rfl) hs (by omega))
                rw [Fm.data_mk]
                exact .tup (.inl (.inl upd_same)) (.cons (.str _) (.cons (.tup (Same.sqt s8 (.inl (.inl upd_same))) dd) .nil))
              · have ew := List.mem_singleton.mp hw
                subst ew
                refine q _ _ (.mk .dis gs) (dr6.same (s7.trans s8)) kk ?_ (.con (.inr rfl) hs (by omega))
                rw [Fm.data_mk]
                exact .tup (.inl (.inl upd_same)) (.cons (.str _) (.cons (.tup (Same.sqt s8 (.inl (.inl upd_same))) dd) .nil))
          · refine cF (k := decide (z1 % 6 < 4)) (decide_eq_false h4) ?_
            refine ⟨_, rfl, _, rfl, _, rfl, _, rfl, _, rfl, d, l, _, vp, vn, vk, pool, ns, Γ, m + 1, rfl, hk, by omega, ga1, fun H3 rf g dr3 k3 dg hg => ?_⟩
            exact q H3 rf g dr3 (k1.trans k3) dg hg
end
theorem one_of {ps : List Fm} (h : ps.length = 1) : ∃ g, ps = [g] := by
  match ps, h with
  | [g], _ => exact ⟨g, rfl⟩
theorem Same.none {H H' : Hp} {r : Addr} (s : Same H H') (e : H' r = Option.none) : H r = Option.none := by
  cases q : H r with
  | none => rfl
  | some o => rw [s _ _ q] at e; cases e
theorem none_of {ps : List Fm} (h : ps.length = 0) : ps = [] := List.length_eq_zero_iff.mp h
/-- a look at a formula -/
def spLook (K : PySem.W.Frag) (R : Fm → PyData) : Sp := fun vs H Q _ => ∃ (v : V) (f : Fm), vs = [v] ∧ Dp K H v f.data ∧ f.Ok ∧ ∀ (H' : Hp) (r : V), Same H H' → Dp K H' r (R f) → Q r H'
def spParts (K : PySem.W.Frag) : Sp := fun vs H Q _ => ∃ (v : V) (f : Fm), vs = [v] ∧ Dp K H v f.data ∧ f.Ok ∧ ∀ (H' : Hp) (r : Addr) (ys : List V), Same H H' → H r = none → H' r = some (.lst ys) → DpAll K H' ys (f.parts.map Fm.data) → Q (.ref r) H'
section
variable {P : Program} {w : World} {K : PySem.W.Frag} {mg : Str → Option Value} {base : Heap}
theorem sc_law_parts : FnScope ["f"] ["f"] (defScope (top 69)) := ⟨rfl, rfl, rfl, by decide +kernel, rfl, by decide +kernel, by decide +kernel⟩
theorem has_law_parts (D : Def K mg "_law_parts" ["f"] (top 69)) (T : Txt mg) : Has P w K mg base 1 "_law_parts" ["f"] (spParts K) := D.has fun f fd F => by
  refine F.ok sc_law_parts (fun vs H Q E h => ?_) (fun cdv A outer s H vs Q E hr h => ?_)
  · obtain ⟨v, f, rfl, _⟩ := h; rfl
  · obtain ⟨v, f, rfl, dp, ok, q⟩ := h
    refine ⟨_, PSs.nox (pss_cons (ps_if (pt_cmpR op_eq (pe_ix ix_tup (pv 0) pe_int (fun _ _ => rfl)) pe_str (nomark _)) (pss_one (ps_ret (pe_lst (pa_cons (pe_ix ix_tup (pv 0) pe_int (fun _ _ => rfl)) pa_nil)))) pss_nil) (pss_cons (ps_if (PW.pt (pw_or (pt_cmpR op_eq (pe_ix ix_tup (pv 0) pe_int (fun _ _ => rfl)) pe_str (nomark _)) (pw_or1 (pt_cmpR op_eq (pe_ix ix_tup (pv 0) pe_int (fun _ _ => rfl)) pe_str (nomark _))))) (pss_one (ps_ret (pe_callTy call_list_of (by rfl) T.n_list (by decide +kernel) (pa_cons (pe_ix ix_tup (pv 0) pe_int (fun _ _ => rfl)) pa_nil)))) pss_nil) (pss_cons (ps_if (pt_cmpR op_in_seq (pe_ix ix_tup (pv 0) pe_int (fun _ _ => rfl)) (pe_lst (pa_cons pe_str (pa_cons pe_str (pa_cons pe_str pa_nil)))) (by rfl)) (pss_one (ps_ret (pe_lst (pa_cons (pe_ix ix_tup (pv 0) pe_int (fun _ _ => rfl)) pa_nil)))) pss_nil) (pss_cons (ps_if (pt_cmpR op_in_seq (pe_ix ix_tup (pv 0) pe_int (fun _ _ => rfl)) (pe_lst (pa_cons pe_str (pa_cons pe_str (pa_cons pe_str pa_nil)))) (by rfl)) (pss_one (ps_ret (pe_lst (pa_cons (pe_ix ix_tup (pv 0) pe_int (fun _ _ => rfl)) pa_nil)))) pss_nil) (pss_one (ps_ret (pe_lst pa_nil))))))), ?_⟩
    obtain ⟨h, ps⟩ := f
    rw [Fm.data_mk] at dp
    have fit := ok.hd_
    obtain ⟨a, xs, rfl, hT, hx⟩ := hd_inv dp
    clear dp
    cases h with
    | rel n as =>
      obtain rfl := none_of fit.2.2.2
      obtain ⟨v1, w1, rfl, e1, hx⟩ := DpAll.cons_inv hx
      obtain ⟨v2, w2, rfl, e2, hx⟩ := DpAll.cons_inv hx
      obtain rfl := DpAll.nil_inv hx
      refine ⟨_, rfl, a, _, _, _, rfl, rfl, hT, atI_nat (j := 0) rfl, rfl, _, rfl, cF (k := decide (V.str "rel" = V.str "not")) (by decide +kernel) ?_⟩
      refine ⟨_, rfl, a, _, _, _, rfl, rfl, hT, atI_nat (j := 0) rfl, rfl, _, rfl, cF (k := decide (V.str "rel" = V.str "and")) (by decide +kernel) ⟨_, rfl, a, _, _, _, rfl, rfl, hT, atI_nat (j := 0) rfl, rfl, _, rfl, cF (k := decide (V.str "rel" = V.str "or")) (by decide +kernel) ?_⟩⟩
      refine ⟨_, rfl, a, _, _, _, rfl, rfl, hT, atI_nat (j := 0) rfl, (by show 3 ≤ sizeLine; decide), fun p1 np1 => ⟨_, _, rfl, .inl (SqL.of upd_same), rfl, rfl, _, rfl, cF (k := inV (.str "rel") [.str "some", .str "all", .str "tc"]) (by decide +kernel) ?_⟩⟩
      have t1 := same_upd (o := .lst [V.str "some", .str "all", .str "tc"]) np1
      refine ⟨_, rfl, a, _, _, _, rfl, rfl, (Same.sqt t1 hT), atI_nat (j := 0) rfl, (by show 3 ≤ sizeLine; decide), fun p2 np2 => ⟨_, _, rfl, .inl (SqL.of upd_same), rfl, rfl, _, rfl, cF (k := inV (.str "rel") [.str "lfp", .str "pfp", .str "guess"]) (by decide +kernel) ?_⟩⟩
      have t2 := same_upd (o := .lst [V.str "lfp", .str "pfp", .str "guess"]) np2
      have u2 := t1.trans t2
      refine ⟨(by show 0 ≤ sizeLine; decide), fun r nr => ?_⟩
      have sr := same_upd (o := .lst []) nr
      exact q _ r _ (Same.trans (u2) sr) (Same.none (u2) nr) upd_same .nil
    | eq x y =>
      obtain rfl := none_of fit.2.2
      obtain ⟨v1, w1, rfl, e1, hx⟩ := DpAll.cons_inv hx
      obtain ⟨v2, w2, rfl, e2, hx⟩ := DpAll.cons_inv hx
      obtain rfl := DpAll.nil_inv hx
      refine ⟨_, rfl, a, _, _, _, rfl, rfl, hT, atI_nat (j := 0) rfl, rfl, _, rfl, cF (k := decide (V.str "eq" = V.str "not")) (by decide +kernel) ?_⟩
      refine ⟨_, rfl, a, _, _, _, rfl, rfl, hT, atI_nat (j := 0) rfl, rfl, _, rfl, cF (k := decide (V.str "eq" = V.str "and")) (by decide +kernel) ⟨_, rfl, a, _, _, _, rfl, rfl, hT, atI_nat (j := 0) rfl, rfl, _, rfl, cF (k := decide (V.str "eq" = V.str "or")) (by decide +kernel) ?_⟩⟩
      refine ⟨_, rfl, a, _, _, _, rfl, rfl, hT, atI_nat (j := 0) rfl, (by show 3 ≤ sizeLine; decide), fun p1 np1 => ⟨_, _, rfl, .inl (SqL.of upd_same), rfl, rfl, _, rfl, cF (k := inV (.str "eq") [.str "some", .str "all", .str "tc"]) (by decide +kernel) ?_⟩⟩
      have t1 := same_upd (o := .lst [V.str "some", .str "all", .str "tc"]) np1
      refine ⟨_, rfl, a, _, _, _, rfl, rfl, (Same.sqt t1 hT), atI_nat (j := 0) rfl, (by show 3 ≤ sizeLine; decide), fun p2 np2 => ⟨_, _, rfl, .inl (SqL.of upd_same), rfl, rfl, _, rfl, cF (k := inV (.str "eq") [.str "lfp", .str "pfp", .str "guess"]) (by decide +kernel) ?_⟩⟩
      have t2 := same_upd (o := .lst [V.str "lfp", .str "pfp", .str "guess"]) np2
      have u2 := t1.trans t2
      refine ⟨(by show 0 ≤ sizeLine; decide), fun r nr => ?_⟩
      have sr := same_upd (o := .lst []) nr
      exact q _ r _ (Same.trans (u2) sr) (Same.none (u2) nr) upd_same .nil
    | less x y =>
      obtain rfl := none_of fit.2.2
      obtain ⟨v1, w1, rfl, e1, hx⟩ := DpAll.cons_inv hx
      obtain ⟨v2, w2, rfl, e2, hx⟩ := DpAll.cons_inv hx
      obtain rfl := DpAll.nil_inv hx
      refine ⟨_, rfl, a, _, _, _, rfl, rfl, hT, atI_nat (j := 0) rfl, rfl, _, rfl, cF (k := decide (V.str "less" = V.str "not")) (by decide +kernel) ?_⟩
      refine ⟨_, rfl, a, _, _, _, rfl, rfl, hT, atI_nat (j := 0) rfl, rfl, _, rfl, cF (k := decide (V.str "less" = V.str "and")) (by decide +kernel) ⟨_, rfl, a, _, _, _, rfl, rfl, hT, atI_nat (j := 0) rfl, rfl, _, rfl, cF (k := decide (V.str "less" = V.str "or")) (by decide +kernel) ?_⟩⟩
      refine ⟨_, rfl, a, _, _, _, rfl, rfl, hT, atI_nat (j := 0) rfl, (by show 3 ≤ sizeLine; decide), fun p1 np1 => ⟨_, _, rfl, .inl (SqL.of upd_same), rfl, rfl, _, rfl, cF (k := inV (.str "less") [.str "some", .str "all", .str "tc"]) (by decide +kernel) ?_⟩⟩
      have t1 := same_upd (o := .lst [V.str "some", .str "all", .str "tc"]) np1
      refine ⟨_, rfl, a, _, _, _, rfl, rfl, (Same.sqt t1 hT), atI_nat (j := 0) rfl, (by show 3 ≤ sizeLine; decide), fun p2 np2 => ⟨_, _, rfl, .inl (SqL.of upd_same), rfl, rfl, _, rfl, cF (k := inV (.str "less") [.str "lfp", .str "pfp", .str "guess"]) (by decide +kernel) ?_⟩⟩
      have t2 := same_upd (o := .lst [V.str "lfp", .str "pfp", .str "guess"]) np2
      have u2 := t1.trans t2
      refine ⟨(by show 0 ≤ sizeLine; decide), fun r nr => ?_⟩
      have sr := same_upd (o := .lst []) nr
      exact q _ r _ (Same.trans (u2) sr) (Same.none (u2) nr) upd_same .nil
    | no =>
      obtain ⟨g, rfl⟩ := one_of fit
      obtain ⟨v1, w1, rfl, e1, hx⟩ := DpAll.cons_inv hx
      obtain rfl := DpAll.nil_inv hx
      refine ⟨_, rfl, a, _, _, _, rfl, rfl, hT, atI_nat (j := 0) rfl, rfl, _, rfl, cT (k := decide (V.str "not" = V.str "not")) (by decide +kernel) ?_⟩
      refine ⟨_, rfl, a, _, _, _, rfl, rfl, hT, atI_nat (j := 1) rfl, (by show 1 ≤ sizeLine; decide), fun r nr => ?_⟩
      have sr := same_upd (o := .lst [v1]) nr
      exact q _ r _ (Same.trans (Same.refl H) sr) (Same.none (Same.refl H) nr) upd_same (.cons (Dp.same (Same.trans (Same.refl H) sr) e1) .nil)
    | con =>
      obtain ⟨v1, w1, rfl, e1, hx⟩ := DpAll.cons_inv hx
      obtain rfl := DpAll.nil_inv hx
      refine ⟨_, rfl, a, _, _, _, rfl, rfl, hT, atI_nat (j := 0) rfl, rfl, _, rfl, cF (k := decide (V.str "and" = V.str "not")) (by decide +kernel) ?_⟩
      refine ⟨_, rfl, a, _, _, _, rfl, rfl, hT, atI_nat (j := 0) rfl, rfl, _, rfl, cT (k := decide (V.str "and" = V.str "and")) (by decide +kernel) (iteT ?_)⟩
      obtain ⟨b, ys, rfl, hb, hy⟩ := Dp.tup_inv e1
      refine ⟨_, rfl, a, _, _, _, rfl, rfl, hT, atI_nat (j := 1) rfl, b, _, rfl, .inr hb, fun r nr => ?_⟩
      have sr := same_upd (o := .lst ys) nr
      exact q _ r _ (Same.trans (Same.refl H) sr) (Same.none (Same.refl H) nr) upd_same (DpAll.same (Same.trans (Same.refl H) sr) hy)
    | dis =>
      obtain ⟨v1, w1, rfl, e1, hx⟩ := DpAll.cons_inv hx
      obtain rfl := DpAll.nil_inv hx
      refine ⟨_, rfl, a, _, _, _, rfl, rfl, hT, atI_nat (j := 0) rfl, rfl, _, rfl, cF (k := decide (V.str "or" = V.str "not")) (by decide +kernel) ?_⟩
      refine ⟨_, rfl, a, _, _, _, rfl, rfl, hT, atI_nat (j := 0) rfl, rfl, _, rfl, cF (k := decide (V.str "or" = V.str "and")) (by decide +kernel) ⟨_, rfl, a, _, _, _, rfl, rfl, hT, atI_nat (j := 0) rfl, rfl, _, rfl, cT (k := decide (V.str "or" = V.str "or")) (by decide +kernel) ?_⟩⟩
      obtain ⟨b, ys, rfl, hb, hy⟩ := Dp.tup_inv e1
      refine ⟨_, rfl, a, _, _, _, rfl, rfl, hT, atI_nat (j := 1) rfl, b, _, rfl, .inr hb, fun r nr => ?_⟩
      have sr := same_upd (o := .lst ys) nr
      exact q _ r _ (Same.trans (Same.refl H) sr) (Same.none (Same.refl H) nr) upd_same (DpAll.same (Same.trans (Same.refl H) sr) hy)
    | ex us =>
      obtain ⟨g, rfl⟩ := one_of fit.2
      obtain ⟨v1, w1, rfl, e1, hx⟩ := DpAll.cons_inv hx
      obtain ⟨v2, w2, rfl, e2, hx⟩ := DpAll.cons_inv hx
      obtain rfl := DpAll.nil_inv hx
      refine ⟨_, rfl, a, _, _, _, rfl, rfl, hT, atI_nat (j := 0) rfl, rfl, _, rfl, cF (k := decide (V.str "some" = V.str "not")) (by decide +kernel) ?_⟩
      refine ⟨_, rfl, a, _, _, _, rfl, rfl, hT, atI_nat (j := 0) rfl, rfl, _, rfl, cF (k := decide (V.str "some" = V.str "and")) (by decide +kernel) ⟨_, rfl, a, _, _, _, rfl, rfl, hT, atI_nat (j := 0) rfl, rfl, _, rfl, cF (k := decide (V.str "some" = V.str "or")) (by decide +kernel) ?_⟩⟩
      refine ⟨_, rfl, a, _, _, _, rfl, rfl, hT, atI_nat (j := 0) rfl, (by show 3 ≤ sizeLine; decide), fun p1 np1 => ⟨_, _, rfl, .inl (SqL.of upd_same), rfl, rfl, _, rfl, cT (k := inV (.str "some") [.str "some", .str "all", .str "tc"]) (by decide +kernel) ?_⟩⟩
      have t1 := same_upd (o := .lst [V.str "some", .str "all", .str "tc"]) np1
      refine ⟨_, rfl, a, _, _, _, rfl, rfl, (Same.sqt t1 hT), atI_nat (j := 2) rfl, (by show 1 ≤ sizeLine; decide), fun r nr => ?_⟩
      have sr := same_upd (o := .lst [v2]) nr
      exact q _ r _ (Same.trans (t1) sr) (Same.none (t1) nr) upd_same (.cons (Dp.same (Same.trans (t1) sr) e2) .nil)
    | al us =>
      obtain ⟨g, rfl⟩ := one_of fit.2
      obtain ⟨v1, w1, rfl, e1, hx⟩ := DpAll.cons_inv hx
      obtain ⟨v2, w2, rfl, e2, hx⟩ := DpAll.cons_inv hx
      obtain rfl := DpAll.nil_inv hx
      refine ⟨_, rfl, a, _, _, _, rfl, rfl, hT, atI_nat (j := 0) rfl, rfl, _, rfl, cF (k := decide (V.str "all" = V.str "not")) (by decide +kernel) ?_⟩
      refine ⟨_, rfl, a, _, _, _, rfl, rfl, hT, atI_nat (j := 0) rfl, rfl, _, rfl, cF (k := decide (V.str "all" = V.str "and")) (by decide +kernel) ⟨_, rfl, a, _, _, _, rfl, rfl, hT, atI_nat (j := 0) rfl, rfl, _, rfl, cF (k := decide (V.str "all" = V.str "or")) (by decide +kernel) ?_⟩⟩
      refine ⟨_, rfl, a, _, _, _, rfl, rfl, hT, atI_nat (j := 0) rfl, (by show 3 ≤ sizeLine; decide), fun p1 np1 => ⟨_, _, rfl, .inl (SqL.of upd_same), rfl, rfl, _, rfl, cT (k := inV (.str "all") [.str "some", .str "all", .str "tc"]) (by decide +kernel) ?_⟩⟩
      have t1 := same_upd (o := .lst [V.str "some", .str "all", .str "tc"]) np1
      refine ⟨_, rfl, a, _, _, _, rfl, rfl, (Same.sqt t1 hT), atI_nat (j := 2) rfl, (by show 1 ≤ sizeLine; decide), fun r nr => ?_⟩
      have sr := same_upd (o := .lst [v2]) nr
      exact q _ r _ (Same.trans (t1) sr) (Same.none (t1) nr) upd_same (.cons (Dp.same (Same.trans (t1) sr) e2) .nil)
    | lfp n us as =>
      obtain ⟨g, rfl⟩ := one_of fit.2.2.2.2
      obtain ⟨v1, w1, rfl, e1, hx⟩ := DpAll.cons_inv hx
      obtain ⟨v2, w2, rfl, e2, hx⟩ := DpAll.cons_inv hx
      obtain ⟨v3, w3, rfl, e3, hx⟩ := DpAll.cons_inv hx
      obtain ⟨v4, w4, rfl, e4, hx⟩ := DpAll.cons_inv hx
      obtain rfl := DpAll.nil_inv hx
      refine ⟨_, rfl, a, _, _, _, rfl, rfl, hT, atI_nat (j := 0) rfl, rfl, _, rfl, cF (k := decide (V.str "lfp" = V.str "not")) (by decide +kernel) ?_⟩
      refine ⟨_, rfl, a, _, _, _, rfl, rfl, hT, atI_nat (j := 0) rfl, rfl, _, rfl, cF (k := decide (V.str "lfp" = V.str "and")) (by decide +kernel) ⟨_, rfl, a, _, _, _, rfl, rfl, hT, atI_nat (j := 0) rfl, rfl, _, rfl, cF (k := decide (V.str "lfp" = V.str "or")) (by decide +kernel) ?_⟩⟩
      refine ⟨_, rfl, a, _, _, _, rfl, rfl, hT, atI_nat (j := 0) rfl, (by show 3 ≤ sizeLine; decide), fun p1 np1 => ⟨_, _, rfl, .inl (SqL.of upd_same), rfl, rfl, _, rfl, cF (k := inV (.str "lfp") [.str "some", .str "all", .str "tc"]) (by decide +kernel) ?_⟩⟩
      have t1 := same_upd (o := .lst [V.str "some", .str "all", .str "tc"]) np1
      refine ⟨_, rfl, a, _, _, _, rfl, rfl, (Same.sqt t1 hT), atI_nat (j := 0) rfl, (by show 3 ≤ sizeLine; decide), fun p2 np2 => ⟨_, _, rfl, .inl (SqL.of upd_same), rfl, rfl, _, rfl, cT (k := inV (.str "lfp") [.str "lfp", .str "pfp", .str "guess"]) (by decide +kernel) ?_⟩⟩
      have t2 := same_upd (o := .lst [V.str "lfp", .str "pfp", .str "guess"]) np2
      have u2 := t1.trans t2
      refine ⟨_, rfl, a, _, _, _, rfl, rfl, (Same.sqt u2 hT), atI_nat (j := 3) rfl, (by show 1 ≤ sizeLine; decide), fun r nr => ?_⟩
      have sr := same_upd (o := .lst [v3]) nr
      exact q _ r _ (Same.trans (u2) sr) (Same.none (u2) nr) upd_same (.cons (Dp.same (Same.trans (u2) sr) e3) .nil)
    | pfp n us as =>
      obtain ⟨g, rfl⟩ := one_of fit.2.2.2.2
      obtain ⟨v1, w1, rfl, e1, hx⟩ := DpAll.cons_inv hx
      obtain ⟨v2, w2, rfl, e2, hx⟩ := DpAll.cons_inv hx
      obtain ⟨v3, w3, rfl, e3, hx⟩ := DpAll.cons_inv hx
      obtain ⟨v4, w4, rfl, e4, hx⟩ := DpAll.cons_inv hx
      obtain rfl := DpAll.nil_inv hx
      refine ⟨_, rfl, a, _, _, _, rfl, rfl, hT, atI_nat (j := 0) rfl, rfl, _, rfl, cF (k := decide (V.str "pfp" = V.str "not")) (by decide +kernel) ?_⟩
      refine ⟨_, rfl, a, _, _, _, rfl, rfl, hT, atI_nat (j := 0) rfl, rfl, _, rfl, cF (k := decide (V.str "pfp" = V.str "and")) (by decide +kernel) ⟨_, rfl, a, _, _, _, rfl, rfl, hT, atI_nat (j := 0) rfl, rfl, _, rfl, cF (k := decide (V.str "pfp" = V.str "or")) (by decide +kernel) ?_⟩⟩
      refine ⟨_, rfl, a, _, _, _, rfl, rfl, hT, atI_nat (j := 0) rfl, (by show 3 ≤ sizeLine; decide), fun p1 np1 => ⟨_, _, rfl, .inl (SqL.of upd_same), rfl, rfl, _, rfl, cF (k := inV (.str "pfp") [.str "some", .str "all", .str "tc"]) (by decide +kernel) ?_⟩⟩
      have t1 := same_upd (o := .lst [V.str "some", .str "all", .str "tc"]) np1
      refine ⟨_, rfl, a, _, _, _, rfl, rfl, (Same.sqt t1 hT), atI_nat (j := 0) rfl, (by show 3 ≤ sizeLine; decide), fun p2 np2 => ⟨_, _, rfl, .inl (SqL.of upd_same), rfl, rfl, _, rfl, cT (k := inV (.str "pfp") [.str "lfp", .str "pfp", .str "guess"]) (by decide +kernel) ?_⟩⟩
      have t2 := same_upd (o := .lst [V.str "lfp", .str "pfp", .str "guess"]) np2
      have u2 := t1.trans t2
      refine ⟨_, rfl, a, _, _, _, rfl, rfl, (Same.sqt u2 hT), atI_nat (j := 3) rfl, (by show 1 ≤ sizeLine; decide), fun r nr => ?_⟩
      have sr := same_upd (o := .lst [v3]) nr
      exact q _ r _ (Same.trans (u2) sr) (Same.none (u2) nr) upd_same (.cons (Dp.same (Same.trans (u2) sr) e3) .nil)
    | tc us as =>
      obtain ⟨g, rfl⟩ := one_of fit.2.2.2.2.2
      obtain ⟨v1, w1, rfl, e1, hx⟩ := DpAll.cons_inv hx
      obtain ⟨v2, w2, rfl, e2, hx⟩ := DpAll.cons_inv hx
      obtain ⟨v3, w3, rfl, e3, hx⟩ := DpAll.cons_inv hx
      obtain rfl := DpAll.nil_inv hx
      refine ⟨_, rfl, a, _, _, _, rfl, rfl, hT, atI_nat (j := 0) rfl, rfl, _, rfl, cF (k := decide (V.str "tc" = V.str "not")) (by decide +kernel) ?_⟩
      refine ⟨_, rfl, a, _, _, _, rfl, rfl, hT, atI_nat (j := 0) rfl, rfl, _, rfl, cF (k := decide (V.str "tc" = V.str "and")) (by decide +kernel) ⟨_, rfl, a, _, _, _, rfl, rfl, hT, atI_nat (j := 0) rfl, rfl, _, rfl, cF (k := decide (V.str "tc" = V.str "or")) (by decide +kernel) ?_⟩⟩
      refine ⟨_, rfl, a, _, _, _, rfl, rfl, hT, atI_nat (j := 0) rfl, (by show 3 ≤ sizeLine; decide), fun p1 np1 => ⟨_, _, rfl, .inl (SqL.of upd_same), rfl, rfl, _, rfl, cT (k := inV (.str "tc") [.str "some", .str "all", .str "tc"]) (by decide +kernel) ?_⟩⟩
      have t1 := same_upd (o := .lst [V.str "some", .str "all", .str "tc"]) np1
      refine ⟨_, rfl, a, _, _, _, rfl, rfl, (Same.sqt t1 hT), atI_nat (j := 2) rfl, (by show 1 ≤ sizeLine; decide), fun r nr => ?_⟩
      have sr := same_upd (o := .lst [v2]) nr
      exact q _ r _ (Same.trans (t1) sr) (Same.none (t1) nr) upd_same (.cons (Dp.same (Same.trans (t1) sr) e2) .nil)
    | gs n k =>
      obtain ⟨g, rfl⟩ := one_of fit.2.2
      obtain ⟨v1, w1, rfl, e1, hx⟩ := DpAll.cons_inv hx
      obtain ⟨v2, w2, rfl, e2, hx⟩ := DpAll.cons_inv hx
      obtain ⟨v3, w3, rfl, e3, hx⟩ := DpAll.cons_inv hx
      obtain rfl := DpAll.nil_inv hx
      refine ⟨_, rfl, a, _, _, _, rfl, rfl, hT, atI_nat (j := 0) rfl, rfl, _, rfl, cF (k := decide (V.str "guess" = V.str "not")) (by decide +kernel) ?_⟩
      refine ⟨_, rfl, a, _, _, _, rfl, rfl, hT, atI_nat (j := 0) rfl, rfl, _, rfl, cF (k := decide (V.str "guess" = V.str "and")) (by decide +kernel) ⟨_, rfl, a, _, _, _, rfl, rfl, hT, atI_nat (j := 0) rfl, rfl, _, rfl, cF (k := decide (V.str "guess" = V.str "or")) (by decide +kernel) ?_⟩⟩
      refine ⟨_, rfl, a, _, _, _, rfl, rfl, hT, atI_nat (j := 0) rfl, (by show 3 ≤ sizeLine; decide), fun p1 np1 => ⟨_, _, rfl, .inl (SqL.of upd_same), rfl, rfl, _, rfl, cF (k := inV (.str "guess") [.str "some", .str "all", .str "tc"]) (by decide +kernel) ?_⟩⟩
      have t1 := same_upd (o := .lst [V.str "some", .str "all", .str "tc"]) np1
      refine ⟨_, rfl, a, _, _, _, rfl, rfl, (Same.sqt t1 hT), atI_nat (j := 0) rfl, (by show 3 ≤ sizeLine; decide), fun p2 np2 => ⟨_, _, rfl, .inl (SqL.of upd_same), rfl, rfl, _, rfl, cT (k := inV (.str "guess") [.str "lfp", .str "pfp", .str "guess"]) (by decide +kernel) ?_⟩⟩
      have t2 := same_upd (o := .lst [V.str "lfp", .str "pfp", .str "guess"]) np2
      have u2 := t1.trans t2
      refine ⟨_, rfl, a, _, _, _, rfl, rfl, (Same.sqt u2 hT), atI_nat (j := 3) rfl, (by show 1 ≤ sizeLine; decide), fun r nr => ?_⟩
      have sr := same_upd (o := .lst [v3]) nr
      exact q _ r _ (Same.trans (u2) sr) (Same.none (u2) nr) upd_same (.cons (Dp.same (Same.trans (u2) sr) e3) .nil)
theorem sc_law_bound_here : FnScope ["f"] ["f"] (defScope (top 70)) := ⟨rfl, rfl, rfl, by decide +kernel, rfl, by decide +kernel, by decide +kernel⟩
theorem has_law_bound_here (D : Def K mg "_law_bound_here" ["f"] (top 70)) (T : Txt mg) : Has P w K mg base 1 "_law_bound_here" ["f"] (spLook K fun f => tS f.hd.own) := D.has fun f fd F => by
  refine F.ok sc_law_bound_here (fun vs H Q E h => ?_) (fun cdv A outer s H vs Q E hr h => ?_)
  · obtain ⟨v, f, rfl, _⟩ := h; rfl
  · obtain ⟨v, f, rfl, dp, ok, q⟩ := h
    refine ⟨_, PSs.nox (pss_cons (ps_if (pt_cmpR op_in_seq (pe_ix ix_tup (pv 0) pe_int (fun _ _ => rfl)) (pe_lst (pa_cons pe_str (pa_cons pe_str (pa_cons pe_str pa_nil)))) (by rfl)) (pss_one (ps_ret (pe_ix ix_tup (pv 0) pe_int (fun _ _ => rfl)))) pss_nil) (pss_cons (ps_if (pt_cmpR op_in_seq (pe_ix ix_tup (pv 0) pe_int (fun _ _ => rfl)) (pe_lst (pa_cons pe_str (pa_cons pe_str pa_nil))) (by rfl)) (pss_one (ps_ret (pe_ix ix_tup (pv 0) pe_int (fun _ _ => rfl)))) pss_nil) (pss_one (ps_ret (pe_tup pa_nil))))), ?_⟩
    obtain ⟨h, ps⟩ := f
    rw [Fm.data_mk] at dp
    have fit := ok.hd_
    obtain ⟨a, xs, rfl, hT, hx⟩ := hd_inv dp
    clear dp
    cases h with
    | rel n as =>
      obtain rfl := none_of fit.2.2.2
      obtain ⟨v1, w1, rfl, e1, hx⟩ := DpAll.cons_inv hx
      obtain ⟨v2, w2, rfl, e2, hx⟩ := DpAll.cons_inv hx
      obtain rfl := DpAll.nil_inv hx
      refine ⟨_, rfl, a, _, _, _, rfl, rfl, hT, atI_nat (j := 0) rfl, (by show 3 ≤ sizeLine; decide), fun p1 np1 => ⟨_, _, rfl, .inl (SqL.of upd_same), rfl, rfl, _, rfl, cF (k := inV (.str "rel") [.str "some", .str "all", .str "tc"]) (by decide +kernel) ?_⟩⟩
      have t1 := same_upd (o := .lst [V.str "some", .str "all", .str "tc"]) np1
      refine ⟨_, rfl, a, _, _, _, rfl, rfl, (Same.sqt t1 hT), atI_nat (j := 0) rfl, (by show 2 ≤ sizeLine; decide), fun p2 np2 => ⟨_, _, rfl, .inl (SqL.of upd_same), rfl, rfl, _, rfl, cF (k := inV (.str "rel") [.str "lfp", .str "pfp"]) (by decide +kernel) ?_⟩⟩
      have t2 := same_upd (o := .lst [V.str "lfp", .str "pfp"]) np2
      have u2 := t1.trans t2
      refine ⟨(by show 0 ≤ sizeLine; decide), fun r nr => ?_⟩
      have sr := same_upd (o := .tup []) nr
      exact q _ _ (Same.trans (u2) sr) (tS_of (as := []) (.inl (.inl upd_same)))
    | eq x y =>
      obtain rfl := none_of fit.2.2
      obtain ⟨v1, w1, rfl, e1, hx⟩ := DpAll.cons_inv hx
      obtain ⟨v2, w2, rfl, e2, hx⟩ := DpAll.cons_inv hx
      obtain rfl := DpAll.nil_inv hx
      refine ⟨_, rfl, a, _, _, _, rfl, rfl, hT, atI_nat (j := 0) rfl, (by show 3 ≤ sizeLine; decide), fun p1 np1 => ⟨_, _, rfl, .inl (SqL.of upd_same), rfl, rfl, _, rfl, cF (k := inV (.str "eq") [.str "some", .str "all", .str "tc"]) (by decide +kernel) ?_⟩⟩
      have t1 := same_upd (o := .lst [V.str "some", .str "all", .str "tc"]) np1
      refine ⟨_, rfl, a, _, _, _, rfl, rfl, (Same.sqt t1 hT), atI_nat (j := 0) rfl, (by show 2 ≤ sizeLine; decide), fun p2 np2 => ⟨_, _, rfl, .inl (SqL.of upd_same), rfl, rfl, _, rfl, cF (k := inV (.str "eq") [.str "lfp", .str "pfp"]) (by decide +kernel) ?_⟩⟩
      have t2 := same_upd (o := .lst [V.str "lfp", .str "pfp"]) np2
      have u2 := t1.trans t2
      refine ⟨(by show 0 ≤ sizeLine; decide), fun r nr => ?_⟩
      have sr := same_upd (o := .tup []) nr
      exact q _ _ (Same.trans (u2) sr) (tS_of (as := []) (.inl (.inl upd_same)))
    | less x y =>
      obtain rfl := none_of fit.2.2
      obtain ⟨v1, w1, rfl, e1, hx⟩ := DpAll.cons_inv hx
      obtain ⟨v2, w2, rfl, e2, hx⟩ := DpAll.cons_inv hx
      obtain rfl := DpAll.nil_inv hx
      refine ⟨_, rfl, a, _, _, _, rfl, rfl, hT, atI_nat (j := 0) rfl, (by show 3 ≤ sizeLine; decide), fun p1 np1 => ⟨_, _, rfl, .inl (SqL.of upd_same), rfl, rfl, _, rfl, cF (k := inV (.str "less") [.str "some", .str "all", .str "tc"]) (by decide +kernel) ?_⟩⟩
      have t1 := same_upd (o := .lst [V.str "some", .str "all", .str "tc"]) np1
      refine ⟨_, rfl, a, _, _, _, rfl, rfl, (Same.sqt t1 hT), atI_nat (j := 0) rfl, (by show 2 ≤ sizeLine; decide), fun p2 np2 => ⟨_, _, rfl, .inl (SqL.of upd_same), rfl, rfl, _, rfl, cF (k := inV (.str "less") [.str "lfp", .str "pfp"]) (by decide +kernel) ?_⟩⟩
      have t2 := same_upd (o := .lst [V.str "lfp", .str "pfp"]) np2
      have u2 := t1.trans t2
      refine ⟨(by show 0 ≤ sizeLine; decide), fun r nr => ?_⟩
      have sr := same_upd (o := .tup []) nr
      exact q _ _ (Same.trans (u2) sr) (tS_of (as := []) (.inl (.inl upd_same)))
    | no =>
      obtain ⟨g, rfl⟩ := one_of fit
      obtain ⟨v1, w1, rfl, e1, hx⟩ := DpAll.cons_inv hx
      obtain rfl := DpAll.nil_inv hx
      refine ⟨_, rfl, a, _, _, _, rfl, rfl, hT, atI_nat (j := 0) rfl, (by show 3 ≤ sizeLine; decide), fun p1 np1 => ⟨_, _, rfl, .inl (SqL.of upd_same), rfl, rfl, _, rfl, cF (k := inV (.str "not") [.str "some", .str "all", .str "tc"]) (by decide +kernel) ?_⟩⟩
      have t1 := same_upd (o := .lst [V.str "some", .str "all", .str "tc"]) np1
      refine ⟨_, rfl, a, _, _, _, rfl, rfl, (Same.sqt t1 hT), atI_nat (j := 0) rfl, (by show 2 ≤ sizeLine; decide), fun p2 np2 => ⟨_, _, rfl, .inl (SqL.of upd_same), rfl, rfl, _, rfl, cF (k := inV (.str "not") [.str "lfp", .str "pfp"]) (by decide +kernel) ?_⟩⟩
      have t2 := same_upd (o := .lst [V.str "lfp", .str "pfp"]) np2
      have u2 := t1.trans t2
      refine ⟨(by show 0 ≤ sizeLine; decide), fun r nr => ?_⟩
      have sr := same_upd (o := .tup []) nr
      exact q _ _ (Same.trans (u2) sr) (tS_of (as := []) (.inl (.inl upd_same)))
    | con =>
      obtain ⟨v1, w1, rfl, e1, hx⟩ := DpAll.cons_inv hx
      obtain rfl := DpAll.nil_inv hx
      refine ⟨_, rfl, a, _, _, _, rfl, rfl, hT, atI_nat (j := 0) rfl, (by show 3 ≤ sizeLine; decide), fun p1 np1 => ⟨_, _, rfl, .inl (SqL.of upd_same), rfl, rfl, _, rfl, cF (k := inV (.str "and") [.str "some", .str "all", .str "tc"]) (by decide +kernel) ?_⟩⟩
      have t1 := same_upd (o := .lst [V.str "some", .str "all", .str "tc"]) np1
      refine ⟨_, rfl, a, _, _, _, rfl, rfl, (Same.sqt t1 hT), atI_nat (j := 0) rfl, (by show 2 ≤ sizeLine; decide), fun p2 np2 => ⟨_, _, rfl, .inl (SqL.of upd_same), rfl, rfl, _, rfl, cF (k := inV (.str "and") [.str "lfp", .str "pfp"]) (by decide +kernel) ?_⟩⟩
      have t2 := same_upd (o := .lst [V.str "lfp", .str "pfp"]) np2
      have u2 := t1.trans t2
      refine ⟨(by show 0 ≤ sizeLine; decide), fun r nr => ?_⟩
      have sr := same_upd (o := .tup []) nr
      exact q _ _ (Same.trans (u2) sr) (tS_of (as := []) (.inl (.inl upd_same)))
    | dis =>
      obtain ⟨v1, w1, rfl, e1, hx⟩ := DpAll.cons_inv hx
      obtain rfl := DpAll.nil_inv hx
      refine ⟨_, rfl, a, _, _, _, rfl, rfl, hT, atI_nat (j := 0) rfl, (by show 3 ≤ sizeLine; decide), fun p1 np1 => ⟨_, _, rfl, .inl (SqL.of upd_same), rfl, rfl, _, rfl, cF (k := inV (.str "or") [.str "some", .str "all", .str "tc"]) (by decide +kernel) ?_⟩⟩
      have t1 := same_upd (o := .lst [V.str "some", .str "all", .str "tc"]) np1
      refine ⟨_, rfl, a, _, _, _, rfl, rfl, (Same.sqt t1 hT), atI_nat (j := 0) rfl, (by show 2 ≤ sizeLine; decide), fun p2 np2 => ⟨_, _, rfl, .inl (SqL.of upd_same), rfl, rfl, _, rfl, cF (k := inV (.str "or") [.str "lfp", .str "pfp"]) (by decide +kernel) ?_⟩⟩
      have t2 := same_upd (o := .lst [V.str "lfp", .str "pfp"]) np2
      have u2 := t1.trans t2
      refine ⟨(by show 0 ≤ sizeLine; decide), fun r nr => ?_⟩
      have sr := same_upd (o := .tup []) nr
      exact q _ _ (Same.trans (u2) sr) (tS_of (as := []) (.inl (.inl upd_same)))
    | ex us =>
      obtain ⟨g, rfl⟩ := one_of fit.2
      obtain ⟨v1, w1, rfl, e1, hx⟩ := DpAll.cons_inv hx
      obtain ⟨v2, w2, rfl, e2, hx⟩ := DpAll.cons_inv hx
      obtain rfl := DpAll.nil_inv hx
      refine ⟨_, rfl, a, _, _, _, rfl, rfl, hT, atI_nat (j := 0) rfl, (by show 3 ≤ sizeLine; decide), fun p1 np1 => ⟨_, _, rfl, .inl (SqL.of upd_same), rfl, rfl, _, rfl, cT (k := inV (.str "some") [.str "some", .str "all", .str "tc"]) (by decide +kernel) ?_⟩⟩
      have t1 := same_upd (o := .lst [V.str "some", .str "all", .str "tc"]) np1
      refine ⟨_, rfl, a, _, _, _, rfl, rfl, (Same.sqt t1 hT), atI_nat (j := 1) rfl, ?_⟩
      exact q _ _ (t1) (Dp.same t1 e1)
    | al us =>
      obtain ⟨g, rfl⟩ := one_of fit.2
      obtain ⟨v1, w1, rfl, e1, hx⟩ := DpAll.cons_inv hx
      obtain ⟨v2, w2, rfl, e2, hx⟩ := DpAll.cons_inv hx
      obtain rfl := DpAll.nil_inv hx
      refine ⟨_, rfl, a, _, _, _, rfl, rfl, hT, atI_nat (j := 0) rfl, (by show 3 ≤ sizeLine; decide), fun p1 np1 => ⟨_, _, rfl, .inl (SqL.of upd_same), rfl, rfl, _, rfl, cT (k := inV (.str "all") [.str "some", .str "all", .str "tc"]) (by decide +kernel) ?_⟩⟩
      have t1 := same_upd (o := .lst [V.str "some", .str "all", .str "tc"]) np1
      refine ⟨_, rfl, a, _, _, _, rfl, rfl, (Same.sqt t1 hT), atI_nat (j := 1) rfl, ?_⟩
      exact q _ _ (t1) (Dp.same t1 e1)
    | lfp n us as =>
      obtain ⟨g, rfl⟩ := one_of fit.2.2.2.2
      obtain ⟨v1, w1, rfl, e1, hx⟩ := DpAll.cons_inv hx
      obtain ⟨v2, w2, rfl, e2, hx⟩ := DpAll.cons_inv hx
      obtain ⟨v3, w3, rfl, e3, hx⟩ := DpAll.cons_inv hx
      obtain ⟨v4, w4, rfl, e4, hx⟩ := DpAll.cons_inv hx
      obtain rfl := DpAll.nil_inv hx
      refine ⟨_, rfl, a, _, _, _, rfl, rfl, hT, atI_nat (j := 0) rfl, (by show 3 ≤ sizeLine; decide), fun p1 np1 => ⟨_, _, rfl, .inl (SqL.of upd_same), rfl, rfl, _, rfl, cF (k := inV (.str "lfp") [.str "some", .str "all", .str "tc"]) (by decide +kernel) ?_⟩⟩
      have t1 := same_upd (o := .lst [V.str "some", .str "all", .str "tc"]) np1
      refine ⟨_, rfl, a, _, _, _, rfl, rfl, (Same.sqt t1 hT), atI_nat (j := 0) rfl, (by show 2 ≤ sizeLine; decide), fun p2 np2 => ⟨_, _, rfl, .inl (SqL.of upd_same), rfl, rfl, _, rfl, cT (k := inV (.str "lfp") [.str "lfp", .str "pfp"]) (by decide +kernel) ?_⟩⟩
      have t2 := same_upd (o := .lst [V.str "lfp", .str "pfp"]) np2
      have u2 := t1.trans t2
      refine ⟨_, rfl, a, _, _, _, rfl, rfl, (Same.sqt u2 hT), atI_nat (j := 2) rfl, ?_⟩
      exact q _ _ (u2) (Dp.same u2 e2)
    | pfp n us as =>
      obtain ⟨g, rfl⟩ := one_of fit.2.2.2.2
      obtain ⟨v1, w1, rfl, e1, hx⟩ := DpAll.cons_inv hx
      obtain ⟨v2, w2, rfl, e2, hx⟩ := DpAll.cons_inv hx
      obtain ⟨v3, w3, rfl, e3, hx⟩ := DpAll.cons_inv hx
      obtain ⟨v4, w4, rfl, e4, hx⟩ := DpAll.cons_inv hx
      obtain rfl := DpAll.nil_inv hx
      refine ⟨_, rfl, a, _, _, _, rfl, rfl, hT, atI_nat (j := 0) rfl, (by show 3 ≤ sizeLine; decide), fun p1 np1 => ⟨_, _, rfl, .inl (SqL.of upd_same), rfl, rfl, _, rfl, cF (k := inV (.str "pfp") [.str "some", .str "all", .str "tc"]) (by decide +kernel) ?_⟩⟩
      have t1 := same_upd (o := .lst [V.str "some", .str "all", .str "tc"]) np1
      refine ⟨_, rfl, a, _, _, _, rfl, rfl, (Same.sqt t1 hT), atI_nat (j := 0) rfl, (by show 2 ≤ sizeLine; decide), fun p2 np2 => ⟨_, _, rfl, .inl (SqL.of upd_same), rfl, rfl, _, rfl, cT (k := inV (.str "pfp") [.str "lfp", .str "pfp"]) (by decide +kernel) ?_⟩⟩
      have t2 := same_upd (o := .lst [V.str "lfp", .str "pfp"]) np2
      have u2 := t1.trans t2
      refine ⟨_, rfl, a, _, _, _, rfl, rfl, (Same.sqt u2 hT), atI_nat (j := 2) rfl, ?_⟩
      exact q _ _ (u2) (Dp.same u2 e2)
    | tc us as =>
      obtain ⟨g, rfl⟩ := one_of fit.2.2.2.2.2
      obtain ⟨v1, w1, rfl, e1, hx⟩ := DpAll.cons_inv hx
      obtain ⟨v2, w2, rfl, e2, hx⟩ := DpAll.cons_inv hx
      obtain ⟨v3, w3, rfl, e3, hx⟩ := DpAll.cons_inv hx
      obtain rfl := DpAll.nil_inv hx
      refine ⟨_, rfl, a, _, _, _, rfl, rfl, hT, atI_nat (j := 0) rfl, (by show 3 ≤ sizeLine; decide), fun p1 np1 => ⟨_, _, rfl, .inl (SqL.of upd_same), rfl, rfl, _, rfl, cT (k := inV (.str "tc") [.str "some", .str "all", .str "tc"]) (by decide +kernel) ?_⟩⟩
      have t1 := same_upd (o := .lst [V.str "some", .str "all", .str "tc"]) np1
      refine ⟨_, rfl, a, _, _, _, rfl, rfl, (Same.sqt t1 hT), atI_nat (j := 1) rfl, ?_⟩
      exact q _ _ (t1) (Dp.same t1 e1)
    | gs n k =>
      obtain ⟨g, rfl⟩ := one_of fit.2.2
      obtain ⟨v1, w1, rfl, e1, hx⟩ := DpAll.cons_inv hx
      obtain ⟨v2, w2, rfl, e2, hx⟩ := DpAll.cons_inv hx
      obtain ⟨v3, w3, rfl, e3, hx⟩ := DpAll.cons_inv hx
      obtain rfl := DpAll.nil_inv hx
      refine ⟨_, rfl, a, _, _, _, rfl, rfl, hT, atI_nat (j := 0) rfl, (by show 3 ≤ sizeLine; decide), fun p1 np1 => ⟨_, _, rfl, .inl (SqL.of upd_same), rfl, rfl, _, rfl, cF (k := inV (.str "guess") [.str "some", .str "all", .str "tc"]) (by decide +kernel) ?_⟩⟩
      have t1 := same_upd (o := .lst [V.str "some", .str "all", .str "tc"]) np1
      refine ⟨_, rfl, a, _, _, _, rfl, rfl, (Same.sqt t1 hT), atI_nat (j := 0) rfl, (by show 2 ≤ sizeLine; decide), fun p2 np2 => ⟨_, _, rfl, .inl (SqL.of upd_same), rfl, rfl, _, rfl, cF (k := inV (.str "guess") [.str "lfp", .str "pfp"]) (by decide +kernel) ?_⟩⟩
      have t2 := same_upd (o := .lst [V.str "lfp", .str "pfp"]) np2
      have u2 := t1.trans t2
      refine ⟨(by show 0 ≤ sizeLine; decide), fun r nr => ?_⟩
      have sr := same_upd (o := .tup []) nr
      exact q _ _ (Same.trans (u2) sr) (tS_of (as := []) (.inl (.inl upd_same)))
end
section
variable {P : Program} {w : World} {K : PySem.W.Frag} {mg : Str → Option Value} {base : Heap}
/-! ### _law_equal of equal data -/
theorem ty_lst {H : Hp} {a : Addr} {xs : List V} (h : SqL K H a xs) : TyX K H (.ref a) (.type "list") := by
  rcases h with (h | ⟨o, h⟩) | ⟨o, its, n, hk, hc, _⟩
  · exact .base (.lst h)
  · exact .base (.frz h)
  · exact .kList hk hc
def Both (K : PySem.W.Frag) (H : Hp) (x y : V) (d : PyData) : Prop := Dp K H x d ∧ Dp K H y d
def wid : PyData → Nat
  | .list ts => ts.length
  | .tuple ts => ts.length
  | _ => 0
/-- nothing in it is longer than 1000 -/
inductive Thin : Nat → PyData → Prop
  | flat {n : Nat} {d : PyData} (h : (∃ z, d = .str z) ∨ (∃ i, d = .int i) ∨ ∃ b, d = .bool b) : Thin n d
  | tup {n : Nat} {ts : List PyData} (l : ts.length ≤ 1000) (h : ∀ t, t ∈ ts → Thin n t) : Thin (n + 1) (.tuple ts)
  | lst {n : Nat} {ts : List PyData} (l : ts.length ≤ 1000) (h : ∀ t, t ∈ ts → Thin n t) : Thin (n + 1) (.list ts)
def spEqD (K : PySem.W.Frag) (n : Nat) : Sp := fun vs H Q _ => ∃ (x y : V) (d : PyData), vs = [x, y] ∧ Dp K H x d ∧ Dp K H y d ∧ Thin n d ∧ Q (.bl true) H
def spAllD (K : PySem.W.Frag) (n : Nat) : Sp := fun vs H Q _ => ∃ (a b : Addr) (xs ys : List V) (ts : List PyData), vs = [.ref a, .ref b] ∧ ((SqL K H a xs ∧ SqL K H b ys) ∨ (SqT K H a xs ∧ SqT K H b ys)) ∧ DpAll K H xs ts ∧ DpAll K H ys ts ∧ ts.length ≤ 1000 ∧ (∀ t, t ∈ ts → Thin n t) ∧ Q (.bl true) H
theorem sc_all_equal : FnScope ["actual", "due", "k"] ["actual", "due"] (defScope (top 60)) := ⟨rfl, rfl, rfl, by decide +kernel, rfl, by decide +kernel, by decide +kernel⟩
theorem has_all_equal {n : Nat} (D : Def K mg "_law_all_equal" ["actual", "due"] (top 60)) (T : Txt mg) (C1 : Has P w K mg base (1 + 2 * n) "_law_equal" ["actual", "due"] (spEqD K n)) : Has P w K mg base (1 + 2 * n + 1) "_law_all_equal" ["actual", "due"] (spAllD K n) := D.has fun f fd F => by
  obtain ⟨f1, fd1, G_law_equal, g_law_equal, k_law_equal, b_law_equal⟩ := C1
  refine F.ok sc_all_equal (fun vs H Q E h => ?_) (fun cdv A outer s H vs Q E hr h => ?_)
  · obtain ⟨a, b, xs, ys, ts, rfl, _⟩ := h; rfl
  · obtain ⟨a, b, xs, ys, ts, rfl, hs, hx, hy, hl, th, q⟩ := h
    have R_law_equal : Room (1 + 2 * n) _ := hr
    refine ⟨_, PSs.nox (pss_cons (ps_for PassesOwn.never rfl (pi_range1 (by rfl) T.n_range (pa_cons (pe_callB call_len_seq (by rfl) T.n_len PySem.boot_len (pa_cons (pv 1) pa_nil)) pa_nil)) (pg_name (i := 2) sc_all_equal.nd rfl (Or.inl rfl)) (pss_one (ps_if (pt_not (pt_val (pe_call G_law_equal R_law_equal (by rfl) g_law_equal k_law_equal b_law_equal .nil pass0 (pa_cons (pe_ix (IxR.or ix_list ix_tup) (pv 0) (pv 2) (fun _ _ => rfl)) (pa_cons (pe_ix (IxR.or ix_list ix_tup) (pv 1) (pv 2) (fun _ _ => rfl)) pa_nil))))) pss_never pss_nil))) (pss_one (ps_ret pe_bl))), ?_⟩
    have lx := DpAll.length hx
    have ly := DpAll.length hy
    refine ⟨_, rfl, b, ys, rfl, hs.elim (fun z => .inl z.2) (fun z => .inr z.2), ys.length, rfl, by omega, by omega, for_range (n := ys.length) (fun i σ H2 => ∃ y2, σ = [some (.ref a), some (.ref b), y2] ∧ H2 = H) ⟨none, rfl, rfl⟩ ?_ ?_⟩
    · rintro i σ H2 hi ⟨y2, rfl, rfl⟩
      have it : i < ts.length := by omega
      obtain ⟨v1, hv1, d1⟩ := DpAll.get hx (List.getElem?_eq_getElem it)
      obtain ⟨v2, hv2, d2⟩ := DpAll.get hy (List.getElem?_eq_getElem it)
      have ei : (0 : Int) + (i : Nat) = (i : Nat) := Int.zero_add _
      rw [ei]
      have e1 := List.getElem_mem it
      rcases hs with ⟨s1, s2⟩ | ⟨s1, s2⟩
      · exact ⟨_, rfl, _, rfl, .inl ⟨a, xs, _, v1, rfl, rfl, s1, atI_nat hv1, _, rfl, _, rfl, .inl ⟨b, ys, _, v2, rfl, rfl, s2, atI_nat hv2, v1, v2, _, rfl, d1, d2, th _ e1, _, rfl, iteF ⟨_, rfl, rfl⟩⟩⟩⟩
      · exact ⟨_, rfl, _, rfl, .inr ⟨a, xs, _, v1, rfl, rfl, s1, atI_nat hv1, _, rfl, _, rfl, .inr ⟨b, ys, _, v2, rfl, rfl, s2, atI_nat hv2, v1, v2, _, rfl, d1, d2, th _ e1, _, rfl, iteF ⟨_, rfl, rfl⟩⟩⟩⟩
    · rintro σ H2 ⟨y2, rfl, rfl⟩
      exact q
theorem sc_equalD : FnScope ["actual", "due"] ["actual", "due"] (defScope (top 59)) := ⟨rfl, rfl, rfl, by decide +kernel, rfl, by decide +kernel, by decide +kernel⟩
theorem has_equalD0 (D : Def K mg "_law_equal" ["actual", "due"] (top 59)) (T : Txt mg) : Has P w K mg base 1 "_law_equal" ["actual", "due"] (spEqD K 0) := D.has fun f fd F => by
  refine F.ok sc_equalD (fun vs H Q E h => ?_) (fun cdv A outer s H vs Q E hr h => ?_)
  · obtain ⟨x, y, d, rfl, _⟩ := h; rfl
  · obtain ⟨x, y, d, rfl, dx, dy, th, q⟩ := h
    refine ⟨_, PSs.nox (pss_cons (ps_if (pt_val (pe_callB call_isi (by rfl) T.n_isinstance (by decide +kernel) (pa_cons (pv 1) (pa_cons (pe_bltn (v := .ty "list") (by rfl) T.n_list (by decide +kernel) rfl) pa_nil)))) pss_never pss_nil) (pss_cons (ps_if (pt_val (pe_callB call_isi (by rfl) T.n_isinstance (by decide +kernel) (pa_cons (pv 1) (pa_cons (pe_bltn (v := .ty "tuple") (by rfl) T.n_tuple (by decide +kernel) rfl) pa_nil)))) pss_never pss_nil) (pss_cons (ps_if (pt_val (pe_callB call_isi (by rfl) T.n_isinstance (by decide +kernel) (pa_cons (pv 1) (pa_cons (pe_bltn (v := .ty "bool") (by rfl) T.n_bool (by decide +kernel) rfl) pa_nil)))) (pss_one (ps_ret (pe_and (pe_callB call_isi (by rfl) T.n_isinstance (by decide +kernel) (pa_cons (pv 0) (pa_cons (pe_bltn (v := .ty "bool") (by rfl) T.n_bool (by decide +kernel) rfl) pa_nil))) (pe_one (pe_cmpR op_eq (pv 0) (pv 1) (nomark _)))))) pss_nil) (pss_cons (ps_if (pt_val (pe_callB call_isi (by rfl) T.n_isinstance (by decide +kernel) (pa_cons (pv 1) (pa_cons (pe_bltn (v := .ty "int") (by rfl) T.n_int (by decide +kernel) rfl) pa_nil)))) (pss_one (ps_ret (pe_and (pe_callB call_isi (by rfl) T.n_isinstance (by decide +kernel) (pa_cons (pv 0) (pa_cons (pe_bltn (v := .ty "int") (by rfl) T.n_int (by decide +kernel) rfl) pa_nil))) (pe_and (pe_not (pe_callB call_isi (by rfl) T.n_isinstance (by decide +kernel) (pa_cons (pv 0) (pa_cons (pe_bltn (v := .ty "bool") (by rfl) T.n_bool (by decide +kernel) rfl) pa_nil)))) (pe_one (pe_cmpR op_eq (pv 0) (pv 1) (nomark _))))))) pss_nil) (pss_cons (ps_if (pt_val (pe_callB call_isi (by rfl) T.n_isinstance (by decide +kernel) (pa_cons (pv 1) (pa_cons (pe_bltn (v := .ty "str") (by rfl) T.n_str (by decide +kernel) rfl) pa_nil)))) (pss_one (ps_ret (pe_and (pe_callB call_isi (by rfl) T.n_isinstance (by decide +kernel) (pa_cons (pv 0) (pa_cons (pe_bltn (v := .ty "str") (by rfl) T.n_str (by decide +kernel) rfl) pa_nil))) (pe_one (pe_cmpR op_eq (pv 0) (pv 1) (nomark _)))))) pss_nil) (pss_one (ps_ret (pe_cmpR op_isN (pv 0) pe_non (nomark _))))))))), ?_⟩
    cases th with
    | flat h =>
      rcases h with ⟨z, rfl⟩ | ⟨i, rfl⟩ | ⟨b, rfl⟩
      · obtain rfl := Dp.str_inv dx
        obtain rfl := Dp.str_inv dy
        refine isi_t rfl (.base (.str z)) (b := false) (by decide +kernel) (iteF ?_)
        refine isi_t rfl (.base (.str z)) (b := false) (by decide +kernel) (iteF ?_)
        refine isi_t rfl (.base (.str z)) (b := false) (by decide +kernel) (iteF ?_)
        refine isi_t rfl (.base (.str z)) (b := false) (by decide +kernel) (iteF ?_)
        refine isi_t rfl (.base (.str z)) (b := true) (by decide +kernel) (iteT ?_)
        refine isi_q rfl (.base (.str z)) (b := true) (by decide +kernel) ⟨_, rfl, iteT ⟨_, rfl, _, rfl, rfl, ?_⟩⟩
        show Q (.bl (decide (V.str z = V.str z))) H
        rw [decide_eq_true rfl]
        exact q
      · obtain rfl := Dp.int_inv dx
        obtain rfl := Dp.int_inv dy
        refine isi_t rfl (.base (.int i)) (b := false) (by decide +kernel) (iteF ?_)
        refine isi_t rfl (.base (.int i)) (b := false) (by decide +kernel) (iteF ?_)
        refine isi_t rfl (.base (.int i)) (b := false) (by decide +kernel) (iteF ?_)
        refine isi_t rfl (.base (.int i)) (b := true) (by decide +kernel) (iteT ?_)
        refine isi_q rfl (.base (.int i)) (b := true) (by decide +kernel) ⟨_, rfl, iteT (isi_q rfl (.base (.int i)) (b := false) (by decide +kernel) ⟨_, rfl, _, rfl, iteT ⟨_, rfl, _, rfl, rfl, ?_⟩⟩)⟩
        show Q (.bl (decide (V.int i = V.int i))) H
        rw [decide_eq_true rfl]
        exact q
      · obtain rfl := Dp.bl_inv dx
        obtain rfl := Dp.bl_inv dy
        refine isi_t rfl (.base (.bl b)) (b := false) (by decide +kernel) (iteF ?_)
        refine isi_t rfl (.base (.bl b)) (b := false) (by decide +kernel) (iteF ?_)
        refine isi_t rfl (.base (.bl b)) (b := true) (by decide +kernel) (iteT ?_)
        refine isi_q rfl (.base (.bl b)) (b := true) (by decide +kernel) ⟨_, rfl, iteT ⟨_, rfl, _, rfl, rfl, ?_⟩⟩
        show Q (.bl (decide (V.bl b = V.bl b))) H
        rw [decide_eq_true rfl]
        exact q
theorem has_equalD1 {n : Nat} (D : Def K mg "_law_equal" ["actual", "due"] (top 59)) (T : Txt mg) (C1 : Has P w K mg base (1 + 2 * n + 1) "_law_all_equal" ["actual", "due"] (spAllD K n)) : Has P w K mg base (1 + 2 * n + 1 + 1) "_law_equal" ["actual", "due"] (spEqD K (n + 1)) := D.has fun f fd F => by
  obtain ⟨f1, fd1, G_law_all_equal, g_law_all_equal, k_law_all_equal, b_law_all_equal⟩ := C1
  refine F.ok sc_equalD (fun vs H Q E h => ?_) (fun cdv A outer s H vs Q E hr h => ?_)
  · obtain ⟨x, y, d, rfl, _⟩ := h; rfl
  · obtain ⟨x, y, d, rfl, dx, dy, th, q⟩ := h
    have R_law_all_equal : Room (1 + 2 * n + 1) _ := hr
    refine ⟨_, PSs.nox (pss_cons (ps_if (pt_val (pe_callB call_isi (by rfl) T.n_isinstance (by decide +kernel) (pa_cons (pv 1) (pa_cons (pe_bltn (v := .ty "list") (by rfl) T.n_list (by decide +kernel) rfl) pa_nil)))) (pss_cons (ps_if (PW.pt (pw_or (pt_not (pt_val (pe_callB call_isi (by rfl) T.n_isinstance (by decide +kernel) (pa_cons (pv 0) (pa_cons (pe_bltn (v := .ty "list") (by rfl) T.n_list (by decide +kernel) rfl) pa_nil))))) (pw_or1 (pt_cmpR op_ne (pe_callB call_len_seq (by rfl) T.n_len PySem.boot_len (pa_cons (pv 0) pa_nil)) (pe_callB call_len_seq (by rfl) T.n_len PySem.boot_len (pa_cons (pv 1) pa_nil)) (nomark _))))) (pss_one (ps_ret pe_bl)) pss_nil) (pss_one (ps_ret (pe_call G_law_all_equal R_law_all_equal (by rfl) g_law_all_equal k_law_all_equal b_law_all_equal .nil pass0 (pa_cons (pv 0) (pa_cons (pv 1) pa_nil)))))) pss_nil) (pss_cons (ps_if (pt_val (pe_callB call_isi (by rfl) T.n_isinstance (by decide +kernel) (pa_cons (pv 1) (pa_cons (pe_bltn (v := .ty "tuple") (by rfl) T.n_tuple (by decide +kernel) rfl) pa_nil)))) (pss_cons (ps_if (PW.pt (pw_or (pt_not (pt_val (pe_callB call_isi (by rfl) T.n_isinstance (by decide +kernel) (pa_cons (pv 0) (pa_cons (pe_bltn (v := .ty "tuple") (by rfl) T.n_tuple (by decide +kernel) rfl) pa_nil))))) (pw_or1 (pt_cmpR op_ne (pe_callB call_len_seq (by rfl) T.n_len PySem.boot_len (pa_cons (pv 0) pa_nil)) (pe_callB call_len_seq (by rfl) T.n_len PySem.boot_len (pa_cons (pv 1) pa_nil)) (nomark _))))) (pss_one (ps_ret pe_bl)) pss_nil) (pss_one (ps_ret (pe_call G_law_all_equal R_law_all_equal (by rfl) g_law_all_equal k_law_all_equal b_law_all_equal .nil pass0 (pa_cons (pv 0) (pa_cons (pv 1) pa_nil)))))) pss_nil) (pss_cons (ps_if (pt_val (pe_callB call_isi (by rfl) T.n_isinstance (by decide +kernel) (pa_cons (pv 1) (pa_cons (pe_bltn (v := .ty "bool") (by rfl) T.n_bool (by decide +kernel) rfl) pa_nil)))) (pss_one (ps_ret (pe_and (pe_callB call_isi (by rfl) T.n_isinstance (by decide +kernel) (pa_cons (pv 0) (pa_cons (pe_bltn (v := .ty "bool") (by rfl) T.n_bool (by decide +kernel) rfl) pa_nil))) (pe_one (pe_cmpR op_eq (pv 0) (pv 1) (nomark _)))))) pss_nil) (pss_cons (ps_if (pt_val (pe_callB call_isi (by rfl) T.n_isinstance (by decide +kernel) (pa_cons (pv 1) (pa_cons (pe_bltn (v := .ty "int") (by rfl) T.n_int (by decide +kernel) rfl) pa_nil)))) (pss_one (ps_ret (pe_and (pe_callB call_isi (by rfl) T.n_isinstance (by decide +kernel) (pa_cons (pv 0) (pa_cons (pe_bltn (v := .ty "int") (by rfl) T.n_int (by decide +kernel) rfl) pa_nil))) (pe_and (pe_not (pe_callB call_isi (by rfl) T.n_isinstance (by decide +kernel) (pa_cons (pv 0) (pa_cons (pe_bltn (v := .ty "bool") (by rfl) T.n_bool (by decide +kernel) rfl) pa_nil)))) (pe_one (pe_cmpR op_eq (pv 0) (pv 1) (nomark _))))))) pss_nil) (pss_cons (ps_if (pt_val (pe_callB call_isi (by rfl) T.n_isinstance (by decide +kernel) (pa_cons (pv 1) (pa_cons (pe_bltn (v := .ty "str") (by rfl) T.n_str (by decide +kernel) rfl) pa_nil)))) (pss_one (ps_ret (pe_and (pe_callB call_isi (by rfl) T.n_isinstance (by decide +kernel) (pa_cons (pv 0) (pa_cons (pe_bltn (v := .ty "str") (by rfl) T.n_str (by decide +kernel) rfl) pa_nil))) (pe_one (pe_cmpR op_eq (pv 0) (pv 1) (nomark _)))))) pss_nil) (pss_one (ps_ret (pe_cmpR op_isN (pv 0) pe_non (nomark _))))))))), ?_⟩
    cases th with
    | flat h =>
      rcases h with ⟨z, rfl⟩ | ⟨i, rfl⟩ | ⟨b, rfl⟩
      · obtain rfl := Dp.str_inv dx
        obtain rfl := Dp.str_inv dy
        refine isi_t rfl (.base (.str z)) (b := false) (by decide +kernel) (iteF ?_)
        refine isi_t rfl (.base (.str z)) (b := false) (by decide +kernel) (iteF ?_)
        refine isi_t rfl (.base (.str z)) (b := false) (by decide +kernel) (iteF ?_)
        refine isi_t rfl (.base (.str z)) (b := false) (by decide +kernel) (iteF ?_)
        refine isi_t rfl (.base (.str z)) (b := true) (by decide +kernel) (iteT ?_)
        refine isi_q rfl (.base (.str z)) (b := true) (by decide +kernel) ⟨_, rfl, iteT ⟨_, rfl, _, rfl, rfl, ?_⟩⟩
        show Q (.bl (decide (V.str z = V.str z))) H
        rw [decide_eq_true rfl]
        exact q
      · obtain rfl := Dp.int_inv dx
        obtain rfl := Dp.int_inv dy
        refine isi_t rfl (.base (.int i)) (b := false) (by decide +kernel) (iteF ?_)
        refine isi_t rfl (.base (.int i)) (b := false) (by decide +kernel) (iteF ?_)
        refine isi_t rfl (.base (.int i)) (b := false) (by decide +kernel) (iteF ?_)
        refine isi_t rfl (.base (.int i)) (b := true) (by decide +kernel) (iteT ?_)
        refine isi_q rfl (.base (.int i)) (b := true) (by decide +kernel) ⟨_, rfl, iteT (isi_q rfl (.base (.int i)) (b := false) (by decide +kernel) ⟨_, rfl, _, rfl, iteT ⟨_, rfl, _, rfl, rfl, ?_⟩⟩)⟩
        show Q (.bl (decide (V.int i = V.int i))) H
        rw [decide_eq_true rfl]
        exact q
      · obtain rfl := Dp.bl_inv dx
        obtain rfl := Dp.bl_inv dy
        refine isi_t rfl (.base (.bl b)) (b := false) (by decide +kernel) (iteF ?_)
        refine isi_t rfl (.base (.bl b)) (b := false) (by decide +kernel) (iteF ?_)
        refine isi_t rfl (.base (.bl b)) (b := true) (by decide +kernel) (iteT ?_)
        refine isi_q rfl (.base (.bl b)) (b := true) (by decide +kernel) ⟨_, rfl, iteT ⟨_, rfl, _, rfl, rfl, ?_⟩⟩
        show Q (.bl (decide (V.bl b = V.bl b))) H
        rw [decide_eq_true rfl]
        exact q
    | lst l th =>
      obtain ⟨a, xs, rfl, h1, hx⟩ := Dp.lst_inv dx
      obtain ⟨b, ys, rfl, h2, hy⟩ := Dp.lst_inv dy
      have ll : xs.length = ys.length := by rw [DpAll.length hx, DpAll.length hy]
      refine isi_t rfl (ty_lst h2) (b := true) (by decide +kernel) (iteT ?_)
      refine isi_t rfl (ty_lst h1) (b := true) (by decide +kernel) ?_
      refine cF (k := !true) rfl ⟨_, rfl, a, xs, rfl, .inl h1, _, rfl, b, ys, rfl, .inl h2, rfl, _, rfl, cF (k := !decide (V.int (xs.length : Nat) = V.int (ys.length : Nat))) (by rw [ll, decide_eq_true rfl]; rfl) ?_⟩
      exact ⟨_, rfl, _, rfl, a, b, xs, ys, _, rfl, .inl ⟨h1, h2⟩, hx, hy, l, th, q⟩
    | tup l th =>
      obtain ⟨a, xs, rfl, h1, hx⟩ := Dp.tup_inv dx
      obtain ⟨b, ys, rfl, h2, hy⟩ := Dp.tup_inv dy
      have ll : xs.length = ys.length := by rw [DpAll.length hx, DpAll.length hy]
      refine isi_t rfl (ty_tup h2) (b := false) (by decide +kernel) (iteF ?_)
      refine isi_t rfl (ty_tup h2) (b := true) (by decide +kernel) (iteT ?_)
      refine isi_t rfl (ty_tup h1) (b := true) (by decide +kernel) ?_
      refine cF (k := !true) rfl ⟨_, rfl, a, xs, rfl, .inr h1, _, rfl, b, ys, rfl, .inr h2, rfl, _, rfl, cF (k := !decide (V.int (xs.length : Nat) = V.int (ys.length : Nat))) (by rw [ll, decide_eq_true rfl]; rfl) ?_⟩
      exact ⟨_, rfl, _, rfl, a, b, xs, ys, _, rfl, .inr ⟨h1, h2⟩, hx, hy, l, th, q⟩
theorem has_equalD (D1 : Def K mg "_law_equal" ["actual", "due"] (top 59)) (D2 : Def K mg "_law_all_equal" ["actual", "due"] (top 60)) (T : Txt mg) : Has P w K mg base 5 "_law_equal" ["actual", "due"] (spEqD K 2) :=
  has_equalD1 (n := 1) D1 T (has_all_equal (n := 1) D2 T (has_equalD1 (n := 0) D1 T (has_all_equal (n := 0) D2 T (has_equalD0 D1 T))))
end
/-! ### counts -/
theorem parts_len {h : Hd} {n : Nat} (k : h.Ok n) : n ≤ 40 := by
  cases h with
  | rel m as => have := k.2.2.2; omega
  | eq x y => have := k.2.2; omega
  | less x y => have := k.2.2; omega
  | no => have : n = 1 := k; omega
  | con => exact k
  | dis => exact k
  | ex vs => have := k.2; omega
  | al vs => have := k.2; omega
  | lfp m vs as => have := k.2.2.2.2; omega
  | pfp m vs as => have := k.2.2.2.2; omega
  | tc vs as => have := k.2.2.2.2.2; omega
  | gs m j => have := k.2.2; omega
def Fm.rank : Fm → Nat := Fm.fold fun h xs => h.own.length + maxN xs
theorem meas_cnt (h : Hd) (ps : List Fm) : (Fm.mk h ps).cnt = 1 + sumN (ps.map Fm.cnt) := Fm.cnt_mk h ps
theorem meas_dep (h : Hd) (ps : List Fm) : (Fm.mk h ps).dep = 1 + maxN (ps.map Fm.dep) := Fm.dep_mk h ps
theorem meas_rank (h : Hd) (ps : List Fm) : (Fm.mk h ps).rank = h.own.length + maxN (ps.map Fm.rank) := Fm.fold_mk _ h ps
theorem sumI_map {M : Fm → Nat} : ∀ ps : List Fm, (ps.map fun p => ((M p : Nat) : Int)).sum = ((sumN (ps.map M) : Nat) : Int)
  | [] => rfl
  | p :: ps => by
    rw [List.map_cons, List.sum_cons, sumI_map ps]
    show ((M p : Nat) : Int) + _ = ((M p + sumN (ps.map M) : Nat) : Int)
    rw [Int.natCast_add]
theorem max_is {M : Fm → Nat} {ps : List Fm} {m : Int} (hm : m ∈ ps.map fun p => ((M p : Nat) : Int)) (hle : ∀ y, y ∈ (ps.map fun p => ((M p : Nat) : Int)) → y ≤ m) : m = ((maxN (ps.map M) : Nat) : Int) := by
  obtain ⟨p, hp, rfl⟩ := List.mem_map.mp hm
  have a := le_maxN (List.mem_map_of_mem (f := M) hp)
  have b := maxN_le (n := M p) (ps.map M) fun x hx => by
    obtain ⟨g, hg, rfl⟩ := List.mem_map.mp hx
    have := hle _ (List.mem_map.mpr ⟨g, hg, rfl⟩)
    omega
  omega
theorem max0_is {M : Fm → Nat} {ps : List Fm} {m : Int} (hm : m ∈ (0 : Int) :: ps.map fun p => ((M p : Nat) : Int)) (hle : ∀ y, y ∈ ((0 : Int) :: ps.map fun p => ((M p : Nat) : Int)) → y ≤ m) : m = ((maxN (ps.map M) : Nat) : Int) := by
  rcases List.mem_cons.mp hm with rfl | hm
  · have b := maxN_le (n := 0) (ps.map M) fun x hx => by
      obtain ⟨g, hg, rfl⟩ := List.mem_map.mp hx
      have := hle _ (List.mem_cons_of_mem _ (List.mem_map.mpr ⟨g, hg, rfl⟩))
      omega
    omega
  · exact max_is hm fun y hy => hle y (List.mem_cons_of_mem _ hy)
/-! ### costs -/
def B9 : Nat := 1000000000
def Hd.repB (b n : Nat) : Hd → Nat
  | .lfp _ vs _ => n ^ vs.length * n ^ vs.length
  | .pfp _ vs _ => 2 ^ (min (n ^ vs.length) b) * n ^ vs.length
  | .gs _ k => 2 ^ (min (n ^ k) b)
  | .ex vs => n ^ vs.length
  | .al vs => n ^ vs.length
  | .tc vs _ => n ^ vs.length
  | _ => 1
def Fm.cost (n : Nat) : Fm → Nat := Fm.fold fun h xs => min (1 + h.repB 30 n * sumN xs) B9
theorem Fm.cost_mk (n : Nat) (h : Hd) (ps : List Fm) : (Fm.mk h ps).cost n = min (1 + h.repB 30 n * sumN (ps.map (Fm.cost n))) B9 := Fm.fold_mk _ h ps
theorem cost_pos (n : Nat) (f : Fm) : 1 ≤ f.cost n := by
  obtain ⟨h, ps⟩ := f
  rw [Fm.cost_mk]
  exact Nat.le_min.mpr ⟨Nat.le_add_right _ _, by decide⟩
theorem cost_le (n : Nat) (f : Fm) : f.cost n ≤ B9 := by
  obtain ⟨h, ps⟩ := f
  rw [Fm.cost_mk]
  exact Nat.min_le_right _ _
theorem sumN_le {b : Nat} : ∀ (xs : List Nat), (∀ x, x ∈ xs → x ≤ b) → sumN xs ≤ xs.length * b
  | [], _ => Nat.zero_le _
  | x :: xs, h => by
    have a := h x (List.mem_cons_self ..)
    have c := sumN_le xs fun y hy => h y (List.mem_cons_of_mem _ hy)
    show x + sumN xs ≤ (xs.length + 1) * b
    rw [Nat.succ_mul]
    omega
theorem sum_cost_le (n : Nat) (ps : List Fm) (l : ps.length ≤ 40) : sumN (ps.map (Fm.cost n)) ≤ 40000000000 := by
  have a := sumN_le (b := B9) (ps.map (Fm.cost n)) fun x hx => by
    obtain ⟨g, _, rfl⟩ := List.mem_map.mp hx
    exact cost_le n g
  rw [List.length_map] at a
  have b : ps.length * B9 ≤ 40 * B9 := Nat.mul_le_mul_right _ l
  have c : 40 * B9 = 40000000000 := by decide
  omega
theorem own_le {h : Hd} {n : Nat} (k : h.Ok n) : h.own.length ≤ 8 := by
  cases h with
  | rel m as => exact Nat.zero_le _
  | eq x y => exact Nat.zero_le _
  | less x y => exact Nat.zero_le _
  | no => exact Nat.zero_le _
  | con => exact Nat.zero_le _
  | dis => exact Nat.zero_le _
  | ex vs => have := k.1.2.1; exact Nat.le_trans this (by decide)
  | al vs => have := k.1.2.1; exact Nat.le_trans this (by decide)
  | lfp m vs as => have := k.2.1.2.1; exact Nat.le_trans this (by decide)
  | pfp m vs as => have := k.2.1.2.1; exact Nat.le_trans this (by decide)
  | tc vs as => show vs.length ≤ 8; have := k.1; omega
  | gs m j => exact Nat.zero_le _
theorem pow16 {m k j : Nat} (hm : m ≤ 16) (hk : k ≤ j) : m ^ k ≤ 16 ^ j := Nat.le_trans (Nat.pow_le_pow_left hm k) (Nat.pow_le_pow_right (by decide) hk)
theorem two30 (x : Nat) : 2 ^ (min x 30) ≤ 1073741824 := Nat.le_trans (Nat.pow_le_pow_right (by decide) (Nat.min_le_right _ _)) (by decide)
theorem two40 (x : Nat) : 2 ^ (min x 40) ≤ 1099511627776 := Nat.le_trans (Nat.pow_le_pow_right (by decide) (Nat.min_le_right _ _)) (by decide)
theorem rep_le {h : Hd} {n m : Nat} (k : h.Ok n) (hm : m ≤ 16) : h.repB 30 m ≤ 18014398509481984 := by
  have o := own_le k
  cases h with
  | rel m as => show 1 ≤ _; decide
  | eq x y => show 1 ≤ _; decide
  | less x y => show 1 ≤ _; decide
  | no => show 1 ≤ _; decide
  | con => show 1 ≤ _; decide
  | dis => show 1 ≤ _; decide
  | ex vs => exact Nat.le_trans (pow16 hm o) (by decide)
  | al vs => exact Nat.le_trans (pow16 hm o) (by decide)
  | tc vs as => exact Nat.le_trans (pow16 hm o) (by decide)
  | lfp x vs as =>
    have a : m ^ vs.length ≤ 16 ^ 6 := pow16 hm k.2.1.2.1
    exact Nat.le_trans (Nat.mul_le_mul a a) (by decide)
  | pfp x vs as =>
    have a : m ^ vs.length ≤ 16 ^ 6 := pow16 hm k.2.1.2.1
    exact Nat.le_trans (Nat.mul_le_mul (two30 _) a) (by decide)
  | gs x j => exact Nat.le_trans (two30 _) (by decide)
/-- 2 to the power 30 is as much as 2 to the power 40, where only 10 ** 9 counts -/
theorem cut_same {N t c : Nat} (hc : 1 ≤ c) (ht : 1 ≤ t) : min (1 + 2 ^ (min N 30) * t * c) B9 = min (1 + 2 ^ (min N 40) * t * c) B9 := by
  by_cases h : N ≤ 30
  · rw [Nat.min_eq_left h, Nat.min_eq_left (show N ≤ 40 by omega)]
  · have e : min N 30 = 30 := Nat.min_eq_right (by omega)
    have f : 30 ≤ min N 40 := Nat.le_min.mpr ⟨by omega, by decide⟩
    have tc : 1 ≤ t * c := Nat.mul_pos ht hc
    have big : ∀ k, 30 ≤ k → B9 ≤ 1 + 2 ^ k * t * c := fun k hk => by
      have a : 2 ^ 30 ≤ 2 ^ k := Nat.pow_le_pow_right (by decide) hk
      have b : 2 ^ k * 1 ≤ 2 ^ k * (t * c) := Nat.mul_le_mul_left _ tc
      rw [Nat.mul_assoc]
      have d : B9 ≤ 2 ^ 30 := by decide
      omega
    rw [e, Nat.min_eq_right (big 30 (Nat.le_refl _)), Nat.min_eq_right (big _ f)]
theorem cost_law {h : Hd} {ps : List Fm} {m : Nat} (k : h.Ok ps.length) (hm : 1 ≤ m) : (Fm.mk h ps).cost m = min B9 (1 + h.repB 40 m * sumN (ps.map (Fm.cost m))) := by
  rw [Fm.cost_mk, Nat.min_comm B9]
  have one : ps.length = 1 → 1 ≤ sumN (ps.map (Fm.cost m)) := fun l => by
    obtain ⟨g, rfl⟩ := List.length_eq_one_iff.mp l
    show 1 ≤ g.cost m + 0
    have := cost_pos m g
    omega
  cases h with
  | pfp x vs as => exact cut_same (one k.2.2.2.2) (Nat.pow_pos hm)
  | gs x j =>
    have z := cut_same (N := m ^ j) (t := 1) (one k.2.2) (Nat.le_refl 1)
    rw [Nat.mul_one, Nat.mul_one] at z
    exact z
  | _ => rfl
theorem minI {a b : Nat} : (if ((b : Nat) : Int) < ((a : Nat) : Int) then ((b : Nat) : Int) else ((a : Nat) : Int)) = ((min a b : Nat) : Int) := by
  by_cases h : b < a
  · rw [if_pos (by omega), Nat.min_eq_right (by omega)]
  · rw [if_neg (by omega), Nat.min_eq_left (by omega)]
theorem kw_guess : ∀ k : Kd, decide (V.str k.word = V.str "guess") = decide (k = .gs) := by intro k; cases k <;> decide +kernel
theorem cmulL {a : Nat} {j : Int} (h : a < 18446744073709551616) : CMul (a : Int) j := .inl ⟨by omega, by omega⟩
theorem cmulR {a : Nat} {i : Int} (h : a < 18446744073709551616) : CMul i (a : Int) := .inr ⟨by omega, by omega⟩
theorem shl_eq (n : Nat) : (1 : Int) * 2 ^ ((n : Nat) : Int).toNat = ((2 ^ n : Nat) : Int) := by rw [Int.one_mul, Int.toNat_natCast, Int.natCast_pow]; rfl
theorem cpow1 {n : Nat} (h : n ≤ 1000) : CPow 1 (n : Int) := ⟨by omega, by omega, by decide⟩
def spPower : Sp := fun vs H Q _ => ∃ b e : Nat, vs = [.int (b : Nat), .int (e : Nat)] ∧ 1 ≤ b ∧ b ^ e < 18446744073709551616 ∧ e ≤ 1000 ∧ Q (.int (b ^ e : Nat)) H
def spDoub : Sp := fun vs H Q _ => ∃ c : Nat, vs = [.int (c : Nat)] ∧ Q (.int (2 ^ (min c 30) : Nat)) H
def spRep (K : PySem.W.Frag) : Sp := fun vs H Q _ => ∃ (v : V) (m : Nat) (h : Hd) (ds : List PyData), vs = [v, .int (m : Nat)] ∧ (1 ≤ m ∧ m ≤ 16) ∧ Dp K H v (h.data ds) ∧ h.Ok ds.length ∧ ∀ (H' : Hp), Same H H' → Q (.int (h.repB 30 m : Nat)) H'
def spCostK (K : PySem.W.Frag) (n : Nat) : Sp := fun vs H Q _ => ∃ (v : V) (m : Nat) (f : Fm), vs = [v, .int (m : Nat)] ∧ (1 ≤ m ∧ m ≤ 16) ∧ Dp K H v f.data ∧ f.Ok ∧ f.dep ≤ n ∧ ∀ (H' : Hp), Same H H' → Q (.int (f.cost m : Nat)) H'
section
variable {P : Program} {w : World} {K : PySem.W.Frag} {mg : Str → Option Value} {base : Heap}
theorem sc_power : FnScope ["base", "exponent", "result", "_"] ["base", "exponent"] (defScope (top 7)) := ⟨rfl, rfl, rfl, by decide +kernel, rfl, by decide +kernel, by decide +kernel⟩
theorem has_power (D : Def K mg "power" ["base", "exponent"] (top 7)) (T : Txt mg) : Has P w K mg base 1 "power" ["base", "exponent"] spPower := D.has fun f fd F => by
  refine F.ok sc_power (fun vs H Q E h => ?_) (fun cdv A outer s H vs Q E hr h => ?_)
  · obtain ⟨b, e, rfl, _⟩ := h; rfl
  · obtain ⟨b, e, rfl, hb, hlt, he, q⟩ := h
    refine ⟨_, PSs.nox (pss_cons (ps_set (i := 2) sc_power.nd rfl (Or.inl rfl) pe_int) (pss_cons (ps_for PassesOwn.never rfl (pi_range1 (by rfl) T.n_range (pa_cons (pv 1) pa_nil)) (pg_name (i := 3) sc_power.nd rfl (Or.inl rfl)) (pss_one (ps_set (i := 2) sc_power.nd rfl (Or.inl rfl) (pe_op op_mul (pv 2) (pv 0))))) (pss_one (ps_ret (pv 2))))), ?_⟩
    refine ⟨_, rfl, e, rfl, by omega, by omega, for_range (n := e) (fun i σ H2 => ∃ y3, σ = [some (.int (b : Nat)), some (.int (e : Nat)), some (.int (b ^ i : Nat)), y3] ∧ H2 = H) ⟨none, rfl, rfl⟩ ?_ ?_⟩
    · rintro i σ H2 hi ⟨y3, rfl, rfl⟩
      have le : b ^ i ≤ b ^ e := Nat.pow_le_pow_right hb (by omega)
      refine ⟨_, rfl, _, rfl, _, _, rfl, rfl, cmulL (by omega), ?_⟩
      refine ⟨some (.int (0 + (i : Int))), ?_, rfl⟩
      rw [Nat.pow_succ, Int.natCast_mul]
      rfl
    · rintro σ H2 ⟨y3, rfl, rfl⟩
      exact ⟨_, rfl, q⟩
theorem sc_doublings : FnScope ["count"] ["count"] (defScope (top 51)) := ⟨rfl, rfl, rfl, by decide +kernel, rfl, by decide +kernel, by decide +kernel⟩
theorem has_doublings (D : Def K mg "doublings" ["count"] (top 51)) (T : Txt mg) (k1 : ∃ t, mg "ENOUGH_DOUBLINGS" = some (.int 30 t)) (C1 : Has P w K mg base 1 "power" ["base", "exponent"] spPower) : Has P w K mg base 2 "doublings" ["count"] spDoub := D.has fun f fd F => by
  obtain ⟨f1, fd1, G_power, g_power, k_power, b_power⟩ := C1
  obtain ⟨t1, c_ENOUGH_DOUBLINGS⟩ := k1
  refine F.ok sc_doublings (fun vs H Q E h => ?_) (fun cdv A outer s H vs Q E hr h => ?_)
  · obtain ⟨c, rfl, _⟩ := h; rfl
  · obtain ⟨c, rfl, q⟩ := h
    have R_power : Room 1 _ := hr
    refine ⟨_, PSs.nox (pss_one (ps_ret (pe_call G_power R_power (by rfl) g_power k_power b_power .nil pass0 (pa_cons pe_int (pa_cons (pe_callB (call_min2 rfl) (by rfl) T.n_min (by decide +kernel) (pa_cons (pv 0) (pa_cons (pe_glob (v := .int 30) (by rfl) c_ENOUGH_DOUBLINGS ⟨_, rfl⟩) pa_nil))) pa_nil))))), ?_⟩
    refine ⟨_, rfl, _, _, rfl, ?_⟩
    have e : (if (30 : Int) < ((c : Nat) : Int) then (30 : Int) else ((c : Nat) : Int)) = ((min c 30 : Nat) : Int) := minI (b := 30)
    have l := two30 c
    refine ⟨2, min c 30, by rw [e]; rfl, by decide, by omega, by have := Nat.min_le_right c 30; omega, q⟩
theorem sc_repetitions : FnScope ["formula", "n", "count"] ["formula", "n"] (defScope (top 52)) := ⟨rfl, rfl, rfl, by decide +kernel, rfl, by decide +kernel, by decide +kernel⟩
theorem has_repetitions (D : Def K mg "_repetitions" ["formula", "n"] (top 52)) (T : Txt mg) (C1 : Has P w K mg base 1 "power" ["base", "exponent"] spPower) (C2 : Has P w K mg base 2 "doublings" ["count"] spDoub) (C3 : Has P w K mg base 1 "own" ["formula"] (spOwn K)) :
    Has P w K mg base 3 "_repetitions" ["formula", "n"] (spRep K) := D.has fun f fd F => by
  obtain ⟨f1, fd1, G_power, g_power, k_power, b_power⟩ := C1
  obtain ⟨f2, fd2, G_doublings, g_doublings, k_doublings, b_doublings⟩ := C2
  obtain ⟨f3, fd3, G_own, g_own, k_own, b_own⟩ := C3
  refine F.ok sc_repetitions (fun vs H Q E h => ?_) (fun cdv A outer s H vs Q E hr h => ?_)
  · obtain ⟨v, m, h, ds, rfl, _⟩ := h; rfl
  · obtain ⟨v, m, h, ds, rfl, ⟨m1, m2⟩, dp, ok, q⟩ := h
    have R_power : Room 1 _ := hr.mono (by decide)
    have R_doublings : Room 2 _ := hr
    have R_own : Room 1 _ := hr.mono (by decide)
    refine ⟨_, PSs.nox (pss_cons (ps_set (i := 2) sc_repetitions.nd rfl (Or.inl rfl) (pe_call G_power R_power (by rfl) g_power k_power b_power .nil pass0 (pa_cons (pv 1) (pa_cons (pe_callB call_len_seq (by rfl) T.n_len PySem.boot_len (pa_cons (pe_call G_own R_own (by rfl) g_own k_own b_own .nil pass0 (pa_cons (pv 0) pa_nil)) pa_nil)) pa_nil)))) (pss_cons (ps_if (pt_cmpR op_eq (pe_ix ix_tup (pv 0) pe_int (fun _ _ => rfl)) pe_str (nomark _)) (pss_one (ps_ret (pe_op op_mul (pv 2) (pv 2)))) pss_nil) (pss_cons (ps_if (pt_cmpR op_eq (pe_ix ix_tup (pv 0) pe_int (fun _ _ => rfl)) pe_str (nomark _)) (pss_one (ps_ret (pe_op op_mul (pe_call G_doublings R_doublings (by rfl) g_doublings k_doublings b_doublings .nil pass0 (pa_cons (pv 2) pa_nil)) (pv 2)))) pss_nil) (pss_cons (ps_if (pt_cmpR op_eq (pe_ix ix_tup (pv 0) pe_int (fun _ _ => rfl)) pe_str (nomark _)) (pss_one (ps_ret (pe_call G_doublings R_doublings (by rfl) g_doublings k_doublings b_doublings .nil pass0 (pa_cons (pe_call G_power R_power (by rfl) g_power k_power b_power .nil pass0 (pa_cons (pv 1) (pa_cons (pe_ix ix_tup (pv 0) pe_int (fun _ _ => rfl)) pa_nil))) pa_nil)))) pss_nil) (pss_one (ps_ret (pv 2))))))), ?_⟩
    have o := own_le ok
    have pw : m ^ h.own.length ≤ 16 ^ 8 := pow16 m2 o
    have e8 : (16 : Nat) ^ 8 = 4294967296 := by decide
    refine ⟨_, rfl, _, rfl, v, h, _, rfl, dp, ok.fits, fun H1 r s1 hr1 => ?_⟩
    obtain ⟨t, rfl, ht⟩ := tS_inv hr1
    have ol : (h.own.map V.str).length = h.own.length := List.length_map ..
    refine ⟨t, _, rfl, .inr ht, m, h.own.length, by rw [ol]; rfl, m1, by omega, by omega, ?_⟩
    have dp1 := Dp.same s1 dp
    obtain ⟨a, xs, rfl, hT, hx⟩ := hd_inv dp1
    have z := q H1 s1
    refine ⟨_, rfl, a, _, _, _, rfl, rfl, hT, atI_nat (j := 0) rfl, rfl, _, rfl, ?_⟩
    cases h with
    | lfp x vs as =>
      refine cT (k := decide (V.str "lfp" = V.str "lfp")) (by decide +kernel) ?_
      have a6 : m ^ vs.length ≤ 16 ^ 6 := pow16 m2 ok.2.1.2.1
      have z2 : Q (.int ((m ^ vs.length : Nat) * (m ^ vs.length : Nat) : Int)) H1 := by rw [← Int.natCast_mul]; exact z
      exact ⟨_, rfl, _, rfl, _, _, rfl, rfl, cmulL (Nat.lt_of_le_of_lt a6 (by decide)), z2⟩
    | pfp x vs as =>
      refine cF (k := decide (V.str "pfp" = V.str "lfp")) (by decide +kernel) ?_
      refine ⟨_, rfl, a, _, _, _, rfl, rfl, hT, atI_nat (j := 0) rfl, rfl, _, rfl, ?_⟩
      refine cT (k := decide (V.str "pfp" = V.str "pfp")) (by decide +kernel) ?_
      have l := two30 (m ^ vs.length)
      have z2 : Q (.int ((2 ^ (min (m ^ vs.length) 30) : Nat) * (m ^ vs.length : Nat) : Int)) H1 := by rw [← Int.natCast_mul]; exact z
      refine ⟨_, rfl, m ^ vs.length, rfl, ⟨_, rfl, _, _, rfl, rfl, cmulL (Nat.lt_of_le_of_lt l (by decide)), z2⟩⟩
    | gs x j =>
      refine cF (k := decide (V.str "guess" = V.str "lfp")) (by decide +kernel) ?_
      refine ⟨_, rfl, a, _, _, _, rfl, rfl, hT, atI_nat (j := 0) rfl, rfl, _, rfl, ?_⟩
      refine cF (k := decide (V.str "guess" = V.str "pfp")) (by decide +kernel) ?_
      refine ⟨_, rfl, a, _, _, _, rfl, rfl, hT, atI_nat (j := 0) rfl, rfl, _, rfl, ?_⟩
      refine cT (k := decide (V.str "guess" = V.str "guess")) (by decide +kernel) ?_
      obtain ⟨v1, w1, rfl, e1, hx⟩ := DpAll.cons_inv hx
      obtain ⟨v2, w2, rfl, e2, hx⟩ := DpAll.cons_inv hx
      obtain rfl := Dp.int_inv e2
      have j3 : j ≤ 3 := ok.2.1
      have a3 : m ^ j ≤ 16 ^ 3 := pow16 m2 j3
      have e3 : (16 : Nat) ^ 3 = 4096 := by decide
      exact ⟨_, rfl, _, rfl, a, _, _, _, rfl, rfl, hT, atI_nat (j := 2) rfl, m, j, rfl, m1, by omega, by omega, m ^ j, rfl, z⟩
    | rel n as =>
      refine cF (k := decide (V.str "rel" = V.str "lfp")) (by decide +kernel) ?_
      refine ⟨_, rfl, a, _, _, _, rfl, rfl, hT, atI_nat (j := 0) rfl, rfl, _, rfl, ?_⟩
      refine cF (k := decide (V.str "rel" = V.str "pfp")) (by decide +kernel) ?_
      refine ⟨_, rfl, a, _, _, _, rfl, rfl, hT, atI_nat (j := 0) rfl, rfl, _, rfl, ?_⟩
      refine cF (k := decide (V.str "rel" = V.str "guess")) (by decide +kernel) ?_
      exact ⟨_, rfl, z⟩
    | eq x y =>
      refine cF (k := decide (V.str "eq" = V.str "lfp")) (by decide +kernel) ?_
      refine ⟨_, rfl, a, _, _, _, rfl, rfl, hT, atI_nat (j := 0) rfl, rfl, _, rfl, ?_⟩
      refine cF (k := decide (V.str "eq" = V.str "pfp")) (by decide +kernel) ?_
      refine ⟨_, rfl, a, _, _, _, rfl, rfl, hT, atI_nat (j := 0) rfl, rfl, _, rfl, ?_⟩
      refine cF (k := decide (V.str "eq" = V.str "guess")) (by decide +kernel) ?_
      exact ⟨_, rfl, z⟩
    | less x y =>
      refine cF (k := decide (V.str "less" = V.str "lfp")) (by decide +kernel) ?_
      refine ⟨_, rfl, a, _, _, _, rfl, rfl, hT, atI_nat (j := 0) rfl, rfl, _, rfl, ?_⟩
      refine cF (k := decide (V.str "less" = V.str "pfp")) (by decide +kernel) ?_
      refine ⟨_, rfl, a, _, _, _, rfl, rfl, hT, atI_nat (j := 0) rfl, rfl, _, rfl, ?_⟩
      refine cF (k := decide (V.str "less" = V.str "guess")) (by decide +kernel) ?_
      exact ⟨_, rfl, z⟩
    | no =>
      refine cF (k := decide (V.str "not" = V.str "lfp")) (by decide +kernel) ?_
      refine ⟨_, rfl, a, _, _, _, rfl, rfl, hT, atI_nat (j := 0) rfl, rfl, _, rfl, ?_⟩
      refine cF (k := decide (V.str "not" = V.str "pfp")) (by decide +kernel) ?_
      refine ⟨_, rfl, a, _, _, _, rfl, rfl, hT, atI_nat (j := 0) rfl, rfl, _, rfl, ?_⟩
      refine cF (k := decide (V.str "not" = V.str "guess")) (by decide +kernel) ?_
      exact ⟨_, rfl, z⟩
    | con =>
      refine cF (k := decide (V.str "and" = V.str "lfp")) (by decide +kernel) ?_
      refine ⟨_, rfl, a, _, _, _, rfl, rfl, hT, atI_nat (j := 0) rfl, rfl, _, rfl, ?_⟩
      refine cF (k := decide (V.str "and" = V.str "pfp")) (by decide +kernel) ?_
      refine ⟨_, rfl, a, _, _, _, rfl, rfl, hT, atI_nat (j := 0) rfl, rfl, _, rfl, ?_⟩
      refine cF (k := decide (V.str "and" = V.str "guess")) (by decide +kernel) ?_
      exact ⟨_, rfl, z⟩
    | dis =>
      refine cF (k := decide (V.str "or" = V.str "lfp")) (by decide +kernel) ?_
      refine ⟨_, rfl, a, _, _, _, rfl, rfl, hT, atI_nat (j := 0) rfl, rfl, _, rfl, ?_⟩
      refine cF (k := decide (V.str "or" = V.str "pfp")) (by decide +kernel) ?_
      refine ⟨_, rfl, a, _, _, _, rfl, rfl, hT, atI_nat (j := 0) rfl, rfl, _, rfl, ?_⟩
      refine cF (k := decide (V.str "or" = V.str "guess")) (by decide +kernel) ?_
      exact ⟨_, rfl, z⟩
    | ex us =>
      refine cF (k := decide (V.str "some" = V.str "lfp")) (by decide +kernel) ?_
      refine ⟨_, rfl, a, _, _, _, rfl, rfl, hT, atI_nat (j := 0) rfl, rfl, _, rfl, ?_⟩
      refine cF (k := decide (V.str "some" = V.str "pfp")) (by decide +kernel) ?_
      refine ⟨_, rfl, a, _, _, _, rfl, rfl, hT, atI_nat (j := 0) rfl, rfl, _, rfl, ?_⟩
      refine cF (k := decide (V.str "some" = V.str "guess")) (by decide +kernel) ?_
      exact ⟨_, rfl, z⟩
    | al us =>
      refine cF (k := decide (V.str "all" = V.str "lfp")) (by decide +kernel) ?_
      refine ⟨_, rfl, a, _, _, _, rfl, rfl, hT, atI_nat (j := 0) rfl, rfl, _, rfl, ?_⟩
      refine cF (k := decide (V.str "all" = V.str "pfp")) (by decide +kernel) ?_
      refine ⟨_, rfl, a, _, _, _, rfl, rfl, hT, atI_nat (j := 0) rfl, rfl, _, rfl, ?_⟩
      refine cF (k := decide (V.str "all" = V.str "guess")) (by decide +kernel) ?_
      exact ⟨_, rfl, z⟩
    | tc us as =>
      refine cF (k := decide (V.str "tc" = V.str "lfp")) (by decide +kernel) ?_
      refine ⟨_, rfl, a, _, _, _, rfl, rfl, hT, atI_nat (j := 0) rfl, rfl, _, rfl, ?_⟩
      refine cF (k := decide (V.str "tc" = V.str "pfp")) (by decide +kernel) ?_
      refine ⟨_, rfl, a, _, _, _, rfl, rfl, hT, atI_nat (j := 0) rfl, rfl, _, rfl, ?_⟩
      refine cF (k := decide (V.str "tc" = V.str "guess")) (by decide +kernel) ?_
      exact ⟨_, rfl, z⟩
theorem sc_known_cost : FnScope ["formula", "n", "within", "part"] ["formula", "n"] (defScope (top 53)) := ⟨rfl, rfl, rfl, by decide +kernel, rfl, by decide +kernel, by decide +kernel⟩
theorem has_known_cost (D : Def K mg "known_cost" ["formula", "n"] (top 53)) (T : Txt mg) (k1 : ∃ t, mg "LARGEST_COST" = some (.int 1000000000 t)) (C1 : Has P w K mg base 1 "inner" ["formula"] (spInner K)) (C2 : Has P w K mg base 3 "_repetitions" ["formula", "n"] (spRep K)) :
    ∀ n : Nat, Has P w K mg base (4 + n) "known_cost" ["formula", "n"] (spCostK K n) := by
  obtain ⟨f1, fd1, G_inner, g_inner, k_inner, b_inner⟩ := C1
  obtain ⟨f2, fd2, G_repetitions, g_repetitions, k_repetitions, b_repetitions⟩ := C2
  obtain ⟨t1, c_LARGEST_COST⟩ := k1
  intro n
  induction n with
  | zero =>
    refine D.has fun f fd F => F.ok sc_known_cost (fun vs H Q E h => ?_) (fun cdv A outer s H vs Q E hr h => ?_)
    · obtain ⟨v, m, f, rfl, _⟩ := h; rfl
    · obtain ⟨v, m, f, rfl, _, _, _, h0, _⟩ := h
      have := dep_pos f
      omega
  | succ n ih =>
    obtain ⟨f4, fd4, G_known_cost, g_known_cost, k_known_cost, b_known_cost⟩ := ih
    refine D.has fun f fd F => F.ok sc_known_cost (fun vs H Q E h => ?_) (fun cdv A outer s H vs Q E hr h => ?_)
    · obtain ⟨v, m, f, rfl, _⟩ := h; rfl
    · obtain ⟨v, m, f, rfl, ⟨m1, m2⟩, dp, ok, hn, q⟩ := h
      have R_inner : Room 1 _ := hr.mono (Nat.le_trans (by decide) (Nat.le_add_right 4 n))
      have R_repetitions : Room 3 _ := hr.mono (Nat.le_trans (by decide) (Nat.le_add_right 4 n))
      have R_known_cost : Room (4 + n) _ := hr
      refine ⟨_, PSs.nox (pss_cons (ps_set (i := 2) sc_known_cost.nd rfl (Or.inl rfl) (pe_callB (cr_sum rfl) (by rfl) T.n_sum (by decide +kernel) (pa_cons (pe_lc (own := [("part", 3)]) rfl sc_known_cost.nd (pi_tup (pe_call G_inner R_inner (by rfl) g_inner k_inner b_inner .nil pass0 (pa_cons (pv 0) pa_nil))) (blkOk_by (N := ["formula", "n", "within", "part"]) (sc := defScope (top 53)) (by decide +kernel)) (fun _ _ _ _ _ => (pg_name (i := 3) sc_known_cost.nd rfl (Or.inl rfl))) (fun _ _ _ _ _ => pts_nil) (fun _ _ _ _ _ => (pe_call G_known_cost R_known_cost (by rfl) g_known_cost k_known_cost b_known_cost .nil pass0 (pa_cons (pv 3) (pa_cons (pv 1) pa_nil))))) pa_nil))) (pss_one (ps_ret (pe_callB (call_min2 rfl) (by rfl) T.n_min (by decide +kernel) (pa_cons (pe_op op_add pe_int (pe_op op_mul (pe_call G_repetitions R_repetitions (by rfl) g_repetitions k_repetitions b_repetitions .nil pass0 (pa_cons (pv 0) (pa_cons (pv 1) pa_nil))) (pv 2))) (pa_cons (pe_glob (v := .int 1000000000) (by rfl) c_LARGEST_COST ⟨_, rfl⟩) pa_nil)))))), ?_⟩
      obtain ⟨h, ps⟩ := f
      rw [Fm.data_mk] at dp
      have fit : h.Ok (ps.map Fm.data).length := by rw [List.length_map]; exact ok.hd_
      have p40 : ps.length ≤ 40 := parts_len ok.hd_
      refine ⟨_, rfl, v, h, _, rfl, dp, fit.fits, fun H1 r s1 hr1 => ?_⟩
      obtain ⟨b, ys, rfl, hb, hy⟩ := Dp.tup_inv hr1
      refine ⟨b, rfl, ⟨_, hb⟩, fun L nL => ?_⟩
      refine lc_it (walk_tup (K := K) (a := b) (xs := ys)) (fun i H2 => Same H1 H2 ∧ H2 L = some (.lst (((ps.take i).map fun p => ((Fm.cost m p : Nat) : Int)).map V.int))) ⟨same_upd nL, upd_same⟩ (fun i H2 _ ⟨s2, _⟩ => Same.sqt s2 hb) ?_ ?_
      · rintro i y H2 H3 hi ⟨s2, hL⟩ ⟨rfl, hy2⟩
        obtain ⟨dd, hd, dpy⟩ := DpAll.get' hy hy2
        obtain ⟨g, hg, rfl⟩ := get_map hd
        have mem := List.mem_of_getElem? hg
        have dl : g.dep < (Fm.mk h ps).dep := dep_part mem
        refine ⟨rfl, _, rfl, _, rfl, y, m, g, rfl, ⟨m1, m2⟩, Dp.same s2 dpy, ok.part mem, by omega, fun H4 s4 => ⟨_, s4 _ _ hL, ?_, fun b o eb => ?_, ?_⟩⟩
        · rw [List.length_map, List.length_map]
          have := List.length_take_le' i ps
          exact small1000 (by omega)
        · rw [upd_ne (ne_of_none eb nL)]
          exact s4 _ _ (s2 _ _ eb)
        · rw [upd_same, List.take_add_one, hg, List.map_append, List.map_append]
          rfl
      · rintro H2 ⟨s2, hL⟩
        have eyl : ys.length = ps.length := by rw [DpAll.length hy, List.length_map]
        rw [List.take_of_length_le (show ps.length ≤ ys.length by omega)] at hL
        have sAll : Same H H2 := s1.trans s2
        refine ⟨L, _, rfl, SqL.of hL, ?_⟩
        rw [sumI_map]
        refine ⟨_, rfl, _, rfl, v, m, h, _, rfl, ⟨m1, m2⟩, Dp.same sAll dp, fit, fun H3 s3 => ?_⟩
        have rl := rep_le ok.hd_ m2
        have sl := sum_cost_le m ps p40
        refine ⟨_, rfl, _, _, rfl, rfl, cmulL (Nat.lt_of_le_of_lt rl (by decide)), _, _, rfl, rfl, _, _, rfl, ?_⟩
        have z := q H3 (sAll.trans s3)
        rw [Fm.cost_mk, ← minI] at z
        rw [Int.natCast_add, Int.natCast_mul] at z
        exact z
theorem sc_lcost : FnScope ["f", "n", "inner_v", "power_v", "x", "k", "part"] ["f", "n"] (defScope (top 71)) := ⟨rfl, rfl, rfl, by decide +kernel, rfl, by decide +kernel, by decide +kernel⟩
theorem has_lcost (D : Def K mg "_law_cost" ["f", "n"] (top 71)) (T : Txt mg) (C1 : Has P w K mg base 1 "_law_parts" ["f"] (spParts K)) (C2 : Has P w K mg base 1 "_law_bound_here" ["f"] (spLook K fun f => tS f.hd.own)) :
    ∀ n : Nat, Has P w K mg base (2 + n) "_law_cost" ["f", "n"] (spCostK K n) := by
  obtain ⟨f1, fd1, G_law_parts, g_law_parts, k_law_parts, b_law_parts⟩ := C1
  obtain ⟨f2, fd2, G_law_bound_here, g_law_bound_here, k_law_bound_here, b_law_bound_here⟩ := C2
  intro n
  induction n with
  | zero =>
    refine D.has fun f fd F => F.ok sc_lcost (fun vs H Q E h => ?_) (fun cdv A outer s H vs Q E hr h => ?_)
    · obtain ⟨v, m, f, rfl, _⟩ := h; rfl
    · obtain ⟨v, m, f, rfl, _, _, _, h0, _⟩ := h
      have := dep_pos f
      omega
  | succ n ih =>
    obtain ⟨f4, fd4, G_law_cost, g_law_cost, k_law_cost, b_law_cost⟩ := ih
    refine D.has fun f fd F => F.ok sc_lcost (fun vs H Q E h => ?_) (fun cdv A outer s H vs Q E hr h => ?_)
    · obtain ⟨v, m, f, rfl, _⟩ := h; rfl
    · obtain ⟨v, m, f, rfl, ⟨m1, m2⟩, dp, ok, hn, q⟩ := h
      have R_law_parts : Room 1 _ := hr.mono (Nat.le_trans (by decide) (Nat.le_add_right 2 n))
      have R_law_bound_here : Room 1 _ := hr.mono (Nat.le_trans (by decide) (Nat.le_add_right 2 n))
      have R_law_cost : Room (2 + n) _ := hr
      refine ⟨_, PSs.nox (pss_cons (ps_set (i := 2) sc_lcost.nd rfl (Or.inl rfl) (pe_callB (cr_sum rfl) (by rfl) T.n_sum (by decide +kernel) (pa_cons (pe_lc (own := [("part", 6)]) rfl sc_lcost.nd (pi_list (pe_call G_law_parts R_law_parts (by rfl) g_law_parts k_law_parts b_law_parts .nil pass0 (pa_cons (pv 0) pa_nil))) (blkOk_by (N := ["f", "n", "inner_v", "power_v", "x", "k", "part"]) (sc := defScope (top 71)) (by decide +kernel)) (fun _ _ _ _ _ => (pg_name (i := 6) sc_lcost.nd rfl (Or.inl rfl))) (fun _ _ _ _ _ => pts_nil) (fun _ _ _ _ _ => (pe_call G_law_cost R_law_cost (by rfl) g_law_cost k_law_cost b_law_cost .nil pass0 (pa_cons (pv 6) (pa_cons (pv 1) pa_nil))))) pa_nil))) (pss_cons (ps_set (i := 3) sc_lcost.nd rfl (Or.inl rfl) pe_int) (pss_cons (ps_for PassesOwn.never rfl (pi_tup (pe_call G_law_bound_here R_law_bound_here (by rfl) g_law_bound_here k_law_bound_here b_law_bound_here .nil pass0 (pa_cons (pv 0) pa_nil))) (pg_name (i := 4) sc_lcost.nd rfl (Or.inl rfl)) (pss_one (ps_set (i := 3) sc_lcost.nd rfl (Or.inl rfl) (pe_op op_mul (pv 3) (pv 1))))) (pss_cons (ps_if (pt_cmpR op_in_seq (pe_ix ix_tup (pv 0) pe_int (fun _ _ => rfl)) (pe_lst (pa_cons pe_str (pa_cons pe_str (pa_cons pe_str pa_nil)))) (by rfl)) (pss_one (ps_ret (pe_callB (call_min2 rfl) (by rfl) T.n_min (by decide +kernel) (pa_cons (pe_op op_pow pe_int pe_int) (pa_cons (pe_op op_add pe_int (pe_op op_mul (pv 3) (pv 2))) pa_nil))))) pss_nil) (pss_cons (ps_if (pt_cmpR op_eq (pe_ix ix_tup (pv 0) pe_int (fun _ _ => rfl)) pe_str (nomark _)) (pss_one (ps_ret (pe_callB (call_min2 rfl) (by rfl) T.n_min (by decide +kernel) (pa_cons (pe_op op_pow pe_int pe_int) (pa_cons (pe_op op_add pe_int (pe_op op_mul (pe_op op_mul (pv 3) (pv 3)) (pv 2))) pa_nil))))) pss_nil) (pss_cons (ps_if (pt_cmpR op_eq (pe_ix ix_tup (pv 0) pe_int (fun _ _ => rfl)) pe_str (nomark _)) (pss_one (ps_ret (pe_callB (call_min2 rfl) (by rfl) T.n_min (by decide +kernel) (pa_cons (pe_op op_pow pe_int pe_int) (pa_cons (pe_op op_add pe_int (pe_op op_mul (pe_op op_mul (pe_op op_shl pe_int (pe_callB (call_min2 rfl) (by rfl) T.n_min (by decide +kernel) (pa_cons (pv 3) (pa_cons pe_int pa_nil)))) (pv 3)) (pv 2))) pa_nil))))) pss_nil) (pss_cons (ps_if (pt_cmpR op_eq (pe_ix ix_tup (pv 0) pe_int (fun _ _ => rfl)) pe_str (nomark _)) (pss_cons (ps_for PassesOwn.never rfl (pi_range1 (by rfl) T.n_range (pa_cons (pe_ix ix_tup (pv 0) pe_int (fun _ _ => rfl)) pa_nil)) (pg_name (i := 5) sc_lcost.nd rfl (Or.inl rfl)) (pss_one (ps_set (i := 3) sc_lcost.nd rfl (Or.inl rfl) (pe_op op_mul (pv 3) (pv 1))))) (pss_one (ps_ret (pe_callB (call_min2 rfl) (by rfl) T.n_min (by decide +kernel) (pa_cons (pe_op op_pow pe_int pe_int) (pa_cons (pe_op op_add pe_int (pe_op op_mul (pe_op op_shl pe_int (pe_callB (call_min2 rfl) (by rfl) T.n_min (by decide +kernel) (pa_cons (pv 3) (pa_cons pe_int pa_nil)))) (pv 2))) pa_nil)))))) pss_nil) (pss_one (ps_ret (pe_callB (call_min2 rfl) (by rfl) T.n_min (by decide +kernel) (pa_cons (pe_op op_pow pe_int pe_int) (pa_cons (pe_op op_add pe_int (pv 2)) pa_nil)))))))))))), ?_⟩
      have dp0 := dp
      obtain ⟨h, ps⟩ := f
      rw [Fm.data_mk] at dp
      have fit : h.Ok (ps.map Fm.data).length := by rw [List.length_map]; exact ok.hd_
      have p40 : ps.length ≤ 40 := parts_len ok.hd_
      refine ⟨_, rfl, v, _, rfl, dp0, ok, fun H1 b ys s1 nb hb hy => ?_⟩
      have hy : DpAll K H1 ys (ps.map Fm.data) := hy
      refine ⟨b, rfl, ⟨_, SqL.of hb⟩, fun L nL => ?_⟩
      refine lc_it (walk_list (K := K) (a := b) (xs := ys)) (fun i H2 => Same H1 H2 ∧ H2 L = some (.lst (((ps.take i).map fun p => ((Fm.cost m p : Nat) : Int)).map V.int))) ⟨same_upd nL, upd_same⟩ (fun i H2 _ ⟨s2, _⟩ => SqL.of (s2 _ _ hb)) ?_ ?_
      · rintro i y H2 H3 hi ⟨s2, hL⟩ ⟨rfl, hy2⟩
        obtain ⟨dd, hd, dpy⟩ := DpAll.get' hy hy2
        obtain ⟨g, hg, rfl⟩ := get_map hd
        have mem := List.mem_of_getElem? hg
        have dl : g.dep < (Fm.mk h ps).dep := dep_part mem
        refine ⟨rfl, _, rfl, _, rfl, y, m, g, rfl, ⟨m1, m2⟩, Dp.same s2 dpy, ok.part mem, by omega, fun H4 s4 => ⟨_, s4 _ _ hL, ?_, fun b o eb => ?_, ?_⟩⟩
        · rw [List.length_map, List.length_map]
          have := List.length_take_le' i ps
          exact small1000 (by omega)
        · rw [upd_ne (ne_of_none eb nL)]
          exact s4 _ _ (s2 _ _ eb)
        · rw [upd_same, List.take_add_one, hg, List.map_append, List.map_append]
          rfl
      · rintro H2 ⟨s2, hL⟩
        have eyl : ys.length = ps.length := by rw [DpAll.length hy, List.length_map]
        rw [List.take_of_length_le (show ps.length ≤ ys.length by omega)] at hL
        have sAll : Same H H2 := s1.trans s2
        refine ⟨L, _, rfl, SqL.of hL, ?_⟩
        rw [sumI_map]
        have o := own_le ok.hd_
        have pw : m ^ h.own.length ≤ 16 ^ 8 := pow16 m2 o
        have e8 : (16 : Nat) ^ 8 = 4294967296 := by decide
        have sl := sum_cost_le m ps p40
        refine ⟨_, rfl, v, _, rfl, Dp.same sAll dp0, ok, fun H0 t0 s0 d0 => ?_⟩
        have sA := sAll.trans s0
        obtain ⟨t, rfl, ht⟩ := tS_inv d0
        have ht : SqT K H0 t (h.own.map V.str) := ht
        have ol : (h.own.map V.str).length = h.own.length := List.length_map ..
        refine ⟨t, rfl, ⟨_, ht⟩, for_tup (K := K) (a := t) (xs := h.own.map V.str) (fun i σ H5 => ∃ y4 y5 y6, σ = [some v, some (.int (m : Nat)), some (.int (sumN (ps.map (Fm.cost m)) : Nat)), some (.int (m ^ i : Nat)), y4, y5, y6] ∧ H5 = H0) ⟨_, _, _, rfl, rfl⟩ (fun i σ H5 _ ⟨_, _, _, _, e⟩ => e ▸ ht) ?_ ?_⟩
        · rintro i y σ H5 hi ⟨y4, y5, y6, rfl, rfl⟩
          have il : i < h.own.length := by have := (List.getElem?_eq_some_iff.mp hi).1; omega
          have le : m ^ i ≤ m ^ h.own.length := Nat.pow_le_pow_right m1 (by omega)
          refine ⟨_, rfl, _, rfl, _, _, rfl, rfl, cmulL (by omega), some y, y5, y6, ?_, rfl⟩
          rw [Nat.pow_succ, Int.natCast_mul]
          rfl
        rintro σ H5 ⟨y4, y5, y6, rfl, rfl⟩
        rw [ol]
        have dp5 := Dp.same sA dp
        obtain ⟨a, xs, rfl, hT, hx⟩ := hd_inv dp5
        clear dp5 dp dp0 hL hy eyl hb
        have fit := ok.hd_
        cases h with
        | rel n as =>
          obtain rfl := none_of fit.2.2.2
          obtain ⟨v1, w1, rfl, e1, hx⟩ := DpAll.cons_inv hx
          obtain ⟨v2, w2, rfl, e2, hx⟩ := DpAll.cons_inv hx
          obtain rfl := DpAll.nil_inv hx
          refine ⟨_, rfl, a, _, _, _, rfl, rfl, hT, atI_nat (j := 0) rfl, (by show 3 ≤ sizeLine; decide), fun p1 np1 => ⟨_, _, rfl, .inl (SqL.of upd_same), rfl, rfl, _, rfl, cF (k := inV (.str "rel") [.str "some", .str "all", .str "tc"]) (by decide +kernel) ?_⟩⟩
          have t1 := same_upd (o := .lst [V.str "some", .str "all", .str "tc"]) np1
          refine ⟨_, rfl, a, _, _, _, rfl, rfl, (Same.sqt t1 hT), atI_nat (j := 0) rfl, rfl, _, rfl, cF (k := decide (V.str "rel" = V.str "lfp")) (by decide +kernel) ?_⟩
          refine ⟨_, rfl, a, _, _, _, rfl, rfl, (Same.sqt t1 hT), atI_nat (j := 0) rfl, rfl, _, rfl, cF (k := decide (V.str "rel" = V.str "pfp")) (by decide +kernel) ?_⟩
          refine ⟨_, rfl, a, _, _, _, rfl, rfl, (Same.sqt t1 hT), atI_nat (j := 0) rfl, rfl, _, rfl, cF (k := decide (V.str "rel" = V.str "guess")) (by decide +kernel) ?_⟩
          have z := q _ (sA.trans t1)
          rw [cost_law ok.hd_ m1, ← minI, Int.natCast_add] at z
          rw [show Hd.repB 40 m _ = 1 from rfl, Nat.one_mul] at z
          refine ⟨_, _, rfl, rfl, ⟨by decide, by decide, by decide⟩, _, rfl, _, _, rfl, rfl, _, _, rfl, ?_⟩
          exact z
        | eq x y =>
          obtain rfl := none_of fit.2.2
          obtain ⟨v1, w1, rfl, e1, hx⟩ := DpAll.cons_inv hx
          obtain ⟨v2, w2, rfl, e2, hx⟩ := DpAll.cons_inv hx
          obtain rfl := DpAll.nil_inv hx
          refine ⟨_, rfl, a, _, _, _, rfl, rfl, hT, atI_nat (j := 0) rfl, (by show 3 ≤ sizeLine; decide), fun p1 np1 => ⟨_, _, rfl, .inl (SqL.of upd_same), rfl, rfl, _, rfl, cF (k := inV (.str "eq") [.str "some", .str "all", .str "tc"]) (by decide +kernel) ?_⟩⟩
          have t1 := same_upd (o := .lst [V.str "some", .str "all", .str "tc"]) np1
          refine ⟨_, rfl, a, _, _, _, rfl, rfl, (Same.sqt t1 hT), atI_nat (j := 0) rfl, rfl, _, rfl, cF (k := decide (V.str "eq" = V.str "lfp")) (by decide +kernel) ?_⟩
          refine ⟨_, rfl, a, _, _, _, rfl, rfl, (Same.sqt t1 hT), atI_nat (j := 0) rfl, rfl, _, rfl, cF (k := decide (V.str "eq" = V.str "pfp")) (by decide +kernel) ?_⟩
          refine ⟨_, rfl, a, _, _, _, rfl, rfl, (Same.sqt t1 hT), atI_nat (j := 0) rfl, rfl, _, rfl, cF (k := decide (V.str "eq" = V.str "guess")) (by decide +kernel) ?_⟩
          have z := q _ (sA.trans t1)
          rw [cost_law ok.hd_ m1, ← minI, Int.natCast_add] at z
          rw [show Hd.repB 40 m _ = 1 from rfl, Nat.one_mul] at z
          refine ⟨_, _, rfl, rfl, ⟨by decide, by decide, by decide⟩, _, rfl, _, _, rfl, rfl, _, _, rfl, ?_⟩
          exact z
        | less x y =>
          obtain rfl := none_of fit.2.2
          obtain ⟨v1, w1, rfl, e1, hx⟩ := DpAll.cons_inv hx
          obtain ⟨v2, w2, rfl, e2, hx⟩ := DpAll.cons_inv hx
          obtain rfl := DpAll.nil_inv hx
          refine ⟨_, rfl, a, _, _, _, rfl, rfl, hT, atI_nat (j := 0) rfl, (by show 3 ≤ sizeLine; decide), fun p1 np1 => ⟨_, _, rfl, .inl (SqL.of upd_same), rfl, rfl, _, rfl, cF (k := inV (.str "less") [.str "some", .str "all", .str "tc"]) (by decide +kernel) ?_⟩⟩
          have t1 := same_upd (o := .lst [V.str "some", .str "all", .str "tc"]) np1
          refine ⟨_, rfl, a, _, _, _, rfl, rfl, (Same.sqt t1 hT), atI_nat (j := 0) rfl, rfl, _, rfl, cF (k := decide (V.str "less" = V.str "lfp")) (by decide +kernel) ?_⟩
          refine ⟨_, rfl, a, _, _, _, rfl, rfl, (Same.sqt t1 hT), atI_nat (j := 0) rfl, rfl, _, rfl, cF (k := decide (V.str "less" = V.str "pfp")) (by decide +kernel) ?_⟩
          refine ⟨_, rfl, a, _, _, _, rfl, rfl, (Same.sqt t1 hT), atI_nat (j := 0) rfl, rfl, _, rfl, cF (k := decide (V.str "less" = V.str "guess")) (by decide +kernel) ?_⟩
          have z := q _ (sA.trans t1)
          rw [cost_law ok.hd_ m1, ← minI, Int.natCast_add] at z
          rw [show Hd.repB 40 m _ = 1 from rfl, Nat.one_mul] at z
          refine ⟨_, _, rfl, rfl, ⟨by decide, by decide, by decide⟩, _, rfl, _, _, rfl, rfl, _, _, rfl, ?_⟩
          exact z
        | no =>
          obtain ⟨g, rfl⟩ := one_of fit
          obtain ⟨v1, w1, rfl, e1, hx⟩ := DpAll.cons_inv hx
          obtain rfl := DpAll.nil_inv hx
          refine ⟨_, rfl, a, _, _, _, rfl, rfl, hT, atI_nat (j := 0) rfl, (by show 3 ≤ sizeLine; decide), fun p1 np1 => ⟨_, _, rfl, .inl (SqL.of upd_same), rfl, rfl, _, rfl, cF (k := inV (.str "not") [.str "some", .str "all", .str "tc"]) (by decide +kernel) ?_⟩⟩
          have t1 := same_upd (o := .lst [V.str "some", .str "all", .str "tc"]) np1
          refine ⟨_, rfl, a, _, _, _, rfl, rfl, (Same.sqt t1 hT), atI_nat (j := 0) rfl, rfl, _, rfl, cF (k := decide (V.str "not" = V.str "lfp")) (by decide +kernel) ?_⟩
          refine ⟨_, rfl, a, _, _, _, rfl, rfl, (Same.sqt t1 hT), atI_nat (j := 0) rfl, rfl, _, rfl, cF (k := decide (V.str "not" = V.str "pfp")) (by decide +kernel) ?_⟩
          refine ⟨_, rfl, a, _, _, _, rfl, rfl, (Same.sqt t1 hT), atI_nat (j := 0) rfl, rfl, _, rfl, cF (k := decide (V.str "not" = V.str "guess")) (by decide +kernel) ?_⟩
          have z := q _ (sA.trans t1)
          rw [cost_law ok.hd_ m1, ← minI, Int.natCast_add] at z
          rw [show Hd.repB 40 m _ = 1 from rfl, Nat.one_mul] at z
          refine ⟨_, _, rfl, rfl, ⟨by decide, by decide, by decide⟩, _, rfl, _, _, rfl, rfl, _, _, rfl, ?_⟩
          exact z
        | con =>
          obtain ⟨v1, w1, rfl, e1, hx⟩ := DpAll.cons_inv hx
          obtain rfl := DpAll.nil_inv hx
          refine ⟨_, rfl, a, _, _, _, rfl, rfl, hT, atI_nat (j := 0) rfl, (by show 3 ≤ sizeLine; decide), fun p1 np1 => ⟨_, _, rfl, .inl (SqL.of upd_same), rfl, rfl, _, rfl, cF (k := inV (.str "and") [.str "some", .str "all", .str "tc"]) (by decide +kernel) ?_⟩⟩
          have t1 := same_upd (o := .lst [V.str "some", .str "all", .str "tc"]) np1
          refine ⟨_, rfl, a, _, _, _, rfl, rfl, (Same.sqt t1 hT), atI_nat (j := 0) rfl, rfl, _, rfl, cF (k := decide (V.str "and" = V.str "lfp")) (by decide +kernel) ?_⟩
          refine ⟨_, rfl, a, _, _, _, rfl, rfl, (Same.sqt t1 hT), atI_nat (j := 0) rfl, rfl, _, rfl, cF (k := decide (V.str "and" = V.str "pfp")) (by decide +kernel) ?_⟩
          refine ⟨_, rfl, a, _, _, _, rfl, rfl, (Same.sqt t1 hT), atI_nat (j := 0) rfl, rfl, _, rfl, cF (k := decide (V.str "and" = V.str "guess")) (by decide +kernel) ?_⟩
          have z := q _ (sA.trans t1)
          rw [cost_law ok.hd_ m1, ← minI, Int.natCast_add] at z
          rw [show Hd.repB 40 m _ = 1 from rfl, Nat.one_mul] at z
          refine ⟨_, _, rfl, rfl, ⟨by decide, by decide, by decide⟩, _, rfl, _, _, rfl, rfl, _, _, rfl, ?_⟩
          exact z
        | dis =>
          obtain ⟨v1, w1, rfl, e1, hx⟩ := DpAll.cons_inv hx
          obtain rfl := DpAll.nil_inv hx
          refine ⟨_, rfl, a, _, _, _, rfl, rfl, hT, atI_nat (j := 0) rfl, (by show 3 ≤ sizeLine; decide), fun p1 np1 => ⟨_, _, rfl, .inl (SqL.of upd_same), rfl, rfl, _, rfl, cF (k := inV (.str "or") [.str "some", .str "all", .str "tc"]) (by decide +kernel) ?_⟩⟩
          have t1 := same_upd (o := .lst [V.str "some", .str "all", .str "tc"]) np1
          refine ⟨_, rfl, a, _, _, _, rfl, rfl, (Same.sqt t1 hT), atI_nat (j := 0) rfl, rfl, _, rfl, cF (k := decide (V.str "or" = V.str "lfp")) (by decide +kernel) ?_⟩
          refine ⟨_, rfl, a, _, _, _, rfl, rfl, (Same.sqt t1 hT), atI_nat (j := 0) rfl, rfl, _, rfl, cF (k := decide (V.str "or" = V.str "pfp")) (by decide +kernel) ?_⟩
          refine ⟨_, rfl, a, _, _, _, rfl, rfl, (Same.sqt t1 hT), atI_nat (j := 0) rfl, rfl, _, rfl, cF (k := decide (V.str "or" = V.str "guess")) (by decide +kernel) ?_⟩
          have z := q _ (sA.trans t1)
          rw [cost_law ok.hd_ m1, ← minI, Int.natCast_add] at z
          rw [show Hd.repB 40 m _ = 1 from rfl, Nat.one_mul] at z
          refine ⟨_, _, rfl, rfl, ⟨by decide, by decide, by decide⟩, _, rfl, _, _, rfl, rfl, _, _, rfl, ?_⟩
          exact z
        | ex us =>
          obtain ⟨g, rfl⟩ := one_of fit.2
          obtain ⟨v1, w1, rfl, e1, hx⟩ := DpAll.cons_inv hx
          obtain ⟨v2, w2, rfl, e2, hx⟩ := DpAll.cons_inv hx
          obtain rfl := DpAll.nil_inv hx
          refine ⟨_, rfl, a, _, _, _, rfl, rfl, hT, atI_nat (j := 0) rfl, (by show 3 ≤ sizeLine; decide), fun p1 np1 => ⟨_, _, rfl, .inl (SqL.of upd_same), rfl, rfl, _, rfl, cT (k := inV (.str "some") [.str "some", .str "all", .str "tc"]) (by decide +kernel) ?_⟩⟩
          have t1 := same_upd (o := .lst [V.str "some", .str "all", .str "tc"]) np1
          have z := q _ (sA.trans t1)
          rw [cost_law ok.hd_ m1, ← minI, Int.natCast_add, Int.natCast_mul] at z
          refine ⟨_, _, rfl, rfl, ⟨by decide, by decide, by decide⟩, _, rfl, _, rfl, _, _, rfl, rfl, cmulL (Nat.lt_of_le_of_lt pw (by decide)), _, _, rfl, rfl, _, _, rfl, ?_⟩
          exact z
        | al us =>
          obtain ⟨g, rfl⟩ := one_of fit.2
          obtain ⟨v1, w1, rfl, e1, hx⟩ := DpAll.cons_inv hx
          obtain ⟨v2, w2, rfl, e2, hx⟩ := DpAll.cons_inv hx
          obtain rfl := DpAll.nil_inv hx
          refine ⟨_, rfl, a, _, _, _, rfl, rfl, hT, atI_nat (j := 0) rfl, (by show 3 ≤ sizeLine; decide), fun p1 np1 => ⟨_, _, rfl, .inl (SqL.of upd_same), rfl, rfl, _, rfl, cT (k := inV (.str "all") [.str "some", .str "all", .str "tc"]) (by decide +kernel) ?_⟩⟩
          have t1 := same_upd (o := .lst [V.str "some", .str "all", .str "tc"]) np1
          have z := q _ (sA.trans t1)
          rw [cost_law ok.hd_ m1, ← minI, Int.natCast_add, Int.natCast_mul] at z
          refine ⟨_, _, rfl, rfl, ⟨by decide, by decide, by decide⟩, _, rfl, _, rfl, _, _, rfl, rfl, cmulL (Nat.lt_of_le_of_lt pw (by decide)), _, _, rfl, rfl, _, _, rfl, ?_⟩
          exact z
        | lfp n us as =>
          obtain ⟨g, rfl⟩ := one_of fit.2.2.2.2
          obtain ⟨v1, w1, rfl, e1, hx⟩ := DpAll.cons_inv hx
          obtain ⟨v2, w2, rfl, e2, hx⟩ := DpAll.cons_inv hx
          obtain ⟨v3, w3, rfl, e3, hx⟩ := DpAll.cons_inv hx
          obtain ⟨v4, w4, rfl, e4, hx⟩ := DpAll.cons_inv hx
          obtain rfl := DpAll.nil_inv hx
          refine ⟨_, rfl, a, _, _, _, rfl, rfl, hT, atI_nat (j := 0) rfl, (by show 3 ≤ sizeLine; decide), fun p1 np1 => ⟨_, _, rfl, .inl (SqL.of upd_same), rfl, rfl, _, rfl, cF (k := inV (.str "lfp") [.str "some", .str "all", .str "tc"]) (by decide +kernel) ?_⟩⟩
          have t1 := same_upd (o := .lst [V.str "some", .str "all", .str "tc"]) np1
          refine ⟨_, rfl, a, _, _, _, rfl, rfl, (Same.sqt t1 hT), atI_nat (j := 0) rfl, rfl, _, rfl, cT (k := decide (V.str "lfp" = V.str "lfp")) (by decide +kernel) ?_⟩
          have z := q _ (sA.trans t1)
          have a6 : m ^ us.length ≤ 16 ^ 6 := pow16 m2 ok.hd_.2.1.2.1
          have e6 : (16 : Nat) ^ 6 = 16777216 := by decide
          rw [cost_law ok.hd_ m1, ← minI, Int.natCast_add, Int.natCast_mul] at z
          rw [show Hd.repB 40 m (.lfp n us as) = m ^ us.length * m ^ us.length from rfl, Int.natCast_mul] at z
          refine ⟨_, _, rfl, rfl, ⟨by decide, by decide, by decide⟩, _, rfl, _, rfl, _, _, rfl, rfl, cmulL (Nat.lt_of_le_of_lt a6 (by decide)), _, rfl, _, _, rfl, rfl, cmulR (Nat.lt_of_le_of_lt sl (by decide)), _, _, rfl, rfl, _, _, rfl, ?_⟩
          exact z
        | pfp n us as =>
          obtain ⟨g, rfl⟩ := one_of fit.2.2.2.2
          obtain ⟨v1, w1, rfl, e1, hx⟩ := DpAll.cons_inv hx
          obtain ⟨v2, w2, rfl, e2, hx⟩ := DpAll.cons_inv hx
          obtain ⟨v3, w3, rfl, e3, hx⟩ := DpAll.cons_inv hx
          obtain ⟨v4, w4, rfl, e4, hx⟩ := DpAll.cons_inv hx
          obtain rfl := DpAll.nil_inv hx
          refine ⟨_, rfl, a, _, _, _, rfl, rfl, hT, atI_nat (j := 0) rfl, (by show 3 ≤ sizeLine; decide), fun p1 np1 => ⟨_, _, rfl, .inl (SqL.of upd_same), rfl, rfl, _, rfl, cF (k := inV (.str "pfp") [.str "some", .str "all", .str "tc"]) (by decide +kernel) ?_⟩⟩
          have t1 := same_upd (o := .lst [V.str "some", .str "all", .str "tc"]) np1
          refine ⟨_, rfl, a, _, _, _, rfl, rfl, (Same.sqt t1 hT), atI_nat (j := 0) rfl, rfl, _, rfl, cF (k := decide (V.str "pfp" = V.str "lfp")) (by decide +kernel) ?_⟩
          refine ⟨_, rfl, a, _, _, _, rfl, rfl, (Same.sqt t1 hT), atI_nat (j := 0) rfl, rfl, _, rfl, cT (k := decide (V.str "pfp" = V.str "pfp")) (by decide +kernel) ?_⟩
          have z := q _ (sA.trans t1)
          have l := two40 (m ^ us.length)
          rw [cost_law ok.hd_ m1, ← minI, Int.natCast_add, Int.natCast_mul] at z
          rw [show Hd.repB 40 m (.pfp n us as) = 2 ^ (min (m ^ us.length) 40) * m ^ us.length from rfl, Int.natCast_mul] at z
          refine ⟨_, _, rfl, rfl, ⟨by decide, by decide, by decide⟩, _, rfl, _, _, rfl, ?_⟩
          refine ⟨1, _, rfl, congrArg V.int (minI (a := m ^ us.length) (b := 40)), cpow1 (by omega), ?_⟩
          refine ⟨_, rfl, _, _, congrArg V.int (shl_eq _), rfl, cmulL (Nat.lt_of_le_of_lt l (by decide)), _, rfl, _, _, rfl, rfl, cmulR (Nat.lt_of_le_of_lt sl (by decide)), _, _, rfl, rfl, _, _, rfl, ?_⟩
          exact z
        | tc us as =>
          obtain ⟨g, rfl⟩ := one_of fit.2.2.2.2.2
          obtain ⟨v1, w1, rfl, e1, hx⟩ := DpAll.cons_inv hx
          obtain ⟨v2, w2, rfl, e2, hx⟩ := DpAll.cons_inv hx
          obtain ⟨v3, w3, rfl, e3, hx⟩ := DpAll.cons_inv hx
          obtain rfl := DpAll.nil_inv hx
          refine ⟨_, rfl, a, _, _, _, rfl, rfl, hT, atI_nat (j := 0) rfl, (by show 3 ≤ sizeLine; decide), fun p1 np1 => ⟨_, _, rfl, .inl (SqL.of upd_same), rfl, rfl, _, rfl, cT (k := inV (.str "tc") [.str "some", .str "all", .str "tc"]) (by decide +kernel) ?_⟩⟩
          have t1 := same_upd (o := .lst [V.str "some", .str "all", .str "tc"]) np1
          have z := q _ (sA.trans t1)
          rw [cost_law ok.hd_ m1, ← minI, Int.natCast_add, Int.natCast_mul] at z
          refine ⟨_, _, rfl, rfl, ⟨by decide, by decide, by decide⟩, _, rfl, _, rfl, _, _, rfl, rfl, cmulL (Nat.lt_of_le_of_lt pw (by decide)), _, _, rfl, rfl, _, _, rfl, ?_⟩
          exact z
        | gs n k =>
          obtain ⟨g, rfl⟩ := one_of fit.2.2
          obtain ⟨v1, w1, rfl, e1, hx⟩ := DpAll.cons_inv hx
          obtain ⟨v2, w2, rfl, e2, hx⟩ := DpAll.cons_inv hx
          obtain ⟨v3, w3, rfl, e3, hx⟩ := DpAll.cons_inv hx
          obtain rfl := DpAll.nil_inv hx
          refine ⟨_, rfl, a, _, _, _, rfl, rfl, hT, atI_nat (j := 0) rfl, (by show 3 ≤ sizeLine; decide), fun p1 np1 => ⟨_, _, rfl, .inl (SqL.of upd_same), rfl, rfl, _, rfl, cF (k := inV (.str "guess") [.str "some", .str "all", .str "tc"]) (by decide +kernel) ?_⟩⟩
          have t1 := same_upd (o := .lst [V.str "some", .str "all", .str "tc"]) np1
          refine ⟨_, rfl, a, _, _, _, rfl, rfl, (Same.sqt t1 hT), atI_nat (j := 0) rfl, rfl, _, rfl, cF (k := decide (V.str "guess" = V.str "lfp")) (by decide +kernel) ?_⟩
          refine ⟨_, rfl, a, _, _, _, rfl, rfl, (Same.sqt t1 hT), atI_nat (j := 0) rfl, rfl, _, rfl, cF (k := decide (V.str "guess" = V.str "pfp")) (by decide +kernel) ?_⟩
          refine ⟨_, rfl, a, _, _, _, rfl, rfl, (Same.sqt t1 hT), atI_nat (j := 0) rfl, rfl, _, rfl, cT (k := decide (V.str "guess" = V.str "guess")) (by decide +kernel) ?_⟩
          have z := q _ (sA.trans t1)
          have j3 : k ≤ 3 := ok.hd_.2.1
          have a3 : m ^ k ≤ 16 ^ 3 := pow16 m2 j3
          have e3 : (16 : Nat) ^ 3 = 4096 := by decide
          obtain rfl := Dp.int_inv e2
          refine ⟨_, rfl, a, _, _, _, rfl, rfl, (Same.sqt t1 hT), atI_nat (j := 2) rfl, k, rfl, by omega, by omega, for_range (n := k) (fun i σ H8 => ∃ y5, σ = [some (.ref a), some (.int (m : Nat)), some (.int (sumN (([g] : List Fm).map (Fm.cost m)) : Nat)), some (.int (m ^ i : Nat)), y4, y5, y6] ∧ H8 = _) ⟨_, rfl, rfl⟩ ?_ ?_⟩
          · rintro i σ H8 hi ⟨y5, rfl, rfl⟩
            have le : m ^ i ≤ m ^ k := Nat.pow_le_pow_right m1 (by omega)
            refine ⟨_, rfl, _, rfl, _, _, rfl, rfl, cmulL (by omega), some (.int (0 + (i : Int))), ?_, rfl⟩
            rw [Nat.pow_succ, Int.natCast_mul]
            rfl
          · rintro σ H8 ⟨y5, rfl, rfl⟩
            have l := two40 (m ^ k)
            rw [cost_law ok.hd_ m1, ← minI, Int.natCast_add, Int.natCast_mul] at z
            rw [show Hd.repB 40 m (.gs n k) = 2 ^ (min (m ^ k) 40) from rfl] at z
            refine ⟨_, _, rfl, rfl, ⟨by decide, by decide, by decide⟩, _, rfl, _, _, rfl, ?_⟩
            refine ⟨1, _, rfl, congrArg V.int (minI (a := m ^ k) (b := 40)), cpow1 (by omega), ?_⟩
            refine ⟨_, rfl, _, _, congrArg V.int (shl_eq _), rfl, cmulL (Nat.lt_of_le_of_lt l (by decide)), _, _, rfl, rfl, _, _, rfl, ?_⟩
            exact z
end
/-! ### chains -/
structure Chn (f : Fm) (n : Nat) : Prop where
  ok : f.Ok
  ty : ∀ Γ, f.Typed Γ
  po : f.PosOk
  ps : ∀ x s, f.pos x s = true
  dep : f.dep ≤ n
  cnt : f.cnt ≤ n
theorem Chn.step {h : Hd} {g : Fm} {n : Nat} (c : Chn g n) (nr : h.kd ≠ .rel) (ok : h.Ok 1) : Chn (.mk h [g]) (n + 1) := by
  have m : ∀ {p : Fm}, p ∈ [g] → p = g := fun hp => List.mem_singleton.mp hp
  refine ⟨.mk ok fun p hp => by rw [m hp]; exact c.ok, fun Γ => .other nr fun p hp => by rw [m hp]; exact c.ty _, .mk (fun x us as e p hp => by rw [m hp]; exact c.ps _ _) fun p hp => by rw [m hp]; exact c.po, fun x s => ?_, ?_, ?_⟩
  · rw [Fm.pos_other nr]
    split
    · rfl
    · exact List.all_eq_true.mpr fun p hp => by rw [m hp]; exact c.ps _ _
  · rw [Fm.dep_mk]
    show 1 + max g.dep 0 ≤ n + 1
    have := c.dep
    omega
  · rw [Fm.cnt_mk]
    show 1 + (g.cnt + 0) ≤ n + 1
    have := c.cnt
    omega
theorem Chn.mono {f : Fm} {n m : Nat} (c : Chn f n) (h : n ≤ m) : Chn f m := ⟨c.ok, c.ty, c.po, c.ps, Nat.le_trans c.dep h, Nat.le_trans c.cnt h⟩
theorem Chn.wf {f : Fm} (c : Chn f 40) : f.Wf := ⟨c.ok, c.dep, Nat.le_trans c.cnt (by decide), c.po, fun _ => none, c.ty _⟩
theorem chn_eq : Chn (.mk (.eq "x" "y") []) 1 :=
  ⟨Fm.Ok.mk ⟨nm_of (by decide +kernel), nm_of (by decide +kernel), rfl⟩ (fun p hp => nomatch hp), fun Γ => Fm.Typed.other (fun z => nomatch z) (fun p hp => nomatch hp), Fm.PosOk.mk (fun x us as e => by cases e) (fun p hp => nomatch hp),
   fun x s => by rw [Fm.pos_other (show (Hd.eq "x" "y").kd ≠ .rel from fun z => nomatch z)]; split <;> rfl, by rw [Fm.dep_mk]; exact Nat.le_refl _, by rw [Fm.cnt_mk]; exact Nat.le_refl _⟩
def six : List Str := ["x", "y", "z", "u", "v", "w"]
theorem six_nm : Names six := fun v hv => by
  have b : (six.all nmB) = true := by decide +kernel
  exact nm_of (List.all_eq_true.mp b v hv)
theorem six_nd : six.Nodup := by decide +kernel
theorem names_take {vs : List Str} (h : Names vs) (j : Nat) : Names (vs.take j) := fun v hv => h v (List.mem_of_mem_take hv)
theorem own_take {vs : List Str} {j : Nat} (h : Names vs) (nd : vs.Nodup) (l : vs.length ≤ 6) (j1 : 1 ≤ j) (jl : j ≤ vs.length) : OwnOk (vs.take j) :=
  ⟨by rw [List.length_take]; omega, by rw [List.length_take]; omega, names_take h j, nd.sublist (List.take_sublist _ _)⟩
theorem slA_take {K : PySem.W.Frag} {H : Hp} {a : Addr} {xs : List V} {j : Nat} {Q : VK} (hx : SqT K H a xs) (l : xs.length < 1000) (hj : j ≤ xs.length) (q : ∀ (H' : Hp) (r : Addr), Same H H' → SqT K H' r (xs.take j) → Q (.ref r) H') : rSlA K (.ref a) none (some ((j : Nat) : Int)) H Q := by
  refine ⟨a, xs, rfl, hx, fun e => ?_, fun _ p np => ?_⟩
  · have e2 := e.2
    rw [HT.sIx_nat] at e2
    have : j = xs.length := by omega
    refine q H a (.refl H) ?_
    rw [this, List.take_length]
    exact hx
  · refine q _ p (same_upd np) ?_
    rw [cut_map l hj]
    exact SqT.of upd_same
theorem Dp.hd {K : PySem.W.Frag} {H : Hp} {a : Addr} {h : Hd} {xs : List V} {ds : List PyData} (e : SqT K H a (.str h.word :: xs)) (t : DpAll K H xs (h.rest ds)) : Dp K H (.ref a) (h.data ds) := .tup e (.cons (.str _) t)
def spChain (K : PySem.W.Frag) : Sp := fun vs H Q _ => ∃ (d l : Addr), vs = [.ref d] ∧ DrA H d l ∧ ∀ (H' : Hp) (r : V) (f : Fm), DrA H' d l → Kp d H H' → Dp K H' r f.data → Chn f 40 → Q r H'
section
variable {P : Program} {w : World} {K : PySem.W.Frag} {mg : Str → Option Value} {base : Heap}
theorem sc_chain : FnScope ["draws", "f", "k", "pick"] ["draws"] (defScope (top 72)) := ⟨rfl, rfl, rfl, by decide +kernel, rfl, by decide +kernel, by decide +kernel⟩
theorem has_chain (D : Def K mg "_law_chain" ["draws"] (top 72)) (T : Txt mg) (C1 : Has P w K mg base 2 "_law_draw" ["draws"] spDraw) : Has P w K mg base 3 "_law_chain" ["draws"] (spChain K) := D.has fun f fd F => by
  obtain ⟨f1, fd1, G_law_draw, g_law_draw, k_law_draw, b_law_draw⟩ := C1
  refine F.ok sc_chain (fun vs H Q E h => ?_) (fun cdv A outer s H vs Q E hr h => ?_)
  · obtain ⟨d, l, rfl, _⟩ := h; rfl
  · obtain ⟨d, l, rfl, dr, q⟩ := h
    have R_law_draw : Room 2 _ := hr
    refine ⟨_, PSs.nox (pss_cons (ps_set (i := 1) sc_chain.nd rfl (Or.inl rfl) (pe_tup (pa_cons pe_str (pa_cons pe_str (pa_cons pe_str pa_nil))))) (pss_cons (ps_for PassesOwn.never rfl (pi_range1 (by rfl) T.n_range (pa_cons (pe_op op_mod (pe_call G_law_draw R_law_draw (by rfl) g_law_draw k_law_draw b_law_draw .nil pass0 (pa_cons (pv 0) pa_nil)) pe_int) pa_nil)) (pg_name (i := 2) sc_chain.nd rfl (Or.inl rfl)) (pss_cons (ps_set (i := 3) sc_chain.nd rfl (Or.inl rfl) (pe_op op_mod (pe_call G_law_draw R_law_draw (by rfl) g_law_draw k_law_draw b_law_draw .nil pass0 (pa_cons (pv 0) pa_nil)) pe_int)) (pss_one (ps_if (pt_cmpR op_eq (pv 3) pe_int (nomark _)) (pss_one (ps_set (i := 1) sc_chain.nd rfl (Or.inl rfl) (pe_tup (pa_cons pe_str (pa_cons pe_str (pa_cons (pe_tup (pa_cons pe_str pa_nil)) (pa_cons (pv 1) (pa_cons (pe_tup (pa_cons pe_str pa_nil)) pa_nil)))))))) (pss_one (ps_if (pt_cmpR op_eq (pv 3) pe_int (nomark _)) (pss_one (ps_set (i := 1) sc_chain.nd rfl (Or.inl rfl) (pe_tup (pa_cons pe_str (pa_cons pe_str (pa_cons (pe_op op_mod (pe_call G_law_draw R_law_draw (by rfl) g_law_draw k_law_draw b_law_draw .nil pass0 (pa_cons (pv 0) pa_nil)) pe_int) (pa_cons (pv 1) pa_nil))))))) (pss_one (ps_if (pt_cmpR op_eq (pv 3) pe_int (nomark _)) (pss_one (ps_set (i := 1) sc_chain.nd rfl (Or.inl rfl) (pe_tup (pa_cons pe_str (pa_cons (pe_tup (pa_cons pe_str (pa_cons pe_str pa_nil))) (pa_cons (pv 1) (pa_cons (pe_tup (pa_cons pe_str (pa_cons pe_str pa_nil))) pa_nil))))))) (pss_one (ps_if (pt_cmpR op_eq (pv 3) pe_int (nomark _)) (pss_cons (ps_set (i := 1) sc_chain.nd rfl (Or.inl rfl) (pe_tup (pa_cons pe_str (pa_cons pe_str (pa_cons (pe_slice sl_tupA (pe_tup (pa_cons pe_str (pa_cons pe_str pa_nil))) po_none (po_some (pe_op op_add pe_int (pe_op op_mod (pe_call G_law_draw R_law_draw (by rfl) g_law_draw k_law_draw b_law_draw .nil pass0 (pa_cons (pv 0) pa_nil)) pe_int)))) (pa_cons (pv 1) (pa_cons (pe_tup (pa_cons pe_str (pa_cons pe_str pa_nil))) pa_nil))))))) (pss_one (ps_set (i := 1) sc_chain.nd rfl (Or.inl rfl) (pe_op op_catA (pe_slice sl_tupA (pv 1) po_none (po_some pe_int)) (pe_tup (pa_cons (pe_slice sl_tupA (pe_ix ix_tup (pv 1) pe_int (fun _ _ => rfl)) po_none (po_some (pe_callB call_len_seq (by rfl) T.n_len PySem.boot_len (pa_cons (pe_ix ix_tup (pv 1) pe_int (fun _ _ => rfl)) pa_nil)))) pa_nil)))))) (pss_one (ps_set (i := 1) sc_chain.nd rfl (Or.inl rfl) (pe_tup (pa_cons pe_str (pa_cons (pe_slice sl_tupA (pe_tup (pa_cons pe_str (pa_cons pe_str (pa_cons pe_str (pa_cons pe_str (pa_cons pe_str (pa_cons pe_str pa_nil))))))) po_none (po_some (pe_op op_add pe_int (pe_op op_mod (pe_call G_law_draw R_law_draw (by rfl) g_law_draw k_law_draw b_law_draw .nil pass0 (pa_cons (pv 0) pa_nil)) pe_int)))) (pa_cons (pv 1) pa_nil)))))))))))))))) (pss_one (ps_ret (pv 1))))), ?_⟩
    refine ⟨(by show 3 ≤ sizeLine; decide), fun t nt => ?_⟩
    have s0 := same_upd (o := .tup [.str "eq", .str "x", .str "y"]) nt
    have dr0 := dr.same s0
    have d0 : Dp K (upd H t (.tup [.str "eq", .str "x", .str "y"])) (.ref t) (Fm.mk (.eq "x" "y") []).data := by
      rw [Fm.data_mk]
      exact Dp.hd (SqT.of upd_same) (.cons (.str _) (.cons (.str _) .nil))
    have k0 : Kp d H _ := .of s0
    clear s0
    revert dr0 d0 k0
    generalize upd H t (.tup [.str "eq", .str "x", .str "y"]) = H0
    intro dr0 d0 k0
    refine ⟨_, rfl, d, l, rfl, dr0, fun z1 H1 z0 z9 dr1 k1 => ?_⟩
    refine ⟨_, _, rfl, rfl, (by show (0 : Int) < 39; decide), ?_⟩
    obtain ⟨n, hn, n39⟩ : ∃ n : Nat, z1 % 39 = (n : Int) ∧ n < 39 := ⟨(z1 % 39).toNat, by omega, by omega⟩
    refine ⟨n, congrArg (fun i : Int => [V.int i]) hn, by omega, by omega, for_range (n := n) (fun i σ H2 => ∃ (y2 y3 : Option V) (fv : V) (f : Fm), σ = [some (.ref d), some fv, y2, y3] ∧ DrA H2 d l ∧ Kp d H H2 ∧ Dp K H2 fv f.data ∧ Chn f (i + 1))
      ⟨none, none, _, _, rfl, dr1, k0.trans k1, Dp.kl (.dr k1 dr0) d0 (Fm.noL _), chn_eq⟩ ?_ ?_⟩
    · rintro i σ H2 hi ⟨y2, y3, fv, f, rfl, dr2, k2, d2, ch⟩
      refine ⟨_, rfl, d, l, rfl, dr2, fun z3 H3 _ _ dr3 k3 => ?_⟩
      refine ⟨_, _, rfl, rfl, (by show (0 : Int) < 6; decide), ?_⟩
      have d3 := Dp.kl (.dr k3 dr2) d2 f.noL
      have k3' := k2.trans k3
      refine ⟨_, rfl, rfl, _, rfl, ite2 (fun _ => ?_) (fun _ => ⟨_, rfl, rfl, _, rfl, ite2 (fun _ => ?_) (fun _ => ⟨_, rfl, rfl, _, rfl, ite2 (fun _ => ?_) (fun _ => ⟨_, rfl, rfl, _, rfl, ite2 (fun _ => ?_) (fun _ => ?_)⟩)⟩)⟩)⟩
      · refine ⟨(by show 1 ≤ sizeLine; decide), fun t1 n1 => ⟨_, rfl, (by show 1 ≤ sizeLine; decide), fun t2 n2 => ⟨(by show 5 ≤ sizeLine; decide), fun t3 n3 => ?_⟩⟩⟩
        have s1 := same_upd (o := .tup [.str "x"]) n1
        have s2 := same_upd (o := .tup [.str "y"]) n2
        have s3 := same_upd (o := .tup [.str "lfp", .str "r", .ref t1, fv, .ref t2]) n3
        have s13 := (s1.trans s2).trans s3
        refine ⟨_, _, _, .mk (.lfp "r" ["x"] ["y"]) [f], rfl, dr3.same s13, k3'.trans (.of s13), ?_, ch.step (fun z => nomatch z) ⟨nm_of (by decide +kernel), own_take (j := 1) six_nm six_nd (by decide) (by decide) (by decide), rfl, fun v hv => by rw [List.mem_singleton.mp hv]; exact nm_of (by decide +kernel), rfl⟩⟩
        rw [Fm.data_mk]
        exact Dp.hd (SqT.of upd_same) (.cons (.str _) (.cons (tS_of (as := ["x"]) (Same.sqt (s2.trans s3) (SqT.of upd_same))) (.cons (Dp.same s13 d3) (.cons (tS_of (as := ["y"]) (Same.sqt s3 (SqT.of upd_same))) .nil))))
      · refine ⟨_, rfl, d, l, rfl, dr3, fun z4 H4 _ _ dr4 k4 => ⟨_, _, rfl, rfl, (by show (0 : Int) < 4; decide), _, rfl, (by show 4 ≤ sizeLine; decide), fun t3 n3 => ?_⟩⟩
        have d4 := Dp.kl (.dr k4 dr3) d3 f.noL
        obtain ⟨j, hj, j3⟩ : ∃ j : Nat, z4 % 4 = (j : Int) ∧ j ≤ 3 := ⟨(z4 % 4).toNat, by omega, by omega⟩
        have s3 := same_upd (o := .tup [.str "guess", .str "r", .int (z4 % 4), fv]) n3
        refine ⟨_, _, _, .mk (.gs "r" j) [f], rfl, dr4.same s3, (k3'.trans k4).trans (.of s3), ?_, ch.step (fun z => nomatch z) ⟨nm_of (by decide +kernel), j3, rfl⟩⟩
        rw [Fm.data_mk]
        exact Dp.hd (SqT.of upd_same) (.cons (.str _) (.cons (show Dp K _ (V.int (z4 % 4)) (.int (j : Nat)) by rw [hj]; exact .int _) (.cons (Dp.same s3 d4) .nil)))
      · refine ⟨(by show 2 ≤ sizeLine; decide), fun t1 n1 => ⟨_, rfl, (by show 2 ≤ sizeLine; decide), fun t2 n2 => ⟨(by show 4 ≤ sizeLine; decide), fun t3 n3 => ?_⟩⟩⟩
        have s1 := same_upd (o := .tup [.str "x", .str "y"]) n1
        have s2 := same_upd (o := .tup [.str "y", .str "x"]) n2
        have s3 := same_upd (o := .tup [.str "tc", .ref t1, fv, .ref t2]) n3
        have s13 := (s1.trans s2).trans s3
        refine ⟨_, _, _, .mk (.tc ["x", "y"] ["y", "x"]) [f], rfl, dr3.same s13, k3'.trans (.of s13), ?_, ch.step (fun z => nomatch z) ⟨.inl rfl, names_take six_nm 2, by decide +kernel, rfl, fun v hv => ?_, rfl⟩⟩
        · rw [Fm.data_mk]
          exact Dp.hd (SqT.of upd_same) (.cons (tS_of (as := ["x", "y"]) (Same.sqt (s2.trans s3) (SqT.of upd_same))) (.cons (Dp.same s13 d3) (.cons (tS_of (as := ["y", "x"]) (Same.sqt s3 (SqT.of upd_same))) .nil)))
        · rcases List.mem_cons.mp hv with rfl | hv
          · exact nm_of (by decide +kernel)
          · rw [List.mem_singleton.mp hv]; exact nm_of (by decide +kernel)
      · -- pfp
        refine ⟨(by show 2 ≤ sizeLine; decide), fun t1 n1 => ?_⟩
        have s1 := same_upd (o := .tup [.str "x", .str "z"]) n1
        have drs := dr3.same s1
        refine ⟨_, rfl, d, l, rfl, drs, fun z4 H4 _ _ dr4 k4 => ⟨_, _, rfl, rfl, (by show (0 : Int) < 2; decide), _, _, rfl, rfl, ?_⟩⟩
        have d4 := Dp.kl (.dr k4 drs) (Dp.same s1 d3) f.noL
        have ht1 : SqT K H4 t1 ((["x", "z"] : List Str).map V.str) := SqT.kl (.dr k4 drs) (SqT.of upd_same)
        have k34 := (k3'.trans (.of s1)).trans k4
        obtain ⟨j, hj, j1, j2⟩ : ∃ j : Nat, 1 + z4 % 2 = (j : Int) ∧ 1 ≤ j ∧ j ≤ 2 := ⟨(1 + z4 % 2).toNat, by omega, by omega, by omega⟩
        refine ⟨((j : Nat) : Int), congrArg V.int hj, slA_take ht1 (by decide) j2 fun H5 r1 s5 hr1 => ?_⟩
        rw [← List.map_take] at hr1
        refine ⟨_, rfl, (by show 2 ≤ sizeLine; decide), fun t2 n2 => ⟨(by show 5 ≤ sizeLine; decide), fun t3 n3 => ?_⟩⟩
        have s6 := same_upd (o := .tup [.str "y", .str "y"]) n2
        have s7 := same_upd (o := .tup [.str "pfp", .str "s", .ref r1, fv, .ref t2]) n3
        have ht3 : SqT K (upd (upd H5 t2 (.tup [.str "y", .str "y"])) t3 (.tup [.str "pfp", .str "s", .ref r1, fv, .ref t2])) t3 [.str "pfp", .str "s", .ref r1, fv, .ref t2] := SqT.of upd_same
        have hr1' := Same.sqt (s6.trans s7) hr1
        have ht2' : SqT K (upd (upd H5 t2 (.tup [.str "y", .str "y"])) t3 (.tup [.str "pfp", .str "s", .ref r1, fv, .ref t2])) t2 ((["y", "y"] : List Str).map V.str) := Same.sqt s7 (SqT.of upd_same)
        have d7 := Dp.same ((s5.trans s6).trans s7) d4
        have dr7 := dr4.same ((s5.trans s6).trans s7)
        have k7 := k34.trans (.of ((s5.trans s6).trans s7))
        revert ht3 hr1' ht2' d7 dr7 k7
        generalize upd (upd H5 t2 (.tup [.str "y", .str "y"])) t3 (.tup [.str "pfp", .str "s", .ref r1, fv, .ref t2]) = H7
        intro ht3 hr1' ht2' d7 dr7 k7
        refine ⟨_, rfl, _, rfl, slA_take (j := 4) ht3 (by show 5 < 1000; decide) (by show 4 ≤ 5; decide) fun H8 r8 s8 h8 => ?_⟩
        refine ⟨_, rfl, t3, _, _, _, rfl, rfl, Same.sqt s8 ht3, atI_nat (j := 4) rfl, _, rfl, t3, _, _, _, rfl, rfl, Same.sqt s8 ht3, atI_nat (j := 2) rfl, r1, _, rfl, .inr (Same.sqt s8 hr1'), ?_⟩
        have lj : (((["x", "z"] : List Str).take j).map V.str).length = j := by rw [List.length_map, List.length_take]; show min j 2 = j; omega
        refine ⟨((j : Nat) : Int), congrArg (fun n : Nat => V.int n) lj, slA_take (Same.sqt s8 ht2') (by decide) j2 fun H9 r9 s9 h9 => ?_⟩
        rw [← List.map_take] at h9
        refine ⟨(by show 1 ≤ sizeLine; decide), fun ta na => ⟨r8, ta, [.str "pfp", .str "s", .ref r1, fv], [.ref r9], rfl, rfl, Same.sqt (s9.trans (same_upd na)) h8, SqT.of upd_same, (by show 4 + 1 ≤ sizeLine; decide), (fun z => nomatch z), (fun _ z => nomatch z), fun _ _ p np => ?_⟩⟩
        have sa := same_upd (o := .tup [.ref r9]) na
        have sp := same_upd (o := .tup ([.str "pfp", .str "s", .ref r1, fv] ++ [.ref r9])) np
        have s79 := ((s8.trans s9).trans sa).trans sp
        refine ⟨_, _, _, .mk (.pfp "s" ((["x", "z"] : List Str).take j) ((["y", "y"] : List Str).take j)) [f], rfl, dr7.same s79, k7.trans (.of s79), ?_, ch.step (fun z => nomatch z) ⟨nm_of (by decide +kernel), own_take (vs := (["x", "z"] : List Str)) (fun v hv => ?_) (by decide +kernel) (by decide) j1 j2, by rw [List.length_take, List.length_take]; rfl, names_take (fun v hv => ?_) j, rfl⟩⟩
        · rw [Fm.data_mk]
          exact Dp.hd (SqT.of upd_same) (.cons (.str _) (.cons (tS_of (Same.sqt s79 hr1')) (.cons (Dp.same s79 d7) (.cons (tS_of (Same.sqt (sa.trans sp) h9)) .nil))))
        · rcases List.mem_cons.mp hv with rfl | hv
          · exact nm_of (by decide +kernel)
          · rw [List.mem_singleton.mp hv]; exact nm_of (by decide +kernel)
        · rcases List.mem_cons.mp hv with rfl | hv
          · exact nm_of (by decide +kernel)
          · rw [List.mem_singleton.mp hv]; exact nm_of (by decide +kernel)
      · refine ⟨(by show 6 ≤ sizeLine; decide), fun t1 n1 => ?_⟩
        have s1 := same_upd (o := .tup (six.map V.str)) n1
        have drs := dr3.same s1
        refine ⟨_, rfl, d, l, rfl, drs, fun z4 H4 _ _ dr4 k4 => ⟨_, _, rfl, rfl, (by show (0 : Int) < 6; decide), _, _, rfl, rfl, ?_⟩⟩
        have d4 := Dp.kl (.dr k4 drs) (Dp.same s1 d3) f.noL
        have ht1 : SqT K H4 t1 (six.map V.str) := SqT.kl (.dr k4 drs) (SqT.of upd_same)
        have k34 := (k3'.trans (.of s1)).trans k4
        obtain ⟨j, hj, j1, j2⟩ : ∃ j : Nat, 1 + z4 % 6 = (j : Int) ∧ 1 ≤ j ∧ j ≤ 6 := ⟨(1 + z4 % 6).toNat, by omega, by omega, by omega⟩
        refine ⟨((j : Nat) : Int), congrArg V.int hj, slA_take ht1 (by decide) j2 fun H5 r1 s5 hr1 => ?_⟩
        rw [← List.map_take] at hr1
        refine ⟨_, rfl, (by show 3 ≤ sizeLine; decide), fun t3 n3 => ?_⟩
        have s3 := same_upd (o := .tup [.str "some", .ref r1, fv]) n3
        refine ⟨_, _, _, .mk (.ex (six.take j)) [f], rfl, dr4.same (s5.trans s3), k34.trans (.of (s5.trans s3)), ?_, ch.step (fun z => nomatch z) ⟨own_take six_nm six_nd (by decide) j1 j2, rfl⟩⟩
        rw [Fm.data_mk]
        exact Dp.hd (SqT.of upd_same) (.cons (tS_of (Same.sqt s3 hr1)) (.cons (Dp.same (s5.trans s3) d4) .nil))
    · rintro σ H2 ⟨y2, y3, fv, f, rfl, dr2, k2, d2, ch⟩
      exact ⟨_, rfl, q H2 fv f dr2 k2 d2 (ch.mono (by omega))⟩
end
/-! ### cost, refused -/
def spCost (K : PySem.W.Frag) : Sp := fun vs H Q E => ∃ (v : V) (n : Int) (f : Fm), vs = [v, .int n] ∧ Dp K H v f.data ∧ f.Wf ∧ (∀ m : Nat, n = (m : Nat) → 1 ≤ m → m ≤ 16 → ∀ H' : Hp, Same H H' → Q (.int (f.cost m : Nat)) H') ∧
  (¬ (1 ≤ n ∧ n ≤ 16) → ∀ H' : Hp, Same H H' → E (.ref (He.ga K "BadArgument")) none H')
def spRefused (K : PySem.W.Frag) : Sp := fun vs H Q _ => ∃ (v : V) (n : Int) (f : Fm), vs = [v, .int n] ∧ Dp K H v f.data ∧ f.Wf ∧ ¬ (1 ≤ n ∧ n ≤ 16) ∧ ∀ H' : Hp, Same H H' → Q (.bl true) H'
section
variable {P : Program} {w : World} {K : PySem.W.Frag} {mg : Str → Option Value} {base : Heap}
theorem sc_cost : FnScope ["formula", "n"] ["formula", "n"] (defScope (top 54)) := ⟨rfl, rfl, rfl, by decide +kernel, rfl, by decide +kernel, by decide +kernel⟩
theorem has_cost (D : Def K mg "cost" ["formula", "n"] (top 54)) (BA : XC K mg "BadArgument") (k1 : ∃ t, mg "LARGEST_SIZE" = some (.int 16 t)) (C1 : Has P w K mg base 47 "check_formula" ["formula"] (spCheck K)) (C2 : Has P w K mg base 2 "is_between" ["value", "low", "high"] spBetween) (C3 : ∀ n, Has P w K mg base (4 + n) "known_cost" ["formula", "n"] (spCostK K n)) :
    HasX (L2.CX P w) P w K mg base 48 "cost" ["formula", "n"] (spCost K) := D.has fun f fd F => by
  obtain ⟨f1, fd1, G_check_formula, g_check_formula, k_check_formula, b_check_formula⟩ := C1
  obtain ⟨f2, fd2, G_is_between, g_is_between, k_is_between, b_is_between⟩ := C2
  obtain ⟨f3, fd3, G_known_cost, g_known_cost, k_known_cost, b_known_cost⟩ := C3 40
  obtain ⟨t1, c_LARGEST_SIZE⟩ := k1
  refine F.ok sc_cost (fun vs H Q E h => ?_) (fun cdv A outer s H vs Q E hr h => ?_)
  · obtain ⟨v, n, f, rfl, _⟩ := h; rfl
  · obtain ⟨v, n, f, rfl, dp, wf, q, qe⟩ := h
    have R_check_formula : Room 47 _ := hr
    have R_is_between : Room 2 _ := hr.mono (by decide)
    have R_known_cost : Room (4 + 40) _ := hr.mono (by decide)
    refine ⟨_, (pss_cons (ps_expr (pe_call G_check_formula R_check_formula (by rfl) g_check_formula k_check_formula b_check_formula .nil pass0 (pa_cons (pv 0) pa_nil))) (pss_cons (ps_if (pt_not (pt_val (pe_call G_is_between R_is_between (by rfl) g_is_between k_is_between b_is_between .nil pass0 (pa_cons (pv 1) (pa_cons pe_int (pa_cons (pe_glob (v := .int 16) (by rfl) c_LARGEST_SIZE ⟨_, rfl⟩) pa_nil)))))) (pss_one (ps_raiseX BA rfl (takes_of rfl rfl rfl rfl) rfl)) pss_nil) (pss_one (ps_ret (pe_call G_known_cost R_known_cost (by rfl) g_known_cost k_known_cost b_known_cost .nil pass0 (pa_cons (pv 0) (pa_cons (pv 1) pa_nil))))))), ?_⟩
    refine ⟨_, rfl, v, f, rfl, dp, wf, fun H1 r1 s1 _ => ?_⟩
    refine ⟨_, rfl, .int n, 1, 16, rfl, rfl, ?_⟩
    by_cases hb : 1 ≤ n ∧ n ≤ 16
    · obtain ⟨m, rfl⟩ : ∃ m : Nat, n = (m : Nat) := ⟨n.toNat, by omega⟩
      have b : btw 1 16 (.int (m : Nat)) = true := by simp [btw, isI]; omega
      rw [b]
      refine ⟨_, rfl, iteF ?_⟩
      exact ⟨_, rfl, _, rfl, v, m, f, rfl, ⟨by omega, by omega⟩, Dp.same s1 dp, wf.ok, wf.dep, fun H2 s2 => q m rfl (by omega) (by omega) H2 (s1.trans s2)⟩
    · have b : btw 1 16 (.int n) = false := by simp [btw, isI]; omega
      rw [b]
      refine ⟨_, rfl, iteT ?_⟩
      exact qe hb H1 s1
theorem sc_refused : FnScope ["f", "n", "e"] ["f", "n"] (defScope (top 73)) := ⟨rfl, rfl, rfl, by decide +kernel, rfl, by decide +kernel, by decide +kernel⟩
theorem has_refused (D : Def K mg "_law_refused" ["f", "n"] (top 73)) (T : Txt mg) (BA : XC K mg "BadArgument") (BF : mg "BadFormula" = some (.ref (He.ga K "BadFormula"))) (kb : PySem.W.kitOne K (.ref (He.ga K "BadArgument")) (.ref (He.ga K "BadFormula")) = some false)
    (C1 : HasX (L2.CX P w) P w K mg base 48 "cost" ["formula", "n"] (spCost K)) : Has P w K mg base 49 "_law_refused" ["f", "n"] (spRefused K) := D.has fun f fd F => by
  obtain ⟨f1, fd1, G_cost, g_cost, k_cost, b_cost⟩ := C1
  refine F.ok sc_refused (fun vs H Q E h => ?_) (fun cdv A outer s H vs Q E hr h => ?_)
  · obtain ⟨v, n, f, rfl, _⟩ := h; rfl
  · obtain ⟨v, n, f, rfl, dp, wf, hn, q⟩ := h
    have R_cost : Room 48 _ := hr
    refine ⟨_, PSs.nox (pss_cons (ps_try_as (i := 2) (tb := fun W => tDrop (tCallS (spCost K) (WE W) (tCons (tVar 0) (tCons (tVar 1) tNil)))) (Wout := fun _ _ _ _ => False) rfl rfl sc_refused.nd rfl rfl ⟨rfl, by decide, Or.inl BA.g⟩ takes0
      (fun W pn xe tk _ => pss_one (ps_expr (by exact (pe_callS G_cost R_cost rfl g_cost k_cost b_cost (fun σ => passAt tk σ) (by exact (pa_cons (pv 0) (pa_cons (pv 1) pa_nil)))))))
      (fun a oe cls d pn hz hf => pss_one (ps_ret (pe_not (pe_callB (call_isE' hz hf) (by rfl) T.n_isinstance (by decide +kernel) (pa_cons (pv 2) (pa_cons (pe_glob (v := .ref (He.ga K "BadFormula")) (by rfl) BF rfl) pa_nil)))))))
      (pss_one (ps_ret pe_bl))), ?_⟩
    refine ⟨_, rfl, _, rfl, v, n, f, rfl, dp, wf, fun m e m1 m2 => absurd ⟨by omega, by omega⟩ hn, fun _ H1 s1 => ?_⟩
    refine ⟨true, BA.e, fun _ a na => ?_, fun z => nomatch z⟩
    exact ⟨_, rfl, He.ga K "BadArgument", He.ga K "BadFormula", false, rfl, rfl, BA.i, rfl, kb, false, rfl, q H1 s1⟩
/-! ### the law -/
def spLaw (K : PySem.W.Frag) : Sp := fun vs H Q _ => ∃ (a : Addr) (ns : List Int), vs = [.ref a] ∧ SqL K H a (ns.map V.int) ∧ ns.length ≤ 63 ∧ ∀ H' : Hp, Q (.bl true) H'
def poolC : List Str := ["x", "y", "z", "u"]
theorem poolC_ok : Pool poolC := by
  have b : (poolC.all nmB) = true := by decide +kernel
  exact ⟨fun v hv => nm_of (List.all_eq_true.mp b v hv), by decide +kernel, by decide, by decide⟩
theorem Gen.wf {pool : List Str} {ns : List NE} {Γ : ArE} {f : Fm} {n : Nat} (g : Gen pool ns Γ f n) (h : n ≤ 6) : f.Wf := by
  have c := g.cnt
  have d := g.dep
  have e : 3 ^ n ≤ 3 ^ 6 := Nat.pow_le_pow_right (by decide) h
  have e2 : (3 : Nat) ^ 6 = 729 := by decide
  exact ⟨g.ok, by omega, by omega, g.po, Γ, g.ty⟩
theorem sc_law : FnScope ["script", "draws", "kinds", "f", "one", "n"] ["script"] (defScope (top 74)) := ⟨rfl, rfl, rfl, by decide +kernel, rfl, by decide +kernel, by decide +kernel⟩
theorem ok_law {f : Addr} {fd : FuncData} (F : FnP K "law" (top 74) f fd) (T : Txt mg) (C1 : Has P w K mg base 2 "_law_numbers" ["script"] (spNumbers K)) (C2 : Has P w K mg base 2 "_law_draw" ["draws"] spDraw)
    (C4 : Has P w K mg base 3 "_law_names" ["draws"] (spNamesL K)) (C5 : Has P w K mg base (4 + 2 * 6) "_law_formula" ["draws", "deep", "pool", "names", "kinds"] (spForm K 6)) (C6 : Has P w K mg base 3 "_law_chain" ["draws"] (spChain K))
    (D1 : HasX (L2.CX P w) P w K mg base 48 "cost" ["formula", "n"] (spCost K)) (L1 : Has P w K mg base (2 + 40) "_law_cost" ["f", "n"] (spCostK K 40)) (D2 : Has P w K mg base 49 "_law_refused" ["f", "n"] (spRefused K))
    (C10 : Has P w K mg base 5 "_law_equal" ["actual", "due"] (spEqD K 2)) : FnOk P w K mg base CX0 50 f fd ["script"] (spLaw K) := by
  obtain ⟨f1, fd1, G_law_numbers, g_law_numbers, k_law_numbers, b_law_numbers⟩ := C1
  obtain ⟨f2, fd2, G_law_draw, g_law_draw, k_law_draw, b_law_draw⟩ := C2
  obtain ⟨f4, fd4, G_law_names, g_law_names, k_law_names, b_law_names⟩ := C4
  obtain ⟨f5, fd5, G_law_formula, g_law_formula, k_law_formula, b_law_formula⟩ := C5
  obtain ⟨f6, fd6, G_law_chain, g_law_chain, k_law_chain, b_law_chain⟩ := C6
  obtain ⟨a1, b1, G_cost, g_cost, k_cost, b_cost⟩ := D1
  obtain ⟨a2, b2, G_law_cost, g_law_cost, k_law_cost, b_law_cost⟩ := L1
  obtain ⟨a3, b3, G_law_refused, g_law_refused, k_law_refused, b_law_refused⟩ := D2
  obtain ⟨f10, fd10, G_law_equal, g_law_equal, k_law_equal, b_law_equal⟩ := C10
  refine F.ok sc_law (fun vs H Q E h => ?_) (fun cdv A outer s H vs Q E hr h => ?_)
  · obtain ⟨a, ns, rfl, _⟩ := h; rfl
  · obtain ⟨a, ns, rfl, hS, hlen, q⟩ := h
    have R_law_numbers : Room 2 _ := hr.mono (by decide)
    have R_law_draw : Room 2 _ := hr.mono (by decide)
    have R_law_names : Room 3 _ := hr.mono (by decide)
    have R_law_formula : Room (4 + 2 * 6) _ := hr.mono (by decide)
    have R_law_chain : Room 3 _ := hr.mono (by decide)
    have R_cost : Room 48 _ := hr.mono (by decide)
    have R_law_cost : Room (2 + 40) _ := hr.mono (by decide)
    have R_law_refused : Room 49 _ := hr
    have R_law_equal : Room 5 _ := hr.mono (by decide)
    refine ⟨_, PSs.nox (pss_cons (ps_set (i := 1) sc_law.nd rfl (Or.inl rfl) (pe_lst (pa_cons (pe_call G_law_numbers R_law_numbers (by rfl) g_law_numbers k_law_numbers b_law_numbers .nil pass0 (pa_cons (pv 0) pa_nil)) (pa_cons pe_int pa_nil)))) (pss_cons (ps_set (i := 2) sc_law.nd rfl (Or.inl rfl) (pe_lst (pa_cons pe_str (pa_cons pe_str (pa_cons pe_str (pa_cons pe_str (pa_cons pe_str (pa_cons pe_str pa_nil)))))))) (pss_cons (ps_set (i := 3) sc_law.nd rfl (Or.inl rfl) (pe_call G_law_formula R_law_formula (by rfl) g_law_formula k_law_formula b_law_formula .nil pass0 (pa_cons (pv 1) (pa_cons (pe_op op_add pe_int (pe_op op_mod (pe_call G_law_draw R_law_draw (by rfl) g_law_draw k_law_draw b_law_draw .nil pass0 (pa_cons (pv 1) pa_nil)) pe_int)) (pa_cons (pe_lst (pa_cons pe_str (pa_cons pe_str (pa_cons pe_str (pa_cons pe_str pa_nil))))) (pa_cons (pe_call G_law_names R_law_names (by rfl) g_law_names k_law_names b_law_names .nil pass0 (pa_cons (pv 1) pa_nil)) (pa_cons (pv 2) pa_nil))))))) (pss_cons (ps_for PassesOwn.never rfl (pi_list (pe_lst (pa_cons (pv 3) (pa_cons (pe_call G_law_chain R_law_chain (by rfl) g_law_chain k_law_chain b_law_chain .nil pass0 (pa_cons (pv 1) pa_nil)) pa_nil)))) (pg_name (i := 4) sc_law.nd rfl (Or.inl rfl)) (pss_one (ps_for PassesOwn.never rfl (pi_list (pe_lst (pa_cons pe_int (pa_cons pe_int (pa_cons (pe_op op_add pe_int (pe_op op_mod (pe_call G_law_draw R_law_draw (by rfl) g_law_draw k_law_draw b_law_draw .nil pass0 (pa_cons (pv 1) pa_nil)) pe_int)) pa_nil))))) (pg_name (i := 5) sc_law.nd rfl (Or.inl rfl)) (pss_one (ps_if (pt_not (pt_val (pe_call G_law_equal R_law_equal (by rfl) g_law_equal k_law_equal b_law_equal .nil pass0 (pa_cons (pe_call G_cost R_cost (by rfl) g_cost k_cost b_cost .nil passL (pa_cons (pv 4) (pa_cons (pv 5) pa_nil))) (pa_cons (pe_call G_law_cost R_law_cost (by rfl) g_law_cost k_law_cost b_law_cost .nil pass0 (pa_cons (pv 4) (pa_cons (pv 5) pa_nil))) pa_nil))))) pss_never pss_nil))))) (pss_one (ps_ret (pe_and (pe_call G_law_refused R_law_refused (by rfl) g_law_refused k_law_refused b_law_refused .nil pass0 (pa_cons (pv 3) (pa_cons pe_int pa_nil))) (pe_one (pe_call G_law_refused R_law_refused (by rfl) g_law_refused k_law_refused b_law_refused .nil pass0 (pa_cons (pv 3) (pa_cons pe_int pa_nil))))))))))), ?_⟩
    refine ⟨_, rfl, a, ns, rfl, hS, hlen, fun H1 p ms s1 np hp sm => ⟨(by show 2 ≤ sizeLine; decide), fun d nd => ?_⟩⟩
    have dr0 : DrA (upd H1 d (.lst [.ref p, .int 0])) d p := ⟨0, ms, upd_same, by rw [upd_ne (ne_of_none hp nd)]; exact hp, sm⟩
    revert dr0
    generalize upd H1 d (.lst [.ref p, .int 0]) = H2
    intro dr0
    refine ⟨(by show 6 ≤ sizeLine; decide), fun c nc => ?_⟩
    have s3 := same_upd (o := .lst [.str "some", .str "all", .str "lfp", .str "pfp", .str "tc", .str "guess"]) nc
    have dk3 : Dk K (upd H2 c (.lst [.str "some", .str "all", .str "lfp", .str "pfp", .str "tc", .str "guess"])) (.ref c) := ⟨kindsL, by decide, fun x hx => hx, .lst (xs := kindsL.map V.str) (SqL.of upd_same) (DpAll.of_strs _)⟩
    have dr3 := dr0.same s3
    clear s3
    revert dk3 dr3
    generalize upd H2 c (.lst [.str "some", .str "all", .str "lfp", .str "pfp", .str "tc", .str "guess"]) = H3
    intro dk3 dr3
    refine ⟨_, rfl, _, rfl, d, p, rfl, dr3, fun z8 H8 _ _ dr8 k8 => ?_⟩
    refine ⟨_, _, rfl, rfl, (by show (0 : Int) < 5; decide), _, _, rfl, rfl, ?_⟩
    obtain ⟨n, hn, n2, n6⟩ : ∃ n : Nat, 2 + z8 % 5 = (n : Int) ∧ 2 ≤ n ∧ n ≤ 6 := ⟨(2 + z8 % 5).toNat, by omega, by omega, by omega⟩
    refine ⟨(by show 4 ≤ sizeLine; decide), fun e ne => ?_⟩
    have se := same_upd (o := .lst (poolC.map V.str)) ne
    have dpe : Dp K (upd H8 e (.lst (poolC.map V.str))) (.ref e) (.list (poolC.map PyData.str)) := .lst (SqL.of upd_same) (DpAll.of_strs _)
    have dre := dr8.same se
    refine ⟨_, rfl, d, p, rfl, dre, fun H9 rn nl Γ dr9 k9 dn nok nlen => ?_⟩
    have k39 : Kp d H3 H9 := (k8.trans (.of se)).trans k9
    refine ⟨_, rfl, d, p, _, .ref e, rn, .ref c, poolC, nl, Γ, n, rfl, hn, by omega, ⟨dr9, Dp.kpA dpe dre (good_strl _) k9, dn, dk3.kpA dr3 k39, nok, poolC_ok, by omega⟩, fun H10 fv f dr10 k10 df gf => ?_⟩
    have wf := gf.wf n6
    -- the chain
    refine ⟨_, rfl, _, rfl, d, p, rfl, dr10, fun H11 gv g dr11 k11 dg cg => ?_⟩
    have df11 := Dp.kl (.dr k11 dr10) df f.noL
    refine ⟨(by show 2 ≤ sizeLine; decide), fun l nl => ?_⟩
    have sl := same_upd (o := .lst [fv, gv]) nl
    have hl : (upd H11 l (.lst [fv, gv])) l = some (.lst [fv, gv]) := upd_same
    have nld := (dr11.ne nl).1
    have dr12 := dr11.same sl
    have df12 := Dp.same sl df11
    have dg12 := Dp.same sl dg
    revert hl dr12 df12 dg12
    generalize upd H11 l (.lst [fv, gv]) = H12
    intro hl dr12 df12 dg12
    have two : ∀ {i : Nat} {y : V}, [fv, gv][i]? = some y → ∀ {H' : Hp}, Kl H12 H' → ∃ f' : Fm, Dp K H' y f'.data ∧ f'.Wf := fun {i y} hi {H'} k => by
      match i, hi with
      | 0, hi => cases hi; exact ⟨f, Dp.kl k df12 f.noL, wf⟩
      | 1, hi => cases hi; exact ⟨g, Dp.kl k dg12 g.noL, cg.wf⟩
    refine ⟨l, rfl, ⟨_, SqL.of hl⟩, for_list (K := K) (a := l) (xs := [fv, gv]) (fun i σ H' => ∃ y4 y5 : Option V, σ = [some (.ref a), some (.ref d), some (.ref c), some fv, y4, y5] ∧ DrA H' d p ∧ Kp d H12 H') ⟨none, none, rfl, dr12, .refl _ _⟩ (fun i σ H' _ ⟨_, _, _, _, k⟩ => SqL.of (k _ _ hl nld)) ?_ ?_⟩
    · rintro i y σ H13 hi ⟨y4, y5, rfl, dr13, k13⟩
      refine ⟨_, rfl, d, p, rfl, dr13, fun z14 H14 _ _ dr14 k14 => ⟨_, _, rfl, rfl, (by show (0 : Int) < 16; decide), _, _, rfl, rfl, (by show 3 ≤ sizeLine; decide), fun ls ns => ?_⟩⟩
      obtain ⟨m3, hm3, m31, m32⟩ : ∃ m : Nat, 1 + z14 % 16 = (m : Int) ∧ 1 ≤ m ∧ m ≤ 16 := ⟨(1 + z14 % 16).toNat, by omega, by omega, by omega⟩
      have ss := same_upd (o := .lst [.int 1, .int 2, .int (1 + z14 % 16)]) ns
      obtain ⟨H15, e15⟩ : ∃ H15, H15 = upd H14 ls (.lst [.int 1, .int 2, .int (1 + z14 % 16)]) := ⟨_, rfl⟩
      have hls : H15 ls = some (.lst ((([1, 2, m3] : List Nat).map fun (n : Nat) => (n : Int)).map V.int)) := by
        rw [e15, upd_same, hm3]
        rfl
      rw [← e15] at ss
      have dr15 := dr14.same ss
      have k15 : Kp d H12 H15 := (k13.trans k14).trans (.of ss)
      obtain ⟨f', d15, wf'⟩ := two hi (.dr k15 dr12)
      refine ⟨ls, rfl, ⟨_, e15 ▸ SqL.of hls⟩, for_list (K := K) (a := ls) (xs := (([1, 2, m3] : List Nat).map fun (n : Nat) => (n : Int)).map V.int) (fun j σ H' => ∃ y5 : Option V, σ = [some (.ref a), some (.ref d), some (.ref c), some fv, some y, y5] ∧ Same H15 H') ⟨y5, rfl, by rw [e15]; exact .refl _⟩ (fun j σ H' _ ⟨_, _, s⟩ => SqL.of (s _ _ hls)) ?_ ?_⟩
      · rintro j x σ H16 hj ⟨y5, rfl, s16⟩
        obtain ⟨z, hz, rfl⟩ := get_int hj
        obtain ⟨m, hm, rfl⟩ := get_map hz
        have mm : 1 ≤ m ∧ m ≤ 16 := by
          have := List.mem_of_getElem? hm
          simp only [List.mem_cons, List.not_mem_nil, or_false] at this
          omega
        refine ⟨_, rfl, _, rfl, y, (m : Nat), f', rfl, Dp.same s16 d15, wf', fun m' e m1 m2 H17 s17 => ?_, fun no => absurd ⟨by omega, by omega⟩ no⟩
        obtain rfl : m = m' := by omega
        refine ⟨_, rfl, _, rfl, y, m, f', rfl, mm, Dp.same (s16.trans s17) d15, wf'.ok, wf'.dep, fun H18 s18 => ?_⟩
        refine ⟨_, _, .int (f'.cost m : Nat), rfl, .int _, .int _, .flat (.inr (.inl ⟨_, rfl⟩)), ?_⟩
        exact ⟨_, rfl, iteF ⟨_, rfl, (s16.trans s17).trans s18⟩⟩
      · rintro σ H16 ⟨y5, rfl, s16⟩
        exact ⟨_, _, rfl, dr15.same s16, k15.trans (.of s16)⟩
    · rintro σ H13 ⟨y4, y5, rfl, dr13, k13⟩
      have df13 := Dp.kl (.dr k13 dr12) df12 f.noL
      refine ⟨_, rfl, fv, 0, f, rfl, df13, wf, by decide, fun H14 s14 => ?_⟩
      refine ⟨true, rfl, iteT ?_⟩
      exact ⟨_, rfl, fv, 17, f, rfl, Dp.same s14 df13, wf, by decide, fun H15 s15 => q _⟩
end
theorem thB_ok {K : PySem.W.Frag} {x : Str} {kvs : List (Str × He.Dv)} (h : thB K x kvs = true) : ∀ k v, (k, v) ∈ kvs.map (fun p => (p.1, p.2.v K)) → ∃ u, PySem.W.nsIn K (He.ga K x) k = some (some u) ∧ RelV v u := by
  intro k v hm
  obtain ⟨p, hp, e⟩ := List.mem_map.mp hm
  have e1 : p.1 = k := congrArg Prod.fst e
  have e2 : p.2.v K = v := congrArg Prod.snd e
  have z := List.all_eq_true.mp h p hp
  rw [← e1, ← e2]
  cases q : PySem.W.nsIn K (He.ga K x) p.1 with
  | none => rw [q] at z; cases z
  | some o =>
    rw [q] at z
    cases o with
    | none => cases z
    | some u => exact ⟨u, rfl, He.relB_ok z⟩
theorem msB_ok {K : PySem.W.Frag} {x : Str} {ks : List Str} (h : msB K x ks = true) : Miss K x ks := by
  intro k hk
  have z := List.all_eq_true.mp h k hk
  cases q : PySem.W.nsIn K (He.ga K x) k with
  | none => rw [q] at z; cases z
  | some o =>
    rw [q] at z
    cases o with
    | none => rfl
    | some u => cases z
theorem facts {P : Program} {w : World} {K : PySem.W.Frag} {h : Heap} {mg : Str → Option Value} {f : Addr} (X : K.In h) (G : h.Ns mainGlobals mg) (hfa : mg ("law" : Str) = some (.ref f)) (c : He.SaysX fas fns tabs [] exs w h K) :
    ∃ fd : FuncData, (∀ (s : Shared) (v : Value), BindsTo s fd ⟨[v], []⟩ [("script", v)]) ∧ ∀ base : Heap, K.In base → base.Ns mainGlobals mg → FnOk P w K mg base CX0 50 f fd ["script"] (spLaw K) := by
  have cd := c.t.d
  obtain ⟨fd_is_whole, F_is_whole⟩ := cd.def_ 0 (d := d_is_whole) rfl
  have g_is_whole := He.glo_ok X G (cd.fact 0 (f := .glo "is_whole") rfl)
  have D_is_whole : Def K mg "is_whole" ["value"] (top 5) := ⟨_, fd_is_whole, F_is_whole, g_is_whole, FunD.bindsN F_is_whole fun _ _ _ _ _ _ us hl => match us, hl with | [_], _ => rfl⟩
  obtain ⟨fd_is_between, F_is_between⟩ := cd.def_ 1 (d := d_is_between) rfl
  have g_is_between := He.glo_ok X G (cd.fact 1 (f := .glo "is_between") rfl)
  have D_is_between : Def K mg "is_between" ["value", "low", "high"] (top 6) := ⟨_, fd_is_between, F_is_between, g_is_between, FunD.bindsN F_is_between fun _ _ _ _ _ _ us hl => match us, hl with | [_, _, _], _ => rfl⟩
  obtain ⟨fd_power, F_power⟩ := cd.def_ 2 (d := d_power) rfl
  have g_power := He.glo_ok X G (cd.fact 2 (f := .glo "power") rfl)
  have D_power : Def K mg "power" ["base", "exponent"] (top 7) := ⟨_, fd_power, F_power, g_power, FunD.bindsN F_power fun _ _ _ _ _ _ us hl => match us, hl with | [_, _], _ => rfl⟩
  obtain ⟨fd_is_name, F_is_name⟩ := cd.def_ 3 (d := d_is_name) rfl
  have g_is_name := He.glo_ok X G (cd.fact 3 (f := .glo "is_name") rfl)
  have D_is_name : Def K mg "is_name" ["text"] (top 14) := ⟨_, fd_is_name, F_is_name, g_is_name, FunD.bindsN F_is_name fun _ _ _ _ _ _ us hl => match us, hl with | [_], _ => rfl⟩
  obtain ⟨fd_are_variables, F_are_variables⟩ := cd.def_ 4 (d := d_are_variables) rfl
  have g_are_variables := He.glo_ok X G (cd.fact 4 (f := .glo "_are_variables") rfl)
  have D_are_variables : Def K mg "_are_variables" ["value", "counts"] (top 24) := ⟨_, fd_are_variables, F_are_variables, g_are_variables, FunD.bindsN F_are_variables fun _ _ _ _ _ _ us hl => match us, hl with | [_, _], _ => rfl⟩
  obtain ⟨fd_are_different, F_are_different⟩ := cd.def_ 5 (d := d_are_different) rfl
  have g_are_different := He.glo_ok X G (cd.fact 5 (f := .glo "are_different") rfl)
  have D_are_different : Def K mg "are_different" ["value", "counts"] (top 25) := ⟨_, fd_are_different, F_are_different, g_are_different, FunD.bindsN F_are_different fun _ _ _ _ _ _ us hl => match us, hl with | [_, _], _ => rfl⟩
  obtain ⟨fd_is_rel, F_is_rel⟩ := cd.def_ 6 (d := d_is_rel) rfl
  have g_is_rel := He.glo_ok X G (cd.fact 6 (f := .glo "_is_rel") rfl)
  have D_is_rel : Def K mg "_is_rel" ["value"] (top 26) := ⟨_, fd_is_rel, F_is_rel, g_is_rel, FunD.bindsN F_is_rel fun _ _ _ _ _ _ us hl => match us, hl with | [_], _ => rfl⟩
  obtain ⟨fd_is_comparison, F_is_comparison⟩ := cd.def_ 7 (d := d_is_comparison) rfl
  have g_is_comparison := He.glo_ok X G (cd.fact 7 (f := .glo "_is_comparison") rfl)
  have D_is_comparison : Def K mg "_is_comparison" ["value"] (top 27) := ⟨_, fd_is_comparison, F_is_comparison, g_is_comparison, FunD.bindsN F_is_comparison fun _ _ _ _ _ _ us hl => match us, hl with | [_], _ => rfl⟩
  obtain ⟨fd_is_negation, F_is_negation⟩ := cd.def_ 8 (d := d_is_negation) rfl
  have g_is_negation := He.glo_ok X G (cd.fact 8 (f := .glo "_is_negation") rfl)
  have D_is_negation : Def K mg "_is_negation" ["_value"] (top 28) := ⟨_, fd_is_negation, F_is_negation, g_is_negation, FunD.bindsN F_is_negation fun _ _ _ _ _ _ us hl => match us, hl with | [_], _ => rfl⟩
  obtain ⟨fd_is_joined, F_is_joined⟩ := cd.def_ 9 (d := d_is_joined) rfl
  have g_is_joined := He.glo_ok X G (cd.fact 9 (f := .glo "_is_joined") rfl)
  have D_is_joined : Def K mg "_is_joined" ["value"] (top 29) := ⟨_, fd_is_joined, F_is_joined, g_is_joined, FunD.bindsN F_is_joined fun _ _ _ _ _ _ us hl => match us, hl with | [_], _ => rfl⟩
  obtain ⟨fd_is_quantified, F_is_quantified⟩ := cd.def_ 10 (d := d_is_quantified) rfl
  have g_is_quantified := He.glo_ok X G (cd.fact 10 (f := .glo "_is_quantified") rfl)
  have D_is_quantified : Def K mg "_is_quantified" ["value"] (top 30) := ⟨_, fd_is_quantified, F_is_quantified, g_is_quantified, FunD.bindsN F_is_quantified fun _ _ _ _ _ _ us hl => match us, hl with | [_], _ => rfl⟩
  obtain ⟨fd_is_fixed_point, F_is_fixed_point⟩ := cd.def_ 11 (d := d_is_fixed_point) rfl
  have g_is_fixed_point := He.glo_ok X G (cd.fact 11 (f := .glo "_is_fixed_point") rfl)
  have D_is_fixed_point : Def K mg "_is_fixed_point" ["value"] (top 31) := ⟨_, fd_is_fixed_point, F_is_fixed_point, g_is_fixed_point, FunD.bindsN F_is_fixed_point fun _ _ _ _ _ _ us hl => match us, hl with | [_], _ => rfl⟩
  obtain ⟨fd_is_closure, F_is_closure⟩ := cd.def_ 12 (d := d_is_closure) rfl
  have g_is_closure := He.glo_ok X G (cd.fact 12 (f := .glo "_is_closure") rfl)
  have D_is_closure : Def K mg "_is_closure" ["value"] (top 32) := ⟨_, fd_is_closure, F_is_closure, g_is_closure, FunD.bindsN F_is_closure fun _ _ _ _ _ _ us hl => match us, hl with | [_], _ => rfl⟩
  obtain ⟨fd_is_guess, F_is_guess⟩ := cd.def_ 13 (d := d_is_guess) rfl
  have g_is_guess := He.glo_ok X G (cd.fact 13 (f := .glo "_is_guess") rfl)
  have D_is_guess : Def K mg "_is_guess" ["value"] (top 33) := ⟨_, fd_is_guess, F_is_guess, g_is_guess, FunD.bindsN F_is_guess fun _ _ _ _ _ _ us hl => match us, hl with | [_], _ => rfl⟩
  obtain ⟨fd_is_shape, F_is_shape⟩ := cd.def_ 14 (d := d_is_shape) rfl
  have g_is_shape := He.glo_ok X G (cd.fact 14 (f := .glo "is_shape") rfl)
  have D_is_shape : Def K mg "is_shape" ["value"] (top 35) := ⟨_, fd_is_shape, F_is_shape, g_is_shape, FunD.bindsN F_is_shape fun _ _ _ _ _ _ us hl => match us, hl with | [_], _ => rfl⟩
  obtain ⟨fd_inner, F_inner⟩ := cd.def_ 15 (d := d_inner) rfl
  have g_inner := He.glo_ok X G (cd.fact 15 (f := .glo "inner") rfl)
  have D_inner : Def K mg "inner" ["formula"] (top 36) := ⟨_, fd_inner, F_inner, g_inner, FunD.bindsN F_inner fun _ _ _ _ _ _ us hl => match us, hl with | [_], _ => rfl⟩
  obtain ⟨fd_own, F_own⟩ := cd.def_ 16 (d := d_own) rfl
  have g_own := He.glo_ok X G (cd.fact 16 (f := .glo "own") rfl)
  have D_own : Def K mg "own" ["formula"] (top 37) := ⟨_, fd_own, F_own, g_own, FunD.bindsN F_own fun _ _ _ _ _ _ us hl => match us, hl with | [_], _ => rfl⟩
  obtain ⟨fd_bound_name, F_bound_name⟩ := cd.def_ 17 (d := d_bound_name) rfl
  have g_bound_name := He.glo_ok X G (cd.fact 17 (f := .glo "bound_name") rfl)
  have D_bound_name : Def K mg "bound_name" ["formula"] (top 38) := ⟨_, fd_bound_name, F_bound_name, g_bound_name, FunD.bindsN F_bound_name fun _ _ _ _ _ _ us hl => match us, hl with | [_], _ => rfl⟩
  obtain ⟨fd_bound_arity, F_bound_arity⟩ := cd.def_ 18 (d := d_bound_arity) rfl
  have g_bound_arity := He.glo_ok X G (cd.fact 18 (f := .glo "bound_arity") rfl)
  have D_bound_arity : Def K mg "bound_arity" ["formula"] (top 39) := ⟨_, fd_bound_arity, F_bound_arity, g_bound_arity, FunD.bindsN F_bound_arity fun _ _ _ _ _ _ us hl => match us, hl with | [_], _ => rfl⟩
  obtain ⟨fd_check_shapes, F_check_shapes⟩ := cd.def_ 19 (d := d_check_shapes) rfl
  have g_check_shapes := He.glo_ok X G (cd.fact 19 (f := .glo "_check_shapes") rfl)
  have D_check_shapes : Def K mg "_check_shapes" ["value", "levels_left", "parts_left"] (top 43) := ⟨_, fd_check_shapes, F_check_shapes, g_check_shapes, FunD.bindsN F_check_shapes fun _ _ _ _ _ _ us hl => match us, hl with | [_, _, _], _ => rfl⟩
  obtain ⟨fd_arities_in, F_arities_in⟩ := cd.def_ 20 (d := d_arities_in) rfl
  have g_arities_in := He.glo_ok X G (cd.fact 20 (f := .glo "arities_in") rfl)
  have D_arities_in : Def K mg "arities_in" ["formula"] (top 44) := ⟨_, fd_arities_in, F_arities_in, g_arities_in, FunD.bindsN F_arities_in fun _ _ _ _ _ _ us hl => match us, hl with | [_], _ => rfl⟩
  obtain ⟨fd_is_positive_in, F_is_positive_in⟩ := cd.def_ 21 (d := d_is_positive_in) rfl
  have g_is_positive_in := He.glo_ok X G (cd.fact 21 (f := .glo "is_positive_in") rfl)
  have D_is_positive_in : Def K mg "is_positive_in" ["formula", "name", "sign"] (top 45) := ⟨_, fd_is_positive_in, F_is_positive_in, g_is_positive_in, FunD.bindsN F_is_positive_in fun _ _ _ _ _ _ us hl => match us, hl with | [_, _, _], _ => rfl⟩
  obtain ⟨fd_check_fixed_points, F_check_fixed_points⟩ := cd.def_ 22 (d := d_check_fixed_points) rfl
  have g_check_fixed_points := He.glo_ok X G (cd.fact 22 (f := .glo "_check_fixed_points") rfl)
  have D_check_fixed_points : Def K mg "_check_fixed_points" ["formula"] (top 46) := ⟨_, fd_check_fixed_points, F_check_fixed_points, g_check_fixed_points, FunD.bindsN F_check_fixed_points fun _ _ _ _ _ _ us hl => match us, hl with | [_], _ => rfl⟩
  obtain ⟨fd_check_formula, F_check_formula⟩ := cd.def_ 23 (d := d_check_formula) rfl
  have g_check_formula := He.glo_ok X G (cd.fact 23 (f := .glo "check_formula") rfl)
  have D_check_formula : Def K mg "check_formula" ["formula"] (top 47) := ⟨_, fd_check_formula, F_check_formula, g_check_formula, FunD.bindsN F_check_formula fun _ _ _ _ _ _ us hl => match us, hl with | [_], _ => rfl⟩
  obtain ⟨fd_doublings, F_doublings⟩ := cd.def_ 24 (d := d_doublings) rfl
  have g_doublings := He.glo_ok X G (cd.fact 24 (f := .glo "doublings") rfl)
  have D_doublings : Def K mg "doublings" ["count"] (top 51) := ⟨_, fd_doublings, F_doublings, g_doublings, FunD.bindsN F_doublings fun _ _ _ _ _ _ us hl => match us, hl with | [_], _ => rfl⟩
  obtain ⟨fd_repetitions, F_repetitions⟩ := cd.def_ 25 (d := d_repetitions) rfl
  have g_repetitions := He.glo_ok X G (cd.fact 25 (f := .glo "_repetitions") rfl)
  have D_repetitions : Def K mg "_repetitions" ["formula", "n"] (top 52) := ⟨_, fd_repetitions, F_repetitions, g_repetitions, FunD.bindsN F_repetitions fun _ _ _ _ _ _ us hl => match us, hl with | [_, _], _ => rfl⟩
  obtain ⟨fd_known_cost, F_known_cost⟩ := cd.def_ 26 (d := d_known_cost) rfl
  have g_known_cost := He.glo_ok X G (cd.fact 26 (f := .glo "known_cost") rfl)
  have D_known_cost : Def K mg "known_cost" ["formula", "n"] (top 53) := ⟨_, fd_known_cost, F_known_cost, g_known_cost, FunD.bindsN F_known_cost fun _ _ _ _ _ _ us hl => match us, hl with | [_, _], _ => rfl⟩
  obtain ⟨fd_cost, F_cost⟩ := cd.def_ 27 (d := d_cost) rfl
  have g_cost := He.glo_ok X G (cd.fact 27 (f := .glo "cost") rfl)
  have D_cost : Def K mg "cost" ["formula", "n"] (top 54) := ⟨_, fd_cost, F_cost, g_cost, FunD.bindsN F_cost fun _ _ _ _ _ _ us hl => match us, hl with | [_, _], _ => rfl⟩
  obtain ⟨fd_law_mixed, F_law_mixed⟩ := cd.def_ 28 (d := d_law_mixed) rfl
  have g_law_mixed := He.glo_ok X G (cd.fact 28 (f := .glo "_law_mixed") rfl)
  have D_law_mixed : Def K mg "_law_mixed" ["number", "k"] (top 56) := ⟨_, fd_law_mixed, F_law_mixed, g_law_mixed, FunD.bindsN F_law_mixed fun _ _ _ _ _ _ us hl => match us, hl with | [_, _], _ => rfl⟩
  obtain ⟨fd_law_numbers, F_law_numbers⟩ := cd.def_ 29 (d := d_law_numbers) rfl
  have g_law_numbers := He.glo_ok X G (cd.fact 29 (f := .glo "_law_numbers") rfl)
  have D_law_numbers : Def K mg "_law_numbers" ["script"] (top 57) := ⟨_, fd_law_numbers, F_law_numbers, g_law_numbers, FunD.bindsN F_law_numbers fun _ _ _ _ _ _ us hl => match us, hl with | [_], _ => rfl⟩
  obtain ⟨fd_law_draw, F_law_draw⟩ := cd.def_ 30 (d := d_law_draw) rfl
  have g_law_draw := He.glo_ok X G (cd.fact 30 (f := .glo "_law_draw") rfl)
  have D_law_draw : Def K mg "_law_draw" ["draws"] (top 58) := ⟨_, fd_law_draw, F_law_draw, g_law_draw, FunD.bindsN F_law_draw fun _ _ _ _ _ _ us hl => match us, hl with | [_], _ => rfl⟩
  obtain ⟨fd_law_equal, F_law_equal⟩ := cd.def_ 31 (d := d_law_equal) rfl
  have g_law_equal := He.glo_ok X G (cd.fact 31 (f := .glo "_law_equal") rfl)
  have D_law_equal : Def K mg "_law_equal" ["actual", "due"] (top 59) := ⟨_, fd_law_equal, F_law_equal, g_law_equal, FunD.bindsN F_law_equal fun _ _ _ _ _ _ us hl => match us, hl with | [_, _], _ => rfl⟩
  obtain ⟨fd_law_all_equal, F_law_all_equal⟩ := cd.def_ 32 (d := d_law_all_equal) rfl
  have g_law_all_equal := He.glo_ok X G (cd.fact 32 (f := .glo "_law_all_equal") rfl)
  have D_law_all_equal : Def K mg "_law_all_equal" ["actual", "due"] (top 60) := ⟨_, fd_law_all_equal, F_law_all_equal, g_law_all_equal, FunD.bindsN F_law_all_equal fun _ _ _ _ _ _ us hl => match us, hl with | [_, _], _ => rfl⟩
  obtain ⟨fd_law_some_of, F_law_some_of⟩ := cd.def_ 33 (d := d_law_some_of) rfl
  have g_law_some_of := He.glo_ok X G (cd.fact 33 (f := .glo "_law_some_of") rfl)
  have D_law_some_of : Def K mg "_law_some_of" ["draws", "pool", "many"] (top 61) := ⟨_, fd_law_some_of, F_law_some_of, g_law_some_of, FunD.bindsN F_law_some_of fun _ _ _ _ _ _ us hl => match us, hl with | [_, _, _], _ => rfl⟩
  obtain ⟨fd_law_atom, F_law_atom⟩ := cd.def_ 34 (d := d_law_atom) rfl
  have g_law_atom := He.glo_ok X G (cd.fact 34 (f := .glo "_law_atom") rfl)
  have D_law_atom : Def K mg "_law_atom" ["draws", "pool", "names"] (top 62) := ⟨_, fd_law_atom, F_law_atom, g_law_atom, FunD.bindsN F_law_atom fun _ _ _ _ _ _ us hl => match us, hl with | [_, _, _], _ => rfl⟩
  obtain ⟨fd_law_within, F_law_within⟩ := cd.def_ 35 (d := d_law_within) rfl
  have g_law_within := He.glo_ok X G (cd.fact 35 (f := .glo "_law_within") rfl)
  have D_law_within : Def K mg "_law_within" ["names", "name", "arity", "mode"] (top 63) := ⟨_, fd_law_within, F_law_within, g_law_within, FunD.bindsN F_law_within fun _ _ _ _ _ _ us hl => match us, hl with | [_, _, _, _], _ => rfl⟩
  obtain ⟨fd_law_turned, F_law_turned⟩ := cd.def_ 36 (d := d_law_turned) rfl
  have g_law_turned := He.glo_ok X G (cd.fact 36 (f := .glo "_law_turned") rfl)
  have D_law_turned : Def K mg "_law_turned" ["names"] (top 64) := ⟨_, fd_law_turned, F_law_turned, g_law_turned, FunD.bindsN F_law_turned fun _ _ _ _ _ _ us hl => match us, hl with | [_], _ => rfl⟩
  obtain ⟨fd_law_barred, F_law_barred⟩ := cd.def_ 37 (d := d_law_barred) rfl
  have g_law_barred := He.glo_ok X G (cd.fact 37 (f := .glo "_law_barred") rfl)
  have D_law_barred : Def K mg "_law_barred" ["names"] (top 65) := ⟨_, fd_law_barred, F_law_barred, g_law_barred, FunD.bindsN F_law_barred fun _ _ _ _ _ _ us hl => match us, hl with | [_], _ => rfl⟩
  obtain ⟨fd_law_bound, F_law_bound⟩ := cd.def_ 38 (d := d_law_bound) rfl
  have g_law_bound := He.glo_ok X G (cd.fact 38 (f := .glo "_law_bound") rfl)
  have D_law_bound : Def K mg "_law_bound" ["draws", "deep", "pool", "names", "kinds"] (top 66) := ⟨_, fd_law_bound, F_law_bound, g_law_bound, FunD.bindsN F_law_bound fun _ _ _ _ _ _ us hl => match us, hl with | [_, _, _, _, _], _ => rfl⟩
  obtain ⟨fd_law_formula, F_law_formula⟩ := cd.def_ 39 (d := d_law_formula) rfl
  have g_law_formula := He.glo_ok X G (cd.fact 39 (f := .glo "_law_formula") rfl)
  have D_law_formula : Def K mg "_law_formula" ["draws", "deep", "pool", "names", "kinds"] (top 67) := ⟨_, fd_law_formula, F_law_formula, g_law_formula, FunD.bindsN F_law_formula fun _ _ _ _ _ _ us hl => match us, hl with | [_, _, _, _, _], _ => rfl⟩
  obtain ⟨fd_law_names, F_law_names⟩ := cd.def_ 40 (d := d_law_names) rfl
  have g_law_names := He.glo_ok X G (cd.fact 40 (f := .glo "_law_names") rfl)
  have D_law_names : Def K mg "_law_names" ["draws"] (top 68) := ⟨_, fd_law_names, F_law_names, g_law_names, FunD.bindsN F_law_names fun _ _ _ _ _ _ us hl => match us, hl with | [_], _ => rfl⟩
  obtain ⟨fd_law_parts, F_law_parts⟩ := cd.def_ 41 (d := d_law_parts) rfl
  have g_law_parts := He.glo_ok X G (cd.fact 41 (f := .glo "_law_parts") rfl)
  have D_law_parts : Def K mg "_law_parts" ["f"] (top 69) := ⟨_, fd_law_parts, F_law_parts, g_law_parts, FunD.bindsN F_law_parts fun _ _ _ _ _ _ us hl => match us, hl with | [_], _ => rfl⟩
  obtain ⟨fd_law_bound_here, F_law_bound_here⟩ := cd.def_ 42 (d := d_law_bound_here) rfl
  have g_law_bound_here := He.glo_ok X G (cd.fact 42 (f := .glo "_law_bound_here") rfl)
  have D_law_bound_here : Def K mg "_law_bound_here" ["f"] (top 70) := ⟨_, fd_law_bound_here, F_law_bound_here, g_law_bound_here, FunD.bindsN F_law_bound_here fun _ _ _ _ _ _ us hl => match us, hl with | [_], _ => rfl⟩
  obtain ⟨fd_law_cost, F_law_cost⟩ := cd.def_ 43 (d := d_law_cost) rfl
  have g_law_cost := He.glo_ok X G (cd.fact 43 (f := .glo "_law_cost") rfl)
  have D_law_cost : Def K mg "_law_cost" ["f", "n"] (top 71) := ⟨_, fd_law_cost, F_law_cost, g_law_cost, FunD.bindsN F_law_cost fun _ _ _ _ _ _ us hl => match us, hl with | [_, _], _ => rfl⟩
  obtain ⟨fd_law_chain, F_law_chain⟩ := cd.def_ 44 (d := d_law_chain) rfl
  have g_law_chain := He.glo_ok X G (cd.fact 44 (f := .glo "_law_chain") rfl)
  have D_law_chain : Def K mg "_law_chain" ["draws"] (top 72) := ⟨_, fd_law_chain, F_law_chain, g_law_chain, FunD.bindsN F_law_chain fun _ _ _ _ _ _ us hl => match us, hl with | [_], _ => rfl⟩
  obtain ⟨fd_law_refused, F_law_refused⟩ := cd.def_ 45 (d := d_law_refused) rfl
  have g_law_refused := He.glo_ok X G (cd.fact 45 (f := .glo "_law_refused") rfl)
  have D_law_refused : Def K mg "_law_refused" ["f", "n"] (top 73) := ⟨_, fd_law_refused, F_law_refused, g_law_refused, FunD.bindsN F_law_refused fun _ _ _ _ _ _ us hl => match us, hl with | [_, _], _ => rfl⟩
  obtain ⟨fd_law, F_law⟩ := cd.def_ 46 (d := d_law) rfl
  have g_law := He.glo_ok X G (cd.fact 46 (f := .glo "law") rfl)
  have D_law : Def K mg "law" ["script"] (top 74) := ⟨_, fd_law, F_law, g_law, FunD.bindsN F_law fun _ _ _ _ _ _ us hl => match us, hl with | [_], _ => rfl⟩
  have T : Txt mg := ⟨He.free_ok X G (cd.fact 47 (f := .free "len") rfl), He.free_ok X G (cd.fact 48 (f := .free "range") rfl), He.free_ok X G (cd.fact 49 (f := .free "isinstance") rfl), He.free_ok X G (cd.fact 50 (f := .free "list") rfl), He.free_ok X G (cd.fact 51 (f := .free "tuple") rfl), He.free_ok X G (cd.fact 52 (f := .free "bool") rfl), He.free_ok X G (cd.fact 53 (f := .free "int") rfl), He.free_ok X G (cd.fact 54 (f := .free "str") rfl), He.free_ok X G (cd.fact 55 (f := .free "sorted") rfl), He.free_ok X G (cd.fact 56 (f := .free "set") rfl), He.free_ok X G (cd.fact 57 (f := .free "all") rfl), He.free_ok X G (cd.fact 58 (f := .free "any") rfl), He.free_ok X G (cd.fact 59 (f := .free "sum") rfl), He.free_ok X G (cd.fact 60 (f := .free "max") rfl), He.free_ok X G (cd.fact 61 (f := .free "min") rfl), He.free_ok X G (cd.fact 62 (f := .free "dict") rfl), He.free_ok X G (cd.fact 63 (f := .free "enumerate") rfl), He.free_ok X G (cd.fact 64 (f := .free "zip") rfl)⟩
  have c_LONGEST_NAME := He.int_ok X G (cd.fact 65 (f := .int "LONGEST_NAME" 12) rfl)
  have c_LARGEST_SIZE := He.int_ok X G (cd.fact 66 (f := .int "LARGEST_SIZE" 16) rfl)
  have c_MOST_JOINED := He.int_ok X G (cd.fact 67 (f := .int "MOST_JOINED" 40) rfl)
  have c_LARGEST_GUESS := He.int_ok X G (cd.fact 68 (f := .int "LARGEST_GUESS" 3) rfl)
  have c_MOST_PARTS := He.int_ok X G (cd.fact 69 (f := .int "MOST_PARTS" 2000) rfl)
  have c_MOST_DEEP := He.int_ok X G (cd.fact 70 (f := .int "MOST_DEEP" 40) rfl)
  have c_LARGEST_COST := He.int_ok X G (cd.fact 71 (f := .int "LARGEST_COST" 1000000000) rfl)
  have c_ENOUGH_DOUBLINGS := He.int_ok X G (cd.fact 72 (f := .int "ENOUGH_DOUBLINGS" 30) rfl)
  have c_LETTERS := He.str_ok X G (cd.fact 73 (f := .str "LETTERS" "abcdefghijklmnopqrstuvwxyz") rfl)
  have c_FIGURES := He.str_ok X G (cd.fact 74 (f := .str "FIGURES" "0123456789") rfl)
  have c_RESERVED := He.glo_ok X G (cd.fact 75 (f := .glo "RESERVED") rfl)
  have c_REL_COUNTS := He.glo_ok X G (cd.fact 76 (f := .glo "REL_COUNTS") rfl)
  have c_OWN_COUNTS := He.glo_ok X G (cd.fact 77 (f := .glo "OWN_COUNTS") rfl)
  have c_TC_COUNTS := He.glo_ok X G (cd.fact 78 (f := .glo "TC_COUNTS") rfl)
  have c_LENGTHS := He.glo_ok X G (cd.fact 79 (f := .glo "LENGTHS") rfl)
  have c_BODY_AT := He.glo_ok X G (cd.fact 80 (f := .glo "BODY_AT") rfl)
  have c_OWN_AT := He.glo_ok X G (cd.fact 81 (f := .glo "OWN_AT") rfl)
  have c_TESTS := He.glo_ok X G (cd.fact 82 (f := .glo "TESTS") rfl)
  have c_BadArgument := He.glo_ok X G (cd.fact 83 (f := .glo "BadArgument") rfl)
  have c_BadFormula := He.glo_ok X G (cd.fact 84 (f := .glo "BadFormula") rfl)
  have t_LENGTHS := c.t.tab 0 (t := ((fun K => He.ga K "LENGTHS"), ["rel", "eq", "less", "not", "and", "or", "some", "all", "lfp", "pfp", "tc", "guess"])) rfl
  have t_BODY_AT := c.t.tab 1 (t := ((fun K => He.ga K "BODY_AT"), ["not", "some", "all", "lfp", "pfp", "tc", "guess"])) rfl
  have t_OWN_AT := c.t.tab 2 (t := ((fun K => He.ga K "OWN_AT"), ["some", "all", "lfp", "pfp", "tc"])) rfl
  have t_TESTS := c.t.tab 3 (t := ((fun K => He.ga K "TESTS"), ["rel", "eq", "less", "not", "and", "or", "some", "all", "lfp", "pfp", "tc", "guess"])) rfl
  have more0 := c.more
  obtain ⟨x_RESERVED, more1⟩ := He.ba more0
  obtain ⟨x_REL_COUNTS, more2⟩ := He.ba more1
  obtain ⟨x_OWN_COUNTS, more3⟩ := He.ba more2
  obtain ⟨x_TC_COUNTS, more4⟩ := He.ba more3
  obtain ⟨x_LENGTHS, more5⟩ := He.ba more4
  obtain ⟨x_BODY_AT, more6⟩ := He.ba more5
  obtain ⟨x_OWN_AT, more7⟩ := He.ba more6
  obtain ⟨x_TESTS, more8⟩ := He.ba more7
  obtain ⟨m_BODY_AT, more9⟩ := He.ba more8
  obtain ⟨m_OWN_AT, more10⟩ := He.ba more9
  obtain ⟨x_BadArgument, more11⟩ := He.ba more10
  have u_BadArgument_BadFormula := more11
  have e := hfa.symm.trans g_law
  cases e
  have b := FunD.bindsA (ps := ["script"]) F_law fun _ _ _ _ _ _ us hl => match us, hl with | [_], _ => rfl
  refine ⟨fd_law, fun s v => b s [v] rfl, fun base _ _ => ?_⟩
  have h_is := has_is_name (P := P) (w := w) (base := base) D_is_name T c_LONGEST_NAME c_LETTERS c_FIGURES c_RESERVED (fun H => He.tupB_ok x_RESERVED H)
  have S : Shp K w mg := ⟨c_MOST_JOINED, c_LARGEST_GUESS, c_REL_COUNTS, fun H => He.tupB_ok x_REL_COUNTS H, c_OWN_COUNTS, fun H => He.tupB_ok x_OWN_COUNTS H, c_TC_COUNTS, fun H => He.tupB_ok x_TC_COUNTS H,
    ⟨c_LENGTHS, t_LENGTHS, thB_ok x_LENGTHS⟩, ⟨c_BODY_AT, t_BODY_AT, thB_ok x_BODY_AT⟩, ⟨c_OWN_AT, t_OWN_AT, thB_ok x_OWN_AT⟩, ⟨c_TESTS, t_TESTS, thB_ok x_TESTS⟩, msB_ok m_BODY_AT, msB_ok m_OWN_AT⟩
  have h_inner := has_inner (P := P) (base := base) D_inner T S
  have h_own := has_own (P := P) (base := base) D_own T S
  have h_bname := has_bound_name (P := P) (w := w) (base := base) D_bound_name
  have h_barity := has_bound_arity (P := P) (w := w) (base := base) D_bound_arity T
  have h_vars := has_are_variables D_are_variables T h_is
  have h_diff := has_are_different D_are_different T h_vars
  have h_whole := has_is_whole (P := P) (w := w) (base := base) D_is_whole T
  have h_between := has_is_between D_is_between h_whole
  have t_rel := has_is_rel D_is_rel S h_is h_vars
  have t_comp := has_is_comparison D_is_comparison h_is
  have t_neg := has_is_negation (P := P) (w := w) (base := base) D_is_negation
  have t_join := has_is_joined (P := P) (base := base) D_is_joined T S
  have t_quant := has_is_quantified D_is_quantified S h_diff
  have t_fix := has_is_fixed_point D_is_fixed_point T S h_is h_vars h_diff
  have t_clo := has_is_closure D_is_closure T S h_vars h_diff
  have t_guess := has_is_guess D_is_guess S h_is h_between
  have tests : Tests P w K mg base := by
    refine ⟨fun k => ?_, fun k => ?_⟩
    · cases k
      · exact g_is_rel
      · exact g_is_comparison
      · exact g_is_comparison
      · exact g_is_negation
      · exact g_is_joined
      · exact g_is_joined
      · exact g_is_quantified
      · exact g_is_quantified
      · exact g_is_fixed_point
      · exact g_is_fixed_point
      · exact g_is_closure
      · exact g_is_guess
    · cases k
      · exact ⟨_, t_rel⟩
      · exact ⟨_, t_comp⟩
      · exact ⟨_, t_comp⟩
      · exact ⟨_, t_neg⟩
      · exact ⟨_, t_join⟩
      · exact ⟨_, t_join⟩
      · exact ⟨_, t_quant⟩
      · exact ⟨_, t_quant⟩
      · exact ⟨_, t_fix⟩
      · exact ⟨_, t_fix⟩
      · exact ⟨_, t_clo⟩
      · exact ⟨_, t_guess⟩
  have h_shape := has_is_shape D_is_shape T S tests
  have h_shapes := has_check_shapes D_check_shapes h_shape h_inner
  have h_pos := has_is_positive D_is_positive_in h_bname h_inner
  have h_fp := has_check_fixed_points D_check_fixed_points h_pos h_inner
  have h_ar := has_arities D_arities_in T h_bname h_inner h_barity
  have h_check := has_check_formula D_check_formula c_MOST_DEEP c_MOST_PARTS h_shapes h_ar h_fp
  have h_mixed := has_mixed (P := P) (w := w) (base := base) D_law_mixed
  have h_numbers := has_numbers D_law_numbers T h_mixed
  have h_draw := has_draw D_law_draw T h_mixed
  have h_some := has_some_of D_law_some_of T h_draw
  have h_within := has_within (P := P) (w := w) (base := base) D_law_within
  have h_turned := has_turned (P := P) (w := w) (base := base) D_law_turned
  have h_barred := has_barred (P := P) (w := w) (base := base) D_law_barred
  have h_atom := has_atom D_law_atom T h_draw
  have h_form := has_formula D_law_formula T h_draw h_atom h_turned fun n C => has_bound D_law_bound T h_draw h_some h_within h_barred C
  have h_names := has_names D_law_names T h_draw
  have h_lparts := has_law_parts (P := P) (w := w) (base := base) D_law_parts T
  have h_lbh := has_law_bound_here (P := P) (w := w) (base := base) D_law_bound_here T
  have h_eq := has_equalD (P := P) (w := w) (base := base) D_law_equal D_law_all_equal T
  have BA := xcB_ok c_BadArgument x_BadArgument
  have h_power := has_power (P := P) (w := w) (base := base) D_power T
  have h_doub := has_doublings D_doublings T c_ENOUGH_DOUBLINGS h_power
  have h_rep := has_repetitions D_repetitions T h_power h_doub h_own
  have h_kc := has_known_cost D_known_cost T c_LARGEST_COST h_inner h_rep
  have h_lc := has_lcost D_law_cost T h_lparts h_lbh
  have h_chain := has_chain D_law_chain T h_draw
  have h_cost := has_cost D_cost BA c_LARGEST_SIZE h_check h_between h_kc
  have h_ref := has_refused D_law_refused T BA c_BadFormula (kitB2_ok u_BadArgument_BadFormula) h_cost
  exact ok_law F_law T h_numbers h_draw h_names (h_form 6) h_chain h_cost (h_lc 40) h_ref h_eq
end SaysoV
open PySem PySem.W PySem.Calls PyProof.Rows
set_option maxHeartbeats 0 in
theorem PySem.Challenge.cw_sayso_k12_costs_of_formulas_holds : PySem.Challenge.rw_sayso_k12_costs_of_formulas.Holds := by
  w_on; o_law
  refine HandSHeadRun.head_any (r := OpenLaw.row PySem.Challenge.rw_sayso_k12_costs_of_formulas) (q := view (OpenLaw.row PySem.Challenge.rw_sayso_k12_costs_of_formulas).prog [74]) (H := SaysoV.hk) (ob := SaysoV.ob) (M := 3000) (loose := SaysoV.looseN) (d := HandSHeadRun.topDef (OpenLaw.row PySem.Challenge.rw_sayso_k12_costs_of_formulas).prog 74) (kwd := []) SaysoV.ob_eq
    (by kernel_rfl) (fun s => by kernel_rfl) SaysoV.run (by kernel_rfl) (by kernel_rfl) (by kernel_rfl) (by rfl) (by first | assumption | decide +kernel) (by decide +kernel) ⟨rfl, rfl, rfl, rfl, rfl, by decide +kernel⟩ ?hw ?hc
  case hw => w_witness2
  case hc =>
    refine L2.walk_ofE (l := PySem.Challenge.rw_sayso_k12_costs_of_formulas) (n := 63) (k := 50) (x := "script") (CX := L2.CX0) rfl (by decide) (by kernel_rfl) ⟨rfl, by decide, by decide⟩ ?F (fun _ _ _ _ z => z)
    intro w mg fa h Y G hmg0
    obtain ⟨K, KX, c⟩ := Y
    have hmg : mg ("law" : PySem.Str) = some (.ref fa) := by
      have e : (HandSHeadRun.topDef (OpenLaw.row PySem.Challenge.rw_sayso_k12_costs_of_formulas).prog 74).name = ("law" : PySem.Str) := by kernel_rfl
      rw [← e]
      exact hmg0
    obtain ⟨fd, hb, hF⟩ := SaysoV.facts (P := (PySem.Challenge.rw_sayso_k12_costs_of_formulas).prog) (w := w) KX G hmg c
    exact ⟨K, fd, SaysoV.spLaw K, KX, hb, fun H a ns hl _ hS => ⟨a, ns, rfl, hS, hl, fun _ => rfl⟩, hF⟩
