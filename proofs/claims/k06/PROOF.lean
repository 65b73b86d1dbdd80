import PyProof.Rows.All
import Wide.All
import OpenK.AllK
import Wide.FinOn
import KE.KStateDown
import HandS.ForMost
import HandS.Defaults
import HandS.IsInst
import HandS.Flow
import HandS.Walk
import HandS.Head0
import HandS.Head1
import HandS.Head2
import HandS.HeadEnd
import HandS.HeadHook1
import HandS.HeadHook2
import HandS.HeadHook3
import HandS.HeadHook4
import PySem.Challenge.RW_sayso_k06_names_are_tested
set_option Elab.async false
set_option linter.all false
set_option maxRecDepth 100000
set_option maxHeartbeats 4000000
namespace SaysoV
open PySem PySem.Spec PyProof.Rows L2
/-! ### the text by places, what a def is to its callers -/
def top (i : Nat) : Stmt := PySem.Challenge.pw_sayso_k06_names_are_tested.main.body.getD i (.Pass ⟨0, 0, 0, 0⟩)
abbrev FnP (K : PySem.W.Frag) (x : Str) (st : Stmt) (f : Addr) (fd : FuncData) : Prop := FunD K x x (defArgs st) (defBody st) (defScope st) [] [] f fd
/-- a def as the top leaves it -/
def Def (K : PySem.W.Frag) (mg : Str → Option Value) (x : Str) (ps : List Str) (st : Stmt) : Prop := ∃ f fd, FnP K x st f fd ∧ mg x = some (.ref f) ∧ Binds K fd ps []
/-- a def with its promise, as a caller takes it -/
def HasX (CX : CXT) (P : Program) (w : World) (K : PySem.W.Frag) (mg : Str → Option Value) (base : Heap) (k : Nat) (x : Str) (ps : List Str) (sp : Sp) : Prop :=
  ∃ f fd, FnOk P w K mg base CX k f fd ps sp ∧ mg x = some (.ref f) ∧ PySem.W.keepIn K (.ref f) = true ∧ Binds K fd ps []
abbrev Has := HasX CX0
/-- the names that are still built-in -/
structure Txt (mg : Str → Option Value) : Prop where
  n_len : mg "len" = none
  n_range : mg "range" = none
  n_isinstance : mg "isinstance" = none
  n_list : mg "list" = none
  n_tuple : mg "tuple" = none
  n_bool : mg "bool" = none
  n_int : mg "int" = none
  n_str : mg "str" = none
  n_sorted : mg "sorted" = none
  n_set : mg "set" = none
  n_all : mg "all" = none
  n_any : mg "any" = none
  n_sum : mg "sum" = none
  n_max : mg "max" = none
  n_min : mg "min" = none
  n_dict : mg "dict" = none
  n_enumerate : mg "enumerate" = none
  n_zip : mg "zip" = none
section
variable {P : Program} {w : World} {K : PySem.W.Frag} {mg : Str → Option Value} {base : Heap} {CX : CXT}
theorem Def.has {x : Str} {ps : List Str} {st : Stmt} {k : Nat} {sp : Sp} (D : Def K mg x ps st) (h : ∀ f fd, FnP K x st f fd → FnOk P w K mg base CX k f fd ps sp) : HasX CX P w K mg base k x ps sp := by
  obtain ⟨f, fd, F, g, b⟩ := D
  exact ⟨f, fd, h f fd F, g, F.kp, b⟩
end
theorem same_upd {H : Hp} {p : Addr} {o : HO} (h : H p = none) : Same H (upd H p o) := fun b x e => by
  rw [upd_ne (ne_of_none e h)]
  exact e
/-- all that was tracked but d is as it was -/
def Kp (d : Addr) (H H' : Hp) : Prop := ∀ b o, H b = some o → b ≠ d → H' b = some o
theorem Kp.refl (d : Addr) (H : Hp) : Kp d H H := fun _ _ e _ => e
theorem Kp.trans {d : Addr} {H H1 H2 : Hp} (a : Kp d H H1) (b : Kp d H1 H2) : Kp d H H2 := fun c o e n => b c o (a c o e n) n
theorem Kp.of {d : Addr} {H H' : Hp} (a : Same H H') : Kp d H H' := fun c o e _ => a c o e
theorem Kp.upd {d : Addr} {H : Hp} {o : HO} : Kp d H (L2.upd H d o) := fun c x e n => by rw [upd_ne n]; exact e
theorem Kp.free {d : Addr} {H H' : Hp} {p : Addr} (a : Kp d H H') (hp : p ≠ d) (h : H' p = none) : H p = none := by
  cases q : H p with
  | none => rfl
  | some o => rw [a p o q hp] at h; cases h
/-- the draws: a list of small numbers and the place of the next one -/
def DrawsAt (H : Hp) (d : Addr) : Prop := ∃ (l : Addr) (n : Nat) (ms : List Int), H d = some (.lst [.ref l, .int n]) ∧ H l = some (.lst (ms.map V.int)) ∧ ∀ z, z ∈ ms → 0 ≤ z ∧ z < 1000000
theorem draws_ne {H : Hp} {d l : Addr} {n : Int} {ms : List Int} (h1 : H d = some (.lst [.ref l, .int n])) (h2 : H l = some (.lst (ms.map V.int))) : l ≠ d := by
  intro e
  subst e
  rw [h1] at h2
  have h3 : [V.ref l, V.int n] = ms.map V.int := HO.lst.inj (Option.some.inj h2)
  cases ms with
  | nil => cases h3
  | cons a r => injection h3 with h4 _; cases h4
theorem DrawsAt.same {H H' : Hp} {d : Addr} (h : DrawsAt H d) (s : Same H H') : DrawsAt H' d := by
  obtain ⟨l, n, ms, h1, h2, h3⟩ := h
  exact ⟨l, n, ms, s _ _ h1, s _ _ h2, h3⟩
theorem DrawsAt.some {H : Hp} {d : Addr} (h : DrawsAt H d) : ∃ xs, H d = Option.some (.lst xs) := by
  obtain ⟨l, n, ms, h1, _⟩ := h
  exact ⟨_, h1⟩
theorem get_int {ns : List Int} {i : Nat} {y : V} (h : (ns.map V.int)[i]? = some y) : ∃ z, ns[i]? = some z ∧ y = .int z := by
  rw [List.getElem?_map] at h
  cases e : ns[i]? with
  | none => rw [e] at h; cases h
  | some z => rw [e] at h; exact ⟨z, rfl, (Option.some.inj h).symm⟩
/-! ### the promises of the law's helpers -/
def spMixed : Sp := fun vs H Q _ => ∃ n k : Int, vs = [.int n, .int k] ∧ ∀ z : Int, 0 ≤ z → z < 2147483647 → Q (.int z) H
def Small (ms : List Int) : Prop := ∀ z, z ∈ ms → 0 ≤ z ∧ z < 1000000
theorem Small.add {ms : List Int} {z : Int} (h : Small ms) : Small (ms ++ [z % 1000000]) := by
  intro y hy
  rcases List.mem_append.mp hy with hy | hy
  · exact h y hy
  · rw [List.mem_singleton.mp hy]
    exact ⟨Int.emod_nonneg _ (by decide), Int.emod_lt_of_pos _ (by decide)⟩
def spNumbers (K : PySem.W.Frag) : Sp := fun vs H Q _ => ∃ (a : Addr) (ns : List Int), vs = [.ref a] ∧ SqL K H a (ns.map V.int) ∧ ns.length ≤ 63 ∧
  ∀ (H' : Hp) (p : Addr) (ms : List Int), Same H H' → H p = none → H' p = some (.lst (ms.map V.int)) → Small ms → Q (.ref p) H'
def spDraw : Sp := fun vs H Q _ => ∃ d : Addr, vs = [.ref d] ∧ DrawsAt H d ∧ ∀ (z : Int) (H' : Hp), 0 ≤ z → z < 1000000 → DrawsAt H' d → Kp d H H' → Q (.int z) H'
section
variable {P : Program} {w : World} {K : PySem.W.Frag} {mg : Str → Option Value} {base : Heap}
theorem sc_mixed : FnScope ["number", "k", "step"] ["number", "k"] (defScope (top 7)) := ⟨rfl, rfl, rfl, by decide +kernel, rfl, by decide +kernel, by decide +kernel⟩
theorem has_mixed (D : Def K mg "_law_mixed" ["number", "k"] (top 7)) : Has P w K mg base 1 "_law_mixed" ["number", "k"] spMixed := D.has fun f fd F => by
  refine F.ok sc_mixed (fun vs H Q E h => ?_) (fun cdv A outer s H vs Q E hr h => ?_)
  · obtain ⟨n, k, rfl, _⟩ := h; rfl
  · obtain ⟨n, k, rfl, q⟩ := h
    refine ⟨_, PSs.nox (pss_cons (ps_set (i := 2) sc_mixed.nd rfl (Or.inl rfl) (pe_op op_mod (pe_op op_add (pe_op op_add (pe_op op_mul (pv 0) pe_int) (pe_op op_mul (pv 1) pe_int)) pe_int) pe_int)) (pss_one (ps_ret (pe_op op_mod (pe_op op_add (pe_op op_mul (pv 2) (pe_op op_add (pe_op op_fdiv (pv 2) pe_int) pe_int)) (pv 1)) pe_int)))), ?_⟩
    refine ⟨_, rfl, _, _, rfl, rfl, .inr ⟨by decide, by decide⟩, _, rfl, _, _, rfl, rfl, .inr ⟨by decide, by decide⟩, _, _, rfl, rfl, _, _, rfl, rfl, _, _, rfl, rfl, (by show (0 : Int) < 2147483647; decide), ?_⟩
    have h0 : 0 ≤ (n * 48271 + k * 69621 + 12345) % 2147483647 := Int.emod_nonneg _ (by decide)
    have h1 : (n * 48271 + k * 69621 + 12345) % 2147483647 < 2147483647 := Int.emod_lt_of_pos _ (by decide)
    revert h0 h1
    generalize (n * 48271 + k * 69621 + 12345) % 2147483647 = z
    intro h0 h1
    refine ⟨_, rfl, _, rfl, _, _, rfl, rfl, ⟨by decide, by decide⟩, _, _, rfl, rfl, _, _, rfl, rfl, .inl ⟨by omega, by omega⟩, _, rfl, _, _, rfl, rfl, _, _, rfl, rfl, (by show (0 : Int) < 2147483647; decide), ?_⟩
    exact q _ (Int.emod_nonneg _ (by decide)) (Int.emod_lt_of_pos _ (by decide))
theorem sc_numbers : FnScope ["script", "numbers", "cell", "rest", "k"] ["script"] (defScope (top 8)) := ⟨rfl, rfl, rfl, by decide +kernel, rfl, by decide +kernel, by decide +kernel⟩
theorem has_numbers (D : Def K mg "_law_numbers" ["script"] (top 8)) (T : Txt mg) (C1 : Has P w K mg base 1 "_law_mixed" ["number", "k"] spMixed) : Has P w K mg base 2 "_law_numbers" ["script"] (spNumbers K) := D.has fun f fd F => by
  obtain ⟨f1, fd1, G_law_mixed, g_law_mixed, k_law_mixed, b_law_mixed⟩ := C1
  refine F.ok sc_numbers (fun vs H Q E h => ?_) (fun cdv A outer s H vs Q E hr h => ?_)
  · obtain ⟨a, ns, rfl, _⟩ := h; rfl
  · obtain ⟨a, ns, rfl, hS, hlen, q⟩ := h
    have R_law_mixed : Room 1 _ := hr.mono (by decide)
    refine ⟨_, PSs.nox (pss_cons (ps_set (i := 1) sc_numbers.nd rfl (Or.inl rfl) (pe_lst pa_nil)) (pss_cons (ps_for PassesOwn.never rfl (pi_list (pv 0)) (pg_name (i := 2) sc_numbers.nd rfl (Or.inl rfl)) (pss_one (ps_if (pt_cmpR op_ge (pv 2) (pe_op op_pow pe_int pe_int) (nomark _)) (pss_cons (ps_set (i := 3) sc_numbers.nd rfl (Or.inl rfl) (pv 2)) (pss_one (ps_for PassesOwn.never rfl (pi_range1 (by rfl) T.n_range (pa_cons pe_int pa_nil)) (pg_name (i := 4) sc_numbers.nd rfl (Or.inl rfl)) (pss_one (ps_if (pt_cmpR op_gt (pv 3) pe_int (nomark _)) (pss_cons (ps_expr (pe_bm PySem.F.plainAttrs_list PySem.F.slot_list_append PySem.F.type_list_append mt_append (pv 1) (pa_cons (pe_op op_mod (pv 3) pe_int) pa_nil))) (pss_one (ps_set (i := 3) sc_numbers.nd rfl (Or.inl rfl) (pe_op op_fdiv (pv 3) pe_int)))) pss_nil))))) (pss_cons (ps_expr (pe_bm PySem.F.plainAttrs_list PySem.F.slot_list_append PySem.F.type_list_append mt_append (pv 1) (pa_cons (pe_op op_mod (pv 2) pe_int) pa_nil))) (pss_one (ps_for PassesOwn.never rfl (pi_range1 (by rfl) T.n_range (pa_cons pe_int pa_nil)) (pg_name (i := 4) sc_numbers.nd rfl (Or.inl rfl)) (pss_one (ps_expr (pe_bm PySem.F.plainAttrs_list PySem.F.slot_list_append PySem.F.type_list_append mt_append (pv 1) (pa_cons (pe_op op_mod (pe_call G_law_mixed R_law_mixed (by rfl) g_law_mixed k_law_mixed b_law_mixed .nil pass0 (pa_cons (pe_call G_law_mixed R_law_mixed (by rfl) g_law_mixed k_law_mixed b_law_mixed .nil pass0 (pa_cons (pe_op op_mod (pv 2) pe_int) (pa_cons (pv 4) pa_nil))) (pa_cons (pe_op op_add (pv 4) pe_int) pa_nil))) pe_int) pa_nil)))))))))) (pss_one (ps_ret (pv 1))))), ?_⟩
    refine ⟨Nat.zero_le _, fun p np => ?_⟩
    have s0 : Same H (upd H p (.lst [])) := same_upd np
    refine ⟨_, rfl, a, rfl, ⟨_, s0.seq hS⟩, for_list (K := K) (a := a) (xs := ns.map V.int) (fun i σ H2 => ∃ (y2 y3 y4 : Option V) (ms : List Int), σ = [some (.ref a), some (.ref p), y2, y3, y4] ∧ Same H H2 ∧ H2 p = some (.lst (ms.map V.int)) ∧ ms.length ≤ 61 * i ∧ Small ms)
      ⟨none, none, none, [], rfl, s0, upd_same, Nat.zero_le _, fun z hz => nomatch hz⟩ (fun i σ H2 _ ⟨_, _, _, _, _, s2, _⟩ => s2.seq hS) ?_ ?_⟩
    · rintro i y σ H2 hi ⟨y2, y3, y4, ms, rfl, s2, hp, hl, sm⟩
      obtain ⟨c, hc, rfl⟩ := get_int hi
      have hi63 : i < 63 := by
        have := (List.getElem?_eq_some_iff.mp hc).1
        omega
      have room : ∀ j : Nat, j ≤ 60 → ((ms.length + j : Nat) < sizeLine) := fun j hj => Nat.lt_of_le_of_lt (show ms.length + j ≤ 61 * 62 + 60 by omega) (by decide)
      refine ⟨_, rfl, _, _, rfl, rfl, ⟨by decide, by decide, by decide⟩, _, _, rfl, rfl, _, rfl, ite2 (fun e => ?_) (fun e => ?_)⟩
      · -- a huge number: its pieces
        refine ⟨_, rfl, 60, rfl, by decide, by decide, for_range (n := 60) (fun j σ H3 => ∃ (y4 : Option V) (r : Int) (ms3 : List Int), σ = [some (.ref a), some (.ref p), some (.int c), some (.int r), y4] ∧ Same H H3 ∧ H3 p = some (.lst (ms3.map V.int)) ∧ ms3.length ≤ ms.length + j ∧ Small ms3)
          ⟨y4, c, ms, rfl, s2, hp, Nat.le_refl _, sm⟩ ?_ ?_⟩
        · rintro j σ H3 hj ⟨y4, r, ms3, rfl, s3, hp3, hl3, sm3⟩
          refine ⟨_, rfl, _, _, rfl, rfl, _, rfl, ite2 (fun e2 => ?_) (fun e2 => ?_)⟩
          · refine ⟨_, rfl, .inl ⟨rfl, _, SqL.of hp3⟩, _, rfl, _, _, rfl, rfl, (by show (0 : Int) < 1000000; decide), p, _, _, rfl, rfl, hp3, ?_, ?_⟩
            · rw [List.length_map]
              exact Nat.lt_of_le_of_lt hl3 (room j (by omega))
            · refine ⟨_, rfl, _, _, rfl, rfl, ⟨by decide, by decide⟩, ?_⟩
              refine ⟨_, _, ms3 ++ [r % 1000000], rfl, fun b o eb => ?_, ?_, ?_, sm3.add⟩
              · rw [upd_ne (ne_of_none eb np)]
                exact s3 _ _ eb
              · rw [upd_same, List.map_append]
                rfl
              · rw [List.length_append]
                show ms3.length + 1 ≤ _
                omega
          · exact ⟨_, r, ms3, rfl, s3, hp3, by omega, sm3⟩
        · rintro σ H3 ⟨y4, r, ms3, rfl, s3, hp3, hl3, sm3⟩
          exact ⟨_, _, y4, ms3, rfl, s3, hp3, by omega, sm3⟩
      · refine ⟨_, rfl, .inl ⟨rfl, _, SqL.of hp⟩, _, rfl, _, _, rfl, rfl, (by show (0 : Int) < 1000000; decide), p, _, _, rfl, rfl, hp, ?_, ?_⟩
        · rw [List.length_map]
          exact room 0 (by decide)
        · refine ⟨5, rfl, by decide, by decide, for_range (n := 5) (fun j σ H3 => ∃ (y4 : Option V) (ms3 : List Int), σ = [some (.ref a), some (.ref p), some (.int c), y3, y4] ∧ Same H H3 ∧ H3 p = some (.lst (ms3.map V.int)) ∧ ms3.length ≤ ms.length + 1 + j ∧ Small ms3)
            ⟨y4, ms ++ [c % 1000000], rfl, fun b o eb => ?_, ?_, ?_, sm.add⟩ ?_ ?_⟩
          · rw [upd_ne (ne_of_none eb np)]
            exact s2 _ _ eb
          · rw [upd_same, List.map_append]
            rfl
          · rw [List.length_append]
            show ms.length + 1 ≤ _
            omega
          · rintro j σ H3 hj ⟨y4, ms3, rfl, s3, hp3, hl3, sm3⟩
            refine ⟨_, rfl, .inl ⟨rfl, _, SqL.of hp3⟩, ?_⟩
            refine ⟨_, rfl, _, _, rfl, rfl, (by show (0 : Int) < 2147483647; decide), _, rfl, _, _, rfl, fun z1 _ _ => ?_⟩
            refine ⟨_, rfl, _, _, rfl, rfl, _, _, rfl, fun z2 _ _ => ?_⟩
            refine ⟨_, _, rfl, rfl, (by show (0 : Int) < 1000000; decide), p, _, _, rfl, rfl, hp3, ?_, ?_⟩
            · rw [List.length_map]
              exact Nat.lt_of_le_of_lt hl3 (Nat.lt_of_le_of_lt (show ms.length + 1 + j ≤ ms.length + 60 by omega) (room 60 (by decide)))
            · refine ⟨_, ms3 ++ [z2 % 1000000], rfl, fun b o eb => ?_, ?_, ?_, sm3.add⟩
              · rw [upd_ne (ne_of_none eb np)]
                exact s3 _ _ eb
              · rw [upd_same, List.map_append]
                rfl
              · rw [List.length_append]
                show ms3.length + 1 ≤ _
                omega
          · rintro σ H3 ⟨y4, ms3, rfl, s3, hp3, hl3, sm3⟩
            exact ⟨_, _, y4, ms3, rfl, s3, hp3, by omega, sm3⟩
    · rintro σ H2 ⟨y2, y3, y4, ms, rfl, s2, hp, hl, sm⟩
      exact ⟨_, rfl, q H2 p ms s2 np hp sm⟩
theorem sc_draw : FnScope ["draws", "at", "first"] ["draws"] (defScope (top 9)) := ⟨rfl, rfl, rfl, by decide +kernel, rfl, by decide +kernel, by decide +kernel⟩
theorem has_draw (D : Def K mg "_law_draw" ["draws"] (top 9)) (T : Txt mg) (C1 : Has P w K mg base 1 "_law_mixed" ["number", "k"] spMixed) : Has P w K mg base 2 "_law_draw" ["draws"] spDraw := D.has fun f fd F => by
  obtain ⟨f1, fd1, G_law_mixed, g_law_mixed, k_law_mixed, b_law_mixed⟩ := C1
  refine F.ok sc_draw (fun vs H Q E h => ?_) (fun cdv A outer s H vs Q E hr h => ?_)
  · obtain ⟨d, rfl, _⟩ := h; rfl
  · obtain ⟨d, rfl, ⟨l, n, ms, h1, h2, sm⟩, q⟩ := h
    have R_law_mixed : Room 1 _ := hr.mono (by decide)
    have nld := draws_ne h1 h2
    refine ⟨_, PSs.nox (pss_cons (ps_set (i := 1) sc_draw.nd rfl (Or.inl rfl) (pe_ix ix_list (pv 0) pe_int (fun _ _ => rfl))) (pss_cons (ps_asg (pe_op op_add (pv 1) pe_int) (pg_sub (pv 0) pe_int set_list)) (pss_cons (ps_if (pt_cmpR op_lt (pv 1) (pe_callB call_len_seq (by rfl) T.n_len PySem.boot_len (pa_cons (pe_ix ix_list (pv 0) pe_int (fun _ _ => rfl)) pa_nil)) (nomark _)) (pss_one (ps_ret (pe_ix ix_list (pe_ix ix_list (pv 0) pe_int (fun _ _ => rfl)) (pv 1) (fun _ _ => rfl)))) pss_nil) (pss_cons (ps_set (i := 2) sc_draw.nd rfl (Or.inl rfl) (pe_op op_add pe_int (pv 1))) (pss_cons (ps_if (pt_cmpR op_gt (pe_callB call_len_seq (by rfl) T.n_len PySem.boot_len (pa_cons (pe_ix ix_list (pv 0) pe_int (fun _ _ => rfl)) pa_nil)) pe_int (nomark _)) (pss_one (ps_set (i := 2) sc_draw.nd rfl (Or.inl rfl) (pe_op op_add (pv 2) (pe_op op_mul pe_int (pe_ix ix_list (pe_ix ix_list (pv 0) pe_int (fun _ _ => rfl)) pe_int (fun _ _ => rfl)))))) pss_nil) (pss_one (ps_ret (pe_op op_mod (pe_call G_law_mixed R_law_mixed (by rfl) g_law_mixed k_law_mixed b_law_mixed .nil pass0 (pa_cons (pe_call G_law_mixed R_law_mixed (by rfl) g_law_mixed k_law_mixed b_law_mixed .nil pass0 (pa_cons (pv 2) (pa_cons (pv 1) pa_nil))) (pa_cons pe_int pa_nil))) pe_int)))))))), ?_⟩
    refine ⟨_, rfl, d, _, _, _, rfl, rfl, SqL.of h1, atI_nat (j := 1) rfl, ?_⟩
    refine ⟨_, rfl, _, _, rfl, rfl, _, rfl, d, _, _, 1, rfl, rfl, h1, rfl, ?_⟩
    have k1 : Kp d H (upd H d (.lst ([V.ref l, V.int n].set 1 (.int ((n : Int) + 1))))) := Kp.upd
    have h1' : (upd H d (.lst ([V.ref l, V.int n].set 1 (.int ((n : Int) + 1))))) d = some (.lst [.ref l, .int ((n + 1 : Nat) : Int)]) := by
      rw [upd_same]
      rfl
    have h2' : (upd H d (.lst ([V.ref l, V.int n].set 1 (.int ((n : Int) + 1))))) l = some (.lst (ms.map V.int)) := k1 l _ h2 nld
    revert k1 h1' h2'
    generalize upd H d (.lst ([V.ref l, V.int n].set 1 (.int ((n : Int) + 1)))) = H1
    intro k1 h1' h2'
    have dr : DrawsAt H1 d := ⟨l, n + 1, ms, h1', h2', sm⟩
    refine ⟨_, rfl, _, rfl, d, _, _, _, rfl, rfl, SqL.of h1', atI_nat (j := 0) rfl, l, _, rfl, .inl (SqL.of h2'), _, _, rfl, rfl, _, rfl, ite2 (fun e => ?_) (fun e => ?_)⟩
    · have hn : n < ms.length := by
        have e1 := of_decide_eq_true e
        rw [List.length_map] at e1
        omega
      have e1 : (ms.map V.int)[n]? = some (.int ms[n]) := by
        rw [List.getElem?_map, List.getElem?_eq_getElem hn]
        rfl
      refine ⟨_, rfl, d, _, _, _, rfl, rfl, SqL.of h1', atI_nat (j := 0) rfl, _, rfl, l, _, _, _, rfl, rfl, SqL.of h2', atI_nat e1, ?_⟩
      obtain ⟨z0, z1⟩ := sm _ (List.getElem_mem hn)
      exact q _ _ z0 z1 dr k1
    · refine ⟨_, rfl, _, _, rfl, rfl, ?_⟩
      refine ⟨_, rfl, d, _, _, _, rfl, rfl, SqL.of h1', atI_nat (j := 0) rfl, l, _, rfl, .inl (SqL.of h2'), _, _, rfl, rfl, _, rfl, ite2 (fun e2 => ?_) (fun e2 => ?_)⟩
      · have hn : 0 < ms.length := by
          have e1 := of_decide_eq_true e2
          rw [List.length_map] at e1
          omega
        have e1 : (ms.map V.int)[0]? = some (.int ms[0]) := by
          rw [List.getElem?_map, List.getElem?_eq_getElem hn]
          rfl
        refine ⟨_, rfl, _, rfl, d, _, _, _, rfl, rfl, SqL.of h1', atI_nat (j := 0) rfl, l, _, _, _, rfl, rfl, SqL.of h2', atI_nat (j := 0) e1, _, _, rfl, rfl, .inl ⟨by decide, by decide⟩, _, _, rfl, rfl, ?_⟩
        refine ⟨_, rfl, _, rfl, _, _, rfl, fun z1 _ _ => ?_⟩
        refine ⟨_, _, rfl, fun z2 _ _ => ?_⟩
        refine ⟨_, _, rfl, rfl, (by show (0 : Int) < 1000000; decide), ?_⟩
        exact q _ _ (Int.emod_nonneg _ (by decide)) (Int.emod_lt_of_pos _ (by decide)) dr k1
      · refine ⟨_, rfl, _, rfl, _, _, rfl, fun z1 _ _ => ?_⟩
        refine ⟨_, _, rfl, fun z2 _ _ => ?_⟩
        refine ⟨_, _, rfl, rfl, (by show (0 : Int) < 1000000; decide), ?_⟩
        exact q _ _ (Int.emod_nonneg _ (by decide)) (Int.emod_lt_of_pos _ (by decide)) dr k1
end
/-! ### _law_equal of flat values -/
def tyN : V → String
  | .non => "NoneType"
  | .bl _ => "bool"
  | .int _ => "int"
  | .str _ => "str"
  | _ => ""
theorem ty_flat {K : PySem.W.Frag} {H : Hp} {v : V} (h : flatV v = true) : TyX K H v (.type (tyN v)) := by
  cases v with
  | non => exact .base .non
  | bl b => exact .base (.bl b)
  | int i => exact .base (.int i)
  | str z => exact .base (.str z)
  | byt b => cases h
  | flt b => cases h
  | ref a => cases h
  | ty n => cases h
theorem cT {k : Bool} {A B : Prop} (h : k = true) (q : A) : if k = true then A else B := by rw [if_pos h]; exact q
theorem cF {k : Bool} {A B : Prop} (h : k = false) (q : B) : if k = true then A else B := by rw [h]; exact iteF q
theorem nd_f {p : Prop} [Decidable p] (h : p) : (!decide p) = false := by rw [decide_eq_true h]; rfl
theorem nd_t {p : Prop} [Decidable p] (h : ¬ p) : (!decide p) = true := by rw [decide_eq_false h]; rfl
theorem isi_q {K : PySem.W.Frag} {i : Nat} {v : V} {n m : String} {b : Bool} {σ : L2.St} {H : Hp} {Q : VK} (e : σ[i]? = some (some v)) (t : TyX K H v (.type m)) (k : kitB m n = some b) (q : Q (.bl b) H) : tCB (rIsi K) (tCons (tVar i) (tCons (tC (.ty n)) tNil)) σ H Q :=
  ⟨_, e, _, _, _, _, _, rfl, .ty _, t, kit_ty k, q⟩
theorem isi_t {K : PySem.W.Frag} {i : Nat} {v : V} {n m : String} {b : Bool} {σ : L2.St} {H : Hp} {Q : Bool → Hp → Prop} (e : σ[i]? = some (some v)) (t : TyX K H v (.type m)) (k : kitB m n = some b) (q : Q b H) : tB (tCB (rIsi K) (tCons (tVar i) (tCons (tC (.ty n)) tNil))) σ H Q :=
  ⟨_, e, _, _, _, _, _, rfl, .ty _, t, kit_ty k, _, rfl, q⟩
def spEqual : Sp := fun vs H Q _ => ∃ x y : V, vs = [x, y] ∧ flatV x = true ∧ flatV y = true ∧ Q (.bl (decide (x = y))) H
section
variable {P : Program} {w : World} {K : PySem.W.Frag} {mg : Str → Option Value} {base : Heap}
theorem sc_equal : FnScope ["actual", "due"] ["actual", "due"] (defScope (top 10)) := ⟨rfl, rfl, rfl, by decide +kernel, rfl, by decide +kernel, by decide +kernel⟩
theorem has_equal (D : Def K mg "_law_equal" ["actual", "due"] (top 10)) (T : Txt mg) : Has P w K mg base 1 "_law_equal" ["actual", "due"] spEqual := D.has fun f fd F => by
  refine F.ok sc_equal (fun vs H Q E h => ?_) (fun cdv A outer s H vs Q E hr h => ?_)
  · obtain ⟨x, y, rfl, _⟩ := h; rfl
  · obtain ⟨x, y, rfl, fx, fy, q⟩ := h
    refine ⟨_, PSs.nox (pss_cons (ps_if (pt_val (pe_callB call_isi (by rfl) T.n_isinstance (by decide +kernel) (pa_cons (pv 1) (pa_cons (pe_bltn (v := .ty "list") (by rfl) T.n_list (by decide +kernel) rfl) pa_nil)))) pss_never pss_nil) (pss_cons (ps_if (pt_val (pe_callB call_isi (by rfl) T.n_isinstance (by decide +kernel) (pa_cons (pv 1) (pa_cons (pe_bltn (v := .ty "tuple") (by rfl) T.n_tuple (by decide +kernel) rfl) pa_nil)))) pss_never pss_nil) (pss_cons (ps_if (pt_val (pe_callB call_isi (by rfl) T.n_isinstance (by decide +kernel) (pa_cons (pv 1) (pa_cons (pe_bltn (v := .ty "bool") (by rfl) T.n_bool (by decide +kernel) rfl) pa_nil)))) (pss_one (ps_ret (pe_and (pe_callB call_isi (by rfl) T.n_isinstance (by decide +kernel) (pa_cons (pv 0) (pa_cons (pe_bltn (v := .ty "bool") (by rfl) T.n_bool (by decide +kernel) rfl) pa_nil))) (pe_one (pe_cmpR op_eq (pv 0) (pv 1) (nomark _)))))) pss_nil) (pss_cons (ps_if (pt_val (pe_callB call_isi (by rfl) T.n_isinstance (by decide +kernel) (pa_cons (pv 1) (pa_cons (pe_bltn (v := .ty "int") (by rfl) T.n_int (by decide +kernel) rfl) pa_nil)))) (pss_one (ps_ret (pe_and (pe_callB call_isi (by rfl) T.n_isinstance (by decide +kernel) (pa_cons (pv 0) (pa_cons (pe_bltn (v := .ty "int") (by rfl) T.n_int (by decide +kernel) rfl) pa_nil))) (pe_and (pe_not (pe_callB call_isi (by rfl) T.n_isinstance (by decide +kernel) (pa_cons (pv 0) (pa_cons (pe_bltn (v := .ty "bool") (by rfl) T.n_bool (by decide +kernel) rfl) pa_nil)))) (pe_one (pe_cmpR op_eq (pv 0) (pv 1) (nomark _))))))) pss_nil) (pss_cons (ps_if (pt_val (pe_callB call_isi (by rfl) T.n_isinstance (by decide +kernel) (pa_cons (pv 1) (pa_cons (pe_bltn (v := .ty "str") (by rfl) T.n_str (by decide +kernel) rfl) pa_nil)))) (pss_one (ps_ret (pe_and (pe_callB call_isi (by rfl) T.n_isinstance (by decide +kernel) (pa_cons (pv 0) (pa_cons (pe_bltn (v := .ty "str") (by rfl) T.n_str (by decide +kernel) rfl) pa_nil))) (pe_one (pe_cmpR op_eq (pv 0) (pv 1) (nomark _)))))) pss_nil) (pss_one (ps_ret (pe_cmpR op_isN (pv 0) pe_non (nomark _))))))))), ?_⟩
    have tx : TyX K H x (.type (tyN x)) := ty_flat fx
    have ty : TyX K H y (.type (tyN y)) := ty_flat fy
    have no : ∀ {u v : V}, Q (.bl (decide (u = v))) H → u ≠ v → Q (.bl false) H := fun z h => by rw [decide_eq_false h] at z; exact z
    cases y with
    | bl b =>
      have ty : TyX K H (.bl b) (.type "bool") := .base (.bl b)
      refine isi_t rfl ty (b := false) (by decide +kernel) (iteF ?_)
      refine isi_t rfl ty (b := false) (by decide +kernel) (iteF ?_)
      refine isi_t rfl ty (b := true) (by decide +kernel) (iteT ?_)
      cases x with
      | bl c => exact isi_q rfl (.base (.bl c)) (b := true) (by decide +kernel) ⟨_, rfl, iteT ⟨_, rfl, _, rfl, rfl, q⟩⟩
      | non => exact isi_q rfl (.base .non) (b := false) (by decide +kernel) ⟨_, rfl, iteF (no q (by intro z; cases z))⟩
      | int c => exact isi_q rfl (.base (.int c)) (b := false) (by decide +kernel) ⟨_, rfl, iteF (no q (by intro z; cases z))⟩
      | str c => exact isi_q rfl (.base (.str c)) (b := false) (by decide +kernel) ⟨_, rfl, iteF (no q (by intro z; cases z))⟩
      | byt _ => cases fx
      | flt _ => cases fx
      | ref _ => cases fx
      | ty _ => cases fx
    | int b =>
      have ty : TyX K H (.int b) (.type "int") := .base (.int b)
      refine isi_t rfl ty (b := false) (by decide +kernel) (iteF ?_)
      refine isi_t rfl ty (b := false) (by decide +kernel) (iteF ?_)
      refine isi_t rfl ty (b := false) (by decide +kernel) (iteF ?_)
      refine isi_t rfl ty (b := true) (by decide +kernel) (iteT ?_)
      cases x with
      | bl c => exact isi_q rfl (.base (.bl c)) (b := true) (by decide +kernel) ⟨_, rfl, iteT (isi_q rfl (.base (.bl c)) (b := true) (by decide +kernel) ⟨_, rfl, _, rfl, iteF (no q (by intro z; cases z))⟩)⟩
      | int c => exact isi_q rfl (.base (.int c)) (b := true) (by decide +kernel) ⟨_, rfl, iteT (isi_q rfl (.base (.int c)) (b := false) (by decide +kernel) ⟨_, rfl, _, rfl, iteT ⟨_, rfl, _, rfl, rfl, q⟩⟩)⟩
      | non => exact isi_q rfl (.base .non) (b := false) (by decide +kernel) ⟨_, rfl, iteF (no q (by intro z; cases z))⟩
      | str c => exact isi_q rfl (.base (.str c)) (b := false) (by decide +kernel) ⟨_, rfl, iteF (no q (by intro z; cases z))⟩
      | byt _ => cases fx
      | flt _ => cases fx
      | ref _ => cases fx
      | ty _ => cases fx
    | str b =>
      have ty : TyX K H (.str b) (.type "str") := .base (.str b)
      refine isi_t rfl ty (b := false) (by decide +kernel) (iteF ?_)
      refine isi_t rfl ty (b := false) (by decide +kernel) (iteF ?_)
      refine isi_t rfl ty (b := false) (by decide +kernel) (iteF ?_)
      refine isi_t rfl ty (b := false) (by decide +kernel) (iteF ?_)
      refine isi_t rfl ty (b := true) (by decide +kernel) (iteT ?_)
      cases x with
      | str c => exact isi_q rfl (.base (.str c)) (b := true) (by decide +kernel) ⟨_, rfl, iteT ⟨_, rfl, _, rfl, rfl, q⟩⟩
      | bl c => exact isi_q rfl (.base (.bl c)) (b := false) (by decide +kernel) ⟨_, rfl, iteF (no q (by intro z; cases z))⟩
      | int c => exact isi_q rfl (.base (.int c)) (b := false) (by decide +kernel) ⟨_, rfl, iteF (no q (by intro z; cases z))⟩
      | non => exact isi_q rfl (.base .non) (b := false) (by decide +kernel) ⟨_, rfl, iteF (no q (by intro z; cases z))⟩
      | byt _ => cases fx
      | flt _ => cases fx
      | ref _ => cases fx
      | ty _ => cases fx
    | non =>
      have ty : TyX K H .non (.type "NoneType") := .base .non
      refine isi_t rfl ty (b := false) (by decide +kernel) (iteF ?_)
      refine isi_t rfl ty (b := false) (by decide +kernel) (iteF ?_)
      refine isi_t rfl ty (b := false) (by decide +kernel) (iteF ?_)
      refine isi_t rfl ty (b := false) (by decide +kernel) (iteF ?_)
      refine isi_t rfl ty (b := false) (by decide +kernel) (iteF ?_)
      exact ⟨_, rfl, rfl, q⟩
    | byt _ => cases fy
    | flt _ => cases fy
    | ref _ => cases fy
    | ty _ => cases fy
end
/-! ### names -/
def lets : Str := "abcdefghijklmnopqrstuvwxyz"
def figs : Str := "0123456789"
def both : Str := "abcdefghijklmnopqrstuvwxyz0123456789"
def resv : List V := [.str "and", .str "or", .str "not", .str "some", .str "all", .str "lfp", .str "pfp", .str "tc", .str "guess", .str "true", .str "false"]
structure Nm (z : Str) : Prop where
  lo : 1 ≤ z.length
  hi : z.length ≤ 12
  first : ∀ c, z.cps.toList[0]? = some c → c ∈ lets.cps.toList
  res : inV (.str z) resv = false
  all_ : ∀ c, c ∈ z.cps.toList → c ∈ both.cps.toList
noncomputable def isNm (z : Str) : Bool := @decide (Nm z) (Classical.propDecidable _)
theorem isNm_t {z : Str} (h : Nm z) : isNm z = true := by unfold isNm; exact @decide_eq_true _ (_) h
theorem isNm_f {z : Str} (h : ¬ Nm z) : isNm z = false := by unfold isNm; exact @decide_eq_false _ (_) h
theorem both_eq : both.cps.toList = lets.cps.toList ++ figs.cps.toList := by decide +kernel
theorem in_both {c : Nat} : c ∈ both.cps.toList ↔ c ∈ lets.cps.toList ∨ c ∈ figs.cps.toList := by rw [both_eq]; exact List.mem_append
theorem filt_t {α : Type} {l : List α} {p : α → Bool} {i : Nat} {c : α} (h : l[i]? = some c) (hp : p c = true) : (l.take (i + 1)).filter p = (l.take i).filter p ++ [c] := by
  rw [List.take_add_one, h, List.filter_append]
  show _ ++ List.filter p [c] = _
  rw [List.filter_cons_of_pos hp, List.filter_nil]
theorem filt_f {α : Type} {l : List α} {p : α → Bool} {i : Nat} {c : α} (h : l[i]? = some c) (hp : p c = false) : (l.take (i + 1)).filter p = (l.take i).filter p := by
  rw [List.take_add_one, h, List.filter_append]
  show _ ++ List.filter p [c] = _
  rw [List.filter_cons_of_neg (by rw [hp]; exact Bool.false_ne_true), List.filter_nil, List.append_nil]
theorem sz_len (z : Str) : z.cps.toList.length = z.length := by show z.cps.toList.length = z.cps.size; simp
theorem at_sz {z : Str} {i c : Nat} (h : z.cps[i]? = some c) : z.cps.toList[i]? = some c := by simpa using h
def spIsName (K : PySem.W.Frag) : Sp := fun vs H Q _ => (∃ z : Str, vs = [.str z] ∧ z.length ≤ sizeLine ∧ Q (.bl (isNm z)) H) ∨ (∃ (x : V) (t : String), vs = [x] ∧ TyX K H x (.type t) ∧ kitB t "str" = some false ∧ Q (.bl false) H)
def spLawIsName : Sp := fun vs H Q _ => ∃ z : Str, vs = [.str z] ∧ z.length < sizeLine ∧ ∀ H', Same H H' → Q (.bl (isNm z)) H'
def spWord : Sp := fun vs H Q _ => ∃ d : Addr, vs = [.ref d] ∧ DrawsAt H d ∧ ∀ (z : Str) (H' : Hp), z.length ≤ 100 → DrawsAt H' d → Kp d H H' → Q (.str z) H'
def spLaw (K : PySem.W.Frag) : Sp := fun vs H Q _ => ∃ (a : Addr) (ns : List Int), vs = [.ref a] ∧ SqL K H a (ns.map V.int) ∧ ns.length ≤ 63 ∧ ∀ H', Q (.bl true) H'
section
variable {P : Program} {w : World} {K : PySem.W.Frag} {mg : Str → Option Value} {base : Heap}
theorem sc_is_name : FnScope ["text", "sign"] ["text"] (defScope (top 5)) := ⟨rfl, rfl, rfl, by decide +kernel, rfl, by decide +kernel, by decide +kernel⟩
theorem has_is_name (D : Def K mg "is_name" ["text"] (top 5)) (T : Txt mg) (c1 : ∃ t, mg "LONGEST_NAME" = some (.int 12 t)) (c2 : ∃ t, mg "LETTERS" = some (.str lets t)) (c3 : ∃ t, mg "FIGURES" = some (.str figs t))
    (c_RESERVED : mg "RESERVED" = some (.ref (He.ga K "RESERVED"))) (rs : ∀ H : Hp, SqT K H (He.ga K "RESERVED") resv) : Has P w K mg base 1 "is_name" ["text"] (spIsName K) := D.has fun f fd F => by
  obtain ⟨t1, c_LONGEST_NAME⟩ := c1
  obtain ⟨t2, c_LETTERS⟩ := c2
  obtain ⟨t3, c_FIGURES⟩ := c3
  refine F.ok sc_is_name (fun vs H Q E h => ?_) (fun cdv A outer s H vs Q E hr h => ?_)
  · rcases h with ⟨z, rfl, _⟩ | ⟨x, t, rfl, _⟩ <;> rfl
  · refine ⟨_, PSs.nox (pss_cons (ps_if (PW.pt (pw_or (pt_not (pt_val (pe_callB call_isi (by rfl) T.n_isinstance (by decide +kernel) (pa_cons (pv 0) (pa_cons (pe_bltn (v := .ty "str") (by rfl) T.n_str (by decide +kernel) rfl) pa_nil))))) (pw_or1 (pt_not (pt_chain op_le op_le pe_int (pe_callB call_len_str (by rfl) T.n_len PySem.boot_len (pa_cons (pv 0) pa_nil)) (pe_glob (v := .int 12) (by rfl) c_LONGEST_NAME ⟨_, rfl⟩)))))) (pss_one (ps_ret pe_bl)) pss_nil) (pss_cons (ps_if (PW.pt (pw_or (pt_cmpR op_notIn_sign (pe_ix ix_str (pv 0) pe_int (fun _ _ => rfl)) (pe_glob (v := .str "abcdefghijklmnopqrstuvwxyz") (by rfl) c_LETTERS ⟨_, rfl⟩) (by rfl)) (pw_or1 (pt_cmpR op_in_seq (pv 0) (pe_glob (v := .ref (He.ga K "RESERVED")) (by rfl) c_RESERVED rfl) (by rfl))))) (pss_one (ps_ret pe_bl)) pss_nil) (pss_cons (ps_for PassesOwn.never rfl (pi_str (pv 0)) (pg_name (i := 1) sc_is_name.nd rfl (Or.inl rfl)) (pss_one (ps_if (PW.pt (pw_and (pt_cmpR op_notIn_sign (pv 1) (pe_glob (v := .str "abcdefghijklmnopqrstuvwxyz") (by rfl) c_LETTERS ⟨_, rfl⟩) (by rfl)) (pw_and1 (pt_cmpR op_notIn_sign (pv 1) (pe_glob (v := .str "0123456789") (by rfl) c_FIGURES ⟨_, rfl⟩) (by rfl))))) (pss_one (ps_ret pe_bl)) pss_nil))) (pss_one (ps_ret pe_bl))))), ?_⟩
    rcases h with ⟨z, rfl, hz, q⟩ | ⟨x, t, rfl, tx, hk, q⟩
    · have qf : ¬ Nm z → Q (.bl false) H := fun n => by rw [isNm_f n] at q; exact q
      have qt : Nm z → Q (.bl true) H := fun n => by rw [isNm_t n] at q; exact q
      refine ⟨_, rfl, _, _, _, _, _, rfl, .ty _, .base (.str z), kit_ty (b := "str") (r := true) (by decide +kernel), _, rfl, iteF ?_⟩
      refine ⟨_, rfl, _, rfl, hz, _, _, rfl, rfl, _, rfl, ite2 (fun e => ?_) (fun e => ?_)⟩
      · refine ⟨_, _, rfl, rfl, _, rfl, ?_⟩
        have e1 := of_decide_eq_true e
        by_cases h12 : ((z.length : Nat) : Int) ≤ 12
        · refine cF (nd_f h12) ?_
          have hl1 : 0 < z.cps.toList.length := by rw [sz_len]; omega
          have e0 : z.cps.toList[0]? = some (z.cps.toList[0]) := List.getElem?_eq_getElem hl1
          refine ⟨_, rfl, z, _, _, rfl, rfl, hz, atI_nat (j := 0) e0, _, _, rfl, rfl, _, rfl, ?_⟩
          by_cases hf : z.cps.toList[0] ∈ lets.cps.toList
          · refine cF (nd_f hf) ⟨_, rfl, _, _, rfl, .inr (rs _), rfl, rfl, _, rfl, ?_⟩
            by_cases hr2 : inV (.str z) resv = true
            · exact cT hr2 (qf fun n => by rw [n.res] at hr2; cases hr2)
            · have hr3 : inV (.str z) resv = false := by simpa using hr2
              refine cF hr3 ?_
              refine ⟨_, rfl, z, rfl, for_it walk_str (fun i σ H2 => ∃ y1, σ = [some (.str z), y1] ∧ H2 = H ∧ ∀ c, c ∈ z.cps.toList.take i → c ∈ both.cps.toList) ⟨none, rfl, rfl, fun c hc => by simp at hc⟩ (fun _ _ _ _ _ => trivial) ?_ ?_⟩
              · rintro i y σ H2 H3 hi ⟨y1, rfl, rfl, ha⟩ ⟨rfl, c, hc, rfl⟩
                have hc' := at_sz hc
                have next : c ∈ both.cps.toList → ∃ y1 : Option V, ([some (V.str z), some (V.str ⟨#[c]⟩)] : L2.St) = [some (.str z), y1] ∧ H3 = H3 ∧ ∀ c', c' ∈ z.cps.toList.take (i + 1) → c' ∈ both.cps.toList := fun hb => ⟨_, rfl, rfl, fun c' h' => by
                  rw [List.take_add_one, hc'] at h'
                  rcases List.mem_append.mp h' with h' | h'
                  · exact ha c' h'
                  · have e3 : c' = c := by simpa using h'
                    rw [e3]; exact hb⟩
                refine ⟨_, rfl, _, _, rfl, rfl, _, rfl, ?_⟩
                by_cases h1 : c ∈ lets.cps.toList
                · exact cF (nd_f h1) (iteF (next (in_both.mpr (.inl h1))))
                · refine cT (nd_t h1) ⟨_, rfl, _, _, rfl, rfl, _, rfl, ?_⟩
                  by_cases h2 : c ∈ figs.cps.toList
                  · exact cF (nd_f h2) (next (in_both.mpr (.inr h2)))
                  · refine cT (nd_t h2) (qf fun n => ?_)
                    rcases in_both.mp (n.all_ c (List.mem_of_getElem? hc')) with h3 | h3
                    · exact h1 h3
                    · exact h2 h3
              · rintro σ H2 ⟨y1, rfl, rfl, ha⟩
                refine qt ⟨by omega, by omega, fun c hc => by rw [e0] at hc; rw [← Option.some.inj hc]; exact hf, by simpa using hr2, fun c hc => ha c ?_⟩
                rw [List.take_of_length_le (by simp)]
                exact hc
          · exact cT (nd_t hf) (cT rfl (qf fun n => hf (n.first _ e0)))
        · exact cT (nd_t h12) (qf fun n => h12 (by have := n.hi; omega))
      · exact ⟨_, rfl, cT (k := !false) rfl (qf fun n => e (decide_eq_true (by have := n.lo; omega)))⟩
    · exact ⟨_, rfl, _, _, _, _, _, rfl, .ty _, tx, kit_ty (b := "str") (r := false) hk, _, rfl, iteT q⟩
theorem sc_law_is_name : FnScope ["word", "sign"] ["word"] (defScope (top 12)) := ⟨rfl, rfl, rfl, by decide +kernel, rfl, by decide +kernel, by decide +kernel⟩
theorem has_law_is_name (D : Def K mg "_law_is_name" ["word"] (top 12)) (T : Txt mg) : Has P w K mg base 1 "_law_is_name" ["word"] spLawIsName := D.has fun f fd F => by
  refine F.ok sc_law_is_name (fun vs H Q E h => ?_) (fun cdv A outer s H vs Q E hr h => ?_)
  · obtain ⟨z, rfl, _⟩ := h; rfl
  · obtain ⟨z, rfl, hz, q⟩ := h
    refine ⟨_, PSs.nox (pss_cons (ps_if (PW.pt (pw_or (pt_cmpR op_lt (pe_callB call_len_str (by rfl) T.n_len PySem.boot_len (pa_cons (pv 0) pa_nil)) pe_int (nomark _)) (pw_or (pt_cmpR op_gt (pe_callB call_len_str (by rfl) T.n_len PySem.boot_len (pa_cons (pv 0) pa_nil)) pe_int (nomark _)) (pw_or1 (pt_cmpR op_notIn_sign (pe_ix ix_str (pv 0) pe_int (fun _ _ => rfl)) pe_str (by rfl)))))) (pss_one (ps_ret pe_bl)) pss_nil) (pss_cons (ps_if (pt_cmpR op_in_seq (pv 0) (pe_lst (pa_cons pe_str (pa_cons pe_str (pa_cons pe_str (pa_cons pe_str (pa_cons pe_str (pa_cons pe_str (pa_cons pe_str (pa_cons pe_str (pa_cons pe_str (pa_cons pe_str (pa_cons pe_str pa_nil)))))))))))) (by rfl)) (pss_one (ps_ret pe_bl)) pss_nil) (pss_one (ps_ret (pe_cmpR op_eq (pe_callB call_len_seq (by rfl) T.n_len PySem.boot_len (pa_cons (pe_lc (own := [("sign", 1)]) rfl sc_law_is_name.nd (pi_str (pv 0)) (blkOk_by (N := ["word", "sign"]) (sc := defScope (top 12)) (by decide +kernel)) (fun _ _ _ _ _ => (pg_name (i := 1) sc_law_is_name.nd rfl (Or.inl rfl))) (fun _ _ _ _ _ => (pts_one (pt_cmpR op_notIn_sign (pv 1) pe_str (by rfl)))) (fun _ _ _ _ _ => (pv 1))) pa_nil)) pe_int (nomark _)))))), ?_⟩
    have hz2 := Nat.le_of_lt hz
    have qf : ¬ Nm z → ∀ H', Same H H' → Q (.bl false) H' := fun n H' s => by have := q H' s; rw [isNm_f n] at this; exact this
    have qt : Nm z → ∀ H', Same H H' → Q (.bl true) H' := fun n H' s => by have := q H' s; rw [isNm_t n] at this; exact this
    refine ⟨_, rfl, _, rfl, hz2, _, _, rfl, rfl, _, rfl, ite2 (fun e => ?_) (fun e => ?_)⟩
    · exact iteT (qf (fun n => by have := of_decide_eq_true e; have := n.lo; omega) H (.refl H))
    · have h1 : 1 ≤ z.length := by
        by_cases h : 1 ≤ z.length
        · exact h
        · exact absurd (decide_eq_true (by omega)) e
      refine ⟨_, rfl, _, rfl, hz2, _, _, rfl, rfl, _, rfl, ite2 (fun e2 => ?_) (fun e2 => ?_)⟩
      · exact iteT (qf (fun n => by have := of_decide_eq_true e2; have := n.hi; omega) H (.refl H))
      · have h12 : z.length ≤ 12 := by
          by_cases h : z.length ≤ 12
          · exact h
          · exact absurd (decide_eq_true (by omega)) e2
        have hl1 : 0 < z.cps.toList.length := by rw [sz_len]; omega
        have e0 : z.cps.toList[0]? = some (z.cps.toList[0]) := List.getElem?_eq_getElem hl1
        refine ⟨_, rfl, z, _, _, rfl, rfl, hz2, atI_nat (j := 0) e0, _, _, rfl, rfl, _, rfl, ?_⟩
        by_cases hf : z.cps.toList[0] ∈ lets.cps.toList
        · refine cF (nd_f hf) ⟨_, rfl, (by show 11 ≤ sizeLine; decide), fun p np => ⟨_, _, rfl, .inl (SqL.of upd_same), rfl, rfl, _, rfl, ?_⟩⟩
          have sp : Same H (upd H p (.lst resv)) := same_upd np
          by_cases hr2 : inV (.str z) resv = true
          · exact cT hr2 (qf (fun n => by rw [n.res] at hr2; cases hr2) _ sp)
          · have hr3 : inV (.str z) resv = false := by simpa using hr2
            refine cF hr3 ?_
            refine ⟨_, rfl, z, rfl, fun L nL => ?_⟩
            refine lc_it walk_str (fun i H2 => H2 L = some (.lst ((((z.cps.toList.take i).filter fun c => !decide (c ∈ both.cps.toList))).map fun c => V.str ⟨#[c]⟩)) ∧ Same H H2) ⟨upd_same, sp.trans (same_upd nL)⟩ (fun _ _ _ _ => trivial) ?_ ?_
            · rintro i y H2 H3 hi ⟨hL, s2⟩ ⟨rfl, c, hc, rfl⟩
              have hc' := at_sz hc
              refine ⟨rfl, _, rfl, _, _, rfl, rfl, _, rfl, ?_⟩
              by_cases hb : c ∈ both.cps.toList
              · refine cF (nd_f hb) ⟨?_, s2⟩
                rw [filt_f hc' (nd_f hb)]
                exact hL
              · refine cT (nd_t hb) ⟨_, rfl, _, hL, ?_, ?_, fun b o eb => ?_⟩
                · rw [List.length_map]
                  refine Nat.lt_of_le_of_lt (List.length_filter_le _ _) (Nat.lt_of_le_of_lt (List.length_take_le' _ _) ?_)
                  rw [sz_len]
                  exact hz
                · rw [upd_same, filt_t hc' (nd_t hb), List.map_append]
                  rfl
                · rw [upd_ne (ne_of_none (sp _ _ eb) nL)]
                  exact s2 _ _ eb
            · rintro H2 ⟨hL, s2⟩
              have et : z.cps.toList.take z.cps.size = z.cps.toList := List.take_of_length_le (by simp)
              rw [et] at hL
              refine ⟨_, _, rfl, .inl (SqL.of hL), rfl, ?_⟩
              have key : decide (V.int ((((z.cps.toList).filter fun c => !decide (c ∈ both.cps.toList)).map fun c => V.str ⟨#[c]⟩).length : Nat) = V.int 0) = isNm z := by
                by_cases ha : ∀ c, c ∈ z.cps.toList → c ∈ both.cps.toList
                · rw [isNm_t ⟨h1, h12, fun c hc => by rw [e0] at hc; rw [← Option.some.inj hc]; exact hf, by simpa using hr2, ha⟩]
                  refine decide_eq_true ?_
                  rw [List.filter_eq_nil_iff.mpr (fun c hc => by simp [ha c hc])]
                  rfl
                · rw [isNm_f (fun n => ha n.all_)]
                  refine decide_eq_false fun h => ha fun c hc => ?_
                  have h3 : (((((z.cps.toList).filter fun c => !decide (c ∈ both.cps.toList)).map fun c => V.str ⟨#[c]⟩).length : Nat) : Int) = 0 := V.int.inj h
                  rw [List.length_map] at h3
                  have h4 : ((z.cps.toList).filter fun c => !decide (c ∈ both.cps.toList)) = [] := List.eq_nil_of_length_eq_zero (by omega)
                  have h5 := List.filter_eq_nil_iff.mp h4 c hc
                  by_cases hb : c ∈ both.cps.toList
                  · exact hb
                  · exact absurd (by simp [hb]) h5
              show Q (V.bl (decide _)) H2
              rw [key]
              exact q H2 s2
        · exact cT (nd_t hf) (qf (fun n => hf (n.first _ e0)) H (.refl H))
end
/-! ### the drawn words, the law -/
theorem pick_str {xs : List V} {m : Nat} {i : Int} (h0 : 0 ≤ i) (h1 : i < xs.length) (ha : ∀ v, v ∈ xs → ∃ z : Str, v = .str z ∧ z.length ≤ m) : ∃ z : Str, atI xs i = some (.str z) ∧ z.length ≤ m := by
  obtain ⟨j, rfl⟩ : ∃ j : Nat, i = (j : Int) := ⟨i.toNat, by omega⟩
  have hj : j < xs.length := by omega
  obtain ⟨z, e, hz⟩ := ha _ (List.getElem_mem hj)
  exact ⟨z, atI_nat (by rw [List.getElem?_eq_getElem hj, e]), hz⟩
theorem pick_sign {z : Str} {i : Int} (h0 : 0 ≤ i) (h1 : i < z.length) : ∃ c, atI z.cps.toList i = some c := by
  obtain ⟨j, rfl⟩ : ∃ j : Nat, i = (j : Int) := ⟨i.toNat, by omega⟩
  have hj : j < z.cps.toList.length := by rw [sz_len]; omega
  exact ⟨_, atI_nat (List.getElem?_eq_getElem hj)⟩
theorem len_one (c : Nat) : (⟨#[c]⟩ : Str).length = 1 := rfl
section
variable {P : Program} {w : World} {K : PySem.W.Frag} {mg : Str → Option Value} {base : Heap}
theorem sc_word : FnScope ["draws", "pick", "word", "k", "signs"] ["draws"] (defScope (top 13)) := ⟨rfl, rfl, rfl, by decide +kernel, rfl, by decide +kernel, by decide +kernel⟩
theorem has_word (D : Def K mg "_law_word" ["draws"] (top 13)) (T : Txt mg) (C1 : Has P w K mg base 2 "_law_draw" ["draws"] spDraw) : Has P w K mg base 3 "_law_word" ["draws"] spWord := D.has fun f fd F => by
  obtain ⟨f1, fd1, G_law_draw, g_law_draw, k_law_draw, b_law_draw⟩ := C1
  refine F.ok sc_word (fun vs H Q E h => ?_) (fun cdv A outer s H vs Q E hr h => ?_)
  · obtain ⟨d, rfl, _⟩ := h; rfl
  · obtain ⟨d, rfl, dr, q⟩ := h
    have R_law_draw : Room 2 _ := hr.mono (by decide)
    refine ⟨_, PSs.nox (pss_cons (ps_set (i := 1) sc_word.nd rfl (Or.inl rfl) (pe_op op_mod (pe_call G_law_draw R_law_draw (by rfl) g_law_draw k_law_draw b_law_draw .nil pass0 (pa_cons (pv 0) pa_nil)) pe_int)) (pss_cons (ps_if (pt_cmpR op_eq (pv 1) pe_int (nomark _)) (pss_cons (ps_set (i := 2) sc_word.nd rfl (Or.inl rfl) (pe_ix ix_list (pe_lst (pa_cons pe_str (pa_cons pe_str (pa_cons pe_str (pa_cons pe_str (pa_cons pe_str (pa_cons pe_str (pa_cons pe_str (pa_cons pe_str (pa_cons pe_str (pa_cons pe_str (pa_cons pe_str pa_nil)))))))))))) (pe_op op_mod (pe_call G_law_draw R_law_draw (by rfl) g_law_draw k_law_draw b_law_draw .nil pass0 (pa_cons (pv 0) pa_nil)) pe_int) (fun _ _ => rfl))) (pss_one (ps_ret (pe_ix ix_list (pe_lst (pa_cons (pv 2) (pa_cons (pv 2) (pa_cons (pe_op op_add_str (pv 2) pe_str) (pa_cons (pe_op op_add_str pe_str (pv 2)) (pa_cons (pe_op op_add_str (pv 2) pe_str) (pa_cons (pe_bm0 PySem.F.plainAttrs_str PySem.F.slot_str_upper PySem.F.type_str_upper mt_upper (pv 2)) pa_nil))))))) (pe_op op_mod (pe_call G_law_draw R_law_draw (by rfl) g_law_draw k_law_draw b_law_draw .nil pass0 (pa_cons (pv 0) pa_nil)) pe_int) (fun _ _ => rfl))))) pss_nil) (pss_cons (ps_set (i := 2) sc_word.nd rfl (Or.inl rfl) pe_str) (pss_cons (ps_for PassesOwn.never rfl (pi_range1 (by rfl) T.n_range (pa_cons (pe_op op_mod (pe_call G_law_draw R_law_draw (by rfl) g_law_draw k_law_draw b_law_draw .nil pass0 (pa_cons (pv 0) pa_nil)) pe_int) pa_nil)) (pg_name (i := 3) sc_word.nd rfl (Or.inl rfl)) (pss_cons (ps_set (i := 4) sc_word.nd rfl (Or.inl rfl) pe_str) (pss_cons (ps_if (pt_cmpR op_eq (pe_op op_mod (pe_call G_law_draw R_law_draw (by rfl) g_law_draw k_law_draw b_law_draw .nil pass0 (pa_cons (pv 0) pa_nil)) pe_int) pe_int (nomark _)) (pss_one (ps_set (i := 4) sc_word.nd rfl (Or.inl rfl) pe_str)) pss_nil) (pss_one (ps_set (i := 2) sc_word.nd rfl (Or.inl rfl) (pe_op op_add_str (pv 2) (pe_ix ix_str (pv 4) (pe_op op_mod (pe_call G_law_draw R_law_draw (by rfl) g_law_draw k_law_draw b_law_draw .nil pass0 (pa_cons (pv 0) pa_nil)) (pe_callB call_len_str (by rfl) T.n_len PySem.boot_len (pa_cons (pv 4) pa_nil))) (fun _ _ => rfl)))))))) (pss_one (ps_ret (pv 2))))))), ?_⟩
    obtain ⟨xd, hd⟩ := dr.some
    -- pick
    refine ⟨_, rfl, d, rfl, dr, fun z1 H1 a1 b1 dr1 k1 => ⟨_, _, rfl, rfl, (by show (0 : Int) < 4; decide), ?_⟩⟩
    refine ⟨_, rfl, rfl, _, rfl, ite2 (fun e => ?_) (fun e => ?_)⟩
    · -- one of the eleven words
      refine ⟨(by show 11 ≤ sizeLine; decide), fun p np => ?_⟩
      have dr2 := dr1.same (same_upd (o := .lst resv) np)
      obtain ⟨x1, hd1⟩ := dr1.some
      have npd : p ≠ d := fun z => by rw [z, hd1] at np; cases np
      refine ⟨_, rfl, d, rfl, dr2, fun z2 H2 a2 b2 dr3 k2 => ?_⟩
      have hp2 : H2 p = some (.lst resv) := k2 _ _ upd_same npd
      have kk : Kp d H H2 := (k1.trans (.of (same_upd np))).trans k2
      obtain ⟨w0, hw, lw⟩ := pick_str (xs := resv) (m := 5) (i := z2 % 11) (Int.emod_nonneg _ (by decide)) (Int.emod_lt_of_pos _ (by decide)) (by
        intro v hv
        simp only [resv, List.mem_cons, List.not_mem_nil, or_false] at hv
        rcases hv with h | h | h | h | h | h | h | h | h | h | h <;> exact ⟨_, h, by decide +kernel⟩)
      refine ⟨_, _, rfl, rfl, (by show (0 : Int) < 11; decide), p, _, _, _, rfl, rfl, SqL.of hp2, hw, ?_⟩
      have short : ∀ n : Nat, n ≤ 100 → n ≤ sizeLine := fun n h => Nat.le_trans h (by decide)
      have l0 : ("0" : Str).length = 1 := by decide +kernel
      have la : ("a" : Str).length = 1 := by decide +kernel
      have ls : ("s" : Str).length = 1 := by decide +kernel
      refine ⟨_, rfl, _, rfl, _, rfl, _, _, rfl, rfl, short _ (by omega), _, rfl, _, _, rfl, rfl, short _ (by omega), _, rfl, _, _, rfl, rfl, short _ (by omega), _, rfl, rfl, _, rfl, rfl, Nat.le_trans (show w0.length ≤ 100 by omega) (by decide), (by show 6 ≤ sizeLine; decide), fun p2 np2 => ?_⟩
      have lu := PyProof.Rows.len_upper w0
      have dr4 := dr3.same (same_upd (o := .lst [.str w0, .str w0, .str (w0 ++ "0"), .str ("a" ++ w0), .str (w0 ++ "s"), .str (Txt.upper w0)]) np2)
      obtain ⟨x3, hd3⟩ := dr3.some
      have npd2 : p2 ≠ d := fun z => by rw [z, hd3] at np2; cases np2
      refine ⟨_, rfl, d, rfl, dr4, fun z3 H3 a3 b3 dr5 k3 => ?_⟩
      have hp3 : H3 p2 = some (.lst [.str w0, .str w0, .str (w0 ++ "0"), .str ("a" ++ w0), .str (w0 ++ "s"), .str (Txt.upper w0)]) := k3 _ _ upd_same npd2
      obtain ⟨w1, hw1, lw1⟩ := pick_str (xs := [.str w0, .str w0, .str (w0 ++ "0"), .str ("a" ++ w0), .str (w0 ++ "s"), .str (Txt.upper w0)]) (m := 100) (i := z3 % 6) (Int.emod_nonneg _ (by decide)) (Int.emod_lt_of_pos _ (by decide)) (by
        intro v hv
        simp only [List.mem_cons, List.not_mem_nil, or_false] at hv
        rcases hv with h | h | h | h | h | h
        · exact ⟨_, h, by omega⟩
        · exact ⟨_, h, by omega⟩
        · exact ⟨_, h, by rw [PySem.Str.length_append]; omega⟩
        · exact ⟨_, h, by rw [PySem.Str.length_append]; omega⟩
        · exact ⟨_, h, by rw [PySem.Str.length_append]; omega⟩
        · exact ⟨_, h, by omega⟩)
      refine ⟨_, _, rfl, rfl, (by show (0 : Int) < 6; decide), p2, _, _, _, rfl, rfl, SqL.of hp3, hw1, ?_⟩
      exact q w1 H3 lw1 dr5 ((kk.trans (.of (same_upd np2))).trans k3)
    · -- drawn signs
      refine ⟨_, rfl, d, rfl, dr1, fun z2 H2 a2 b2 dr2 k2 => ⟨_, _, rfl, rfl, (by show (0 : Int) < 15; decide), ?_⟩⟩
      have h15a : 0 ≤ z2 % 15 := Int.emod_nonneg _ (by decide)
      have h15b : z2 % 15 < 15 := Int.emod_lt_of_pos _ (by decide)
      refine ⟨_, rfl, by omega, by omega, for_range (n := (z2 % 15).toNat) (fun i σ H3 => ∃ (y3 y4 : Option V) (x : Str), σ = [some (.ref d), some (.int (z1 % 4)), some (.str x), y3, y4] ∧ x.length ≤ i ∧ DrawsAt H3 d ∧ Kp d H H3)
        ⟨none, none, _, rfl, (by decide +kernel), dr2, k1.trans k2⟩ ?_ ?_⟩
      · rintro i σ H3 hi ⟨y3, y4, x, rfl, lx, dr3, k3⟩
        refine ⟨_, rfl, d, rfl, dr3, fun z4 H4 a4 b4 dr4 k4 => ⟨_, _, rfl, rfl, (by show (0 : Int) < 16; decide), rfl, _, rfl, ?_⟩⟩
        have go : ∀ (sg : Str), 0 < sg.length → sg.length ≤ 20 → ∀ (σ : L2.St), σ = [some (.ref d), some (.int (z1 % 4)), some (.str x), some (.int (0 + i)), some (.str sg)] →
          tAsg (tOp (fun x y H Q => ∃ i j, x = V.str i ∧ y = V.str j ∧ i.length + j.length ≤ sizeLine ∧ Q (V.str (i ++ j)) H) (tVar 2) (tOp rIxS (tVar 4) (tOp (rI (fun _ j => 0 < j) fun i j => V.int (i % j)) (tCall spDraw [] E0 (tCons (tVar 0) tNil)) (tCB (fun xs H Q => ∃ z, xs = [V.str z] ∧ z.length ≤ sizeLine ∧ Q (V.int z.length) H) (tCons (tVar 4) tNil)))))
            (gName 2) { nx := fun σ H3 => ∃ (y3 y4 : Option V) (x : Str), σ = [some (.ref d), some (.int (z1 % 4)), some (.str x), y3, y4] ∧ x.length ≤ i + 1 ∧ DrawsAt H3 d ∧ Kp d H H3, rt := fun v H => False } σ H4 := by
          rintro sg hs1 hs2 σ rfl
          refine ⟨_, rfl, _, rfl, _, rfl, d, rfl, dr4, fun z5 H5 a5 b5 dr5 k5 => ?_⟩
          obtain ⟨c, hc⟩ := pick_sign (z := sg) (i := z5 % (sg.length : Int)) (Int.emod_nonneg _ (by omega)) (Int.emod_lt_of_pos _ (by omega))
          refine ⟨_, rfl, _, rfl, Nat.le_trans hs2 (by decide), _, _, rfl, rfl, (by show (0 : Int) < (sg.length : Int); omega), sg, _, c, rfl, rfl, Nat.le_trans hs2 (by decide), hc, _, _, rfl, rfl, ?_, ?_⟩
          · rw [len_one]
            exact Nat.le_trans (show x.length + 1 ≤ 20 by omega) (by decide)
          · exact ⟨_, _, _, rfl, by rw [PySem.Str.length_append, len_one]; omega, dr5, (k3.trans k4).trans k5⟩
        exact ite2 (fun _ => go _ (by decide +kernel) (by decide +kernel) _ rfl) (fun _ => go _ (by decide +kernel) (by decide +kernel) _ rfl)
      · rintro σ H3 ⟨y3, y4, x, rfl, lx, dr3, k3⟩
        exact ⟨_, rfl, q x H3 (by omega) dr3 k3⟩
theorem sc_law : FnScope ["script", "draws", "turn", "word", "bad"] ["script"] (defScope (top 14)) := ⟨rfl, rfl, rfl, by decide +kernel, rfl, by decide +kernel, by decide +kernel⟩
theorem ok_law {f : Addr} {fd : FuncData} (F : FnP K "law" (top 14) f fd) (T : Txt mg) (C1 : Has P w K mg base 2 "_law_numbers" ["script"] (spNumbers K)) (C2 : Has P w K mg base 3 "_law_word" ["draws"] spWord) (C3 : Has P w K mg base 1 "_law_equal" ["actual", "due"] spEqual)
    (C4 : Has P w K mg base 1 "is_name" ["text"] (spIsName K)) (C5 : Has P w K mg base 1 "_law_is_name" ["word"] spLawIsName) : FnOk P w K mg base CX0 4 f fd ["script"] (spLaw K) := by
  obtain ⟨f1, fd1, G_law_numbers, g_law_numbers, k_law_numbers, b_law_numbers⟩ := C1
  obtain ⟨f2, fd2, G_law_word, g_law_word, k_law_word, b_law_word⟩ := C2
  obtain ⟨f3, fd3, G_law_equal, g_law_equal, k_law_equal, b_law_equal⟩ := C3
  obtain ⟨f4, fd4, G_is_name, g_is_name, k_is_name, b_is_name⟩ := C4
  obtain ⟨f5, fd5, G_law_is_name, g_law_is_name, k_law_is_name, b_law_is_name⟩ := C5
  refine F.ok sc_law (fun vs H Q E h => ?_) (fun cdv A outer s H vs Q E hr h => ?_)
  · obtain ⟨a, ns, rfl, _⟩ := h; rfl
  · obtain ⟨a, ns, rfl, hS, hlen, q⟩ := h
    have R_law_numbers : Room 2 _ := hr.mono (by decide)
    have R_law_word : Room 3 _ := hr.mono (by decide)
    have R_law_equal : Room 1 _ := hr.mono (by decide)
    have R_is_name : Room 1 _ := hr.mono (by decide)
    have R_law_is_name : Room 1 _ := hr.mono (by decide)
    refine ⟨_, PSs.nox (pss_cons (ps_set (i := 1) sc_law.nd rfl (Or.inl rfl) (pe_lst (pa_cons (pe_call G_law_numbers R_law_numbers (by rfl) g_law_numbers k_law_numbers b_law_numbers .nil pass0 (pa_cons (pv 0) pa_nil)) (pa_cons pe_int pa_nil)))) (pss_cons (ps_for PassesOwn.never rfl (pi_range1 (by rfl) T.n_range (pa_cons pe_int pa_nil)) (pg_name (i := 2) sc_law.nd rfl (Or.inl rfl)) (pss_cons (ps_set (i := 3) sc_law.nd rfl (Or.inl rfl) (pe_call G_law_word R_law_word (by rfl) g_law_word k_law_word b_law_word .nil pass0 (pa_cons (pv 1) pa_nil))) (pss_one (ps_if (pt_not (pt_val (pe_call G_law_equal R_law_equal (by rfl) g_law_equal k_law_equal b_law_equal .nil pass0 (pa_cons (pe_call G_is_name R_is_name (by rfl) g_is_name k_is_name b_is_name .nil pass0 (pa_cons (pv 3) pa_nil)) (pa_cons (pe_call G_law_is_name R_law_is_name (by rfl) g_law_is_name k_law_is_name b_law_is_name .nil pass0 (pa_cons (pv 3) pa_nil)) pa_nil))))) (pss_one (ps_ret pe_bl)) pss_nil)))) (pss_cons (ps_for PassesOwn.never rfl (pi_list (pe_lst (pa_cons pe_non (pa_cons pe_int (pa_cons (pe_tup (pa_cons pe_str pa_nil)) (pa_cons (pe_lst (pa_cons pe_str pa_nil)) (pa_cons pe_bl pa_nil))))))) (pg_name (i := 4) sc_law.nd rfl (Or.inl rfl)) (pss_one (ps_if (pt_not (pt_val (pe_call G_law_equal R_law_equal (by rfl) g_law_equal k_law_equal b_law_equal .nil pass0 (pa_cons (pe_call G_is_name R_is_name (by rfl) g_is_name k_is_name b_is_name .nil pass0 (pa_cons (pv 4) pa_nil)) (pa_cons pe_bl pa_nil))))) (pss_one (ps_ret pe_bl)) pss_nil))) (pss_one (ps_ret pe_bl))))), ?_⟩
    refine ⟨_, rfl, a, ns, rfl, hS, hlen, fun H1 p ms s1 np hp sm => ⟨(by show 2 ≤ sizeLine; decide), fun d nd => ?_⟩⟩
    have dr0 : DrawsAt (upd H1 d (.lst [.ref p, .int 0])) d := ⟨p, 0, ms, upd_same, by rw [upd_ne (ne_of_none hp nd)]; exact hp, sm⟩
    refine ⟨8, rfl, by decide, by decide, for_range (n := 8) (fun i σ H2 => ∃ (y2 y3 y4 : Option V), σ = [some (.ref a), some (.ref d), y2, y3, y4] ∧ DrawsAt H2 d) ⟨none, none, none, rfl, dr0⟩ ?_ ?_⟩
    · rintro i σ H2 hi ⟨y2, y3, y4, rfl, dr⟩
      refine ⟨_, rfl, d, rfl, dr, fun z H3 lz dr3 k3 => ?_⟩
      have hz : z.length < sizeLine := Nat.lt_of_le_of_lt lz (by decide)
      refine ⟨_, rfl, .inl ⟨z, rfl, Nat.le_of_lt hz, _, rfl, z, rfl, hz, fun H4 s4 => ⟨_, _, rfl, rfl, rfl, _, rfl, iteNS rfl ⟨_, _, _, rfl, dr3.same s4⟩⟩⟩⟩
    · rintro σ H2 ⟨y2, y3, y4, rfl, dr⟩
      refine ⟨(by show 1 ≤ sizeLine; decide), fun t1 n1 => ⟨(by show 1 ≤ sizeLine; decide), fun l1 m1 => ⟨(by show 5 ≤ sizeLine; decide), fun L nL => ?_⟩⟩⟩
      have hT := upd_ne (H := upd (upd H2 t1 (.tup [.str "a"])) l1 (.lst [.str "a"])) (o := .lst [.non, .int 5, .ref t1, .ref l1, .bl true]) (ne_of_none (H := upd (upd H2 t1 (.tup [.str "a"])) l1 (.lst [.str "a"])) (a := t1) (o := .tup [.str "a"]) (by rw [upd_ne (ne_of_none upd_same m1), upd_same]) nL)
      have hT1 : (upd (upd (upd H2 t1 (.tup [.str "a"])) l1 (.lst [.str "a"])) L (.lst [.non, .int 5, .ref t1, .ref l1, .bl true])) t1 = some (.tup [.str "a"]) := by rw [hT, upd_ne (ne_of_none upd_same m1), upd_same]
      have hL1 : (upd (upd (upd H2 t1 (.tup [.str "a"])) l1 (.lst [.str "a"])) L (.lst [.non, .int 5, .ref t1, .ref l1, .bl true])) l1 = some (.lst [.str "a"]) := by rw [upd_ne (ne_of_none upd_same nL), upd_same]
      have hLL : (upd (upd (upd H2 t1 (.tup [.str "a"])) l1 (.lst [.str "a"])) L (.lst [.non, .int 5, .ref t1, .ref l1, .bl true])) L = some (.lst [.non, .int 5, .ref t1, .ref l1, .bl true]) := upd_same
      revert hT1 hL1 hLL
      clear hT
      generalize upd (upd (upd H2 t1 (.tup [.str "a"])) l1 (.lst [.str "a"])) L (.lst [.non, .int 5, .ref t1, .ref l1, .bl true]) = H5
      intro hT1 hL1 hLL
      refine ⟨L, rfl, ⟨_, SqL.of hLL⟩, for_list (K := K) (a := L) (xs := [.non, .int 5, .ref t1, .ref l1, .bl true]) (fun i σ H6 => ∃ y4 : Option V, σ = [some (.ref a), some (.ref d), y2, y3, y4] ∧ H6 = H5) ⟨y4, rfl, rfl⟩ (fun i σ H6 _ ⟨_, _, e⟩ => by rw [e]; exact SqL.of hLL) ?_ ?_⟩
      · rintro i x σ H6 hx ⟨y4, rfl, rfl⟩
        have tx : ∃ t : String, TyX K H6 x (.type t) ∧ kitB t "str" = some false := by
          match i, hx with
          | 0, hx => cases hx; exact ⟨_, .base .non, by decide +kernel⟩
          | 1, hx => cases hx; exact ⟨_, .base (.int 5), by decide +kernel⟩
          | 2, hx => cases hx; exact ⟨_, .base (.tup hT1), by decide +kernel⟩
          | 3, hx => cases hx; exact ⟨_, .base (.lst hL1), by decide +kernel⟩
          | 4, hx => cases hx; exact ⟨_, .base (.bl true), by decide +kernel⟩
          | n + 5, hx => simp at hx
        obtain ⟨t, tx, kt⟩ := tx
        exact ⟨_, rfl, .inr ⟨x, t, rfl, tx, kt, _, _, rfl, rfl, rfl, _, rfl, iteNS rfl ⟨_, rfl, rfl⟩⟩⟩
      · rintro σ H6 ⟨y4, rfl, rfl⟩
        exact q _
end
def d_law_mixed : He.DefD := ⟨("_law_mixed", none), "_law_mixed", "_law_mixed", defArgs (top 7), defBody (top 7), defScope (top 7), [], []⟩
def d_law_numbers : He.DefD := ⟨("_law_numbers", none), "_law_numbers", "_law_numbers", defArgs (top 8), defBody (top 8), defScope (top 8), [], []⟩
def d_law_draw : He.DefD := ⟨("_law_draw", none), "_law_draw", "_law_draw", defArgs (top 9), defBody (top 9), defScope (top 9), [], []⟩
def d_law_equal : He.DefD := ⟨("_law_equal", none), "_law_equal", "_law_equal", defArgs (top 10), defBody (top 10), defScope (top 10), [], []⟩
def d_is_name : He.DefD := ⟨("is_name", none), "is_name", "is_name", defArgs (top 5), defBody (top 5), defScope (top 5), [], []⟩
def d_law_is_name : He.DefD := ⟨("_law_is_name", none), "_law_is_name", "_law_is_name", defArgs (top 12), defBody (top 12), defScope (top 12), [], []⟩
def d_law_word : He.DefD := ⟨("_law_word", none), "_law_word", "_law_word", defArgs (top 13), defBody (top 13), defScope (top 13), [], []⟩
def d_law : He.DefD := ⟨("law", none), "law", "law", defArgs (top 14), defBody (top 14), defScope (top 14), [], []⟩
def fns : List He.DefD := [d_law_mixed, d_law_numbers, d_law_draw, d_law_equal, d_is_name, d_law_is_name, d_law_word, d_law]
def fas : List He.Fa := [.glo "_law_mixed", .glo "_law_numbers", .glo "_law_draw", .glo "_law_equal", .glo "is_name", .glo "_law_is_name", .glo "_law_word", .glo "law", .free "len", .free "range", .free "isinstance", .free "list", .free "tuple", .free "bool", .free "int", .free "str", .free "sorted", .free "set", .free "all", .free "any", .free "sum", .free "max", .free "min", .free "dict", .free "enumerate", .free "zip", .int "LONGEST_NAME" 12, .str "LETTERS" "abcdefghijklmnopqrstuvwxyz", .str "FIGURES" "0123456789", .glo "RESERVED"]
def exs (K : PySem.W.Frag) : Bool := He.tupB K "RESERVED" [.str "and", .str "or", .str "not", .str "some", .str "all", .str "lfp", .str "pfp", .str "tc", .str "guess", .str "true", .str "false"]
abbrev R : PySem.W.OpenRow := PySem.W.OpenLaw.row PySem.Challenge.rw_sayso_k06_names_are_tested
abbrev hk : PySem.W.Hook := He.hookX 4 fas fns [] [] exs
def ob (s : PySem.W.SharedT) : He.AlX := He.obsX 4 fas fns [] [] exs (HandSHeadRun.getT s)
theorem ob_eq (s : PySem.W.SharedT) : ob s = hk.obs s.abs := He.obsX_eq (HandSHeadRun.getT_eq s)
def looseN : List PySem.Str := ["LONGEST_NAME", "LETTERS", "FIGURES", "RESERVED", "is_name", "_law_mixed", "_law_numbers", "_law_draw", "_law_equal", "_law_all_equal", "_law_is_name", "_law_word"]
theorem run (w : World) : HandSHeadRun.RunEq R (PySem.W.view R.prog [14]) hk ob 600 looseN w := by
  intro os
  kernel_rfl
theorem facts {P : Program} {w : World} {K : PySem.W.Frag} {h : Heap} {mg : Str → Option Value} {f : Addr} (X : K.In h) (G : h.Ns mainGlobals mg) (hfa : mg ("law" : Str) = some (.ref f)) (c : He.SaysX fas fns [] [] exs w h K) :
    ∃ fd : FuncData, (∀ (s : Shared) (v : Value), BindsTo s fd ⟨[v], []⟩ [("script", v)]) ∧ ∀ base : Heap, K.In base → base.Ns mainGlobals mg → FnOk P w K mg base CX0 4 f fd ["script"] (spLaw K) := by
  have cd := c.t.d
  obtain ⟨fd_law_mixed, F_law_mixed⟩ := cd.def_ 0 (d := d_law_mixed) rfl
  have g_law_mixed := He.glo_ok X G (cd.fact 0 (f := .glo "_law_mixed") rfl)
  have D_law_mixed : Def K mg "_law_mixed" ["number", "k"] (top 7) := ⟨_, fd_law_mixed, F_law_mixed, g_law_mixed, FunD.bindsN F_law_mixed fun _ _ _ _ _ _ us hl => match us, hl with | [_, _], _ => rfl⟩
  obtain ⟨fd_law_numbers, F_law_numbers⟩ := cd.def_ 1 (d := d_law_numbers) rfl
  have g_law_numbers := He.glo_ok X G (cd.fact 1 (f := .glo "_law_numbers") rfl)
  have D_law_numbers : Def K mg "_law_numbers" ["script"] (top 8) := ⟨_, fd_law_numbers, F_law_numbers, g_law_numbers, FunD.bindsN F_law_numbers fun _ _ _ _ _ _ us hl => match us, hl with | [_], _ => rfl⟩
  obtain ⟨fd_law_draw, F_law_draw⟩ := cd.def_ 2 (d := d_law_draw) rfl
  have g_law_draw := He.glo_ok X G (cd.fact 2 (f := .glo "_law_draw") rfl)
  have D_law_draw : Def K mg "_law_draw" ["draws"] (top 9) := ⟨_, fd_law_draw, F_law_draw, g_law_draw, FunD.bindsN F_law_draw fun _ _ _ _ _ _ us hl => match us, hl with | [_], _ => rfl⟩
  obtain ⟨fd_law_equal, F_law_equal⟩ := cd.def_ 3 (d := d_law_equal) rfl
  have g_law_equal := He.glo_ok X G (cd.fact 3 (f := .glo "_law_equal") rfl)
  have D_law_equal : Def K mg "_law_equal" ["actual", "due"] (top 10) := ⟨_, fd_law_equal, F_law_equal, g_law_equal, FunD.bindsN F_law_equal fun _ _ _ _ _ _ us hl => match us, hl with | [_, _], _ => rfl⟩
  obtain ⟨fd_is_name, F_is_name⟩ := cd.def_ 4 (d := d_is_name) rfl
  have g_is_name := He.glo_ok X G (cd.fact 4 (f := .glo "is_name") rfl)
  have D_is_name : Def K mg "is_name" ["text"] (top 5) := ⟨_, fd_is_name, F_is_name, g_is_name, FunD.bindsN F_is_name fun _ _ _ _ _ _ us hl => match us, hl with | [_], _ => rfl⟩
  obtain ⟨fd_law_is_name, F_law_is_name⟩ := cd.def_ 5 (d := d_law_is_name) rfl
  have g_law_is_name := He.glo_ok X G (cd.fact 5 (f := .glo "_law_is_name") rfl)
  have D_law_is_name : Def K mg "_law_is_name" ["word"] (top 12) := ⟨_, fd_law_is_name, F_law_is_name, g_law_is_name, FunD.bindsN F_law_is_name fun _ _ _ _ _ _ us hl => match us, hl with | [_], _ => rfl⟩
  obtain ⟨fd_law_word, F_law_word⟩ := cd.def_ 6 (d := d_law_word) rfl
  have g_law_word := He.glo_ok X G (cd.fact 6 (f := .glo "_law_word") rfl)
  have D_law_word : Def K mg "_law_word" ["draws"] (top 13) := ⟨_, fd_law_word, F_law_word, g_law_word, FunD.bindsN F_law_word fun _ _ _ _ _ _ us hl => match us, hl with | [_], _ => rfl⟩
  obtain ⟨fd_law, F_law⟩ := cd.def_ 7 (d := d_law) rfl
  have g_law := He.glo_ok X G (cd.fact 7 (f := .glo "law") rfl)
  have D_law : Def K mg "law" ["script"] (top 14) := ⟨_, fd_law, F_law, g_law, FunD.bindsN F_law fun _ _ _ _ _ _ us hl => match us, hl with | [_], _ => rfl⟩
  have T : Txt mg := ⟨He.free_ok X G (cd.fact 8 (f := .free "len") rfl), He.free_ok X G (cd.fact 9 (f := .free "range") rfl), He.free_ok X G (cd.fact 10 (f := .free "isinstance") rfl), He.free_ok X G (cd.fact 11 (f := .free "list") rfl), He.free_ok X G (cd.fact 12 (f := .free "tuple") rfl), He.free_ok X G (cd.fact 13 (f := .free "bool") rfl), He.free_ok X G (cd.fact 14 (f := .free "int") rfl), He.free_ok X G (cd.fact 15 (f := .free "str") rfl), He.free_ok X G (cd.fact 16 (f := .free "sorted") rfl), He.free_ok X G (cd.fact 17 (f := .free "set") rfl), He.free_ok X G (cd.fact 18 (f := .free "all") rfl), He.free_ok X G (cd.fact 19 (f := .free "any") rfl), He.free_ok X G (cd.fact 20 (f := .free "sum") rfl), He.free_ok X G (cd.fact 21 (f := .free "max") rfl), He.free_ok X G (cd.fact 22 (f := .free "min") rfl), He.free_ok X G (cd.fact 23 (f := .free "dict") rfl), He.free_ok X G (cd.fact 24 (f := .free "enumerate") rfl), He.free_ok X G (cd.fact 25 (f := .free "zip") rfl)⟩
  have c_LONGEST_NAME := He.int_ok X G (cd.fact 26 (f := .int "LONGEST_NAME" 12) rfl)
  have c_LETTERS := He.str_ok X G (cd.fact 27 (f := .str "LETTERS" "abcdefghijklmnopqrstuvwxyz") rfl)
  have c_FIGURES := He.str_ok X G (cd.fact 28 (f := .str "FIGURES" "0123456789") rfl)
  have c_RESERVED := He.glo_ok X G (cd.fact 29 (f := .glo "RESERVED") rfl)
  have e := hfa.symm.trans g_law
  cases e
  have b := FunD.bindsA (ps := ["script"]) F_law fun _ _ _ _ _ _ us hl => match us, hl with | [_], _ => rfl
  refine ⟨fd_law, fun s v => b s [v] rfl, fun base _ _ => ?_⟩
  obtain ⟨t1, h1⟩ := c_LONGEST_NAME
  have h_mixed := has_mixed (P := P) (w := w) (base := base) D_law_mixed
  have h_numbers := has_numbers D_law_numbers T h_mixed
  have h_draw := has_draw D_law_draw T h_mixed
  have h_equal := has_equal (P := P) (w := w) (base := base) D_law_equal T
  have h_is := has_is_name (P := P) (w := w) (base := base) D_is_name T ⟨t1, h1⟩ c_LETTERS c_FIGURES c_RESERVED (fun H => He.tupB_ok c.more H)
  have h_lis := has_law_is_name (P := P) (w := w) (base := base) D_law_is_name T
  have h_word := has_word D_law_word T h_draw
  exact ok_law F_law T h_numbers h_word h_equal h_is h_lis
end SaysoV
open PySem PySem.W PySem.Calls PyProof.Rows
set_option maxHeartbeats 0 in
theorem PySem.Challenge.cw_sayso_k06_names_are_tested_holds : PySem.Challenge.rw_sayso_k06_names_are_tested.Holds := by
  w_on; o_law
  refine HandSHeadRun.head_any (r := OpenLaw.row PySem.Challenge.rw_sayso_k06_names_are_tested) (q := view (OpenLaw.row PySem.Challenge.rw_sayso_k06_names_are_tested).prog [14]) (H := SaysoV.hk) (ob := SaysoV.ob) (M := 600) (loose := SaysoV.looseN) (d := HandSHeadRun.topDef (OpenLaw.row PySem.Challenge.rw_sayso_k06_names_are_tested).prog 14) (kwd := []) SaysoV.ob_eq
    (by kernel_rfl) (fun s => by kernel_rfl) SaysoV.run (by kernel_rfl) (by kernel_rfl) (by kernel_rfl) (by rfl) (by first | assumption | decide +kernel) (by decide +kernel) ⟨rfl, rfl, rfl, rfl, rfl, by decide +kernel⟩ ?hw ?hc
  case hw => w_witness2
  case hc =>
    refine L2.walk_ofE (l := PySem.Challenge.rw_sayso_k06_names_are_tested) (n := 63) (k := 4) (x := "script") (CX := L2.CX0) rfl (by decide) (by kernel_rfl) ⟨rfl, by decide, by decide⟩ ?F (fun _ _ _ _ z => z)
    intro w mg fa h Y G hmg0
    obtain ⟨K, KX, c⟩ := Y
    have hmg : mg ("law" : PySem.Str) = some (.ref fa) := by
      have e : (HandSHeadRun.topDef (OpenLaw.row PySem.Challenge.rw_sayso_k06_names_are_tested).prog 14).name = ("law" : PySem.Str) := by kernel_rfl
      rw [← e]
      exact hmg0
    obtain ⟨fd, hb, hF⟩ := SaysoV.facts (P := (PySem.Challenge.rw_sayso_k06_names_are_tested).prog) (w := w) KX G hmg c
    exact ⟨K, fd, SaysoV.spLaw K, KX, hb, fun H a ns hl _ hS => ⟨a, ns, rfl, hS, hl, fun _ => rfl⟩, hF⟩

