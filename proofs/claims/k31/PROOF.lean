import PyProof.Rows.All
import Wide.All
import OpenK.AllK
import Wide.FinOn
import KE.KStateDown
import HandS.ForMost
import HandS.Defaults
import HandS.IsInst
import HandS.SetKeys
import HandS.Strs
import HandS.CallLocal
import HandS.WrittenGet
import HandS.NoneIn
import HandS.DictComp
import HandS.Deep
import HandS.Sort
import HandS.SortOrd
import HandS.ListItems
import HandS.DictTup
import HandS.ForExc
import HandS.Flow
import HandS.Walk
import HandS.Head0
import HandS.Head1
import HandS.Head2
import HandS.HeadEnd
import HandS.HeadHook1
import HandS.HeadHook2
import HandS.HeadHook3
import HandS.HeadHook4
import PySem.Challenge.RW_sayso_k31_lengths_of_positions
import HandS.ExcIs
import HandS.TupAny
import HandS.TupSets
import HandS.ExcCtx
import HandS.SuiteRaise
import HandS.RaiseFrom
import HandS.SetBool
import HandS.SortRule
import HandS.Style
import HandS.Nested
import HandS.Lambda
import KE.KLam
import KE.KeyNested
import PyProof.DictRoadsH
import PyProof.ListMulRoad
import PyProof.FactsAll.tuple_2
import HandS.TupMul
import HandS.HeadWalk
import HandS.EndTab
set_option Elab.async false
set_option linter.all false
set_option maxRecDepth 100000
set_option maxHeartbeats 4000000
namespace SaysoV
open PySem PySem.Spec PyProof.Rows L2
/-! ### the text by places, what a def is to its callers -/
def top (i : Nat) : Stmt := PySem.Challenge.pw_sayso_k31_lengths_of_positions.main.body.getD i (.Pass ⟨0, 0, 0, 0⟩)
abbrev FnP (K : PySem.W.Frag) (x : Str) (st : Stmt) (f : Addr) (fd : FuncData) : Prop := FunD K x x (defArgs st) (defBody st) (defScope st) [] [] f fd
/-- a def as the top leaves it -/
def Def (K : PySem.W.Frag) (mg : Str → Option Value) (x : Str) (ps : List Str) (st : Stmt) : Prop := ∃ f fd, FnP K x st f fd ∧ mg x = some (.ref f) ∧ Binds K fd ps []
/-- a def with its promise, as a caller takes it -/
def HasX (CX : CXT) (P : Program) (w : World) (K : PySem.W.Frag) (mg : Str → Option Value) (base : Heap) (k : Nat) (x : Str) (ps : List Str) (sp : Sp) : Prop :=
  ∃ f fd, FnOk P w K mg base CX k f fd ps sp ∧ mg x = some (.ref f) ∧ PySem.W.keepIn K (.ref f) = true ∧ Binds K fd ps []
abbrev Has := HasX CX0
/-- the names that are still built-in -/
structure Txt (mg : Str → Option Value) : Prop where
  n_len : mg "len" = none
  n_range : mg "range" = none
  n_isinstance : mg "isinstance" = none
  n_list : mg "list" = none
  n_tuple : mg "tuple" = none
  n_bool : mg "bool" = none
  n_int : mg "int" = none
  n_str : mg "str" = none
  n_sorted : mg "sorted" = none
  n_set : mg "set" = none
  n_all : mg "all" = none
  n_any : mg "any" = none
  n_sum : mg "sum" = none
  n_max : mg "max" = none
  n_min : mg "min" = none
  n_dict : mg "dict" = none
  n_enumerate : mg "enumerate" = none
  n_zip : mg "zip" = none
section
variable {P : Program} {w : World} {K : PySem.W.Frag} {mg : Str → Option Value} {base : Heap} {CX : CXT}
theorem Def.has {x : Str} {ps : List Str} {st : Stmt} {k : Nat} {sp : Sp} (D : Def K mg x ps st) (h : ∀ f fd, FnP K x st f fd → FnOk P w K mg base CX k f fd ps sp) : HasX CX P w K mg base k x ps sp := by
  obtain ⟨f, fd, F, g, b⟩ := D
  exact ⟨f, fd, h f fd F, g, F.kp, b⟩
end
theorem same_upd {H : Hp} {p : Addr} {o : HO} (h : H p = none) : Same H (upd H p o) := fun b x e => by
  rw [upd_ne (ne_of_none e h)]
  exact e
/-- all that was tracked but d is as it was -/
def Kp (d : Addr) (H H' : Hp) : Prop := ∀ b o, H b = some o → b ≠ d → H' b = some o
theorem Kp.refl (d : Addr) (H : Hp) : Kp d H H := fun _ _ e _ => e
theorem Kp.trans {d : Addr} {H H1 H2 : Hp} (a : Kp d H H1) (b : Kp d H1 H2) : Kp d H H2 := fun c o e n => b c o (a c o e n) n
theorem Kp.of {d : Addr} {H H' : Hp} (a : Same H H') : Kp d H H' := fun c o e _ => a c o e
theorem Kp.upd {d : Addr} {H : Hp} {o : HO} : Kp d H (L2.upd H d o) := fun c x e n => by rw [upd_ne n]; exact e
theorem Kp.free {d : Addr} {H H' : Hp} {p : Addr} (a : Kp d H H') (hp : p ≠ d) (h : H' p = none) : H p = none := by
  cases q : H p with
  | none => rfl
  | some o => rw [a p o q hp] at h; cases h
/-- the draws: a list of small numbers at l, and the place of the next one -/
def DrA (H : Hp) (d l : Addr) : Prop := ∃ (n : Nat) (ms : List Int), H d = some (.lst [.ref l, .int n]) ∧ H l = some (.lst (ms.map V.int)) ∧ ∀ z, z ∈ ms → 0 ≤ z ∧ z < 1000000
theorem draws_ne {H : Hp} {d l : Addr} {n : Int} {ms : List Int} (h1 : H d = some (.lst [.ref l, .int n])) (h2 : H l = some (.lst (ms.map V.int))) : l ≠ d := by
  intro e
  subst e
  rw [h1] at h2
  have h3 : [V.ref l, V.int n] = ms.map V.int := HO.lst.inj (Option.some.inj h2)
  cases ms with
  | nil => cases h3
  | cons a r => injection h3 with h4 _; cases h4
theorem DrA.same {H H' : Hp} {d l : Addr} (h : DrA H d l) (s : Same H H') : DrA H' d l := by
  obtain ⟨n, ms, h1, h2, h3⟩ := h
  exact ⟨n, ms, s _ _ h1, s _ _ h2, h3⟩
theorem DrA.some {H : Hp} {d l : Addr} (h : DrA H d l) : ∃ xs, H d = Option.some (.lst xs) := by
  obtain ⟨n, ms, h1, _⟩ := h
  exact ⟨_, h1⟩
theorem DrA.some' {H : Hp} {d l : Addr} (h : DrA H d l) : ∃ xs, H l = Option.some (.lst xs) := by
  obtain ⟨n, ms, _, h1, _⟩ := h
  exact ⟨_, h1⟩
theorem DrA.ne {H : Hp} {d l p : Addr} (h : DrA H d l) (np : H p = none) : p ≠ d ∧ p ≠ l := by
  obtain ⟨xs, e⟩ := h.some
  obtain ⟨ys, e'⟩ := h.some'
  exact ⟨(fun z => by rw [z, e] at np; cases np), (fun z => by rw [z, e'] at np; cases np)⟩
theorem DrA.kp {H H' : Hp} {d l p : Addr} (h : DrA H d l) (k : Kp p H H') (n : p ≠ d ∧ p ≠ l) : DrA H' d l := by
  obtain ⟨i, ms, h1, h2, h3⟩ := h
  exact ⟨i, ms, k _ _ h1 n.1.symm, k _ _ h2 n.2.symm, h3⟩
theorem get_int {ns : List Int} {i : Nat} {y : V} (h : (ns.map V.int)[i]? = some y) : ∃ z, ns[i]? = some z ∧ y = .int z := by
  rw [List.getElem?_map] at h
  cases e : ns[i]? with
  | none => rw [e] at h; cases h
  | some z => rw [e] at h; exact ⟨z, rfl, (Option.some.inj h).symm⟩
/-! ### the promises of the law's helpers -/
def spMixed : Sp := fun vs H Q _ => ∃ n k : Int, vs = [.int n, .int k] ∧ ∀ z : Int, 0 ≤ z → z < 2147483647 → Q (.int z) H
def Small (ms : List Int) : Prop := ∀ z, z ∈ ms → 0 ≤ z ∧ z < 1000000
theorem Small.add {ms : List Int} {z : Int} (h : Small ms) : Small (ms ++ [z % 1000000]) := by
  intro y hy
  rcases List.mem_append.mp hy with hy | hy
  · exact h y hy
  · rw [List.mem_singleton.mp hy]
    exact ⟨Int.emod_nonneg _ (by decide), Int.emod_lt_of_pos _ (by decide)⟩
def spNumbers (K : PySem.W.Frag) : Sp := fun vs H Q _ => ∃ (a : Addr) (ns : List Int), vs = [.ref a] ∧ SqL K H a (ns.map V.int) ∧ ns.length ≤ 63 ∧
  ∀ (H' : Hp) (p : Addr) (ms : List Int), Same H H' → H p = none → H' p = some (.lst (ms.map V.int)) → Small ms → Q (.ref p) H'
def spDraw : Sp := fun vs H Q _ => ∃ d l : Addr, vs = [.ref d] ∧ DrA H d l ∧ ∀ (z : Int) (H' : Hp), 0 ≤ z → z < 1000000 → DrA H' d l → Kp d H H' → Q (.int z) H'
section
variable {P : Program} {w : World} {K : PySem.W.Frag} {mg : Str → Option Value} {base : Heap}
theorem sc_mixed : FnScope ["number", "k", "step"] ["number", "k"] (defScope (top 40)) := ⟨rfl, rfl, rfl, by decide +kernel, rfl, by decide +kernel, by decide +kernel⟩
theorem has_mixed (D : Def K mg "_law_mixed" ["number", "k"] (top 40)) : Has P w K mg base 1 "_law_mixed" ["number", "k"] spMixed := D.has fun f fd F => by
  refine F.ok sc_mixed (fun vs H Q E h => ?_) (fun cdv A outer s H vs Q E hr h => ?_)
  · obtain ⟨n, k, rfl, _⟩ := h; rfl
  · obtain ⟨n, k, rfl, q⟩ := h
    refine ⟨_, PSs.nox (pss_cons (ps_set (i := 2) sc_mixed.nd rfl (Or.inl rfl) (pe_op op_mod (pe_op op_add (pe_op op_add (pe_op op_mul (pv 0) pe_int) (pe_op op_mul (pv 1) pe_int)) pe_int) pe_int)) (pss_one (ps_ret (pe_op op_mod (pe_op op_add (pe_op op_mul (pv 2) (pe_op op_add (pe_op op_fdiv (pv 2) pe_int) pe_int)) (pv 1)) pe_int)))), ?_⟩
    refine ⟨_, rfl, _, _, rfl, rfl, .inr ⟨by decide, by decide⟩, _, rfl, _, _, rfl, rfl, .inr ⟨by decide, by decide⟩, _, _, rfl, rfl, _, _, rfl, rfl, _, _, rfl, rfl, (by show (0 : Int) < 2147483647; decide), ?_⟩
    have h0 : 0 ≤ (n * 48271 + k * 69621 + 12345) % 2147483647 := Int.emod_nonneg _ (by decide)
    have h1 : (n * 48271 + k * 69621 + 12345) % 2147483647 < 2147483647 := Int.emod_lt_of_pos _ (by decide)
    revert h0 h1
    generalize (n * 48271 + k * 69621 + 12345) % 2147483647 = z
    intro h0 h1
    refine ⟨_, rfl, _, rfl, _, _, rfl, rfl, ⟨by decide, by decide⟩, _, _, rfl, rfl, _, _, rfl, rfl, .inl ⟨by omega, by omega⟩, _, rfl, _, _, rfl, rfl, _, _, rfl, rfl, (by show (0 : Int) < 2147483647; decide), ?_⟩
    exact q _ (Int.emod_nonneg _ (by decide)) (Int.emod_lt_of_pos _ (by decide))
theorem sc_numbers : FnScope ["script", "numbers", "cell", "rest", "k"] ["script"] (defScope (top 41)) := ⟨rfl, rfl, rfl, by decide +kernel, rfl, by decide +kernel, by decide +kernel⟩
theorem has_numbers (D : Def K mg "_law_numbers" ["script"] (top 41)) (T : Txt mg) (C1 : Has P w K mg base 1 "_law_mixed" ["number", "k"] spMixed) : Has P w K mg base 2 "_law_numbers" ["script"] (spNumbers K) := D.has fun f fd F => by
  obtain ⟨f1, fd1, G_law_mixed, g_law_mixed, k_law_mixed, b_law_mixed⟩ := C1
  refine F.ok sc_numbers (fun vs H Q E h => ?_) (fun cdv A outer s H vs Q E hr h => ?_)
  · obtain ⟨a, ns, rfl, _⟩ := h; rfl
  · obtain ⟨a, ns, rfl, hS, hlen, q⟩ := h
    have R_law_mixed : Room 1 _ := hr.mono (by decide)
    refine ⟨_, PSs.nox (pss_cons (ps_set (i := 1) sc_numbers.nd rfl (Or.inl rfl) (pe_lst pa_nil)) (pss_cons (ps_for PassesOwn.never rfl (pi_list (pv 0)) (pg_name (i := 2) sc_numbers.nd rfl (Or.inl rfl)) (pss_one (ps_if (pt_cmpR op_ge (pv 2) (pe_op op_pow pe_int pe_int) (nomark _)) (pss_cons (ps_set (i := 3) sc_numbers.nd rfl (Or.inl rfl) (pv 2)) (pss_one (ps_for PassesOwn.never rfl (pi_range1 (by rfl) T.n_range (pa_cons pe_int pa_nil)) (pg_name (i := 4) sc_numbers.nd rfl (Or.inl rfl)) (pss_one (ps_if (pt_cmpR op_gt (pv 3) pe_int (nomark _)) (pss_cons (ps_expr (pe_bm PySem.F.plainAttrs_list PySem.F.slot_list_append PySem.F.type_list_append mt_append (pv 1) (pa_cons (pe_op op_mod (pv 3) pe_int) pa_nil))) (pss_one (ps_set (i := 3) sc_numbers.nd rfl (Or.inl rfl) (pe_op op_fdiv (pv 3) pe_int)))) pss_nil))))) (pss_cons (ps_expr (pe_bm PySem.F.plainAttrs_list PySem.F.slot_list_append PySem.F.type_list_append mt_append (pv 1) (pa_cons (pe_op op_mod (pv 2) pe_int) pa_nil))) (pss_one (ps_for PassesOwn.never rfl (pi_range1 (by rfl) T.n_range (pa_cons pe_int pa_nil)) (pg_name (i := 4) sc_numbers.nd rfl (Or.inl rfl)) (pss_one (ps_expr (pe_bm PySem.F.plainAttrs_list PySem.F.slot_list_append PySem.F.type_list_append mt_append (pv 1) (pa_cons (pe_op op_mod (pe_call G_law_mixed R_law_mixed (by rfl) g_law_mixed k_law_mixed b_law_mixed .nil pass0 (pa_cons (pe_call G_law_mixed R_law_mixed (by rfl) g_law_mixed k_law_mixed b_law_mixed .nil pass0 (pa_cons (pe_op op_mod (pv 2) pe_int) (pa_cons (pv 4) pa_nil))) (pa_cons (pe_op op_add (pv 4) pe_int) pa_nil))) pe_int) pa_nil)))))))))) (pss_one (ps_ret (pv 1))))), ?_⟩
    refine ⟨Nat.zero_le _, fun p np => ?_⟩
    have s0 : Same H (upd H p (.lst [])) := same_upd np
    refine ⟨_, rfl, a, rfl, ⟨_, s0.seq hS⟩, for_list (K := K) (a := a) (xs := ns.map V.int) (fun i σ H2 => ∃ (y2 y3 y4 : Option V) (ms : List Int), σ = [some (.ref a), some (.ref p), y2, y3, y4] ∧ Same H H2 ∧ H2 p = some (.lst (ms.map V.int)) ∧ ms.length ≤ 61 * i ∧ Small ms)
      ⟨none, none, none, [], rfl, s0, upd_same, Nat.zero_le _, fun z hz => nomatch hz⟩ (fun i σ H2 _ ⟨_, _, _, _, _, s2, _⟩ => s2.seq hS) ?_ ?_⟩
    · rintro i y σ H2 hi ⟨y2, y3, y4, ms, rfl, s2, hp, hl, sm⟩
      obtain ⟨c, hc, rfl⟩ := get_int hi
      have hi63 : i < 63 := by
        have := (List.getElem?_eq_some_iff.mp hc).1
        omega
      have room : ∀ j : Nat, j ≤ 60 → ((ms.length + j : Nat) < sizeLine) := fun j hj => Nat.lt_of_le_of_lt (show ms.length + j ≤ 61 * 62 + 60 by omega) (by decide)
      refine ⟨_, rfl, _, _, rfl, rfl, ⟨by decide, by decide, by decide⟩, _, _, rfl, rfl, _, rfl, ite2 (fun e => ?_) (fun e => ?_)⟩
      · -- a huge number: its pieces
        refine ⟨_, rfl, 60, rfl, by decide, by decide, for_range (n := 60) (fun j σ H3 => ∃ (y4 : Option V) (r : Int) (ms3 : List Int), σ = [some (.ref a), some (.ref p), some (.int c), some (.int r), y4] ∧ Same H H3 ∧ H3 p = some (.lst (ms3.map V.int)) ∧ ms3.length ≤ ms.length + j ∧ Small ms3)
          ⟨y4, c, ms, rfl, s2, hp, Nat.le_refl _, sm⟩ ?_ ?_⟩
        · rintro j σ H3 hj ⟨y4, r, ms3, rfl, s3, hp3, hl3, sm3⟩
          refine ⟨_, rfl, _, _, rfl, rfl, _, rfl, ite2 (fun e2 => ?_) (fun e2 => ?_)⟩
          · refine ⟨_, rfl, .inl ⟨rfl, _, SqL.of hp3⟩, _, rfl, _, _, rfl, rfl, (by show (0 : Int) < 1000000; decide), p, _, _, rfl, rfl, hp3, ?_, ?_⟩
            · rw [List.length_map]
              exact Nat.lt_of_le_of_lt hl3 (room j (by omega))
            · refine ⟨_, rfl, _, _, rfl, rfl, ⟨by decide, by decide⟩, ?_⟩
              refine ⟨_, _, ms3 ++ [r % 1000000], rfl, fun b o eb => ?_, ?_, ?_, sm3.add⟩
              · rw [upd_ne (ne_of_none eb np)]
                exact s3 _ _ eb
              · rw [upd_same, List.map_append]
                rfl
              · rw [List.length_append]
                show ms3.length + 1 ≤ _
                omega
          · exact ⟨_, r, ms3, rfl, s3, hp3, by omega, sm3⟩
        · rintro σ H3 ⟨y4, r, ms3, rfl, s3, hp3, hl3, sm3⟩
          exact ⟨_, _, y4, ms3, rfl, s3, hp3, by omega, sm3⟩
      · refine ⟨_, rfl, .inl ⟨rfl, _, SqL.of hp⟩, _, rfl, _, _, rfl, rfl, (by show (0 : Int) < 1000000; decide), p, _, _, rfl, rfl, hp, ?_, ?_⟩
        · rw [List.length_map]
          exact room 0 (by decide)
        · refine ⟨5, rfl, by decide, by decide, for_range (n := 5) (fun j σ H3 => ∃ (y4 : Option V) (ms3 : List Int), σ = [some (.ref a), some (.ref p), some (.int c), y3, y4] ∧ Same H H3 ∧ H3 p = some (.lst (ms3.map V.int)) ∧ ms3.length ≤ ms.length + 1 + j ∧ Small ms3)
            ⟨y4, ms ++ [c % 1000000], rfl, fun b o eb => ?_, ?_, ?_, sm.add⟩ ?_ ?_⟩
          · rw [upd_ne (ne_of_none eb np)]
            exact s2 _ _ eb
          · rw [upd_same, List.map_append]
            rfl
          · rw [List.length_append]
            show ms.length + 1 ≤ _
            omega
          · rintro j σ H3 hj ⟨y4, ms3, rfl, s3, hp3, hl3, sm3⟩
            refine ⟨_, rfl, .inl ⟨rfl, _, SqL.of hp3⟩, ?_⟩
            refine ⟨_, rfl, _, _, rfl, rfl, (by show (0 : Int) < 2147483647; decide), _, rfl, _, _, rfl, fun z1 _ _ => ?_⟩
            refine ⟨_, rfl, _, _, rfl, rfl, _, _, rfl, fun z2 _ _ => ?_⟩
            refine ⟨_, _, rfl, rfl, (by show (0 : Int) < 1000000; decide), p, _, _, rfl, rfl, hp3, ?_, ?_⟩
            · rw [List.length_map]
              exact Nat.lt_of_le_of_lt hl3 (Nat.lt_of_le_of_lt (show ms.length + 1 + j ≤ ms.length + 60 by omega) (room 60 (by decide)))
            · refine ⟨_, ms3 ++ [z2 % 1000000], rfl, fun b o eb => ?_, ?_, ?_, sm3.add⟩
              · rw [upd_ne (ne_of_none eb np)]
                exact s3 _ _ eb
              · rw [upd_same, List.map_append]
                rfl
              · rw [List.length_append]
                show ms3.length + 1 ≤ _
                omega
          · rintro σ H3 ⟨y4, ms3, rfl, s3, hp3, hl3, sm3⟩
            exact ⟨_, _, y4, ms3, rfl, s3, hp3, by omega, sm3⟩
    · rintro σ H2 ⟨y2, y3, y4, ms, rfl, s2, hp, hl, sm⟩
      exact ⟨_, rfl, q H2 p ms s2 np hp sm⟩
theorem sc_draw : FnScope ["draws", "at", "first"] ["draws"] (defScope (top 42)) := ⟨rfl, rfl, rfl, by decide +kernel, rfl, by decide +kernel, by decide +kernel⟩
theorem has_draw (D : Def K mg "_law_draw" ["draws"] (top 42)) (T : Txt mg) (C1 : Has P w K mg base 1 "_law_mixed" ["number", "k"] spMixed) : Has P w K mg base 2 "_law_draw" ["draws"] spDraw := D.has fun f fd F => by
  obtain ⟨f1, fd1, G_law_mixed, g_law_mixed, k_law_mixed, b_law_mixed⟩ := C1
  refine F.ok sc_draw (fun vs H Q E h => ?_) (fun cdv A outer s H vs Q E hr h => ?_)
  · obtain ⟨d, l, rfl, _⟩ := h; rfl
  · obtain ⟨d, l, rfl, ⟨n, ms, h1, h2, sm⟩, q⟩ := h
    have R_law_mixed : Room 1 _ := hr.mono (by decide)
    have nld := draws_ne h1 h2
    refine ⟨_, PSs.nox (pss_cons (ps_set (i := 1) sc_draw.nd rfl (Or.inl rfl) (pe_ix ix_list (pv 0) pe_int (fun _ _ => rfl))) (pss_cons (ps_asg (pe_op op_add (pv 1) pe_int) (pg_sub (pv 0) pe_int set_list)) (pss_cons (ps_if (pt_cmpR op_lt (pv 1) (pe_callB call_len_seq (by rfl) T.n_len PySem.boot_len (pa_cons (pe_ix ix_list (pv 0) pe_int (fun _ _ => rfl)) pa_nil)) (nomark _)) (pss_one (ps_ret (pe_ix ix_list (pe_ix ix_list (pv 0) pe_int (fun _ _ => rfl)) (pv 1) (fun _ _ => rfl)))) pss_nil) (pss_cons (ps_set (i := 2) sc_draw.nd rfl (Or.inl rfl) (pe_op op_add pe_int (pv 1))) (pss_cons (ps_if (pt_cmpR op_gt (pe_callB call_len_seq (by rfl) T.n_len PySem.boot_len (pa_cons (pe_ix ix_list (pv 0) pe_int (fun _ _ => rfl)) pa_nil)) pe_int (nomark _)) (pss_one (ps_set (i := 2) sc_draw.nd rfl (Or.inl rfl) (pe_op op_add (pv 2) (pe_op op_mul pe_int (pe_ix ix_list (pe_ix ix_list (pv 0) pe_int (fun _ _ => rfl)) pe_int (fun _ _ => rfl)))))) pss_nil) (pss_one (ps_ret (pe_op op_mod (pe_call G_law_mixed R_law_mixed (by rfl) g_law_mixed k_law_mixed b_law_mixed .nil pass0 (pa_cons (pe_call G_law_mixed R_law_mixed (by rfl) g_law_mixed k_law_mixed b_law_mixed .nil pass0 (pa_cons (pv 2) (pa_cons (pv 1) pa_nil))) (pa_cons pe_int pa_nil))) pe_int)))))))), ?_⟩
    refine ⟨_, rfl, d, _, _, _, rfl, rfl, SqL.of h1, atI_nat (j := 1) rfl, ?_⟩
    refine ⟨_, rfl, _, _, rfl, rfl, _, rfl, d, _, _, 1, rfl, rfl, h1, rfl, ?_⟩
    have k1 : Kp d H (upd H d (.lst ([V.ref l, V.int n].set 1 (.int ((n : Int) + 1))))) := Kp.upd
    have h1' : (upd H d (.lst ([V.ref l, V.int n].set 1 (.int ((n : Int) + 1))))) d = some (.lst [.ref l, .int ((n + 1 : Nat) : Int)]) := by
      rw [upd_same]
      rfl
    have h2' : (upd H d (.lst ([V.ref l, V.int n].set 1 (.int ((n : Int) + 1))))) l = some (.lst (ms.map V.int)) := k1 l _ h2 nld
    revert k1 h1' h2'
    generalize upd H d (.lst ([V.ref l, V.int n].set 1 (.int ((n : Int) + 1)))) = H1
    intro k1 h1' h2'
    have dr : DrA H1 d l := ⟨n + 1, ms, h1', h2', sm⟩
    refine ⟨_, rfl, _, rfl, d, _, _, _, rfl, rfl, SqL.of h1', atI_nat (j := 0) rfl, l, _, rfl, .inl (SqL.of h2'), _, _, rfl, rfl, _, rfl, ite2 (fun e => ?_) (fun e => ?_)⟩
    · have hn : n < ms.length := by
        have e1 := of_decide_eq_true e
        rw [List.length_map] at e1
        omega
      have e1 : (ms.map V.int)[n]? = some (.int ms[n]) := by
        rw [List.getElem?_map, List.getElem?_eq_getElem hn]
        rfl
      refine ⟨_, rfl, d, _, _, _, rfl, rfl, SqL.of h1', atI_nat (j := 0) rfl, _, rfl, l, _, _, _, rfl, rfl, SqL.of h2', atI_nat e1, ?_⟩
      obtain ⟨z0, z1⟩ := sm _ (List.getElem_mem hn)
      exact q _ _ z0 z1 dr k1
    · refine ⟨_, rfl, _, _, rfl, rfl, ?_⟩
      refine ⟨_, rfl, d, _, _, _, rfl, rfl, SqL.of h1', atI_nat (j := 0) rfl, l, _, rfl, .inl (SqL.of h2'), _, _, rfl, rfl, _, rfl, ite2 (fun e2 => ?_) (fun e2 => ?_)⟩
      · have hn : 0 < ms.length := by
          have e1 := of_decide_eq_true e2
          rw [List.length_map] at e1
          omega
        have e1 : (ms.map V.int)[0]? = some (.int ms[0]) := by
          rw [List.getElem?_map, List.getElem?_eq_getElem hn]
          rfl
        refine ⟨_, rfl, _, rfl, d, _, _, _, rfl, rfl, SqL.of h1', atI_nat (j := 0) rfl, l, _, _, _, rfl, rfl, SqL.of h2', atI_nat (j := 0) e1, _, _, rfl, rfl, .inl ⟨by decide, by decide⟩, _, _, rfl, rfl, ?_⟩
        refine ⟨_, rfl, _, rfl, _, _, rfl, fun z1 _ _ => ?_⟩
        refine ⟨_, _, rfl, fun z2 _ _ => ?_⟩
        refine ⟨_, _, rfl, rfl, (by show (0 : Int) < 1000000; decide), ?_⟩
        exact q _ _ (Int.emod_nonneg _ (by decide)) (Int.emod_lt_of_pos _ (by decide)) dr k1
      · refine ⟨_, rfl, _, rfl, _, _, rfl, fun z1 _ _ => ?_⟩
        refine ⟨_, _, rfl, fun z2 _ _ => ?_⟩
        refine ⟨_, _, rfl, rfl, (by show (0 : Int) < 1000000; decide), ?_⟩
        exact q _ _ (Int.emod_nonneg _ (by decide)) (Int.emod_lt_of_pos _ (by decide)) dr k1
end
/-! ### own errors -/
/-- what the head tells of the class x of errors (over ValueError) -/
structure XC (K : PySem.W.Frag) (mg : Str → Option Value) (x : Str) : Prop where
  g : mg x = some (.ref (He.ga K x))
  ex : PySem.W.excIn K (He.ga K x) [.type "ValueError", .type "Exception", .type "BaseException", .type "object"] "ValueError.__new__" = true
  k : PySem.W.keepIn K (.ref (He.ga K x)) = true
  b : PySem.W.subIn K (.ref (He.ga K x)) (.type "BaseException") = some true
  t : PySem.W.typeIn K (.ref (He.ga K x)) = some (.type "type")
  e : PySem.W.exmOne K (.ref (He.ga K x)) (.ref (He.ga K x)) = some true
  i : ExcC K (He.ga K x)
def xcB (K : PySem.W.Frag) (x : Str) : Bool :=
  PySem.W.excIn K (He.ga K x) [.type "ValueError", .type "Exception", .type "BaseException", .type "object"] "ValueError.__new__" && (PySem.W.keepIn K (.ref (He.ga K x)) && ((PySem.W.subIn K (.ref (He.ga K x)) (.type "BaseException") == some true) && ((PySem.W.typeIn K (.ref (He.ga K x)) == some (.type "type")) &&
  ((PySem.W.exmOne K (.ref (He.ga K x)) (.ref (He.ga K x)) == some true) && ((PySem.W.findIn K (.ref (He.ga K x)) "__getattribute__" == some (some (.builtin "BaseException.__getattribute__"))) && ((PySem.W.findIn K (.ref (He.ga K x)) "__getattr__" == some none) && (PySem.W.hasDictIn K (He.ga K x) &&
  ((PySem.W.findIn K (.ref (He.ga K x)) "__class__" == some (some (.builtin "object.__class__"))) && ((PySem.W.specialIn K (.builtin "object.__class__") "__get__" == some (some (.builtin "getset_descriptor.__get__"))) && ((PySem.W.takesIn K (.builtin "object.__class__") == some true) && (PySem.W.mroIn K (He.ga K x) (.type "object") == some true)))))))))))
theorem xcB_ok {K : PySem.W.Frag} {mg : Str → Option Value} {x : Str} (g : mg x = some (.ref (He.ga K x))) (h : xcB K x = true) : XC K mg x := by
  unfold xcB at h
  simp only [Bool.and_eq_true, beq_iff_eq] at h
  obtain ⟨h1, h2, h3, h4, h5, h6, h7, h8, h9, h10, h11, h12⟩ := h
  exact ⟨g, h1, h2, h3, h4, h5, ⟨h6, h7, h3, h8, h9, h10, h11, h12⟩⟩
/-- isinstance(e, C): of the class x, whether it is under the class c -/
def kitB2 (K : PySem.W.Frag) (x c : Str) (b : Bool) : Bool := PySem.W.kitOne K (.ref (He.ga K x)) (.ref (He.ga K c)) == some b
theorem kitB2_ok {K : PySem.W.Frag} {x c : Str} {b : Bool} (h : kitB2 K x c b = true) : PySem.W.kitOne K (.ref (He.ga K x)) (.ref (He.ga K c)) = some b := beq_iff_eq.mp h
section
variable {X : Cx}
theorem XC.raises {x : Str} {K : PySem.W.Frag} {mg : Str → Option Value} (c : XC K mg x) (hk : X.K = K) : Raises X (.ref (He.ga K x)) := by
  subst hk
  exact raises_own c.b c.t
/-- raise X('m') -/
theorem ps_raiseX {x m : Str} {j : Nat} {p p2 pos pos' : Pos} {W : WX} (c : XC X.K X.mg x) (hc : X.calm = true) (tk : Takes X W) (hg : Gl X x) (hdb : (x == ("__debug__" : Str)) = false := by decide) :
    PS X (.Raise (some (.Call (.Name x p) [.Constant (.str m) j p2] [] pos)) none pos') (fun _ σ H => W (.ref (He.ga X.K x)) none σ H) :=
  ps_raise hc tk (pmk_own PySem.F.excBase_ValueError c.ex c.g c.k (raises_own c.b c.t) hg hdb)
/-- isinstance(e, c) in the suite that holds e -/
theorem call_isE' {a : Addr} {oe : Obj} {cls : Value} {d : Option Addr} {pn : List (Addr × Obj)} (hz : Zc cls d oe) (hf : ∃ vs, oe.data = .fields vs) :
    CallR (X.suite a ((a, oe) :: pn)) (.builtin "isinstance") (fun xs H Q => ∃ (D C : Addr) (b : Bool), cls = .ref D ∧ d = none ∧ ExcC X.K D ∧ xs = [.ref a, .ref C] ∧ PySem.W.kitOne X.K (.ref D) (.ref C) = some b ∧ Q (.bl b) H) := by
  intro pins s σ H xs us Q I r h
  obtain ⟨D, C, b, rfl, rfl, c, rfl, k, q⟩ := h
  exact call_isE c hz hf pins s σ H _ us Q I r ⟨.ref C, .ref C, b, rfl, fun u e => e, k, q⟩
end
/-! ### what stands at the top -/
def thB (K : PySem.W.Frag) (x : Str) (kvs : List (Str × He.Dv)) : Bool := kvs.all fun p => match PySem.W.nsIn K (He.ga K x) p.1 with
  | some (some u) => He.relB (p.2.v K) u
  | _ => false
def d_is_whole : He.DefD := ⟨("is_whole", none), "is_whole", "is_whole", defArgs (top 8), defBody (top 8), defScope (top 8), [], []⟩
def d_is_between : He.DefD := ⟨("is_between", none), "is_between", "is_between", defArgs (top 9), defBody (top 9), defScope (top 9), [], []⟩
def d_power : He.DefD := ⟨("power", none), "power", "power", defArgs (top 10), defBody (top 10), defScope (top 10), [], []⟩
def d_is_name : He.DefD := ⟨("is_name", none), "is_name", "is_name", defArgs (top 20), defBody (top 20), defScope (top 20), [], []⟩
def d_kept_row : He.DefD := ⟨("_kept_row", none), "_kept_row", "_kept_row", defArgs (top 21), defBody (top 21), defScope (top 21), [], []⟩
def d_kept_relation : He.DefD := ⟨("_kept_relation", none), "_kept_relation", "_kept_relation", defArgs (top 22), defBody (top 22), defScope (top 22), [], []⟩
def d_kept_relations : He.DefD := ⟨("_kept_relations", none), "_kept_relations", "_kept_relations", defArgs (top 23), defBody (top 23), defScope (top 23), [], []⟩
def d_Structure___init__ : He.DefD := ⟨("Structure", some "__init__"), "__init__", "Structure.__init__", defArgs (inClass (top 24) 0), defBody (inClass (top 24) 0), defScope (inClass (top 24) 0), [], []⟩
def d_Structure_symbols : He.DefD := ⟨("Structure", some "symbols"), "symbols", "Structure.symbols", defArgs (inClass (top 24) 5), defBody (inClass (top 24) 5), defScope (inClass (top 24) 5), [], []⟩
def d_all_rows : He.DefD := ⟨("all_rows", none), "all_rows", "all_rows", defArgs (top 26), defBody (top 26), defScope (top 26), [], []⟩
def d_is_entry : He.DefD := ⟨("_is_entry", none), "_is_entry", "_is_entry", defArgs (top 29), defBody (top 29), defScope (top 29), [], []⟩
def d_is_position : He.DefD := ⟨("is_position", none), "is_position", "is_position", defArgs (top 30), defBody (top 30), defScope (top 30), [], []⟩
def d_told_apart : He.DefD := ⟨("told_apart", none), "told_apart", "told_apart", defArgs (top 31), defBody (top 31), defScope (top 31), [], []⟩
def d_sound_test : He.DefD := ⟨("sound_test", none), "sound_test", "sound_test", defArgs (top 32), defBody (top 32), defScope (top 32), [], []⟩
def d_Game___init__ : He.DefD := ⟨("Game", some "__init__"), "__init__", "Game.__init__", defArgs (inClass (top 33) 0), defBody (inClass (top 33) 0), defScope (inClass (top 33) 0), [], []⟩
def d_Game__find_lengths : He.DefD := ⟨("Game", some "_find_lengths"), "_find_lengths", "Game._find_lengths", defArgs (inClass (top 33) 1), defBody (inClass (top 33) 1), defScope (inClass (top 33) 1), [], []⟩
def d_Game__wins_by : He.DefD := ⟨("Game", some "_wins_by"), "_wins_by", "Game._wins_by", defArgs (inClass (top 33) 2), defBody (inClass (top 33) 2), defScope (inClass (top 33) 2), [], []⟩
def d_check_comparable : He.DefD := ⟨("_check_comparable", none), "_check_comparable", "_check_comparable", defArgs (top 36), defBody (top 36), defScope (top 36), [], []⟩
def d_check_count : He.DefD := ⟨("_check_count", none), "_check_count", "_check_count", defArgs (top 37), defBody (top 37), defScope (top 37), [], []⟩
def d_length : He.DefD := ⟨("length", none), "length", "length", defArgs (top 38), defBody (top 38), defScope (top 38), [], []⟩
def d_law_mixed : He.DefD := ⟨("_law_mixed", none), "_law_mixed", "_law_mixed", defArgs (top 40), defBody (top 40), defScope (top 40), [], []⟩
def d_law_numbers : He.DefD := ⟨("_law_numbers", none), "_law_numbers", "_law_numbers", defArgs (top 41), defBody (top 41), defScope (top 41), [], []⟩
def d_law_draw : He.DefD := ⟨("_law_draw", none), "_law_draw", "_law_draw", defArgs (top 42), defBody (top 42), defScope (top 42), [], []⟩
def d_law_equal : He.DefD := ⟨("_law_equal", none), "_law_equal", "_law_equal", defArgs (top 43), defBody (top 43), defScope (top 43), [], []⟩
def d_law_tuples : He.DefD := ⟨("_law_tuples", none), "_law_tuples", "_law_tuples", defArgs (top 45), defBody (top 45), defScope (top 45), [], []⟩
def d_law_subset : He.DefD := ⟨("_law_subset", none), "_law_subset", "_law_subset", defArgs (top 46), defBody (top 46), defScope (top 46), [], []⟩
def d_law_pair : He.DefD := ⟨("_law_pair", none), "_law_pair", "_law_pair", defArgs (top 47), defBody (top 47), defScope (top 47), [], []⟩
def d_law_pebbles : He.DefD := ⟨("_law_pebbles", none), "_law_pebbles", "_law_pebbles", defArgs (top 48), defBody (top 48), defScope (top 48), [], []⟩
def d_law_sound : He.DefD := ⟨("_law_sound", none), "_law_sound", "_law_sound", defArgs (top 49), defBody (top 49), defScope (top 49), [], []⟩
def d_law_positions : He.DefD := ⟨("_law_positions", none), "_law_positions", "_law_positions", defArgs (top 50), defBody (top 50), defScope (top 50), [], []⟩
def d_law_answered : He.DefD := ⟨("_law_answered", none), "_law_answered", "_law_answered", defArgs (top 51), defBody (top 51), defScope (top 51), [], []⟩
def d_law_lengths : He.DefD := ⟨("_law_lengths", none), "_law_lengths", "_law_lengths", defArgs (top 52), defBody (top 52), defScope (top 52), [], []⟩
def d_law_lists : He.DefD := ⟨("_law_lists", none), "_law_lists", "_law_lists", defArgs (top 53), defBody (top 53), defScope (top 53), [], []⟩
def d_law_structures : He.DefD := ⟨("_law_structures", none), "_law_structures", "_law_structures", defArgs (top 54), defBody (top 54), defScope (top 54), [], []⟩
def d_law : He.DefD := ⟨("law", none), "law", "law", defArgs (top 55), defBody (top 55), defScope (top 55), [], []⟩
def fns : List He.DefD := [d_is_whole, d_is_between, d_power, d_is_name, d_kept_row, d_kept_relation, d_kept_relations, d_Structure___init__, d_Structure_symbols, d_all_rows, d_is_entry, d_is_position, d_told_apart, d_sound_test, d_Game___init__, d_Game__find_lengths, d_Game__wins_by, d_check_comparable, d_check_count, d_length, d_law_mixed, d_law_numbers, d_law_draw, d_law_equal, d_law_tuples, d_law_subset, d_law_pair, d_law_pebbles, d_law_sound, d_law_positions, d_law_answered, d_law_lengths, d_law_lists, d_law_structures, d_law]
def fas : List He.Fa := [.glo "is_whole", .glo "is_between", .glo "power", .glo "is_name", .glo "_kept_row", .glo "_kept_relation", .glo "_kept_relations", .meth "Structure" "__init__", .meth "Structure" "symbols", .glo "all_rows", .glo "_is_entry", .glo "is_position", .glo "told_apart", .glo "sound_test", .meth "Game" "__init__", .meth "Game" "_find_lengths", .meth "Game" "_wins_by", .glo "_check_comparable", .glo "_check_count", .glo "length", .glo "_law_mixed", .glo "_law_numbers", .glo "_law_draw", .glo "_law_equal", .glo "_law_tuples", .glo "_law_subset", .glo "_law_pair", .glo "_law_pebbles", .glo "_law_sound", .glo "_law_positions", .glo "_law_answered", .glo "_law_lengths", .glo "_law_lists", .glo "_law_structures", .glo "law", .free "len", .free "range", .free "isinstance", .free "list", .free "tuple", .free "bool", .free "int", .free "str", .free "sorted", .free "set", .free "all", .free "any", .free "sum", .free "max", .free "min", .free "dict", .free "enumerate", .free "zip", .int "LONGEST_NAME" 12, .int "LARGEST_SIZE" 16, .int "MOST_RELATIONS" 6, .int "LARGEST_ARITY" 6, .int "MOST_ROWS" 4096, .int "MOST_ENTRIES" 3, .int "MOST_POSITIONS" 4000, .str "LETTERS" "abcdefghijklmnopqrstuvwxyz", .str "FIGURES" "0123456789", .glo "RESERVED", .glo "BadStructure", .glo "NotFitting", .glo "Structure", .cls "Structure", .mkr "Structure", .noat "Structure" "size", .noat "Structure" "relations", .glo "Game", .cls "Game", .mkr "Game", .noat "Game" "first", .noat "Game" "second", .noat "Game" "choices", .noat "Game" "entries", .noat "Game" "positions", .noat "Game" "lengths"]
def tabs : List He.Tab := []
def exs (K : PySem.W.Frag) : Bool := He.tupB K "RESERVED" [.str "and", .str "or", .str "not", .str "some", .str "all", .str "lfp", .str "pfp", .str "tc", .str "guess", .str "true", .str "false"] && (xcB K "BadStructure" && (xcB K "NotFitting"))
abbrev R : PySem.W.OpenRow := PySem.W.OpenLaw.row PySem.Challenge.rw_sayso_k31_lengths_of_positions
abbrev tfs : List He.Defn := [("sound_test", none)]
abbrev hk : PySem.W.Hook := He.hookX 4 fas fns tabs tfs exs
def ob (s : PySem.W.SharedT) : He.AlX := He.obsX 4 fas fns tabs tfs exs (HandSHeadRun.getT s)
theorem ob_eq (s : PySem.W.SharedT) : ob s = hk.obs s.abs := He.obsX_eq (HandSHeadRun.getT_eq s)
def looseN : List PySem.Str := (["_wall", "SaysoError", "BadStructure", "BadArgument", "NotFitting", "TooLarge", "is_whole", "is_between", "power", "LONGEST_NAME", "LETTERS", "FIGURES", "RESERVED", "LARGEST_SIZE", "MOST_RELATIONS", "LARGEST_ARITY", "MOST_ROWS", "is_name", "_kept_row", "_kept_relation", "_kept_relations", "Structure", "all_rows", "MOST_ENTRIES", "_is_entry", "is_position", "told_apart", "sound_test", "Game", "MOST_POSITIONS"] : List PySem.Str) ++ (["_check_comparable", "_check_count", "length", "_law_mixed", "_law_numbers", "_law_draw", "_law_equal", "_law_all_equal", "_law_tuples", "_law_subset", "_law_pair", "_law_pebbles", "_law_sound", "_law_positions", "_law_answered", "_law_lengths", "_law_lists", "_law_structures"] : List PySem.Str)
theorem run_f (w : World) : HandSHeadRun.RunEq R (PySem.W.view R.prog [55]) hk ob 4000 looseN (w.withFollow "special-get-raises" false) := by
  intro os
  kernel_rfl
theorem run_t (w : World) : HandSHeadRun.RunEq R (PySem.W.view R.prog [55]) hk ob 4000 looseN (w.withFollow "special-get-raises" true) := by
  intro os
  kernel_rfl
theorem run (w : World) : HandSHeadRun.RunEq R (PySem.W.view R.prog [55]) hk ob 4000 looseN w :=
  PySem.W.byRow2 "special-get-raises" (P := fun w => HandSHeadRun.RunEq R (PySem.W.view R.prog [55]) hk ob 4000 looseN w) run_f run_t w

/-! ### small helpers -/
def tyN : V → String
  | .non => "NoneType"
  | .bl _ => "bool"
  | .int _ => "int"
  | .str _ => "str"
  | _ => ""
theorem ty_flat {K : PySem.W.Frag} {H : Hp} {v : V} (h : flatV v = true) : TyX K H v (.type (tyN v)) := by
  cases v with
  | non => exact .base .non
  | bl b => exact .base (.bl b)
  | int i => exact .base (.int i)
  | str z => exact .base (.str z)
  | byt b => cases h
  | flt b => cases h
  | ref a => cases h
  | ty n => cases h
theorem cT {k : Bool} {A B : Prop} (h : k = true) (q : A) : if k = true then A else B := by rw [if_pos h]; exact q
theorem cF {k : Bool} {A B : Prop} (h : k = false) (q : B) : if k = true then A else B := by rw [h]; exact iteF q
theorem nd_f {p : Prop} [Decidable p] (h : p) : (!decide p) = false := by rw [decide_eq_true h]; rfl
theorem nd_t {p : Prop} [Decidable p] (h : ¬ p) : (!decide p) = true := by rw [decide_eq_false h]; rfl
theorem isi_q {K : PySem.W.Frag} {i : Nat} {v : V} {n m : String} {b : Bool} {σ : L2.St} {H : Hp} {Q : VK} (e : σ[i]? = some (some v)) (t : TyX K H v (.type m)) (k : kitB m n = some b) (q : Q (.bl b) H) : tCB (rIsi K) (tCons (tVar i) (tCons (tC (.ty n)) tNil)) σ H Q :=
  ⟨_, e, _, _, _, _, _, rfl, .ty _, t, kit_ty k, q⟩
theorem isi_t {K : PySem.W.Frag} {i : Nat} {v : V} {n m : String} {b : Bool} {σ : L2.St} {H : Hp} {Q : Bool → Hp → Prop} (e : σ[i]? = some (some v)) (t : TyX K H v (.type m)) (k : kitB m n = some b) (q : Q b H) : tB (tCB (rIsi K) (tCons (tVar i) (tCons (tC (.ty n)) tNil))) σ H Q :=
  ⟨_, e, _, _, _, _, _, rfl, .ty _, t, kit_ty k, _, rfl, q⟩

/-! ### names -/
def lets : Str := "abcdefghijklmnopqrstuvwxyz"
def figs : Str := "0123456789"
def both : Str := "abcdefghijklmnopqrstuvwxyz0123456789"
def resv : List V := [.str "and", .str "or", .str "not", .str "some", .str "all", .str "lfp", .str "pfp", .str "tc", .str "guess", .str "true", .str "false"]
structure Nm (z : Str) : Prop where
  lo : 1 ≤ z.length
  hi : z.length ≤ 12
  first : ∀ c, z.cps.toList[0]? = some c → c ∈ lets.cps.toList
  res : inV (.str z) resv = false
  all_ : ∀ c, c ∈ z.cps.toList → c ∈ both.cps.toList
noncomputable def isNm (z : Str) : Bool := @decide (Nm z) (Classical.propDecidable _)
theorem isNm_t {z : Str} (h : Nm z) : isNm z = true := by unfold isNm; exact @decide_eq_true _ (_) h
theorem isNm_f {z : Str} (h : ¬ Nm z) : isNm z = false := by unfold isNm; exact @decide_eq_false _ (_) h
theorem both_eq : both.cps.toList = lets.cps.toList ++ figs.cps.toList := by decide +kernel
theorem in_both {c : Nat} : c ∈ both.cps.toList ↔ c ∈ lets.cps.toList ∨ c ∈ figs.cps.toList := by rw [both_eq]; exact List.mem_append
theorem filt_t {α : Type} {l : List α} {p : α → Bool} {i : Nat} {c : α} (h : l[i]? = some c) (hp : p c = true) : (l.take (i + 1)).filter p = (l.take i).filter p ++ [c] := by
  rw [List.take_add_one, h, List.filter_append]
  show _ ++ List.filter p [c] = _
  rw [List.filter_cons_of_pos hp, List.filter_nil]
theorem filt_f {α : Type} {l : List α} {p : α → Bool} {i : Nat} {c : α} (h : l[i]? = some c) (hp : p c = false) : (l.take (i + 1)).filter p = (l.take i).filter p := by
  rw [List.take_add_one, h, List.filter_append]
  show _ ++ List.filter p [c] = _
  rw [List.filter_cons_of_neg (by rw [hp]; exact Bool.false_ne_true), List.filter_nil, List.append_nil]
theorem sz_len (z : Str) : z.cps.toList.length = z.length := by show z.cps.toList.length = z.cps.size; simp
theorem at_sz {z : Str} {i c : Nat} (h : z.cps[i]? = some c) : z.cps.toList[i]? = some c := by simpa using h
def spIsName (K : PySem.W.Frag) : Sp := fun vs H Q _ => (∃ z : Str, vs = [.str z] ∧ z.length ≤ sizeLine ∧ Q (.bl (isNm z)) H) ∨ (∃ (x : V) (t : String), vs = [x] ∧ TyX K H x (.type t) ∧ kitB t "str" = some false ∧ Q (.bl false) H)
section
variable {P : Program} {w : World} {K : PySem.W.Frag} {mg : Str → Option Value} {base : Heap}
theorem sc_is_name : FnScope ["text", "sign"] ["text"] (defScope (top 20)) := ⟨rfl, rfl, rfl, by decide +kernel, rfl, by decide +kernel, by decide +kernel⟩
theorem has_is_name (D : Def K mg "is_name" ["text"] (top 20)) (T : Txt mg) (c1 : ∃ t, mg "LONGEST_NAME" = some (.int 12 t)) (c2 : ∃ t, mg "LETTERS" = some (.str lets t)) (c3 : ∃ t, mg "FIGURES" = some (.str figs t))
    (c_RESERVED : mg "RESERVED" = some (.ref (He.ga K "RESERVED"))) (rs : ∀ H : Hp, SqT K H (He.ga K "RESERVED") resv) : Has P w K mg base 1 "is_name" ["text"] (spIsName K) := D.has fun f fd F => by
  obtain ⟨t1, c_LONGEST_NAME⟩ := c1
  obtain ⟨t2, c_LETTERS⟩ := c2
  obtain ⟨t3, c_FIGURES⟩ := c3
  refine F.ok sc_is_name (fun vs H Q E h => ?_) (fun cdv A outer s H vs Q E hr h => ?_)
  · rcases h with ⟨z, rfl, _⟩ | ⟨x, t, rfl, _⟩ <;> rfl
  · refine ⟨_, PSs.nox (pss_cons (ps_if (PW.pt (pw_or (pt_not (pt_val (pe_callB call_isi (by rfl) T.n_isinstance (by decide +kernel) (pa_cons (pv 0) (pa_cons (pe_bltn (v := .ty "str") (by rfl) T.n_str (by decide +kernel) rfl) pa_nil))))) (pw_or1 (pt_not (pt_chain op_le op_le pe_int (pe_callB call_len_str (by rfl) T.n_len PySem.boot_len (pa_cons (pv 0) pa_nil)) (pe_glob (v := .int 12) (by rfl) c_LONGEST_NAME ⟨_, rfl⟩)))))) (pss_one (ps_ret pe_bl)) pss_nil) (pss_cons (ps_if (PW.pt (pw_or (pt_cmpR op_notIn_sign (pe_ix ix_str (pv 0) pe_int (fun _ _ => rfl)) (pe_glob (v := .str "abcdefghijklmnopqrstuvwxyz") (by rfl) c_LETTERS ⟨_, rfl⟩) (by rfl)) (pw_or1 (pt_cmpR op_in_seq (pv 0) (pe_glob (v := .ref (He.ga K "RESERVED")) (by rfl) c_RESERVED rfl) (by rfl))))) (pss_one (ps_ret pe_bl)) pss_nil) (pss_cons (ps_for PassesOwn.never rfl (pi_str (pv 0)) (pg_name (i := 1) sc_is_name.nd rfl (Or.inl rfl)) (pss_one (ps_if (PW.pt (pw_and (pt_cmpR op_notIn_sign (pv 1) (pe_glob (v := .str "abcdefghijklmnopqrstuvwxyz") (by rfl) c_LETTERS ⟨_, rfl⟩) (by rfl)) (pw_and1 (pt_cmpR op_notIn_sign (pv 1) (pe_glob (v := .str "0123456789") (by rfl) c_FIGURES ⟨_, rfl⟩) (by rfl))))) (pss_one (ps_ret pe_bl)) pss_nil))) (pss_one (ps_ret pe_bl))))), ?_⟩
    rcases h with ⟨z, rfl, hz, q⟩ | ⟨x, t, rfl, tx, hk, q⟩
    · have qf : ¬ Nm z → Q (.bl false) H := fun n => by rw [isNm_f n] at q; exact q
      have qt : Nm z → Q (.bl true) H := fun n => by rw [isNm_t n] at q; exact q
      refine ⟨_, rfl, _, _, _, _, _, rfl, .ty _, .base (.str z), kit_ty (b := "str") (r := true) (by decide +kernel), _, rfl, iteF ?_⟩
      refine ⟨_, rfl, _, rfl, hz, _, _, rfl, rfl, _, rfl, ite2 (fun e => ?_) (fun e => ?_)⟩
      · refine ⟨_, _, rfl, rfl, _, rfl, ?_⟩
        have e1 := of_decide_eq_true e
        by_cases h12 : ((z.length : Nat) : Int) ≤ 12
        · refine cF (nd_f h12) ?_
          have hl1 : 0 < z.cps.toList.length := by rw [sz_len]; omega
          have e0 : z.cps.toList[0]? = some (z.cps.toList[0]) := List.getElem?_eq_getElem hl1
          refine ⟨_, rfl, z, _, _, rfl, rfl, hz, atI_nat (j := 0) e0, _, _, rfl, rfl, _, rfl, ?_⟩
          by_cases hf : z.cps.toList[0] ∈ lets.cps.toList
          · refine cF (nd_f hf) ⟨_, rfl, _, _, rfl, .inr (rs _), rfl, rfl, _, rfl, ?_⟩
            by_cases hr2 : inV (.str z) resv = true
            · exact cT hr2 (qf fun n => by rw [n.res] at hr2; cases hr2)
            · have hr3 : inV (.str z) resv = false := by simpa using hr2
              refine cF hr3 ?_
              refine ⟨_, rfl, z, rfl, for_it walk_str (fun i σ H2 => ∃ y1, σ = [some (.str z), y1] ∧ H2 = H ∧ ∀ c, c ∈ z.cps.toList.take i → c ∈ both.cps.toList) ⟨none, rfl, rfl, fun c hc => by simp at hc⟩ (fun _ _ _ _ _ => trivial) ?_ ?_⟩
              · rintro i y σ H2 H3 hi ⟨y1, rfl, rfl, ha⟩ ⟨rfl, c, hc, rfl⟩
                have hc' := at_sz hc
                have next : c ∈ both.cps.toList → ∃ y1 : Option V, ([some (V.str z), some (V.str ⟨#[c]⟩)] : L2.St) = [some (.str z), y1] ∧ H3 = H3 ∧ ∀ c', c' ∈ z.cps.toList.take (i + 1) → c' ∈ both.cps.toList := fun hb => ⟨_, rfl, rfl, fun c' h' => by
                  rw [List.take_add_one, hc'] at h'
                  rcases List.mem_append.mp h' with h' | h'
                  · exact ha c' h'
                  · have e3 : c' = c := by simpa using h'
                    rw [e3]; exact hb⟩
                refine ⟨_, rfl, _, _, rfl, rfl, _, rfl, ?_⟩
                by_cases h1 : c ∈ lets.cps.toList
                · exact cF (nd_f h1) (iteF (next (in_both.mpr (.inl h1))))
                · refine cT (nd_t h1) ⟨_, rfl, _, _, rfl, rfl, _, rfl, ?_⟩
                  by_cases h2 : c ∈ figs.cps.toList
                  · exact cF (nd_f h2) (next (in_both.mpr (.inr h2)))
                  · refine cT (nd_t h2) (qf fun n => ?_)
                    rcases in_both.mp (n.all_ c (List.mem_of_getElem? hc')) with h3 | h3
                    · exact h1 h3
                    · exact h2 h3
              · rintro σ H2 ⟨y1, rfl, rfl, ha⟩
                refine qt ⟨by omega, by omega, fun c hc => by rw [e0] at hc; rw [← Option.some.inj hc]; exact hf, by simpa using hr2, fun c hc => ha c ?_⟩
                rw [List.take_of_length_le (by simp)]
                exact hc
          · exact cT (nd_t hf) (cT rfl (qf fun n => hf (n.first _ e0)))
        · exact cT (nd_t h12) (qf fun n => h12 (by have := n.hi; omega))
      · exact ⟨_, rfl, cT (k := !false) rfl (qf fun n => e (decide_eq_true (by have := n.lo; omega)))⟩
    · exact ⟨_, rfl, _, _, _, _, _, rfl, .ty _, tx, kit_ty (b := "str") (r := false) hk, _, rfl, iteT q⟩
end

/-! ### formulas as data -/
inductive Hd where
  | rel (n : Str) (as : List Str)
  | eq (x y : Str)
  | less (x y : Str)
  | no
  | con
  | dis
  | ex (vs : List Str)
  | al (vs : List Str)
  | lfp (n : Str) (vs as : List Str)
  | pfp (n : Str) (vs as : List Str)
  | tc (vs as : List Str)
  | gs (n : Str) (k : Nat)
inductive Fm where
  | mk (h : Hd) (ps : List Fm)
theorem Fm.ind {P : Fm → Prop} (step : ∀ h ps, (∀ p, p ∈ ps → P p) → P (.mk h ps)) : ∀ f, P f := fun f =>
  Fm.rec (motive_1 := P) (motive_2 := fun ps => ∀ p, p ∈ ps → P p) (fun h ps ih => step h ps ih) (fun _ hp => nomatch hp)
    (fun q qs h1 h2 p hp => (List.mem_cons.mp hp).elim (fun e => e ▸ h1) (h2 p)) f
mutual
def Fm.fold {α : Type} (g : Hd → List α → α) : Fm → α
  | .mk h ps => g h (Fm.folds g ps)
def Fm.folds {α : Type} (g : Hd → List α → α) : List Fm → List α
  | [] => []
  | p :: ps => Fm.fold g p :: Fm.folds g ps
end
theorem Fm.folds_map {α : Type} (g : Hd → List α → α) : ∀ ps : List Fm, Fm.folds g ps = ps.map (Fm.fold g)
  | [] => by rw [Fm.folds]; rfl
  | p :: ps => by rw [Fm.folds, Fm.folds_map g ps]; rfl
theorem Fm.fold_mk {α : Type} (g : Hd → List α → α) (h : Hd) (ps : List Fm) : Fm.fold g (.mk h ps) = g h (ps.map (Fm.fold g)) := by
  rw [Fm.fold, Fm.folds_map]
def Fm.hd : Fm → Hd
  | .mk h _ => h
def Fm.parts : Fm → List Fm
  | .mk _ ps => ps
/-! heads -/
def tS (as : List Str) : PyData := .tuple (as.map PyData.str)
inductive Kd where
  | rel
  | eq
  | less
  | no
  | con
  | dis
  | ex
  | al
  | lfp
  | pfp
  | tc
  | gs
  deriving DecidableEq
def Kd.word : Kd → Str
  | .rel => "rel"
  | .eq => "eq"
  | .less => "less"
  | .no => "not"
  | .con => "and"
  | .dis => "or"
  | .ex => "some"
  | .al => "all"
  | .lfp => "lfp"
  | .pfp => "pfp"
  | .tc => "tc"
  | .gs => "guess"
def Hd.kd : Hd → Kd
  | .rel _ _ => .rel
  | .eq _ _ => .eq
  | .less _ _ => .less
  | .no => .no
  | .con => .con
  | .dis => .dis
  | .ex _ => .ex
  | .al _ => .al
  | .lfp _ _ _ => .lfp
  | .pfp _ _ _ => .pfp
  | .tc _ _ => .tc
  | .gs _ _ => .gs
abbrev Hd.word (h : Hd) : Str := h.kd.word
/-- what stands behind the word -/
def Hd.rest (h : Hd) (ds : List PyData) : List PyData := match h with
  | .rel n as => [.str n, tS as]
  | .eq x y => [.str x, .str y]
  | .less x y => [.str x, .str y]
  | .no => ds
  | .con => [.tuple ds]
  | .dis => [.tuple ds]
  | .ex vs => tS vs :: ds
  | .al vs => tS vs :: ds
  | .lfp n vs as => .str n :: tS vs :: (ds ++ [tS as])
  | .pfp n vs as => .str n :: tS vs :: (ds ++ [tS as])
  | .tc vs as => tS vs :: (ds ++ [tS as])
  | .gs n k => .str n :: .int k :: ds
def Hd.data (h : Hd) (ds : List PyData) : PyData := .tuple (.str h.word :: h.rest ds)
def Fm.data : Fm → PyData := Fm.fold Hd.data
theorem Fm.data_mk (h : Hd) (ps : List Fm) : (Fm.mk h ps).data = h.data (ps.map Fm.data) := Fm.fold_mk _ h ps
/-- how many formulas stand directly in it (none: any number) -/
def Hd.one : Hd → Option Nat
  | .rel _ _ => some 0
  | .eq _ _ => some 0
  | .less _ _ => some 0
  | .con => none
  | .dis => none
  | _ => some 1
def Hd.own : Hd → List Str
  | .ex vs => vs
  | .al vs => vs
  | .lfp _ vs _ => vs
  | .pfp _ vs _ => vs
  | .tc vs _ => vs
  | _ => []
def Hd.args : Hd → List Str
  | .rel _ as => as
  | .eq x y => [x, y]
  | .less x y => [x, y]
  | .lfp _ _ as => as
  | .pfp _ _ as => as
  | .tc _ as => as
  | _ => []
def Hd.bound : Hd → Option (Str × Nat)
  | .lfp n vs _ => some (n, vs.length)
  | .pfp n vs _ => some (n, vs.length)
  | .gs n k => some (n, k)
  | _ => none
def Names (vs : List Str) : Prop := ∀ v, v ∈ vs → Nm v
def OwnOk (vs : List Str) : Prop := 1 ≤ vs.length ∧ vs.length ≤ 6 ∧ Names vs ∧ vs.Nodup
/-- a head with n formulas in it is well formed -/
def Hd.Ok (h : Hd) (n : Nat) : Prop := match h with
  | .rel m as => Nm m ∧ as.length ≤ 6 ∧ Names as ∧ n = 0
  | .eq x y => Nm x ∧ Nm y ∧ n = 0
  | .less x y => Nm x ∧ Nm y ∧ n = 0
  | .no => n = 1
  | .con => n ≤ 40
  | .dis => n ≤ 40
  | .ex vs => OwnOk vs ∧ n = 1
  | .al vs => OwnOk vs ∧ n = 1
  | .lfp m vs as => Nm m ∧ OwnOk vs ∧ as.length = vs.length ∧ Names as ∧ n = 1
  | .pfp m vs as => Nm m ∧ OwnOk vs ∧ as.length = vs.length ∧ Names as ∧ n = 1
  | .tc vs as => (vs.length = 2 ∨ vs.length = 4 ∨ vs.length = 6 ∨ vs.length = 8) ∧ Names vs ∧ vs.Nodup ∧ as.length = vs.length ∧ Names as ∧ n = 1
  | .gs m k => Nm m ∧ k ≤ 3 ∧ n = 1
/-! measures -/
def sumN (xs : List Nat) : Nat := xs.foldr (· + ·) 0
def maxN (xs : List Nat) : Nat := xs.foldr max 0
def Fm.cnt : Fm → Nat := Fm.fold fun _ xs => 1 + sumN xs
def Fm.dep : Fm → Nat := Fm.fold fun _ xs => 1 + maxN xs
theorem Fm.cnt_mk (h : Hd) (ps : List Fm) : (Fm.mk h ps).cnt = 1 + sumN (ps.map Fm.cnt) := Fm.fold_mk _ h ps
theorem Fm.dep_mk (h : Hd) (ps : List Fm) : (Fm.mk h ps).dep = 1 + maxN (ps.map Fm.dep) := Fm.fold_mk _ h ps
theorem le_maxN : ∀ {xs : List Nat} {x : Nat}, x ∈ xs → x ≤ maxN xs
  | [], _, h => nomatch h
  | y :: ys, x, h => by
    show x ≤ max y (maxN ys)
    rcases List.mem_cons.mp h with e | h
    · rw [e]; exact Nat.le_max_left _ _
    · exact Nat.le_trans (le_maxN h) (Nat.le_max_right _ _)
theorem le_sumN : ∀ {xs : List Nat} {x : Nat}, x ∈ xs → x ≤ sumN xs
  | [], _, h => nomatch h
  | y :: ys, x, h => by
    show x ≤ y + sumN ys
    rcases List.mem_cons.mp h with e | h
    · omega
    · have := le_sumN h; omega
theorem dep_part {h : Hd} {ps : List Fm} {p : Fm} (hp : p ∈ ps) : p.dep < (Fm.mk h ps).dep := by
  rw [Fm.dep_mk]
  have := le_maxN (List.mem_map_of_mem (f := Fm.dep) hp)
  omega
theorem dep_pos (f : Fm) : 1 ≤ f.dep := by
  obtain ⟨h, ps⟩ := f
  rw [Fm.dep_mk]
  omega
/-- every head in it is well formed -/
inductive Fm.Ok : Fm → Prop
  | mk {h : Hd} {ps : List Fm} (a : h.Ok ps.length) (b : ∀ p, p ∈ ps → p.Ok) : (Fm.mk h ps).Ok
theorem Fm.Ok.hd_ {h : Hd} {ps : List Fm} (k : (Fm.mk h ps).Ok) : h.Ok ps.length := by cases k; assumption
theorem Fm.Ok.part {h : Hd} {ps : List Fm} (k : (Fm.mk h ps).Ok) {p : Fm} (hp : p ∈ ps) : p.Ok := by cases k with | mk a b => exact b p hp
theorem get_map {α β : Type} {f : α → β} {l : List α} {i : Nat} {y : β} (h : (l.map f)[i]? = some y) : ∃ x, l[i]? = some x ∧ y = f x := by
  rw [List.getElem?_map] at h
  cases e : l[i]? with
  | none => rw [e] at h; cases h
  | some x => rw [e] at h; exact ⟨x, rfl, (Option.some.inj h).symm⟩
/-! data in the heap -/
section
variable {K : PySem.W.Frag} {H H' : Hp}
theorem Same.sqt {a : Addr} {xs : List V} (e : Same H H') (h : SqT K H a xs) : SqT K H' a xs := by
  rcases h with (h | ⟨o, h⟩) | h
  · exact .inl (.inl (e _ _ h))
  · exact .inl (.inr ⟨o, e _ _ h⟩)
  · exact .inr h
mutual
theorem Dp.same (e : Same H H') : ∀ {v : V} {d : PyData}, Dp K H v d → Dp K H' v d
  | _, _, .non => .non
  | _, _, .bl b => .bl b
  | _, _, .int i => .int i
  | _, _, .str x => .str x
  | _, _, .lst h t => .lst (e.seq h) (DpAll.same e t)
  | _, _, .tup h t => .tup (Same.sqt e h) (DpAll.same e t)
theorem DpAll.same (e : Same H H') : ∀ {vs : List V} {ds : List PyData}, DpAll K H vs ds → DpAll K H' vs ds
  | _, _, .nil => .nil
  | _, _, .cons h t => .cons (Dp.same e h) (DpAll.same e t)
end
theorem Dp.tup_inv {v : V} {ds : List PyData} (h : Dp K H v (.tuple ds)) : ∃ a xs, v = .ref a ∧ SqT K H a xs ∧ DpAll K H xs ds := by
  cases h with | tup a b => exact ⟨_, _, rfl, a, b⟩
theorem Dp.lst_inv {v : V} {ds : List PyData} (h : Dp K H v (.list ds)) : ∃ a xs, v = .ref a ∧ SqL K H a xs ∧ DpAll K H xs ds := by
  cases h with | lst a b => exact ⟨_, _, rfl, a, b⟩
theorem Dp.str_inv {v : V} {z : Str} (h : Dp K H v (.str z)) : v = .str z := by cases h; rfl
theorem Dp.int_inv {v : V} {i : Int} (h : Dp K H v (.int i)) : v = .int i := by cases h; rfl
theorem Dp.bl_inv {v : V} {i : Bool} (h : Dp K H v (.bool i)) : v = .bl i := by cases h; rfl
theorem DpAll.cons_inv {vs : List V} {d : PyData} {ds : List PyData} (h : DpAll K H vs (d :: ds)) : ∃ v ws, vs = v :: ws ∧ Dp K H v d ∧ DpAll K H ws ds := by
  cases h with | cons a b => exact ⟨_, _, rfl, a, b⟩
theorem DpAll.nil_inv {vs : List V} (h : DpAll K H vs []) : vs = [] := by cases h; rfl
theorem DpAll.length : ∀ {vs : List V} {ds : List PyData}, DpAll K H vs ds → vs.length = ds.length
  | _, _, .nil => rfl
  | _, _, .cons _ t => congrArg Nat.succ (DpAll.length t)
theorem DpAll.get : ∀ {vs : List V} {ds : List PyData} {i : Nat} {d : PyData}, DpAll K H vs ds → ds[i]? = some d → ∃ v, vs[i]? = some v ∧ Dp K H v d
  | _, _, i, d, .nil, h => by simp at h
  | _, _, 0, d, .cons a t, h => by
    have e := Option.some.inj h
    subst e
    exact ⟨_, rfl, a⟩
  | _, _, i + 1, d, .cons a t, h => DpAll.get (i := i) t h
theorem DpAll.get' : ∀ {vs : List V} {ds : List PyData} {i : Nat} {v : V}, DpAll K H vs ds → vs[i]? = some v → ∃ d, ds[i]? = some d ∧ Dp K H v d
  | _, _, i, d, .nil, h => by simp at h
  | _, _, 0, d, .cons a t, h => by
    have e := Option.some.inj h
    subst e
    exact ⟨_, rfl, a⟩
  | _, _, i + 1, d, .cons a t, h => DpAll.get' (i := i) t h
theorem DpAll.append : ∀ {vs ws : List V} {ds es : List PyData}, DpAll K H vs ds → DpAll K H ws es → DpAll K H (vs ++ ws) (ds ++ es)
  | _, _, _, _, .nil, s => s
  | _, _, _, _, .cons a t, s => .cons a (DpAll.append t s)
theorem DpAll.strs : ∀ {vs : List V} {as : List Str}, DpAll K H vs (as.map PyData.str) → vs = as.map V.str
  | _, [], h => by rw [DpAll.nil_inv h]; rfl
  | _, a :: as, h => by
    obtain ⟨v, ws, rfl, h1, h2⟩ := DpAll.cons_inv h
    rw [Dp.str_inv h1, DpAll.strs h2]; rfl
theorem DpAll.of_strs : ∀ (as : List Str), DpAll K H (as.map V.str) (as.map PyData.str)
  | [] => .nil
  | a :: as => .cons (.str a) (DpAll.of_strs as)
theorem tS_inv {v : V} {as : List Str} (h : Dp K H v (tS as)) : ∃ a, v = .ref a ∧ SqT K H a (as.map V.str) := by
  obtain ⟨a, xs, rfl, h1, h2⟩ := Dp.tup_inv h
  rw [DpAll.strs h2] at h1
  exact ⟨a, rfl, h1⟩
theorem tS_of {a : Addr} {as : List Str} (h : SqT K H a (as.map V.str)) : Dp K H (.ref a) (tS as) := .tup h (DpAll.of_strs as)
/-- a formula's value: a tuple that begins with its word -/
theorem hd_inv {v : V} {h : Hd} {ds : List PyData} (q : Dp K H v (h.data ds)) : ∃ a xs, v = .ref a ∧ SqT K H a (.str h.word :: xs) ∧ DpAll K H xs (h.rest ds) := by
  obtain ⟨a, ys, rfl, h1, h2⟩ := Dp.tup_inv q
  obtain ⟨w, xs, rfl, h3, h4⟩ := DpAll.cons_inv h2
  rw [Dp.str_inv h3] at h1
  exact ⟨a, xs, rfl, h1, h4⟩
end

/-! ### the heap without the draws -/
def wo (d : Addr) (H : Hp) : Hp := fun b => if b = d then none else H b
theorem wo_ne {d b : Addr} {H : Hp} (h : b ≠ d) : wo d H b = H b := if_neg h
theorem wo_sub {d : Addr} {H : Hp} : Same (wo d H) H := fun b o e => by
  by_cases h : b = d
  · rw [show wo d H b = none from if_pos h] at e; cases e
  · rw [wo_ne h] at e; exact e
theorem wo_kp {d : Addr} {H H' : Hp} (k : Kp d H H') : Same (wo d H) (wo d H') := fun b o e => by
  by_cases h : b = d
  · rw [show wo d H b = none from if_pos h] at e; cases e
  · rw [wo_ne h] at e ⊢; exact k b o e h
theorem wo_same {d : Addr} {H H' : Hp} (k : Same H H') : Same (wo d H) (wo d H') := wo_kp (.of k)
theorem wo_at {d b : Addr} {H : Hp} {o : HO} (h : b ≠ d) (e : H b = some o) : wo d H b = some o := by rw [wo_ne h]; exact e
section
variable {K : PySem.W.Frag} {H : Hp}
theorem strsL {v : V} {as : List Str} (h : Dp K H v (.list (as.map PyData.str))) : ∃ a, v = .ref a ∧ SqL K H a (as.map V.str) := by
  obtain ⟨a, xs, rfl, h1, h2⟩ := Dp.lst_inv h
  rw [DpAll.strs h2] at h1
  exact ⟨a, rfl, h1⟩
theorem strsL_of {a : Addr} {as : List Str} (h : SqL K H a (as.map V.str)) : Dp K H (.ref a) (.list (as.map PyData.str)) := .lst h (DpAll.of_strs as)
end
theorem eraseIdx_map {α β : Type} (f : α → β) : ∀ (l : List α) (i : Nat), (l.map f).eraseIdx i = (l.eraseIdx i).map f
  | [], i => by simp
  | a :: r, 0 => by simp
  | a :: r, i + 1 => by simp [eraseIdx_map f r i]
theorem eraseIdx_perm {α : Type} : ∀ {l : List α} {i : Nat} {x : α}, l[i]? = some x → l.Perm (x :: l.eraseIdx i)
  | [], _, _, h => by simp at h
  | a :: r, 0, x, h => by have e := Option.some.inj h; rw [← e]; exact List.Perm.refl _
  | a :: r, i + 1, x, h => ((eraseIdx_perm (l := r) (i := i) h).cons a).trans (List.Perm.swap _ _ _)
theorem wo_none {d p : Addr} {H : Hp} (h : H p = none) : wo d H p = none := by
  unfold wo
  split
  · rfl
  · exact h
theorem wo_upd {d p : Addr} {H : Hp} {o : HO} (n : p ≠ d) : wo d (upd H p o) p = some o := by rw [wo_ne n, upd_same]
/-- a new object leaves all else -/
theorem kp_new {d p : Addr} {H H' : Hp} {o : HO} (k : Kp d H H') (np : H' p = none) : Kp d H (upd H' p o) := k.trans (.of (same_upd np))
/-- an object of one's own is changed: what stood before it was made stays -/
theorem kp_own {d p : Addr} {H H' : Hp} {o : HO} (k : Kp d H H') (np : H p = none) : Kp d H (upd H' p o) := fun b x e n => by
  rw [upd_ne (ne_of_none e np)]
  exact k b x e n
theorem bounds_ok {i : Int} {n : Nat} (h0 : 0 ≤ i) (h1 : i < n) (hn : n ≤ 1000) : -(2 ^ 63) ≤ i ∧ i < 2 ^ 63 := by omega
def spSomeOf (K : PySem.W.Frag) : Sp := fun vs H Q _ => ∃ (d l : Addr) (pv : V) (pool : List Str) (m : Nat), vs = [.ref d, pv, .int (m : Nat)] ∧ DrA H d l ∧ Dp K (wo d H) pv (.list (pool.map PyData.str)) ∧ m ≤ pool.length ∧ pool.length ≤ 20 ∧
  ∀ (H' : Hp) (r : Addr) (ch : List Str), DrA H' d l → Kp d H H' → Dp K (wo d H') (.ref r) (.list (ch.map PyData.str)) → ch.length = m → (∀ x, x ∈ ch → x ∈ pool) → (pool.Nodup → ch.Nodup) → Q (.ref r) H'
section
variable {P : Program} {w : World} {K : PySem.W.Frag} {mg : Str → Option Value} {base : Heap}
end

/-! ### rules within a comprehension -/
section
variable {X : Cx} {K : PySem.W.Frag}
theorem ix_listK (h : X.K = K) : IxR X (rIxL K) := h ▸ ix_list
theorem ix_tupK (h : X.K = K) : IxR X (rIxT K) := h ▸ ix_tup
theorem sl_listK (h : X.K = K) : SlR X (rSlL K) := h ▸ sl_list
theorem op_in_seqK (h : X.K = K) : OpR X (compareOp .In) (rIn K false) := h ▸ op_in_seq
theorem op_notIn_seqK (h : X.K = K) : OpR X (compareOp .NotIn) (rIn K true) := h ▸ op_notIn_seq
theorem call_len_seqK (h : X.K = K) : CallR X (.builtin "len") (fun xs H Q => ∃ p ys, xs = [.ref p] ∧ (SqL K H p ys ∨ SqT K H p ys) ∧ Q (.int ys.length) H) := h ▸ call_len_seq
end
/-! ### data that the draws are no part of -/
def int1 : List PyData → Bool
  | _ :: .int _ :: _ => false
  | _ => true
mutual
def good : PyData → Bool
  | .list ts => goods ts && int1 ts
  | .tuple ts => goods ts
  | _ => true
def goods : List PyData → Bool
  | [] => true
  | t :: ts => good t && goods ts
end
theorem goods_cons {t : PyData} {ts : List PyData} : goods (t :: ts) = (good t && goods ts) := by rw [goods]
theorem goods_append : ∀ (ts us : List PyData), goods (ts ++ us) = (goods ts && goods us)
  | [], us => by rw [goods]; rfl
  | t :: ts, us => by rw [List.cons_append, goods_cons, goods_cons, goods_append ts us, Bool.and_assoc]
theorem goods_all : ∀ {ts : List PyData}, (∀ t, t ∈ ts → good t = true) → goods ts = true
  | [], _ => by rw [goods]
  | t :: ts, h => by
    rw [goods_cons, h t (List.mem_cons_self ..), goods_all fun u hu => h u (List.mem_cons_of_mem _ hu)]; rfl
theorem good_str {z : Str} : good (.str z) = true := by rw [good]; all_goals (intros; contradiction)
theorem good_int {z : Int} : good (.int z) = true := by rw [good]; all_goals (intros; contradiction)
theorem good_tup {ts : List PyData} (h : goods ts = true) : good (.tuple ts) = true := by rw [good]; exact h
theorem good_lst {ts : List PyData} (h : goods ts = true) (n : ∀ t, t ∈ ts → ∀ i : Int, t ≠ .int i) : good (.list ts) = true := by
  rw [good, h]
  cases ts with
  | nil => rfl
  | cons a r =>
    cases r with
    | nil => rfl
    | cons b r =>
      cases b with
      | int i => exact absurd rfl (n (.int i) (by simp) i)
      | _ => rfl
theorem goods_strs (as : List Str) : goods (as.map PyData.str) = true := goods_all fun t ht => by
  obtain ⟨z, _, rfl⟩ := List.mem_map.mp ht
  exact good_str
theorem good_tS (as : List Str) : good (tS as) = true := good_tup (goods_strs as)
theorem good_strl (as : List Str) : good (.list (as.map PyData.str)) = true := good_lst (goods_strs as) fun t ht i e => by
  obtain ⟨z, _, rfl⟩ := List.mem_map.mp ht
  cases e
theorem good_hd {h : Hd} {ds : List PyData} (g : goods ds = true) : good (h.data ds) = true := by
  refine good_tup ?_
  rw [goods_cons, good_str]
  have n0 : goods [] = true := by rw [goods]
  cases h <;> simp only [Hd.rest, goods_cons, goods_append, good_str, good_int, good_tS, g, n0, good_tup g, Bool.and_self, Bool.true_and]
theorem Fm.good : ∀ f : Fm, SaysoV.good f.data = true := Fm.ind fun h ps ih => by
  rw [Fm.data_mk]
  refine good_hd (goods_all fun t ht => ?_)
  obtain ⟨p, hp, rfl⟩ := List.mem_map.mp ht
  exact ih p hp
section
variable {K : PySem.W.Frag} {H H' : Hp} {d l : Addr} {n : Int}
theorem SqT.wo {a : Addr} {xs ys : List V} (h1 : H d = some (.lst ys)) (h : SqT K H a xs) : SqT K (wo d H) a xs := by
  have ne : ∀ {o : HO}, H a = some o → (∀ zs, o ≠ .lst zs) → a ≠ d := fun e k z => by
    rw [z, h1] at e
    exact k ys (Option.some.inj e).symm
  rcases h with (h | ⟨o, h⟩) | h
  · exact .inl (.inl (by rw [wo_ne (ne h fun zs z => nomatch z)]; exact h))
  · exact .inl (.inr ⟨o, by rw [wo_ne (ne h fun zs z => nomatch z)]; exact h⟩)
  · exact .inr h
theorem SqL.wo {a : Addr} {xs ys : List V} (h1 : H d = some (.lst ys)) (n : xs ≠ ys) (h : SqL K H a xs) : SqL K (wo d H) a xs := by
  rcases h with (h | ⟨o, h⟩) | h
  · refine .inl (.inl ?_)
    by_cases e : a = d
    · rw [e, h1] at h
      exact absurd (HO.lst.inj (Option.some.inj h)).symm n
    · rw [wo_ne e]; exact h
  · refine .inl (.inr ⟨o, ?_⟩)
    by_cases e : a = d
    · rw [e, h1] at h
      cases h
    · rw [wo_ne e]; exact h
  · exact .inr h
theorem no_ints {l : Addr} {n : Int} {ds : List PyData} (t : DpAll K H [.ref l, .int n] ds) : good (.list ds) = false := by
  cases t with
  | cons a t =>
    cases t with
    | cons b t =>
      cases t
      cases b
      rw [good]
      exact Bool.and_false _
mutual
theorem Dp.woG (h1 : H d = some (.lst [.ref l, .int n])) : ∀ {v : V} {t : PyData}, Dp K H v t → good t = true → Dp K (wo d H) v t
  | _, _, .non, _ => .non
  | _, _, .bl b, _ => .bl b
  | _, _, .int i, _ => .int i
  | _, _, .str x, _ => .str x
  | _, _, .lst h t, g => .lst (SqL.wo h1 (fun z => by rw [z] at t; rw [no_ints t] at g; cases g) h) (DpAll.woG h1 t (by rw [good] at g; exact (Bool.and_eq_true_iff.mp g).1))
  | _, _, .tup h t, g => .tup (SqT.wo h1 h) (DpAll.woG h1 t (by rw [good] at g; exact g))
theorem DpAll.woG (h1 : H d = some (.lst [.ref l, .int n])) : ∀ {vs : List V} {ts : List PyData}, DpAll K H vs ts → goods ts = true → DpAll K (wo d H) vs ts
  | _, _, .nil, _ => .nil
  | _, _, .cons h t, g => .cons (Dp.woG h1 h (by rw [goods_cons] at g; exact (Bool.and_eq_true_iff.mp g).1)) (DpAll.woG h1 t (by rw [goods_cons] at g; exact (Bool.and_eq_true_iff.mp g).2))
end
theorem Dp.wod {v : V} {t : PyData} (r : DrA H d l) (h : Dp K H v t) (g : good t = true) : Dp K (SaysoV.wo d H) v t := by
  obtain ⟨n, ms, h1, _⟩ := r
  exact Dp.woG h1 h g
/-- a draw leaves it -/
theorem Dp.kpA {v : V} {t : PyData} (h : Dp K H v t) (r : DrA H d l) (g : good t = true) (k : Kp d H H') : Dp K H' v t := Dp.same wo_sub (Dp.same (wo_kp k) (Dp.wod r h g))
theorem DpAll.kpA {vs : List V} {ts : List PyData} (h : DpAll K H vs ts) (r : DrA H d l) (g : goods ts = true) (k : Kp d H H') : DpAll K H' vs ts := by
  obtain ⟨n, ms, h1, _⟩ := r
  exact DpAll.same wo_sub (DpAll.same (wo_kp k) (DpAll.woG h1 h g))
end
/-! data without lists: whatever becomes of lists, it stays -/
mutual
def noL : PyData → Bool
  | .list _ => false
  | .tuple ts => noLs ts
  | _ => true
def noLs : List PyData → Bool
  | [] => true
  | t :: ts => noL t && noLs ts
end
theorem noLs_cons {t : PyData} {ts : List PyData} : noLs (t :: ts) = (noL t && noLs ts) := by rw [noLs]
theorem noLs_append : ∀ (ts us : List PyData), noLs (ts ++ us) = (noLs ts && noLs us)
  | [], us => by rw [noLs]; rfl
  | t :: ts, us => by rw [List.cons_append, noLs_cons, noLs_cons, noLs_append ts us, Bool.and_assoc]
theorem noLs_all : ∀ {ts : List PyData}, (∀ t, t ∈ ts → noL t = true) → noLs ts = true
  | [], _ => by rw [noLs]
  | t :: ts, h => by
    rw [noLs_cons, h t (List.mem_cons_self ..), noLs_all fun u hu => h u (List.mem_cons_of_mem _ hu)]; rfl
theorem noL_str {z : Str} : noL (.str z) = true := by rw [noL]; all_goals (intros; contradiction)
theorem noL_int {z : Int} : noL (.int z) = true := by rw [noL]; all_goals (intros; contradiction)
theorem noL_tup {ts : List PyData} (h : noLs ts = true) : noL (.tuple ts) = true := by rw [noL]; exact h
theorem noLs_strs (as : List Str) : noLs (as.map PyData.str) = true := noLs_all fun t ht => by
  obtain ⟨z, _, rfl⟩ := List.mem_map.mp ht
  exact noL_str
theorem noL_tS (as : List Str) : noL (tS as) = true := noL_tup (noLs_strs as)
theorem noL_hd {h : Hd} {ds : List PyData} (g : noLs ds = true) : noL (h.data ds) = true := by
  refine noL_tup ?_
  rw [noLs_cons, noL_str]
  have n0 : noLs [] = true := by rw [noLs]
  cases h <;> simp only [Hd.rest, noLs_cons, noLs_append, noL_str, noL_int, noL_tS, g, n0, noL_tup g, Bool.and_self, Bool.true_and]
theorem Fm.noL : ∀ f : Fm, SaysoV.noL f.data = true := Fm.ind fun h ps ih => by
  rw [Fm.data_mk]
  refine noL_hd (noLs_all fun t ht => ?_)
  obtain ⟨p, hp, rfl⟩ := List.mem_map.mp ht
  exact ih p hp
theorem fms_noL (ps : List Fm) : noLs (ps.map Fm.data) = true := noLs_all fun t ht => by
  obtain ⟨p, _, rfl⟩ := List.mem_map.mp ht
  exact p.noL
/-- all but lists stays -/
def Kl (H H' : Hp) : Prop := ∀ b o, H b = some o → (∀ ys, o ≠ .lst ys) → H' b = some o
theorem Kl.refl (H : Hp) : Kl H H := fun _ _ e _ => e
theorem Kl.of {H H' : Hp} (s : Same H H') : Kl H H' := fun b o e _ => s b o e
theorem Kl.trans {H H1 H2 : Hp} (a : Kl H H1) (b : Kl H1 H2) : Kl H H2 := fun c o e n => b c o (a c o e n) n
theorem Kl.kp {H H' : Hp} {d : Addr} {ys : List V} (k : Kp d H H') (h : H d = some (.lst ys)) : Kl H H' := fun b o e n => k b o e fun z => by
  rw [z, h] at e
  exact n ys (Option.some.inj e).symm
theorem Kl.dr {H H' : Hp} {d l : Addr} (k : Kp d H H') (r : DrA H d l) : Kl H H' := by
  obtain ⟨n, ms, h1, _⟩ := r
  exact .kp k h1
theorem Kl.upd {H : Hp} {p : Addr} {o : HO} {ys : List V} (h : H p = some (.lst ys)) : Kl H (L2.upd H p o) := fun b x e n => by
  rw [upd_ne fun z => by rw [z, h] at e; exact n ys (Option.some.inj e).symm]
  exact e
theorem Kl.new {H : Hp} {p : Addr} {o : HO} (h : H p = none) : Kl H (L2.upd H p o) := .of (same_upd h)
section
variable {K : PySem.W.Frag} {H H' : Hp}
theorem SqT.kl {a : Addr} {xs : List V} (k : Kl H H') (h : SqT K H a xs) : SqT K H' a xs := by
  rcases h with (h | ⟨o, h⟩) | h
  · exact .inl (.inl (k _ _ h fun zs z => nomatch z))
  · exact .inl (.inr ⟨o, k _ _ h fun zs z => nomatch z⟩)
  · exact .inr h
mutual
theorem Dp.kl (k : Kl H H') : ∀ {v : V} {t : PyData}, Dp K H v t → noL t = true → Dp K H' v t
  | _, _, .non, _ => .non
  | _, _, .bl b, _ => .bl b
  | _, _, .int i, _ => .int i
  | _, _, .str x, _ => .str x
  | _, _, .lst h t, g => by rw [noL] at g; cases g
  | _, _, .tup h t, g => .tup (SqT.kl k h) (DpAll.kl k t (by rw [noL] at g; exact g))
theorem DpAll.kl (k : Kl H H') : ∀ {vs : List V} {ts : List PyData}, DpAll K H vs ts → noLs ts = true → DpAll K H' vs ts
  | _, _, .nil, _ => .nil
  | _, _, .cons h t, g => .cons (Dp.kl k h (by rw [noLs_cons] at g; exact (Bool.and_eq_true_iff.mp g).1)) (DpAll.kl k t (by rw [noLs_cons] at g; exact (Bool.and_eq_true_iff.mp g).2))
end
end
/-! ### the lists of names: name, arity, mode -/
abbrev NE := Str × Nat × Nat
def nD (p : NE) : PyData := .tuple [.str p.1, .int p.2.1, .int p.2.2]
def nsD (ns : List NE) : PyData := .list (ns.map nD)
theorem good_nD (p : NE) : good (nD p) = true := good_tup (by rw [goods_cons, goods_cons, goods_cons, good_str, good_int, good_int, goods]; rfl)
theorem noL_nD (p : NE) : noL (nD p) = true := noL_tup (by rw [noLs_cons, noLs_cons, noLs_cons, noL_str, noL_int, noL_int, noLs]; rfl)
theorem ns_noL (ns : List NE) : noLs (ns.map nD) = true := noLs_all fun t ht => by
  obtain ⟨p, _, rfl⟩ := List.mem_map.mp ht
  exact noL_nD p
theorem good_nsD (ns : List NE) : good (nsD ns) = true := good_lst (goods_all fun t ht => by
  obtain ⟨z, _, rfl⟩ := List.mem_map.mp ht
  exact good_nD z) fun t ht i e => by
  obtain ⟨z, _, rfl⟩ := List.mem_map.mp ht
  cases e
def within (ns : List NE) (p : NE) : List NE := (ns.filter fun q => !decide (q.1 = p.1)) ++ [p]
def mode4 (a b c e : Nat) (m : Nat) : Nat := match m with
  | 0 => a
  | 1 => b
  | 2 => c
  | _ => e
def turned (ns : List NE) : List NE := ns.map fun p => (p.1, p.2.1, mode4 0 2 1 3 p.2.2)
def barred (ns : List NE) : List NE := ns.map fun p => (p.1, p.2.1, mode4 0 3 3 3 p.2.2)
section
variable {K : PySem.W.Frag} {H H' : Hp}
theorem nD_inv {v : V} {p : NE} (h : Dp K H v (nD p)) : ∃ t, v = .ref t ∧ SqT K H t [.str p.1, .int p.2.1, .int p.2.2] := by
  obtain ⟨a, xs, rfl, h1, h2⟩ := Dp.tup_inv h
  obtain ⟨v1, w1, rfl, e1, h2⟩ := DpAll.cons_inv h2
  obtain ⟨v2, w2, rfl, e2, h2⟩ := DpAll.cons_inv h2
  obtain ⟨v3, w3, rfl, e3, h2⟩ := DpAll.cons_inv h2
  rw [Dp.str_inv e1, Dp.int_inv e2, Dp.int_inv e3, DpAll.nil_inv h2] at h1
  exact ⟨a, rfl, h1⟩
theorem nD_of {t : Addr} {p : NE} (h : SqT K H t [.str p.1, .int p.2.1, .int p.2.2]) : Dp K H (.ref t) (nD p) := .tup h (.cons (.str _) (.cons (.int _) (.cons (.int _) .nil)))
theorem DpAll.snoc {vs : List V} {ds : List PyData} {v : V} {t : PyData} (h : DpAll K H vs ds) (e : Dp K H v t) : DpAll K H (vs ++ [v]) (ds ++ [t]) := DpAll.append h (.cons e .nil)
end
theorem filter_snoc {α : Type} {p : α → Bool} {l : List α} {i : Nat} {x : α} (h : l[i]? = some x) : (l.take (i + 1)).filter p = (l.take i).filter p ++ (if p x then [x] else []) := by
  rw [List.take_add_one, h, List.filter_append]
  congr 1
  show List.filter p [x] = _
  cases e : p x <;> simp [List.filter, e]
def spWithin (K : PySem.W.Frag) : Sp := fun vs H Q _ => ∃ (nv : V) (name : Str) (k m : Nat) (ns : List NE), vs = [nv, .str name, .int k, .int m] ∧ Dp K H nv (nsD ns) ∧ ns.length ≤ 100 ∧ ∀ (H' : Hp) (r : V), Same H H' → Dp K H' r (nsD (within ns (name, k, m))) → Q r H'
def spMode (K : PySem.W.Frag) (F : List NE → List NE) : Sp := fun vs H Q _ => ∃ (nv : V) (ns : List NE), vs = [nv] ∧ Dp K H nv (nsD ns) ∧ ns.length ≤ 100 ∧ (∀ p, p ∈ ns → p.2.2 ≤ 3) ∧ ∀ (H' : Hp) (r : V), Same H H' → Dp K H' r (nsD (F ns)) → Q r H'
section
variable {P : Program} {w : World} {K : PySem.W.Frag} {mg : Str → Option Value} {base : Heap}
theorem mode_at {a b c e m : Nat} (h : m ≤ 3) : [V.int a, V.int b, V.int c, V.int e][m]? = some (.int (mode4 a b c e m : Nat)) := by
  match m, h with
  | 0, _ => rfl
  | 1, _ => rfl
  | 2, _ => rfl
  | 3, _ => rfl
end

/-! ### unpacking within a comprehension -/
section
variable {X : Cx} {K : PySem.W.Frag}
theorem op_catAK (h : X.K = K) : OpR X (binaryOp .Add) (rCatA K) := h ▸ op_catA
theorem call_tuple_ofK (h : X.K = K) : CallR X (.type "tuple") (fun xs H Q => ∃ p ys, xs = [.ref p] ∧ ((SqL K H p ys ∧ ∀ l, H l = none → Q (.ref l) (upd H l (.tup ys))) ∨ (SqT K H p ys ∧ Q (.ref p) H))) := h ▸ call_tuple_of
theorem call_list_ofK (h : X.K = K) : CallR X (.type "list") (fun xs H Q => ∃ p ys, xs = [.ref p] ∧ (SqL K H p ys ∨ SqT K H p ys) ∧ ∀ l, H l = none → Q (.ref l) (upd H l (.lst ys))) := h ▸ call_list_of
theorem pg_names2 {i j : Nat} {x y : Str} {p q pos : Pos} {k : Nat} (hK : X.K = K) (hc : X.calm = true) (hN : X.N.Nodup) (hi : X.N[i]? = some x) (hx : Loc X.env.scope x) (hj : X.N[j]? = some y) (hy : Loc X.env.scope y)
    (fx : X.fn x = true ∨ X.env.scope.names.lookup x = some .local := by first | exact .inl rfl | exact .inr rfl) (fy : X.fn y = true ∨ X.env.scope.names.lookup y = some .local := by first | exact .inl rfl | exact .inr rfl) :
    PG X (.Tuple [.Name x p, .Name y q] k pos) (gTup K 2 (gCons (gName i) (gCons (gName j) gNil))) := hK ▸ pg_tup hc (pgs_cons (pg_name hN hi hx fx) (pgs_cons (pg_name hN hj hy fy) pgs_nil))
theorem pg_names3 {i j l : Nat} {x y z : Str} {p q r pos : Pos} {k : Nat} (hK : X.K = K) (hc : X.calm = true) (hN : X.N.Nodup) (hi : X.N[i]? = some x) (hx : Loc X.env.scope x) (hj : X.N[j]? = some y) (hy : Loc X.env.scope y) (hl : X.N[l]? = some z) (hz : Loc X.env.scope z)
    (fx : X.fn x = true ∨ X.env.scope.names.lookup x = some .local := by first | exact .inl rfl | exact .inr rfl) (fy : X.fn y = true ∨ X.env.scope.names.lookup y = some .local := by first | exact .inl rfl | exact .inr rfl) (fz : X.fn z = true ∨ X.env.scope.names.lookup z = some .local := by first | exact .inl rfl | exact .inr rfl) :
    PG X (.Tuple [.Name x p, .Name y q, .Name z r] k pos) (gTup K 3 (gCons (gName i) (gCons (gName j) (gCons (gName l) gNil)))) := hK ▸ pg_tup hc (pgs_cons (pg_name hN hi hx fx) (pgs_cons (pg_name hN hj hy fy) (pgs_cons (pg_name hN hl hz fz) pgs_nil)))
end
def tups (n : Nat) : Nat → List (List Nat)
  | 0 => [[]]
  | k + 1 => (tups n k).flatMap fun r => (List.range n).map fun x => r ++ [x]
/-! tuples of elements -/
theorem tups_mem {n : Nat} : ∀ {k : Nat} {r : List Nat}, r ∈ tups n k ↔ r.length = k ∧ ∀ x, x ∈ r → x < n
  | 0, r => by
    rw [tups, List.mem_singleton]
    constructor
    · rintro rfl; exact ⟨rfl, fun x hx => nomatch hx⟩
    · rintro ⟨h, _⟩; exact List.length_eq_zero_iff.mp h
  | k + 1, r => by
    rw [tups, List.mem_flatMap]
    constructor
    · rintro ⟨q, hq, hr⟩
      obtain ⟨x, hx, rfl⟩ := List.mem_map.mp hr
      obtain ⟨h1, h2⟩ := tups_mem.mp hq
      refine ⟨by rw [List.length_append, h1]; rfl, fun y hy => ?_⟩
      rcases List.mem_append.mp hy with hy | hy
      · exact h2 y hy
      · rw [List.mem_singleton.mp hy]; exact List.mem_range.mp hx
    · rintro ⟨h1, h2⟩
      have ne : r ≠ [] := fun e => by rw [e] at h1; cases h1
      refine ⟨r.dropLast, tups_mem.mpr ⟨by rw [List.length_dropLast, h1]; rfl, fun x hx => h2 x ((List.dropLast_sublist r).subset hx)⟩, List.mem_map.mpr ⟨r.getLast ne, List.mem_range.mpr (h2 _ (List.getLast_mem ne)), List.dropLast_concat_getLast ne⟩⟩
theorem tups_len (n : Nat) : ∀ k : Nat, (tups n k).length = n ^ k
  | 0 => rfl
  | k + 1 => by
    rw [tups, Nat.pow_succ]
    have e : ∀ l : List (List Nat), (l.flatMap fun r => (List.range n).map fun x => r ++ [x]).length = l.length * n := by
      intro l
      induction l with
      | nil => rw [List.flatMap_nil]; simp
      | cons a l ih => rw [List.flatMap_cons, List.length_append, ih, List.length_map, List.length_range, List.length_cons, Nat.add_mul, Nat.one_mul, Nat.add_comm]
    rw [e, tups_len n k]
theorem Same.none {H H' : Hp} {r : Addr} (s : Same H H') (e : H' r = Option.none) : H r = Option.none := by
  cases q : H r with
  | none => rfl
  | some o => rw [s _ _ q] at e; cases e
theorem catA {K : PySem.W.Frag} {H : Hp} {a b : Addr} {xs ys : List V} {Q : VK} (ha : SqT K H a xs) (hb : SqT K H b ys) (l : xs.length + ys.length ≤ 1000) (q : ∀ (H' : Hp) (r : Addr), Same H H' → SqT K H' r (xs ++ ys) → Q (.ref r) H') : rCatA K (.ref a) (.ref b) H Q := by
  refine ⟨a, b, xs, ys, rfl, rfl, ha, hb, Nat.le_trans l (by show 1000 ≤ sizeLine; decide), fun e => ?_, fun _ e => ?_, fun _ _ p np => q _ p (same_upd np) (SqT.of upd_same)⟩
  · refine q H b (.refl H) ?_
    rw [e]
    exact hb
  · refine q H a (.refl H) ?_
    rw [e, List.append_nil]
    exact ha
theorem small20 {n : Nat} (h : n ≤ 20000) : n < sizeLine := Nat.lt_of_le_of_lt h (by show 20000 < sizeLine; decide)
theorem big9000 {n : Nat} (h : n ≤ 9000) : n ≤ sizeLine := Nat.le_trans h (by decide)
section
variable {X : Cx} {K : PySem.W.Frag}
end
/-! ### rows of elements, values with more: the law's helpers -/
def rowD (r : List Nat) : PyData := .tuple (r.map fun x => .int (x : Nat))
def rowV (r : List Nat) : List V := r.map fun x => .int (x : Nat)
theorem noL_rowD (r : List Nat) : noL (rowD r) = true := noL_tup (noLs_all fun t ht => by
  obtain ⟨x, _, rfl⟩ := List.mem_map.mp ht
  exact noL_int)
theorem rows_noL (l : List (List Nat)) : noLs (l.map rowD) = true := noLs_all fun t ht => by
  obtain ⟨x, _, rfl⟩ := List.mem_map.mp ht
  exact noL_rowD x
theorem row_all {K : PySem.W.Frag} {H : Hp} : ∀ r : List Nat, DpAll K H (rowV r) (r.map fun x => .int (x : Nat))
  | [] => .nil
  | x :: r => .cons (.int _) (row_all r)
theorem row_of {K : PySem.W.Frag} {H : Hp} {t : Addr} {r : List Nat} (h : SqT K H t (rowV r)) : Dp K H (.ref t) (rowD r) := .tup h (row_all r)
theorem row_vs {K : PySem.W.Frag} {H : Hp} : ∀ {r : List Nat} {vs : List V}, DpAll K H vs (r.map fun x => .int (x : Nat)) → vs = rowV r
  | [], vs, h => DpAll.nil_inv h
  | x :: r, vs, h => by
    obtain ⟨v, w, rfl, h1, h2⟩ := DpAll.cons_inv h
    rw [Dp.int_inv h1, row_vs h2]; rfl
theorem row_inv {K : PySem.W.Frag} {H : Hp} {v : V} {r : List Nat} (h : Dp K H v (rowD r)) : ∃ t, v = .ref t ∧ SqT K H t (rowV r) := by
  obtain ⟨a, xs, rfl, h1, h2⟩ := Dp.tup_inv h
  rw [row_vs h2] at h1
  exact ⟨a, rfl, h1⟩
/-- the rows so far, with one more element each -/
def moreT (n : Nat) (l : List (List Nat)) : List (List Nat) := l.flatMap fun r => (List.range n).map fun x => r ++ [x]
theorem moreT_len (n : Nat) (l : List (List Nat)) : (moreT n l).length = l.length * n := by
  unfold moreT
  induction l with
  | nil => rw [List.flatMap_nil]; simp
  | cons a l ih => rw [List.flatMap_cons, List.length_append, ih, List.length_map, List.length_range, List.length_cons, Nat.add_mul, Nat.one_mul, Nat.add_comm]
theorem moreT_take {n i : Nat} {l : List (List Nat)} {r : List Nat} (h : l[i]? = some r) : moreT n (l.take (i + 1)) = moreT n (l.take i) ++ (List.range n).map fun x => r ++ [x] := by
  unfold moreT
  rw [List.take_add_one, h, List.flatMap_append]
  show _ ++ ((List.range n).map (fun x => r ++ [x]) ++ []) = _
  rw [List.append_nil]
/-! ### rows of elements that lie in the heap -/
inductive RowsT (H : Hp) : List V → List (List Nat) → Prop
  | nil : RowsT H [] []
  | cons {t : Addr} {r : List Nat} {xs : List V} {R : List (List Nat)} : H t = some (.tup (rowV r)) → RowsT H xs R → RowsT H (.ref t :: xs) (r :: R)
section
variable {K : PySem.W.Frag} {H H' : Hp}
theorem RowsT.length : ∀ {xs : List V} {R : List (List Nat)}, RowsT H xs R → xs.length = R.length
  | _, _, .nil => rfl
  | _, _, .cons _ r => congrArg Nat.succ (RowsT.length r)
theorem RowsT.dp : ∀ {xs : List V} {R : List (List Nat)}, RowsT H xs R → DpAll K H xs (R.map rowD)
  | _, _, .nil => .nil
  | _, _, .cons e r => .cons (row_of (.inl (.inl e))) (RowsT.dp r)
theorem RowsT.keep (k : ∀ t xs, H t = some (.tup xs) → H' t = some (.tup xs)) : ∀ {xs : List V} {R : List (List Nat)}, RowsT H xs R → RowsT H' xs R
  | _, _, .nil => .nil
  | _, _, .cons e r => .cons (k _ _ e) (RowsT.keep k r)
theorem RowsT.kl (k : Kl H H') {xs : List V} {R : List (List Nat)} (h : RowsT H xs R) : RowsT H' xs R := h.keep fun _ _ e => k _ _ e fun _ z => nomatch z
theorem RowsT.same (s : Same H H') {xs : List V} {R : List (List Nat)} (h : RowsT H xs R) : RowsT H' xs R := h.keep fun _ _ e => s _ _ e
theorem RowsT.append : ∀ {xs ys : List V} {R S : List (List Nat)}, RowsT H xs R → RowsT H ys S → RowsT H (xs ++ ys) (R ++ S)
  | _, _, _, _, .nil, h => h
  | _, _, _, _, .cons e r, h => .cons e (RowsT.append r h)
theorem RowsT.get' : ∀ {xs : List V} {R : List (List Nat)} {i : Nat} {v : V}, RowsT H xs R → xs[i]? = some v → ∃ t r, v = .ref t ∧ R[i]? = some r ∧ H t = some (.tup (rowV r))
  | _, _, i, v, .nil, h => by simp at h
  | _, _, 0, v, .cons e r, h => ⟨_, _, (Option.some.inj h).symm, rfl, e⟩
  | _, _, i + 1, v, .cons e r, h => RowsT.get' (i := i) r h
theorem RowsT.pick : ∀ {xs : List V} {R : List (List Nat)} {i : Nat} {r : List Nat}, RowsT H xs R → R[i]? = some r → ∃ t, xs[i]? = some (.ref t) ∧ H t = some (.tup (rowV r))
  | _, _, i, r, .nil, h => by simp at h
  | _, _, 0, r, .cons e q, h => by
    have z := Option.some.inj h
    subst z
    exact ⟨_, rfl, e⟩
  | _, _, i + 1, r, .cons e q, h => RowsT.pick (i := i) q h
theorem catT {a b : Addr} {xs ys : List V} {Q : VK} (ha : H a = some (.tup xs)) (hb : H b = some (.tup ys)) (l : xs.length + ys.length ≤ 1000) (q : ∀ (H' : Hp) (r : Addr), Same H H' → H' r = some (.tup (xs ++ ys)) → Q (.ref r) H') : rCatA K (.ref a) (.ref b) H Q := by
  refine ⟨a, b, xs, ys, rfl, rfl, SqT.of ha, SqT.of hb, Nat.le_trans l (by show 1000 ≤ sizeLine; decide), fun e => ?_, fun _ e => ?_, fun _ _ p np => q _ p (same_upd np) upd_same⟩
  · refine q H b (.refl H) ?_
    rw [e]
    exact hb
  · refine q H a (.refl H) ?_
    rw [e, List.append_nil]
    exact ha
end
def spTups (K : PySem.W.Frag) : Sp := fun vs H Q _ => ∃ n k : Nat, vs = [.int (n : Nat), .int (k : Nat)] ∧ n ≤ 16 ∧ k ≤ 8 ∧ (∀ i, i ≤ k → n ^ i ≤ 4096) ∧
  ∀ (H' : Hp) (r : Addr) (xs : List V), Same H H' → H r = none → H' r = some (.lst xs) → RowsT H' xs (tups n k) → Q (.ref r) H'
section
variable {P : Program} {w : World} {K : PySem.W.Frag} {mg : Str → Option Value} {base : Heap}
theorem sc_ltups : FnScope ["n", "width", "rows", "k", "longer", "row", "x"] ["n", "width"] (defScope (top 45)) := ⟨rfl, rfl, rfl, by decide +kernel, rfl, by decide +kernel, by decide +kernel⟩
theorem has_ltups (D : Def K mg "_law_tuples" ["n", "width"] (top 45)) (T : Txt mg) : Has P w K mg base 1 "_law_tuples" ["n", "width"] (spTups K) := D.has fun f fd F => by
  refine F.ok sc_ltups (fun vs H Q E h => ?_) (fun cdv A outer s H vs Q E hr h => ?_)
  · obtain ⟨n, k, rfl, _⟩ := h; rfl
  · obtain ⟨n, k, rfl, hn, hk, pw, q⟩ := h
    refine ⟨_, PSs.nox (pss_cons (ps_set (i := 2) sc_ltups.nd rfl (Or.inl rfl) (pe_lst (pa_cons (pe_tup pa_nil) pa_nil))) (pss_cons (ps_for PassesOwn.never rfl (pi_range1 (by rfl) T.n_range (pa_cons (pv 1) pa_nil)) (pg_name (i := 3) sc_ltups.nd rfl (Or.inl rfl)) (pss_cons (ps_set (i := 4) sc_ltups.nd rfl (Or.inl rfl) (pe_lst pa_nil)) (pss_cons (ps_for PassesOwn.never rfl (pi_list (pv 2)) (pg_name (i := 5) sc_ltups.nd rfl (Or.inr rfl)) (pss_one (ps_expr (pe_bm PySem.F.plainAttrs_list PySem.F.slot_list_extend PySem.F.type_list_extend mt_extend (pv 4) (pa_cons (pe_lc (own := [("x", 6)]) rfl sc_ltups.nd (pi_range1 (by rfl) T.n_range (pa_cons (pv 0) pa_nil)) (blkOk_by (N := ["n", "width", "rows", "k", "longer", "row", "x"]) (sc := defScope (top 45)) (by decide +kernel)) (fun _ _ _ _ _ => (pg_name (i := 6) sc_ltups.nd rfl (Or.inl rfl))) (fun _ _ _ _ _ => pts_nil) (fun _ _ _ _ _ => (pe_op (op_catAK (K := K) rfl) (pv 5) (pe_tup (pa_cons (pv 6) pa_nil))))) pa_nil))))) (pss_one (ps_set (i := 2) sc_ltups.nd rfl (Or.inl rfl) (pv 4)))))) (pss_one (ps_ret (pv 2))))), ?_⟩
    refine ⟨(by show 0 ≤ sizeLine; exact Nat.zero_le _), fun t nt => ⟨(by show 1 ≤ sizeLine; decide), fun c nc => ?_⟩⟩
    have st := same_upd (o := .tup []) nt
    have sc := same_upd (o := .lst [.ref t]) nc
    refine ⟨_, rfl, k, rfl, by omega, by omega, for_it walk_range (fun i σ H2 => ∃ (y3 y4 y5 y6 : Option V) (p : Addr) (xs : List V), σ = [some (.int (n : Nat)), some (.int (k : Nat)), some (.ref p), y3, y4, y5, y6] ∧ Same H H2 ∧ H p = none ∧ H2 p = some (.lst xs) ∧ RowsT H2 xs (tups n i))
      ⟨none, none, none, none, c, [.ref t], rfl, st.trans sc, Same.none st nc, upd_same, .cons (sc _ _ upd_same) .nil⟩ (fun _ _ _ _ _ => trivial) ?_ ?_⟩
    · rintro i y σ H2 H3 hi ⟨y3, y4, y5, y6, p, xs, rfl, s2, np, hp, dx⟩ ⟨rfl, rfl⟩
      refine ⟨Nat.zero_le _, fun c1 nc1 => ?_⟩
      have s1 := same_upd (o := .lst []) nc1
      have hp1 := s1 _ _ hp
      have npc : p ≠ c1 := ne_of_none hp nc1
      have lx := RowsT.length dx
      rw [tups_len] at lx
      have pi := pw i (by omega)
      have pi1 := pw (i + 1) (by omega)
      have pe : n ^ (i + 1) = n ^ i * n := Nat.pow_succ ..
      refine ⟨_, rfl, p, rfl, ⟨_, SqL.of hp1⟩, for_list (K := K) (a := p) (xs := xs) (fun j σ H5 => ∃ (y5 y6 : Option V) (xl : List V), σ = [some (.int (n : Nat)), some (.int (k : Nat)), some (.ref p), some (.int (0 + (i : Nat))), some (.ref c1), y5, y6] ∧ Same H3 H5 ∧ H5 c1 = some (.lst xl) ∧ RowsT H5 xl (moreT n ((tups n i).take j)))
        ⟨y5, y6, [], rfl, s1, upd_same, .nil⟩ (fun j σ H5 _ ⟨_, _, _, _, s5, _⟩ => SqL.of (s5 _ _ hp)) ?_ ?_⟩
      · rintro j y σ H5 hj ⟨y5, y6, xl, rfl, s5, hc, dxl⟩
        obtain ⟨t0, r, rfl, hr2, ht0⟩ := RowsT.get' dx hj
        have hm := tups_mem.mp (List.mem_of_getElem? hr2)
        have rl : r.length ≤ 8 := by omega
        have lxl := RowsT.length dxl
        rw [moreT_len] at lxl
        have ltk := List.length_take_le' j (tups n i)
        have hj2 : j < (tups n i).length := (List.getElem?_eq_some_iff.mp hr2).1
        rw [tups_len] at hj2
        have lt1 : ((tups n i).take (j + 1)).length * n ≤ n ^ (i + 1) := by
          rw [pe]
          refine Nat.mul_le_mul_right n ?_
          rw [List.length_take, tups_len]; omega
        have lt2 : ((tups n i).take (j + 1)).length = ((tups n i).take j).length + 1 := by
          rw [List.length_take, List.length_take, tups_len]; omega
        rw [lt2, Nat.add_mul, Nat.one_mul] at lt1
        have ht0 := s5 _ _ ht0
        refine ⟨_, rfl, .inl ⟨rfl, _, SqL.of hc⟩, _, rfl, n, rfl, by omega, by omega, fun M nM => ?_⟩
        refine lc_it walk_range (fun m H6 => ∃ acc, Same H5 H6 ∧ H6 M = some (.lst acc) ∧ RowsT H6 acc ((List.range m).map fun x => r ++ [x])) ⟨[], same_upd nM, upd_same, .nil⟩ (fun _ _ _ _ => trivial) ?_ ?_
        · rintro m y H6 H7 hm2 ⟨acc, s6, hM, dacc⟩ ⟨rfl, rfl⟩
          have la := RowsT.length dacc
          rw [List.length_map, List.length_range] at la
          refine ⟨rfl, _, rfl, _, rfl, (by show 1 ≤ sizeLine; decide), fun u nu => ?_⟩
          have su := same_upd (o := .tup [.int (0 + (m : Nat))]) nu
          refine catT ((s6.trans su) _ _ ht0) upd_same (by rw [rowV, List.length_map]; show r.length + 1 ≤ 1000; omega) fun H8 r8 s8 h8 => ?_
          have s68 := su.trans s8
          refine ⟨acc, s68 _ _ hM, small1000 (by omega), acc ++ [.ref r8], fun b o e => ?_, upd_same, ?_⟩
          · rw [upd_ne (ne_of_none e nM)]
            exact s68 _ _ (s6 _ _ e)
          · rw [List.range_succ, List.map_append]
            have e9 : rowV (r ++ [m]) = rowV r ++ [.int (0 + (m : Nat))] := by rw [rowV, List.map_append, Int.zero_add]; rfl
            exact RowsT.kl (Kl.upd (s68 _ _ hM)) (RowsT.append (RowsT.same s68 dacc) (.cons (by rw [e9]; exact h8) .nil))
        · rintro H6 ⟨acc, s6, hM, dacc⟩
          have la := RowsT.length dacc
          rw [List.length_map, List.length_range] at la
          have hc6 := s6 _ _ hc
          refine ⟨c1, M, xl, acc, rfl, rfl, hc6, hM, big9000 (by omega), _, _, xl ++ acc, rfl, fun b o e => ?_, upd_same, ?_⟩
          · rw [upd_ne (ne_of_none e nc1)]
            exact s6 _ _ (s5 _ _ e)
          · rw [moreT_take hr2]
            exact RowsT.kl (Kl.upd hc6) (RowsT.append (RowsT.same s6 dxl) dacc)
      · rintro σ H5 ⟨y5, y6, xl, rfl, s5, hc, dxl⟩
        rw [lx, ← tups_len, List.take_of_length_le (Nat.le_refl _)] at dxl
        exact ⟨_, rfl, _, _, _, _, c1, xl, rfl, s2.trans s5, Same.none s2 nc1, hc, dxl⟩
    · rintro σ H2 ⟨y3, y4, y5, y6, p, xs, rfl, s2, np, hp, dx⟩
      exact ⟨_, rfl, q H2 p xs s2 np hp dx⟩
end

/-! ### a drawn world -/
def spSubset (K : PySem.W.Frag) : Sp := fun vs H Q _ => ∃ (d l r : Addr) (xs : List V) (R : List (List Nat)), vs = [.ref d, .ref r] ∧ DrA H d l ∧ H r = some (.lst xs) ∧ RowsT H xs R ∧ R.length ≤ 4096 ∧ r ≠ d ∧
  ∀ (H' : Hp) (p : Addr) (ys : List V) (J : List (List Nat)), DrA H' d l → Kp d H H' → H p = none → H' p = some (.lst ys) → RowsT H' ys J → J.length ≤ R.length → (∀ x, x ∈ J → x ∈ R) → Q (.ref p) H'
section
variable {P : Program} {w : World} {K : PySem.W.Frag} {mg : Str → Option Value} {base : Heap}
theorem sc_lsubset : FnScope ["draws", "rows", "kind", "row"] ["draws", "rows"] (defScope (top 46)) := ⟨rfl, rfl, rfl, by decide +kernel, rfl, by decide +kernel, by decide +kernel⟩
theorem has_lsubset (D : Def K mg "_law_subset" ["draws", "rows"] (top 46)) (T : Txt mg) (C1 : Has P w K mg base 2 "_law_draw" ["draws"] spDraw) : Has P w K mg base 3 "_law_subset" ["draws", "rows"] (spSubset K) := D.has fun f fd F => by
  obtain ⟨f1, fd1, G_law_draw, g_law_draw, k_law_draw, b_law_draw⟩ := C1
  refine F.ok sc_lsubset (fun vs H Q E h => ?_) (fun cdv A outer s H vs Q E hr h => ?_)
  · obtain ⟨d, l, r, xs, R, rfl, _⟩ := h; rfl
  · obtain ⟨d, l, r, xs, R, rfl, dr, hr0, dx, lR, nrd, q⟩ := h
    have R_law_draw : Room 2 _ := hr
    refine ⟨_, PSs.nox (pss_cons (ps_set (i := 2) sc_lsubset.nd rfl (Or.inr rfl) (pe_op op_mod (pe_call G_law_draw R_law_draw (by rfl) g_law_draw k_law_draw b_law_draw .nil pass0 (pa_cons (pv 0) pa_nil)) pe_int)) (pss_cons (ps_if (pt_cmpR op_eq (pv 2) pe_int (nomark _)) (pss_one (ps_ret (pe_callTy call_list_of (by rfl) T.n_list (by decide +kernel) (pa_cons (pv 1) pa_nil)))) pss_nil) (pss_cons (ps_if (pt_cmpR op_eq (pv 2) pe_int (nomark _)) (pss_one (ps_ret (pe_lst pa_nil))) pss_nil) (pss_one (ps_ret (pe_lc (own := [("row", 3)]) rfl sc_lsubset.nd (pi_list (pv 1)) (blkOk_by (N := ["draws", "rows", "kind", "row"]) (sc := defScope (top 46)) (by decide +kernel)) (fun _ _ _ _ _ => (pg_name (i := 3) sc_lsubset.nd rfl (Or.inl rfl))) (fun _ _ _ _ _ => (pts_one (pt_cmpR op_eq (pe_op op_mod (pe_call G_law_draw R_law_draw (by rfl) g_law_draw k_law_draw b_law_draw .nil pass0 (pa_cons (pv 0) pa_nil)) (pv 2)) pe_int (nomark _)))) (fun _ _ _ _ _ => (pv 3)))))))), ?_⟩
    refine ⟨_, rfl, d, l, rfl, dr, fun z1 H1 _ _ dr1 k1 => ?_⟩
    refine ⟨_, _, rfl, rfl, (by show (0 : Int) < 5; decide), ?_⟩
    have kl1 := Kl.dr k1 dr
    have dx1 := RowsT.kl kl1 dx
    have hr1 := k1 _ _ hr0 nrd
    have z5 : 0 ≤ z1 % 5 ∧ z1 % 5 < 5 := by omega
    show gName 2 (V.int (z1 % 5)) _ _ _
    generalize z1 % 5 = kd at z5 ⊢
    refine ⟨_, rfl, rfl, _, rfl, ?_⟩
    by_cases e0 : kd = 0
    · refine cT (k := decide (V.int kd = V.int 0)) (decide_eq_true (by rw [e0])) ?_
      refine ⟨_, rfl, r, xs, rfl, .inl (SqL.of hr1), fun p np => ?_⟩
      have sp := same_upd (o := .lst xs) np
      exact q _ p xs R (dr1.same sp) (k1.trans (.of sp)) (Kp.free k1 (fun z => by obtain ⟨ys, e⟩ := dr1.some; rw [z, e] at np; cases np) np) upd_same (RowsT.same sp dx1) (Nat.le_refl _) (fun x hx => hx)
    · refine cF (k := decide (V.int kd = V.int 0)) (decide_eq_false fun z => e0 (V.int.inj z)) ⟨_, rfl, rfl, _, rfl, ?_⟩
      by_cases e1 : kd = 1
      · refine cT (k := decide (V.int kd = V.int 1)) (decide_eq_true (by rw [e1])) ?_
        refine ⟨Nat.zero_le _, fun p np => ?_⟩
        have sp := same_upd (o := .lst []) np
        exact q _ p [] [] (dr1.same sp) (k1.trans (.of sp)) (Kp.free k1 (fun z => by obtain ⟨ys, e⟩ := dr1.some; rw [z, e] at np; cases np) np) upd_same .nil (Nat.zero_le _) (fun x hx => nomatch hx)
      · refine cF (k := decide (V.int kd = V.int 1)) (decide_eq_false fun z => e1 (V.int.inj z)) ?_
        refine ⟨_, rfl, r, rfl, ⟨_, SqL.of hr1⟩, fun M nM => ?_⟩
        obtain ⟨nMd, nMl⟩ := dr1.ne nM
        have lx := RowsT.length dx1
        refine lc_it (walk_list (K := K) (a := r) (xs := xs)) (fun i H3 => ∃ (acc : List V) (J : List (List Nat)), DrA H3 d l ∧ Kp d H1 H3 ∧ H3 M = some (.lst acc) ∧ RowsT H3 acc J ∧ J.length ≤ i ∧ ∀ x, x ∈ J → x ∈ R) ⟨[], [], dr1.same (same_upd nM), .of (same_upd nM), upd_same, .nil, Nat.le_refl _, fun x hx => nomatch hx⟩ (fun i H3 _ ⟨_, _, _, k3, _⟩ => SqL.of (k3 _ _ hr1 nrd)) ?_ ?_
        · rintro i y H3 H4 hi ⟨acc, J, dr3, k3, hM, dacc, lJ, sJ⟩ ⟨rfl, hy⟩
          obtain ⟨t0, rw', rfl, hrw, ht0⟩ := RowsT.get' dx1 hy
          refine ⟨rfl, _, rfl, d, l, rfl, dr3, fun z2 H5 _ _ dr5 k5 => ?_⟩
          have k35 := k3.trans k5
          have kl5 := Kl.dr k5 dr3
          have hM5 := k5 _ _ hM nMd
          refine ⟨_, rfl, _, _, rfl, rfl, (by show 0 < kd; omega), rfl, _, rfl, ite2 (fun _ => ?_) (fun _ => ?_)⟩
          · have la := RowsT.length dacc
            refine ⟨_, rfl, acc, hM5, (by have := big9000 (n := acc.length + 1) (by omega); omega), acc ++ [.ref t0], J ++ [rw'], dr5.kp Kp.upd ⟨nMd, nMl⟩, kp_own k35 nM, upd_same, ?_, by rw [List.length_append]; exact Nat.add_le_add lJ (Nat.le_refl 1), fun x hx => ?_⟩
            · exact RowsT.kl (Kl.upd hM5) (RowsT.append (RowsT.kl kl5 dacc) (.cons (Kl.dr k35 dr1 _ _ ht0 fun _ z => nomatch z) .nil))
            · rcases List.mem_append.mp hx with hx | hx
              · exact sJ x hx
              · rw [List.mem_singleton.mp hx]; exact List.mem_of_getElem? hrw
          · exact ⟨acc, J, dr5, k35, hM5, RowsT.kl kl5 dacc, by omega, sJ⟩
        · rintro H3 ⟨acc, J, dr3, k3, hM, dacc, lJ, sJ⟩
          exact q H3 M acc J dr3 (k1.trans k3) (Kp.free k1 nMd nM) hM dacc (by omega) sJ
end

/-! ### sets and lists of tuples, sorted, with tuples of no items too -/
section
variable {P : Program} {w : World} {A : Around} {E : Value → Shared → Prop} {s : Shared} {a : Addr} {L : List (Addr × List Int)} {es : Array (Int × Value)} {ep : Nat} {t : SetTable}
theorem few_zip {vs : List Value} (h : vs.length ≤ 1) {ps : List (Value × Value)} (hp : ps.Perm (vs.zip vs)) : ps.map Prod.snd = vs := by
  match vs, h with
  | [], _ => rw [show ps = [] from List.perm_nil.mp hp]; rfl
  | [v], _ => rw [show ps = [(v, v)] from List.perm_singleton.mp hp]; rfl
theorem pw_few {α : Type} {R : α → α → Prop} : ∀ {l : List α}, l.length ≤ 1 → l.Pairwise R
  | [], _ => .nil
  | [x], _ => List.pairwise_singleton _ _
theorem perm_few {α : Type} {l k : List α} (h : k.length ≤ 1) (p : l.Perm k) : l = k := by
  match k, h with
  | [], _ => exact List.perm_nil.mp p
  | [x], _ => exact List.perm_singleton.mp p
theorem nil_few {α : Type} {L : List (α × List Int)} (nd : (L.map (·.2)).Nodup) (h : ∀ p ∈ L, p.2.length = 0) : L.length ≤ 1 := by
  match L, nd, h with
  | [], _, _ => exact Nat.zero_le _
  | [x], _, _ => exact Nat.le_refl _
  | x :: y :: l, nd, h =>
    have e1 := List.length_eq_zero_iff.mp (h x (by simp))
    have e2 := List.length_eq_zero_iff.mp (h y (by simp))
    simp [e1, e2] at nd
/-- list.sort of at most one item -/
theorem sort_few {b : Addr} {vs : List Value} {n : Nat} {R : PySem.Fin → Shared → Prop} (ho : s.heap.get? b = some (seqObj "list" vs.toArray n)) (h1 : vs.length ≤ 1)
    (h : ∀ out : Array Value, out.toList = vs → R (.done (.ret .none)) { s with heap := sortedHeap s.heap b vs out }) : wpAny (model P w) A (Builtin.«list.sort» ⟨[.ref b], []⟩) R E s :=
  SK.plain_sort (r := fun _ => 0) ho (by omega) (fun h2 => absurd h2 (by omega)) fun ps out e1 e2 _ => h out (by rw [e1, few_zip h1 e2])
theorem sorted_few {Q : Value → Shared → Prop} (R : SetTR P w s.heap a L es ep t) (hh : A.handled = none) (h1 : L.length ≤ 1)
    (hQ : ∀ s' p (out : Array Value) (c : Nat), (∀ b o, s.heap.get? b = some o → s'.heap.get? b = some o) → s'.gens = s.gens → s'.os = s.os → s.heap.objs.size ≤ p → s'.heap.get? p = some (seqObj "list" out c) → out.toList = L.map (fun q => Value.ref q.1) → Q (.ref p) s') :
    wpAny (model P w) A (call (.builtin "sorted") [.ref a]) Q E s := by
  obtain ⟨o, ho, hex, hd⟩ := R.ob
  have hsz := R.size
  have hfew := R.few
  refine Calls.call_function_entry kind_sorted plain_sorted entry_sorted (args_sorted1 _) ?_
  unfold Builtin.«sorted»
  refine wpAny_bind (m := checkCount "sorted" 1 1 _) (wpAny_pure ?_)
  refine wpAny_bind (collect_set (A := A.in1) hh ⟨o, ho, hex.1, hd⟩ R.fits (by unfold scanBound; omega) R.tab.ris R.led fun s1 vs k1 hz g1 o1 pm => ?_)
  have hes : es.toList.map (·.2) = L.map fun q => Value.ref q.1 := by
    rw [R.rows]
    unfold rowsOf
    rw [List.map_map] <;> rfl
  rw [hes] at pm
  have hvl : vs.length ≤ 1 := by rw [pm.length_eq, List.length_map]; exact h1
  have ev : vs = L.map fun q => Value.ref q.1 := by
    exact perm_few (by rw [List.length_map]; exact h1) pm
  refine wpAny_bind (wpAny_newList ?_ (by rw [sizeLine_eq]; omega))
  have hoL : (s1.heap.push (seqObj "list" vs.toArray 0)).get? s1.heap.objs.size = some (seqObj "list" vs.toArray 0) := Heap.get?_push_size _ rfl
  refine wpAny_bind (wpAny_holding (wpAny_call_entry slot_list_sort ⟨_, hoL, rfl⟩ entry_list_sort (sort_few (s := { s1 with heap := s1.heap.push (seqObj "list" vs.toArray 0) }) hoL hvl fun out e => ⟨_, rfl, ?_⟩) (args_list_sort _)))
  obtain ⟨c, hc⟩ := sortedHeap_at (vs := vs) (out := out) hoL
  refine wpAny_pure ⟨_, rfl, hQ _ s1.heap.objs.size out c (fun b u e => ?_) g1 o1 hz hc (by rw [e, ev])⟩
  have q := k1 b u e
  have hlt := Heap.lt_size q
  show (sortedHeap (s1.heap.push (seqObj "list" vs.toArray 0)) s1.heap.objs.size vs out).get? b = some u
  rw [sortedHeap_old (Nat.ne_of_lt hlt) (by rw [size_push']; exact Nat.lt_succ_of_lt hlt)]
  exact Heap.get?_push_of_some _ q
theorem sorted_few_list {l : Addr} {vs : List Value} {Q : Value → Shared → Prop} (hl : s.heap.IsList l vs.toArray) (h1 : vs.length ≤ 1)
    (h : ∀ out : Array Value, out.toList = vs → Q (.ref (s.heap.objs.size + 1)) { s with heap := sortedAll s.heap vs out }) :
    wpAny (model P w) A (call (.builtin "sorted") [.ref l]) Q E s := by
  refine Calls.call_function_entry kind_sorted plain_sorted entry_sorted (args_sorted1 _) ?_
  unfold Builtin.«sorted»
  refine wpAny_bind (m := checkCount "sorted" 1 1 _) (wpAny_pure ?_)
  refine wpAny_bind (collect_list hl ?_ (by rw [sizeLine_eq]; show vs.toArray.size ≤ _; rw [List.size_toArray]; omega))
  refine wpAny_bind (wpAny_newList ?_ (by rw [sizeLine_eq]; omega))
  have hsz : ((s.heap.push (seqObj "list" #[] 0)).update s.heap.objs.size (Obj.mapSeq (· ++ vs.toArray))).objs.size = s.heap.objs.size + 1 := by
    rw [Heap.size_update, size_push']
  have hoL : (((s.heap.push (seqObj "list" #[] 0)).update s.heap.objs.size (Obj.mapSeq (· ++ vs.toArray))).push (seqObj "list" vs.toArray 0)).get? (s.heap.objs.size + 1) = some (seqObj "list" vs.toArray 0) := by
    rw [← hsz]; exact Heap.get?_push_size _ rfl
  show wpAny _ _ _ _ _ { s with heap := ((s.heap.push (seqObj "list" #[] 0)).update s.heap.objs.size (Obj.mapSeq (· ++ vs.toArray))).push (seqObj "list" vs.toArray 0) }
  rw [hsz]
  refine wpAny_bind (wpAny_holding (wpAny_call_entry slot_list_sort ⟨_, hoL, rfl⟩ entry_list_sort (sort_few hoL h1 fun out e => ⟨_, rfl, ?_⟩) (args_list_sort _)))
  exact wpAny_pure ⟨_, rfl, h out e⟩
end
section
variable {X : Cx}
/-- sorted(xs), xs a list of tuples as long as one another -/
def rSortM (K : PySem.W.Frag) : List V → Hp → VK → Prop := fun vs H Q => ∃ (a : Addr) (xs : List V) (d : Nat) (B : Int), vs = [V.ref a] ∧ SqL K H a xs ∧ xs.length < 64 ∧ (1 ≤ d ∨ xs.length ≤ 1) ∧ (∀ x ∈ xs, ∃ ns, TupI K H x ns ∧ ns.length = d ∧ TS.Bd B ns) ∧
  ∀ (ys : List V) (p : Addr), ys.Perm xs → ys.Pairwise (fun x y => ∀ n m, TupI K H x n → TupI K H y m → TS.code B n ≤ TS.code B m) → H p = none → Q (.ref p) (upd H p (.lst ys))
theorem cr_sortM : CallR X (.builtin "sorted") (rSortM X.K) := by
  intro pins s σ H vs us Q I r h
  obtain ⟨a, xs, d, B, rfl, hs, h64, hd, hx, q⟩ := h
  rcases hd with hd | h1
  · exact cr_sortT hd pins s σ H _ us Q I r ⟨a, xs, rfl, hs, h64, hx, q⟩
  · obtain ⟨its, rv, hl, hz⟩ := I.list hs
    rw [Vals.ref1 r]
    refine sorted_few_list hl.isList (by rw [← rv.length]; exact h1) fun out e => ?_
    obtain ⟨ep, he'⟩ := PyProof.Rows.sortedAll_at s.heap its out
    exact ⟨.ref _, upd H (s.heap.objs.size + 1) (.lst xs), I.laid (t' := s.toks) (fun _ _ => PyProof.Rows.sortedAll_old) (Nat.le_succ _) ⟨hz, out.toList, ep, by rw [e]; exact rv, he'⟩, rfl, q _ _ (.refl _) (pw_few h1) (I.hok.fresh (Nat.le_succ _))⟩
/-- sorted(set) of at most one tuple -/
def rSortedF (K : PySem.W.Frag) (P : Program) (w : World) : List V → Hp → VK → Prop := fun vs H Q => ∃ (a : Addr) (L : List (Addr × List Int)), vs = [V.ref a] ∧ H a = some (SetTO P w a L) ∧ (∀ p ∈ L, SqT K H p.1 (p.2.map V.int)) ∧ L.length ≤ 1 ∧
  ∀ (p : Addr), H p = none → Q (.ref p) (upd H p (.lst (L.map fun q => V.ref q.1)))
theorem cr_sortedF (hc : X.calm = true) : CallR X (.builtin "sorted") (rSortedF X.K X.prog X.w) := by
  intro pins s σ H vs us Q I r h
  obtain ⟨a, L, rfl, ha, hk, h1, q⟩ := h
  have R0 : SetT0 X.prog X.w s.heap a L := (I.hok a _ ha).1
  obtain ⟨es, ep, t, R⟩ := R0.full fun p hp => I.isT (hk p hp)
  rw [Vals.ref1 r]
  refine sorted_few R (I.ok.hd hc) h1 fun s' p out c k g o hp hg hout => ?_
  have hlen : (L.map fun q => V.ref q.1).length ≤ sizeLine := by rw [List.length_map, sizeLine_eq]; omega
  have hn : H p = none := I.hok.fresh hp
  have hv : Vals (L.map fun q => V.ref q.1) out.toList := by rw [hout]; exact vals_of_refs L
  have J : Inv X pins σ (upd H p (.lst (L.map fun q => V.ref q.1))) { s with heap := s'.heap, gens := s'.gens, drawn := s'.drawn, toks := s'.toks } :=
    I.call (ch := []) (Un.laid k hp hn) (I.hok.laid k hp ⟨hlen, out.toList, c, hv, hg⟩) (by rw [g]; exact I.bare) (fun _ z => nomatch z)
  have e : s' = { s with heap := s'.heap, gens := s'.gens, drawn := s'.drawn, toks := s'.toks } := by
    cases s'
    cases s
    cases o
    rfl
  rw [e]
  exact ⟨.ref p, _, J, rfl, q p hn⟩
/-- sorted(set), its tuples as long as one another -/
def rSortedN (K : PySem.W.Frag) (P : Program) (w : World) : List V → Hp → VK → Prop := fun vs H Q => ∃ (a : Addr) (L : List (Addr × List Int)) (d : Nat) (B : Int), vs = [V.ref a] ∧ H a = some (SetTO P w a L) ∧ (∀ p ∈ L, SqT K H p.1 (p.2.map V.int)) ∧
  (∀ p ∈ L, p.2.length = d ∧ TS.Bd B p.2) ∧
  ∀ (L' : List (Addr × List Int)) (p : Addr), L'.Perm L → (L'.map (·.2)).Nodup → L'.length < 64 → L'.Pairwise (fun q r => TS.code B q.2 ≤ TS.code B r.2) → H p = none → Q (.ref p) (upd H p (.lst (L'.map fun q => V.ref q.1)))
theorem cr_sortedN (hc : X.calm = true) : CallR X (.builtin "sorted") (rSortedN X.K X.prog X.w) := by
  intro pins s σ H vs us Q I r h
  obtain ⟨a, L, d, B, rfl, ha, hk, hB, q⟩ := h
  cases d with
  | succ d => exact cr_sortedT hc pins s σ H _ us Q I r ⟨a, L, d + 1, B, rfl, ha, hk, by omega, hB, q⟩
  | zero =>
    have R0 : SetT0 X.prog X.w s.heap a L := (I.hok a _ ha).1
    obtain ⟨es, ep, t, R⟩ := R0.full fun p hp => I.isT (hk p hp)
    have nd := R.nd
    have h1 : L.length ≤ 1 := nil_few nd fun p hp => (hB p hp).1
    exact cr_sortedF hc pins s σ H _ us Q I r ⟨a, L, rfl, ha, hk, h1, fun p np => q L p (.refl _) nd (by omega) (pw_few h1) np⟩
end
/-! ### whole numbers -/
def isI : V → Bool
  | .int _ => true
  | _ => false
def btw (lo hi : Int) : V → Bool
  | .int i => decide (lo ≤ i) && decide (i ≤ hi)
  | _ => false
def spWhole : Sp := fun vs H Q _ => ∃ x : V, vs = [x] ∧ flatV x = true ∧ Q (.bl (isI x)) H
def spBetween : Sp := fun vs H Q _ => ∃ (x : V) (lo hi : Int), vs = [x, .int lo, .int hi] ∧ flatV x = true ∧ Q (.bl (btw lo hi x)) H
section
variable {P : Program} {w : World} {K : PySem.W.Frag} {mg : Str → Option Value} {base : Heap}
theorem sc_is_whole : FnScope ["value"] ["value"] (defScope (top 8)) := ⟨rfl, rfl, rfl, by decide +kernel, rfl, by decide +kernel, by decide +kernel⟩
theorem has_is_whole (D : Def K mg "is_whole" ["value"] (top 8)) (T : Txt mg) : Has P w K mg base 1 "is_whole" ["value"] spWhole := D.has fun f fd F => by
  refine F.ok sc_is_whole (fun vs H Q E h => ?_) (fun cdv A outer s H vs Q E hr h => ?_)
  · obtain ⟨x, rfl, _⟩ := h; rfl
  · obtain ⟨x, rfl, fx, q⟩ := h
    refine ⟨_, PSs.nox (pss_one (ps_ret (pe_and (pe_callB call_isi (by rfl) T.n_isinstance (by decide +kernel) (pa_cons (pv 0) (pa_cons (pe_bltn (v := .ty "int") (by rfl) T.n_int (by decide +kernel) rfl) pa_nil))) (pe_one (pe_not (pe_callB call_isi (by rfl) T.n_isinstance (by decide +kernel) (pa_cons (pv 0) (pa_cons (pe_bltn (v := .ty "bool") (by rfl) T.n_bool (by decide +kernel) rfl) pa_nil)))))))), ?_⟩
    cases x with
    | int i => exact isi_q rfl (.base (.int i)) (b := true) (by decide +kernel) ⟨_, rfl, iteT (isi_q rfl (.base (.int i)) (b := false) (by decide +kernel) ⟨_, rfl, q⟩)⟩
    | bl b => exact isi_q rfl (.base (.bl b)) (b := true) (by decide +kernel) ⟨_, rfl, iteT (isi_q rfl (.base (.bl b)) (b := true) (by decide +kernel) ⟨_, rfl, q⟩)⟩
    | str z => exact isi_q rfl (.base (.str z)) (b := false) (by decide +kernel) ⟨_, rfl, iteF q⟩
    | non => exact isi_q rfl (.base .non) (b := false) (by decide +kernel) ⟨_, rfl, iteF q⟩
    | byt _ => cases fx
    | flt _ => cases fx
    | ref _ => cases fx
    | ty _ => cases fx
theorem sc_is_between : FnScope ["value", "low", "high"] ["value", "low", "high"] (defScope (top 9)) := ⟨rfl, rfl, rfl, by decide +kernel, rfl, by decide +kernel, by decide +kernel⟩
theorem has_is_between (D : Def K mg "is_between" ["value", "low", "high"] (top 9)) (C1 : Has P w K mg base 1 "is_whole" ["value"] spWhole) : Has P w K mg base 2 "is_between" ["value", "low", "high"] spBetween := D.has fun f fd F => by
  obtain ⟨f1, fd1, G_is_whole, g_is_whole, k_is_whole, b_is_whole⟩ := C1
  refine F.ok sc_is_between (fun vs H Q E h => ?_) (fun cdv A outer s H vs Q E hr h => ?_)
  · obtain ⟨x, lo, hi, rfl, _⟩ := h; rfl
  · obtain ⟨x, lo, hi, rfl, fx, q⟩ := h
    have R_is_whole : Room 1 _ := hr.mono (by decide)
    refine ⟨_, PSs.nox (pss_one (ps_ret (pe_and (pe_call G_is_whole R_is_whole (by rfl) g_is_whole k_is_whole b_is_whole .nil pass0 (pa_cons (pv 0) pa_nil)) (pe_one (pe_chain op_le op_le (pv 1) (pv 0) (pv 2)))))), ?_⟩
    refine ⟨_, rfl, x, rfl, fx, _, rfl, ?_⟩
    cases x with
    | int i =>
      refine iteT ⟨_, rfl, _, rfl, _, _, rfl, rfl, _, rfl, ?_⟩
      have q' : Q (.bl (decide (lo ≤ i) && decide (i ≤ hi))) H := q
      by_cases e : lo ≤ i
      · refine cT (decide_eq_true e) ⟨_, rfl, _, _, rfl, rfl, ?_⟩
        rw [decide_eq_true e] at q'
        exact q'
      · refine cF (decide_eq_false e) ?_
        rw [decide_eq_false e] at q'
        exact q'
    | bl b => exact iteF q
    | str z => exact iteF q
    | non => exact iteF q
    | byt _ => cases fx
    | flt _ => cases fx
    | ref _ => cases fx
    | ty _ => cases fx
end

/-! ### errors that fly on, errors raised in a suite -/
section
variable {X : Cx}
theorem passN : Passes (L2N.CX X.prog X.w) X E0 := fun _ _ _ _ _ _ _ ⟨_, _, _, _, _, _, _, _, _, _, _, _, z⟩ => z.elim
/-- raise X('m') where nothing is handled, its context told -/
theorem ps_raiseXN {x m : Str} {j : Nat} {p p2 pos pos' : Pos} {W : WX} (c : XC X.K X.mg x) (hc : X.calm = true) (tk : L2N.Takes X W) (hg : Gl X x) (hdb : (x == ("__debug__" : Str)) = false := by decide) :
    PS X (.Raise (some (.Call (.Name x p) [.Constant (.str m) j p2] [] pos)) none pos') (fun _ σ H => W (.ref (He.ga X.K x)) none σ H) :=
  L2N.ps_raise hc tk (L2N.pmk_own PySem.F.excBase_ValueError c.ex c.g c.k (raises_own c.b c.t) hg hdb)
/-- X('m'), its six fields told -/
theorem pmk5X {x m : Str} {j : Nat} {p p2 pos : Pos} (c : XC X.K X.mg x) (hg : Gl X x) (hdb : (x == ("__debug__" : Str)) = false := by decide) : L2H.PMk5 X (.Call (.Name x p) [.Constant (.str m) j p2] [] pos) (fun _ G Q => Q (.ref (He.ga X.K x)) none G) := by
  intro ps s0 τ G Q J hq
  have one : PA X [.Constant (.str m) j p2] (tCons (tC (.str m)) tNil) := pa_cons pe_str pa_nil
  have ran := one.run pos ps s0 τ G (fun ws G1 => ws = [V.str m] ∧ G = G1) J ⟨rfl, rfl⟩
  refine wpAny_Call_Name_kw (ld_glob J hg c.g (PySem.W.callWith_K (h₀ := X.base) J.ok.mod.kin c.k (thn ran fun us t1 told => ?_)) hdb)
  obtain ⟨ws, G1, J1, rel, e1, e2⟩ := told
  subst e1 e2
  refine ⟨J1.kIn, ?_⟩
  cases rel with
  | cons ra rb =>
    cases rb
    obtain ⟨w1, w2, w3, w4, w5, w6, w7, w8, w9, w10, w11, w12, w13, w14, w15, w16, w17, oC, oN, oI, oT⟩ := exc_obj J1.kIn c.ex
    exact wpAny_call_exc_subT PySem.F.excBase_ValueError oT oC oN oI (fun g e made => L2H.mk_of5 J1 made (raises_own c.b c.t) hq (J1.hok.gone made.new)) (by show 1 ≤ sizeLine; decide)
end
section
variable {P : Program} {w : World} {K : PySem.W.Frag} {mg : Str → Option Value} {base : Heap}
theorem ty_tup {H : Hp} {a : Addr} {xs : List V} (h : SqT K H a xs) : TyX K H (.ref a) (.type "tuple") := by
  rcases h with (h | ⟨o, h⟩) | ⟨o, its, n, h, c, _⟩
  · exact .base (.tup h)
  · exact .fTuple h
  · exact .kTuple h c
theorem ty_lst {H : Hp} {a : Addr} {xs : List V} (h : SqL K H a xs) : TyX K H (.ref a) (.type "list") := by
  rcases h with (h | ⟨o, h⟩) | ⟨o, its, n, hk, hc, _⟩
  · exact .base (.lst h)
  · exact .base (.frz h)
  · exact .kList hk hc
theorem hu65 {k : Nat} {A : Around} (r : Room k A) : A.units + 65 < cLine := by have := r.un; omega
def eNever : TE := fun _ _ _ => False
theorem pe_never {X : Cx} {e : Expr} : PE X e eNever := ⟨fun _ _ _ _ _ _ h => h.elim⟩
theorem cmulL {a : Nat} {j : Int} (h : a < 18446744073709551616) : CMul (a : Int) j := .inl ⟨by omega, by omega⟩
def spPower : Sp := fun vs H Q _ => ∃ b e : Nat, vs = [.int (b : Nat), .int (e : Nat)] ∧ 1 ≤ b ∧ b ^ e < 18446744073709551616 ∧ e ≤ 1000 ∧ Q (.int (b ^ e : Nat)) H
theorem sc_power : FnScope ["base", "exponent", "result", "_"] ["base", "exponent"] (defScope (top 10)) := ⟨rfl, rfl, rfl, by decide +kernel, rfl, by decide +kernel, by decide +kernel⟩
theorem has_power (D : Def K mg "power" ["base", "exponent"] (top 10)) (T : Txt mg) : Has P w K mg base 1 "power" ["base", "exponent"] spPower := D.has fun f fd F => by
  refine F.ok sc_power (fun vs H Q E h => ?_) (fun cdv A outer s H vs Q E hr h => ?_)
  · obtain ⟨b, e, rfl, _⟩ := h; rfl
  · obtain ⟨b, e, rfl, hb, hlt, he, q⟩ := h
    refine ⟨_, PSs.nox (pss_cons (ps_set (i := 2) sc_power.nd rfl (Or.inl rfl) pe_int) (pss_cons (ps_for PassesOwn.never rfl (pi_range1 (by rfl) T.n_range (pa_cons (pv 1) pa_nil)) (pg_name (i := 3) sc_power.nd rfl (Or.inl rfl)) (pss_one (ps_set (i := 2) sc_power.nd rfl (Or.inl rfl) (pe_op op_mul (pv 2) (pv 0))))) (pss_one (ps_ret (pv 2))))), ?_⟩
    refine ⟨_, rfl, e, rfl, by omega, by omega, for_range (n := e) (fun i σ H2 => ∃ y3, σ = [some (.int (b : Nat)), some (.int (e : Nat)), some (.int (b ^ i : Nat)), y3] ∧ H2 = H) ⟨none, rfl, rfl⟩ ?_ ?_⟩
    · rintro i σ H2 hi ⟨y3, rfl, rfl⟩
      have le : b ^ i ≤ b ^ e := Nat.pow_le_pow_right hb (by omega)
      refine ⟨_, rfl, _, rfl, _, _, rfl, rfl, cmulL (by omega), ?_⟩
      refine ⟨some (.int (0 + (i : Int))), ?_, rfl⟩
      rw [Nat.pow_succ, Int.natCast_mul]
      rfl
    · rintro σ H2 ⟨y3, rfl, rfl⟩
      exact ⟨_, rfl, q⟩
end
def DefM (K : PySem.W.Frag) (c m q : Str) (ps : List Str) (st : Stmt) : Prop := ∃ f fd, FunD K m q (defArgs st) (defBody st) (defScope st) [] [] f fd ∧ Meth K (He.ga K c) m f ∧ Binds K fd ps []
def HasM (P : Program) (w : World) (K : PySem.W.Frag) (mg : Str → Option Value) (base : Heap) (k : Nat) (c m : Str) (ps : List Str) (sp : Sp) : Prop :=
  ∃ f fd, FnOk P w K mg base CX0 k f fd ps sp ∧ Meth K (He.ga K c) m f ∧ Binds K fd ps []
theorem DefM.has {P : Program} {w : World} {K : PySem.W.Frag} {mg : Str → Option Value} {base : Heap} {c m q : Str} {ps : List Str} {st : Stmt} {k : Nat} {sp : Sp} (D : DefM K c m q ps st)
    (h : ∀ f fd, FunD K m q (defArgs st) (defBody st) (defScope st) [] [] f fd → FnOk P w K mg base CX0 k f fd ps sp) : HasM P w K mg base k c m ps sp := by
  obtain ⟨f, fd, F, g, b⟩ := D
  exact ⟨f, fd, h f fd F, g, b⟩
theorem mk_init {P : Program} {w : World} {K : PySem.W.Frag} {mg : Str → Option Value} {base : Heap} {g : Addr} {ps : List Str} {sp : Sp} {k : Nat} (M : Mk K (He.ga K "Structure") g) (h : HasM P w K mg base k "Structure" "__init__" ps sp) : ∃ f fd, Mk K (He.ga K "Structure") f ∧ FnOk P w K mg base CX0 k f fd ps sp ∧ Binds K fd ps [] := by
  obtain ⟨f, fd, F, m, b⟩ := h
  have e := m.at_.symm.trans M.init
  injection e with e
  injection e with e
  injection e with e
  subst e
  exact ⟨f, fd, M, F, b⟩
structure StC (K : PySem.W.Frag) : Prop where
  cls : Cls K (He.ga K "Structure")
  ns : NoAttr K (He.ga K "Structure") "size"
  nr : NoAttr K (He.ga K "Structure") "relations"
theorem Nm.short {z : Str} (n : Nm z) : z.length ≤ sizeLine := Nat.le_trans n.hi (by decide)
/-! ### the rows of a relation, kept -/
abbrev Wrl := (Str × Nat) × List (List Nat)
def wD (w : Wrl) : PyData := .tuple [.str w.1.1, .int w.1.2, .tuple (w.2.map rowD)]
theorem noL_wD (w : Wrl) : noL (wD w) = true := noL_tup (by rw [noLs_cons, noLs_cons, noLs_cons, noL_str, noL_int, noL_tup (rows_noL _), noLs]; rfl)
theorem ws_noL (l : List Wrl) : noLs (l.map wD) = true := noLs_all fun t ht => by
  obtain ⟨x, _, rfl⟩ := List.mem_map.mp ht
  exact noL_wD x
/-- rows of a relation of arity k on n elements -/
def RowsOk (n k : Nat) (R : List (List Nat)) : Prop := ∀ r, r ∈ R → r.length = k ∧ ∀ x, x ∈ r → x < n
def intR (r : List Nat) : List Int := r.map fun x => ((x : Nat) : Int)
theorem rowV_int (r : List Nat) : rowV r = (intR r).map V.int := by
  unfold rowV intR
  rw [List.map_map]; rfl
def natR (r : List Int) : List Nat := r.map Int.toNat
theorem natR_int (r : List Nat) : natR (intR r) = r := by
  unfold natR intR
  rw [List.map_map]
  exact List.map_id'' (fun x => Int.toNat_natCast x) r
theorem intR_inj {r s : List Nat} (h : intR r = intR s) : r = s := by
  rw [← natR_int r, h, natR_int]
/-- the tuples that stand in a list: where they lie and what they hold -/
theorem rows_ks {H : Hp} : ∀ {xs : List V} {R : List (List Nat)}, RowsT H xs R → ∃ ks : List (Addr × List Int), xs = ks.map (fun p => V.ref p.1) ∧ ks.map (·.2) = R.map intR ∧ ∀ p ∈ ks, H p.1 = some (.tup (p.2.map V.int))
  | _, _, .nil => ⟨[], rfl, rfl, fun p hp => nomatch hp⟩
  | _, _, .cons (t := t) (r := r) e q => by
    obtain ⟨ks, e1, e2, hk⟩ := rows_ks q
    refine ⟨(t, intR r) :: ks, by rw [e1]; rfl, by rw [List.map_cons, e2]; rfl, fun p hp => ?_⟩
    rcases List.mem_cons.mp hp with rfl | hp
    · rw [rowV_int] at e; exact e
    · exact hk p hp
theorem ks_rows {H : Hp} : ∀ {ks : List (Addr × List Int)} {R : List (List Nat)}, ks.map (·.2) = R.map intR → (∀ p ∈ ks, H p.1 = some (.tup (p.2.map V.int))) → RowsT H (ks.map fun p => V.ref p.1) R
  | [], [], _, _ => .nil
  | [], r :: R, e, _ => by cases e
  | p :: ks, [], e, _ => by cases e
  | p :: ks, r :: R, e, hk => by
    rw [List.map_cons, List.map_cons] at e
    injection e with e1 e2
    have h1 := hk p List.mem_cons_self
    rw [e1, ← rowV_int] at h1
    exact .cons h1 (ks_rows e2 fun q hq => hk q (List.mem_cons_of_mem _ hq))
/-- J has the rows of R, each once -/
structure KeptOf (R J : List (List Nat)) : Prop where
  mem : ∀ r, r ∈ J ↔ r ∈ R
  nd : J.Nodup
  asc : J.Pairwise fun r s => TS.code 64 (intR r) ≤ TS.code 64 (intR s)
  few : J.length < 64
theorem kept_of {R : List (List Nat)} {ks L L' : List (Addr × List Int)} (e : ks.map (·.2) = R.map intR) (s1 : ∀ p ∈ L, p ∈ ks) (s2 : ∀ p ∈ ks, p.2 ∈ L.map (·.2)) (pm : L'.Perm L) (nd : (L'.map (·.2)).Nodup) (few : L'.length < 64)
    (pw : L'.Pairwise fun q r => TS.code 64 q.2 ≤ TS.code 64 r.2) : ∃ J : List (List Nat), L'.map (·.2) = J.map intR ∧ KeptOf R J := by
  have mem : ∀ p ∈ L', ∃ r ∈ R, p.2 = intR r := fun p hp => by
    have h1 : p.2 ∈ ks.map (·.2) := List.mem_map.mpr ⟨p, s1 p (pm.mem_iff.mp hp), rfl⟩
    rw [e] at h1
    obtain ⟨r, hr, e2⟩ := List.mem_map.mp h1
    exact ⟨r, hr, e2.symm⟩
  have eJ : L'.map (·.2) = (L'.map fun p => natR p.2).map intR := by
    rw [List.map_map]
    refine List.map_congr_left fun p hp => ?_
    obtain ⟨r, _, e2⟩ := mem p hp
    show p.2 = intR (natR p.2)
    rw [e2, natR_int]
  refine ⟨L'.map fun p => natR p.2, eJ, fun r => ⟨fun hr => ?_, fun hr => ?_⟩, ?_, ?_, by rw [List.length_map]; exact few⟩
  · obtain ⟨p, hp, rfl⟩ := List.mem_map.mp hr
    obtain ⟨q, hq, e2⟩ := mem p hp
    rw [e2, natR_int]; exact hq
  · have h1 : intR r ∈ ks.map (·.2) := by rw [e]; exact List.mem_map.mpr ⟨r, hr, rfl⟩
    obtain ⟨p, hp, e2⟩ := List.mem_map.mp h1
    have h2 := s2 p hp
    obtain ⟨q, hq, e3⟩ := List.mem_map.mp h2
    refine List.mem_map.mpr ⟨q, pm.mem_iff.mpr hq, ?_⟩
    show natR q.2 = r
    rw [e3, e2, natR_int]
  · rw [eJ] at nd
    exact (List.Pairwise.of_map intR (fun a b hab e => hab (by rw [e])) nd)
  · rw [List.pairwise_map]
    refine List.Pairwise.imp_of_mem (fun {p q} hp hq h => ?_) pw
    obtain ⟨r, _, e2⟩ := mem p hp
    obtain ⟨s, _, e3⟩ := mem q hq
    rw [e2, e3] at h ⊢
    rw [natR_int, natR_int]; exact h
def spKeptRow (K : PySem.W.Frag) : Sp := fun vs H Q _ => ∃ (t : Addr) (r : List Nat) (n : Nat), vs = [.ref t, .int (n : Nat), .int (r.length : Nat)] ∧ SqT K H t (rowV r) ∧ (∀ x, x ∈ r → x < n) ∧ Q (.ref t) H
/-- rows may stand in a list or a tuple -/
def SqA (K : PySem.W.Frag) (H : Hp) (a : Addr) (xs : List V) : Prop := SqL K H a xs ∨ SqT K H a xs
/-- v is a relation: a tuple of its name, its arity, a tuple of its rows -/
def RelR (K : PySem.W.Frag) (H : Hp) (v : V) (z : Wrl) : Prop := ∃ (t b : Addr) (xs : List V), v = .ref t ∧ SqT K H t [.str z.1.1, .int (z.1.2 : Nat), .ref b] ∧ SqT K H b xs ∧ RowsT H xs z.2
theorem RelR.dp {K : PySem.W.Frag} {H : Hp} {v : V} {z : Wrl} (h : RelR K H v z) : Dp K H v (wD z) := by
  obtain ⟨t, b, xs, rfl, h1, h2, h3⟩ := h
  exact .tup h1 (.cons (.str _) (.cons (.int _) (.cons (.tup h2 h3.dp) .nil)))
inductive RelL (K : PySem.W.Frag) (H : Hp) : List V → List Wrl → Prop
  | nil : RelL K H [] []
  | cons {v : V} {z : Wrl} {ys : List V} {J : List Wrl} : RelR K H v z → RelL K H ys J → RelL K H (v :: ys) (z :: J)
section
variable {K : PySem.W.Frag} {H H' : Hp}
theorem RelL.length : ∀ {ys : List V} {J : List Wrl}, RelL K H ys J → ys.length = J.length
  | _, _, .nil => rfl
  | _, _, .cons _ r => congrArg Nat.succ (RelL.length r)
theorem RelL.dp : ∀ {ys : List V} {J : List Wrl}, RelL K H ys J → DpAll K H ys (J.map wD)
  | _, _, .nil => .nil
  | _, _, .cons e r => .cons e.dp (RelL.dp r)
theorem RelL.append : ∀ {xs ys : List V} {I J : List Wrl}, RelL K H xs I → RelL K H ys J → RelL K H (xs ++ ys) (I ++ J)
  | _, _, _, _, .nil, h => h
  | _, _, _, _, .cons e r, h => .cons e (RelL.append r h)
theorem RelL.get' : ∀ {ys : List V} {J : List Wrl} {i : Nat} {v : V}, RelL K H ys J → ys[i]? = some v → ∃ z, J[i]? = some z ∧ RelR K H v z
  | _, _, i, v, .nil, h => by simp at h
  | _, _, 0, v, .cons e r, h => by
    have z := Option.some.inj h
    subst z
    exact ⟨_, rfl, e⟩
  | _, _, i + 1, v, .cons e r, h => RelL.get' (i := i) r h
theorem RelR.keep (k1 : ∀ a xs, SqT K H a xs → SqT K H' a xs) (k2 : ∀ t xs, H t = some (.tup xs) → H' t = some (.tup xs)) {v : V} {z : Wrl} (h : RelR K H v z) : RelR K H' v z := by
  obtain ⟨t, b, xs, rfl, h1, h2, h3⟩ := h
  exact ⟨t, b, xs, rfl, k1 _ _ h1, k1 _ _ h2, h3.keep k2⟩
theorem RelL.keep (k1 : ∀ a xs, SqT K H a xs → SqT K H' a xs) (k2 : ∀ t xs, H t = some (.tup xs) → H' t = some (.tup xs)) : ∀ {ys : List V} {J : List Wrl}, RelL K H ys J → RelL K H' ys J
  | _, _, .nil => .nil
  | _, _, .cons e r => .cons (e.keep k1 k2) (RelL.keep k1 k2 r)
theorem RelL.same (s : Same H H') {ys : List V} {J : List Wrl} (h : RelL K H ys J) : RelL K H' ys J := h.keep (fun _ _ q => Same.sqt s q) fun _ _ e => s _ _ e
theorem Kl.sqT (k : Kl H H') {a : Addr} {xs : List V} (h : SqT K H a xs) : SqT K H' a xs := by
  rcases h with (h | ⟨o, h⟩) | h
  · exact .inl (.inl (k _ _ h fun _ z => nomatch z))
  · exact .inl (.inr ⟨o, k _ _ h fun _ z => nomatch z⟩)
  · exact .inr h
theorem RelL.kl (k : Kl H H') {ys : List V} {J : List Wrl} (h : RelL K H ys J) : RelL K H' ys J := h.keep (fun _ _ q => Kl.sqT k q) fun _ _ e => k _ _ e fun _ z => nomatch z
end
def spKeptRel (K : PySem.W.Frag) : Sp := fun vs H Q _ => ∃ (t b : Addr) (xs : List V) (n k : Nat) (nm : Str) (R : List (List Nat)), vs = [.ref t, .int (n : Nat)] ∧ SqT K H t [.str nm, .int (k : Nat), .ref b] ∧ SqA K H b xs ∧ RowsT H xs R ∧ RowsOk n k R ∧ R.length < 64 ∧ Nm nm ∧ k ≤ 6 ∧ 1 ≤ n ∧ n ≤ 16 ∧ n ^ k ≤ 4096 ∧
  ∀ (H' : Hp) (p : Addr) (J : List (List Nat)), Same H H' → H p = none → RelR K H' (.ref p) ((nm, k), J) → KeptOf R J → Q (.ref p) H'
section
variable {P : Program} {w : World} {K : PySem.W.Frag} {mg : Str → Option Value} {base : Heap}
theorem sc_kept_row : FnScope ["row", "size", "arity", "element"] ["row", "size", "arity"] (defScope (top 21)) := ⟨rfl, rfl, rfl, by decide +kernel, rfl, by decide +kernel, by decide +kernel⟩
theorem has_kept_row (D : Def K mg "_kept_row" ["row", "size", "arity"] (top 21)) (T : Txt mg) (BS : XC K mg "BadStructure") (C1 : Has P w K mg base 2 "is_between" ["value", "low", "high"] spBetween) : Has P w K mg base 3 "_kept_row" ["row", "size", "arity"] (spKeptRow K) := D.has fun f fd F => by
  obtain ⟨f1, fd1, G_is_between, g_is_between, k_is_between, b_is_between⟩ := C1
  refine F.ok sc_kept_row (fun vs H Q E h => ?_) (fun cdv A outer s H vs Q E hr h => ?_)
  · obtain ⟨t, r, n, rfl, _⟩ := h; rfl
  · obtain ⟨t, r, n, rfl, hT, hx, q⟩ := h
    have R_is_between : Room 2 _ := hr
    refine ⟨_, PSs.nox (pss_cons (ps_if (PW.pt (pw_or (pt_not (pt_val (pe_callB call_isi (by rfl) T.n_isinstance (by decide +kernel) (pa_cons (pv 0) (pa_cons (pe_bltn (v := .ty "tuple") (by rfl) T.n_tuple (by decide +kernel) rfl) pa_nil))))) (pw_or1 (pt_cmpR op_ne (pe_callB call_len_seq (by rfl) T.n_len PySem.boot_len (pa_cons (pv 0) pa_nil)) (pv 2) (nomark _))))) pss_never pss_nil) (pss_cons (ps_for PassesOwn.never rfl (pi_tup (pv 0)) (pg_name (i := 3) sc_kept_row.nd rfl (Or.inl rfl)) (pss_one (ps_if (pt_not (pt_val (pe_call G_is_between R_is_between (by rfl) g_is_between k_is_between b_is_between .nil pass0 (pa_cons (pv 3) (pa_cons pe_int (pa_cons (pe_op op_sub (pv 1) pe_int) pa_nil)))))) pss_never pss_nil))) (pss_one (ps_ret (pv 0))))), ?_⟩
    refine ⟨_, rfl, _, _, _, _, _, rfl, .ty _, ty_tup hT, kit_ty (b := "tuple") (r := true) (by decide +kernel), _, rfl, iteF ?_⟩
    refine ⟨_, rfl, t, _, rfl, .inr hT, _, rfl, rfl, _, rfl, ?_⟩
    refine cF (k := !decide (V.int (((rowV r).length : Nat) : Int) = V.int (r.length : Nat))) (nd_f (by rw [rowV, List.length_map])) ?_
    refine ⟨_, rfl, t, rfl, ⟨_, hT⟩, for_tup (K := K) (a := t) (xs := rowV r) (fun i σ H2 => ∃ y3, σ = [some (.ref t), some (.int (n : Nat)), some (.int (r.length : Nat)), y3] ∧ H2 = H) ⟨none, rfl, rfl⟩ (fun i σ H2 _ ⟨_, _, e⟩ => e ▸ hT) ?_ ?_⟩
    · rintro i y σ H2 hi ⟨y3, rfl, rfl⟩
      obtain ⟨x, hx2, rfl⟩ := get_map hi
      have lt := hx x (List.mem_of_getElem? hx2)
      refine ⟨_, rfl, _, rfl, _, _, rfl, rfl, _, 0, _, rfl, rfl, _, rfl, ?_⟩
      refine cF (k := !btw 0 ((n : Nat) - 1) (V.int (x : Nat))) (by
        show (!(decide ((0 : Int) ≤ (x : Nat)) && decide (((x : Nat) : Int) ≤ (n : Nat) - 1))) = false
        rw [decide_eq_true (by omega), decide_eq_true (by omega)]; rfl) ?_
      exact ⟨_, rfl, rfl⟩
    · rintro σ H2 ⟨y3, rfl, rfl⟩
      exact ⟨_, rfl, q⟩
/- kept_relation -/
theorem hu65' {k : Nat} {A : Around} (r : Room k A) : A.units + 64 < cLine := by have := r.un; omega
theorem sc_kept_rel : FnScope ["relation", "size", "name", "arity", "rows", "kept", "row"] ["relation", "size"] (defScope (top 22)) := ⟨rfl, rfl, rfl, by decide +kernel, rfl, by decide +kernel, by decide +kernel⟩
theorem has_kept_rel (D : Def K mg "_kept_relation" ["relation", "size"] (top 22)) (T : Txt mg) (BS : XC K mg "BadStructure") (k1 : ∃ t, mg "LARGEST_ARITY" = some (.int 6 t)) (k2 : ∃ t, mg "MOST_ROWS" = some (.int 4096 t)) (C1 : Has P w K mg base 2 "is_between" ["value", "low", "high"] spBetween) (C2 : Has P w K mg base 1 "is_name" ["text"] (spIsName K)) (C3 : Has P w K mg base 1 "power" ["base", "exponent"] spPower) (C4 : Has P w K mg base 3 "_kept_row" ["row", "size", "arity"] (spKeptRow K)) : Has P w K mg base 4 "_kept_relation" ["relation", "size"] (spKeptRel K) := D.has fun f fd F => by
  obtain ⟨f1, fd1, G_is_between, g_is_between, k_is_between, b_is_between⟩ := C1
  obtain ⟨f2, fd2, G_is_name, g_is_name, k_is_name, b_is_name⟩ := C2
  obtain ⟨f3, fd3, G_power, g_power, k_power, b_power⟩ := C3
  obtain ⟨f4, fd4, G_kept_row, g_kept_row, k_kept_row, b_kept_row⟩ := C4
  obtain ⟨t1, c_LARGEST_ARITY⟩ := k1
  obtain ⟨t2, c_MOST_ROWS⟩ := k2
  refine F.ok sc_kept_rel (fun vs H Q E h => ?_) (fun cdv A outer s H vs Q E hr h => ?_)
  · obtain ⟨t, b, xs, n, k, nm, R, rfl, _⟩ := h; rfl
  · obtain ⟨t, b, xs, n, k, nm, R, rfl, hT, hB, dx, rok, lR, nn, k6, n1, n16, nk, q⟩ := h
    have R_is_between : Room 2 _ := hr.mono (by decide)
    have R_is_name : Room 1 _ := hr.mono (by decide)
    have R_power : Room 1 _ := hr.mono (by decide)
    have R_kept_row : Room 3 _ := hr
    rcases hB with hB | hB
    · refine ⟨_, PSs.nox (pss_cons (ps_if (PW.pt (pw_or (pt_not (pt_val (pe_callB call_isi (by rfl) T.n_isinstance (by decide +kernel) (pa_cons (pv 0) (pa_cons (pe_bltn (v := .ty "tuple") (by rfl) T.n_tuple (by decide +kernel) rfl) pa_nil))))) (pw_or1 (pt_cmpR op_ne (pe_callB call_len_seq (by rfl) T.n_len PySem.boot_len (pa_cons (pv 0) pa_nil)) pe_int (nomark _))))) pss_never pss_nil) (pss_cons (ps_asg (pv 0) (pg_tup rfl (pgs_cons (pg_name (i := 2) sc_kept_rel.nd rfl (Or.inl rfl)) (pgs_cons (pg_name (i := 3) sc_kept_rel.nd rfl (Or.inr rfl)) (pgs_cons (pg_name (i := 4) sc_kept_rel.nd rfl (Or.inl rfl)) pgs_nil))))) (pss_cons (ps_if (pt_not (pt_val (pe_call G_is_name R_is_name (by rfl) g_is_name k_is_name b_is_name .nil pass0 (pa_cons (pv 2) pa_nil)))) pss_never pss_nil) (pss_cons (ps_if (PW.pt (pw_or (pt_not (pt_val (pe_call G_is_between R_is_between (by rfl) g_is_between k_is_between b_is_between .nil pass0 (pa_cons (pv 3) (pa_cons pe_int (pa_cons (pe_glob (v := .int 6) (by rfl) c_LARGEST_ARITY ⟨_, rfl⟩) pa_nil)))))) (pw_or1 (pt_cmpR op_gt (pe_call G_power R_power (by rfl) g_power k_power b_power .nil pass0 (pa_cons (pv 1) (pa_cons (pv 3) pa_nil))) (pe_glob (v := .int 4096) (by rfl) c_MOST_ROWS ⟨_, rfl⟩) (nomark _))))) pss_never pss_nil) (pss_cons (ps_if (pt_not (pt_val (pe_callB call_isiT (by rfl) T.n_isinstance (by decide +kernel) (pa_cons (pv 4) (pa_cons (pe_tup (pa_cons (pe_bltn (v := .ty "list") (by rfl) T.n_list (by decide +kernel) rfl) (pa_cons (pe_bltn (v := .ty "tuple") (by rfl) T.n_tuple (by decide +kernel) rfl) pa_nil))) pa_nil))))) pss_never pss_nil) (pss_cons (ps_setLc (i := 5) (own := [("row", 6)]) rfl sc_kept_rel.nd rfl rfl (sw_true rfl rfl rfl (by decide +kernel)) (pi_list (pv 4)) (blkOk_by (N := ["relation", "size", "name", "arity", "rows", "kept", "row"]) (sc := defScope (top 22)) (by decide +kernel)) (fun _ _ _ _ _ => (pg_name (i := 6) sc_kept_rel.nd rfl (Or.inl rfl))) (fun _ _ _ _ _ => pts_nil) (fun _ _ _ _ _ => (pe_call G_kept_row R_kept_row (by rfl) g_kept_row k_kept_row b_kept_row .nil pass0 (pa_cons (pv 6) (pa_cons (pv 1) (pa_cons (pv 3) pa_nil)))))) (pss_one (ps_ret (pe_tup (pa_cons (pv 2) (pa_cons (pv 3) (pa_cons (pe_callTy call_tuple_of (by rfl) T.n_tuple (by decide +kernel) (pa_cons (pe_callB (cr_sortedN rfl) (by rfl) T.n_sorted (by decide +kernel) (pa_cons (pe_callTy (cr_setOfT rfl (hu65' hr)) (by rfl) T.n_set (by decide +kernel) (pa_cons (pv 5) pa_nil)) pa_nil)) pa_nil)) pa_nil)))))))))))), ?_⟩
      refine ⟨_, rfl, _, _, _, _, _, rfl, .ty _, ty_tup hT, kit_ty (b := "tuple") (r := true) (by decide +kernel), _, rfl, iteF ?_⟩
      refine ⟨_, rfl, t, _, rfl, .inr hT, rfl, _, rfl, cF (k := !decide (V.int (([.str nm, .int (k : Nat), .ref b] : List V).length : Nat) = V.int 3)) (nd_f rfl) ?_⟩
      refine ⟨_, rfl, t, _, rfl, hT, rfl, _, _, rfl, _, _, rfl, _, _, rfl, rfl, ?_⟩
      refine ⟨_, rfl, .inl ⟨nm, rfl, nn.short, _, rfl, ?_⟩⟩
      refine cF (k := !isNm nm) (by rw [isNm_t nn]; rfl) ?_
      refine ⟨_, rfl, _, 0, 6, rfl, rfl, _, rfl, ?_⟩
      have bt : btw 0 6 (V.int (k : Nat)) = true := by
        show (decide ((0 : Int) ≤ (k : Nat)) && decide (((k : Nat) : Int) ≤ 6)) = true
        rw [decide_eq_true (by omega), decide_eq_true (by omega)]; rfl
      rw [bt]
      refine iteF ?_
      refine ⟨_, rfl, _, rfl, n, k, rfl, n1, by omega, by omega, _, _, rfl, rfl, _, rfl, ?_⟩
      refine cF (k := decide ((4096 : Int) < ((n ^ k : Nat) : Int))) (decide_eq_false (by omega)) ?_
      refine ⟨_, rfl, (by show 2 ≤ sizeLine; decide), fun tp np => ?_⟩
      have sp0 := same_upd (o := .tup [.ty "list", .ty "tuple"]) np
      refine ⟨_, tp, _, _, _, true, rfl, upd_same, .cons (.ty _) (.cons (.ty _) .nil), ty_lst (sp0.seq hB), kitAny_cons (b := true) (kit_ty (by decide +kernel)) (fun h => nomatch h) (fun _ => rfl), _, rfl, cF (k := !true) rfl ?_⟩
      refine ⟨_, rfl, b, rfl, ⟨_, sp0.seq hB⟩, fun M nM => ?_⟩
      generalize upd H tp (.tup [.ty "list", .ty "tuple"]) = H1 at *
      have hB1 := sp0.seq hB
      refine lc_it (walk_list (K := K) (a := b) (xs := xs)) (fun i H2 => Same H1 H2 ∧ H2 M = some (.lst (xs.take i))) ⟨same_upd nM, upd_same⟩ (fun i H2 _ ⟨s2, _⟩ => s2.seq hB1) ?_ ?_
      · rintro i y H2 H3 hi ⟨s2, hM⟩ ⟨rfl, hy⟩
        obtain ⟨u, r, rfl, hr2, hu⟩ := RowsT.get' dx hy
        obtain ⟨rl, rb⟩ := rok r (List.mem_of_getElem? hr2)
        refine ⟨rfl, _, rfl, _, rfl, _, rfl, u, r, n, by rw [rl]; rfl, SqT.of ((sp0.trans s2) _ _ hu), rb, ?_⟩
        have lt := (List.getElem?_eq_some_iff.mp hy).1
        have lx := RowsT.length dx
        refine ⟨xs.take i, hM, small1000 (Nat.le_trans (List.length_take_le' i xs) (by omega)), fun c o e => (upd_ne (ne_of_none e nM)).trans (s2 _ _ e), ?_⟩
        rw [upd_same, List.take_add_one, hy]; rfl
      · rintro H2 ⟨s2, hM⟩
        rw [List.take_length] at hM
        have lx := RowsT.length dx
        have s02 := sp0.trans s2
        obtain ⟨ks, e1, e2, hk⟩ := rows_ks (RowsT.same s02 dx)
        have lk : ks.length = xs.length := by rw [e1, List.length_map]
        have bd : ∀ p ∈ ks, p.2.length = k ∧ TS.Bd 64 p.2 := fun p hp => by
          have h1 : p.2 ∈ ks.map (·.2) := List.mem_map.mpr ⟨p, hp, rfl⟩
          rw [e2] at h1
          obtain ⟨r, hr3, e3⟩ := List.mem_map.mp h1
          obtain ⟨rl, rb⟩ := rok r hr3
          rw [← e3]
          refine ⟨by unfold intR; rw [List.length_map]; exact rl, fun m hm => ?_⟩
          obtain ⟨x, hx3, rfl⟩ := List.mem_map.mp hm
          have := rb x hx3
          omega
        refine ⟨_, rfl, _, rfl, _, rfl, M, ks, rfl, SqL.of (by rw [hM, e1]), fun p hp => SqT.of (hk p hp), by omega, fun a L na z1 z2 => ?_⟩
        have sa := same_upd (o := SetTO P w a L) na
        refine ⟨a, L, k, 64, rfl, upd_same, fun p hp => SqT.of (sa _ _ (hk p (z1 p hp))), fun p hp => bd p (z1 p hp), fun L' p pm nd few pw np => ?_⟩
        have sp := same_upd (o := .lst (L'.map fun q => V.ref q.1)) np
        refine ⟨p, _, rfl, .inl ⟨SqL.of upd_same, fun l nl => ?_⟩⟩
        have sl := same_upd (o := .tup (L'.map fun q => V.ref q.1)) nl
        refine ⟨(by show 3 ≤ sizeLine; decide), fun v nv => ?_⟩
        have sv := same_upd (o := .tup [.str nm, .int (k : Nat), .ref l]) nv
        obtain ⟨J, eJ, kept⟩ := kept_of e2 z1 z2 pm nd few pw
        have sall := ((sa.trans sp).trans sl).trans sv
        refine q _ v J (s02.trans sall) (Same.none (((s02.trans sa).trans sp).trans sl) nv) ?_ kept
        exact ⟨v, l, _, rfl, SqT.of upd_same, SqT.of (sv _ _ upd_same), ks_rows eJ fun p hp => sall _ _ (hk p (z1 p (pm.mem_iff.mp hp)))⟩
    · refine ⟨_, PSs.nox (pss_cons (ps_if (PW.pt (pw_or (pt_not (pt_val (pe_callB call_isi (by rfl) T.n_isinstance (by decide +kernel) (pa_cons (pv 0) (pa_cons (pe_bltn (v := .ty "tuple") (by rfl) T.n_tuple (by decide +kernel) rfl) pa_nil))))) (pw_or1 (pt_cmpR op_ne (pe_callB call_len_seq (by rfl) T.n_len PySem.boot_len (pa_cons (pv 0) pa_nil)) pe_int (nomark _))))) pss_never pss_nil) (pss_cons (ps_asg (pv 0) (pg_tup rfl (pgs_cons (pg_name (i := 2) sc_kept_rel.nd rfl (Or.inl rfl)) (pgs_cons (pg_name (i := 3) sc_kept_rel.nd rfl (Or.inr rfl)) (pgs_cons (pg_name (i := 4) sc_kept_rel.nd rfl (Or.inl rfl)) pgs_nil))))) (pss_cons (ps_if (pt_not (pt_val (pe_call G_is_name R_is_name (by rfl) g_is_name k_is_name b_is_name .nil pass0 (pa_cons (pv 2) pa_nil)))) pss_never pss_nil) (pss_cons (ps_if (PW.pt (pw_or (pt_not (pt_val (pe_call G_is_between R_is_between (by rfl) g_is_between k_is_between b_is_between .nil pass0 (pa_cons (pv 3) (pa_cons pe_int (pa_cons (pe_glob (v := .int 6) (by rfl) c_LARGEST_ARITY ⟨_, rfl⟩) pa_nil)))))) (pw_or1 (pt_cmpR op_gt (pe_call G_power R_power (by rfl) g_power k_power b_power .nil pass0 (pa_cons (pv 1) (pa_cons (pv 3) pa_nil))) (pe_glob (v := .int 4096) (by rfl) c_MOST_ROWS ⟨_, rfl⟩) (nomark _))))) pss_never pss_nil) (pss_cons (ps_if (pt_not (pt_val (pe_callB call_isiT (by rfl) T.n_isinstance (by decide +kernel) (pa_cons (pv 4) (pa_cons (pe_tup (pa_cons (pe_bltn (v := .ty "list") (by rfl) T.n_list (by decide +kernel) rfl) (pa_cons (pe_bltn (v := .ty "tuple") (by rfl) T.n_tuple (by decide +kernel) rfl) pa_nil))) pa_nil))))) pss_never pss_nil) (pss_cons (ps_setLc (i := 5) (own := [("row", 6)]) rfl sc_kept_rel.nd rfl rfl (sw_true rfl rfl rfl (by decide +kernel)) (pi_tup (pv 4)) (blkOk_by (N := ["relation", "size", "name", "arity", "rows", "kept", "row"]) (sc := defScope (top 22)) (by decide +kernel)) (fun _ _ _ _ _ => (pg_name (i := 6) sc_kept_rel.nd rfl (Or.inl rfl))) (fun _ _ _ _ _ => pts_nil) (fun _ _ _ _ _ => (pe_call G_kept_row R_kept_row (by rfl) g_kept_row k_kept_row b_kept_row .nil pass0 (pa_cons (pv 6) (pa_cons (pv 1) (pa_cons (pv 3) pa_nil)))))) (pss_one (ps_ret (pe_tup (pa_cons (pv 2) (pa_cons (pv 3) (pa_cons (pe_callTy call_tuple_of (by rfl) T.n_tuple (by decide +kernel) (pa_cons (pe_callB (cr_sortedN rfl) (by rfl) T.n_sorted (by decide +kernel) (pa_cons (pe_callTy (cr_setOfT rfl (hu65' hr)) (by rfl) T.n_set (by decide +kernel) (pa_cons (pv 5) pa_nil)) pa_nil)) pa_nil)) pa_nil)))))))))))), ?_⟩
      refine ⟨_, rfl, _, _, _, _, _, rfl, .ty _, ty_tup hT, kit_ty (b := "tuple") (r := true) (by decide +kernel), _, rfl, iteF ?_⟩
      refine ⟨_, rfl, t, _, rfl, .inr hT, rfl, _, rfl, cF (k := !decide (V.int (([.str nm, .int (k : Nat), .ref b] : List V).length : Nat) = V.int 3)) (nd_f rfl) ?_⟩
      refine ⟨_, rfl, t, _, rfl, hT, rfl, _, _, rfl, _, _, rfl, _, _, rfl, rfl, ?_⟩
      refine ⟨_, rfl, .inl ⟨nm, rfl, nn.short, _, rfl, ?_⟩⟩
      refine cF (k := !isNm nm) (by rw [isNm_t nn]; rfl) ?_
      refine ⟨_, rfl, _, 0, 6, rfl, rfl, _, rfl, ?_⟩
      have bt : btw 0 6 (V.int (k : Nat)) = true := by
        show (decide ((0 : Int) ≤ (k : Nat)) && decide (((k : Nat) : Int) ≤ 6)) = true
        rw [decide_eq_true (by omega), decide_eq_true (by omega)]; rfl
      rw [bt]
      refine iteF ?_
      refine ⟨_, rfl, _, rfl, n, k, rfl, n1, by omega, by omega, _, _, rfl, rfl, _, rfl, ?_⟩
      refine cF (k := decide ((4096 : Int) < ((n ^ k : Nat) : Int))) (decide_eq_false (by omega)) ?_
      refine ⟨_, rfl, (by show 2 ≤ sizeLine; decide), fun tp np => ?_⟩
      have sp0 := same_upd (o := .tup [.ty "list", .ty "tuple"]) np
      refine ⟨_, tp, _, _, _, true, rfl, upd_same, .cons (.ty _) (.cons (.ty _) .nil), ty_tup (Same.sqt sp0 hB), kitAny_cons (b := false) (kit_ty (by decide +kernel)) (fun _ => kitAny_cons (b := true) (kit_ty (by decide +kernel)) (fun h => nomatch h) (fun _ => rfl)) (fun h => nomatch h), _, rfl, cF (k := !true) rfl ?_⟩
      refine ⟨_, rfl, b, rfl, ⟨_, Same.sqt sp0 hB⟩, fun M nM => ?_⟩
      generalize upd H tp (.tup [.ty "list", .ty "tuple"]) = H1 at *
      have hB1 := Same.sqt sp0 hB
      refine lc_it (walk_tup (K := K) (a := b) (xs := xs)) (fun i H2 => Same H1 H2 ∧ H2 M = some (.lst (xs.take i))) ⟨same_upd nM, upd_same⟩ (fun i H2 _ ⟨s2, _⟩ => Same.sqt s2 hB1) ?_ ?_
      · rintro i y H2 H3 hi ⟨s2, hM⟩ ⟨rfl, hy⟩
        obtain ⟨u, r, rfl, hr2, hu⟩ := RowsT.get' dx hy
        obtain ⟨rl, rb⟩ := rok r (List.mem_of_getElem? hr2)
        refine ⟨rfl, _, rfl, _, rfl, _, rfl, u, r, n, by rw [rl]; rfl, SqT.of ((sp0.trans s2) _ _ hu), rb, ?_⟩
        have lt := (List.getElem?_eq_some_iff.mp hy).1
        have lx := RowsT.length dx
        refine ⟨xs.take i, hM, small1000 (Nat.le_trans (List.length_take_le' i xs) (by omega)), fun c o e => (upd_ne (ne_of_none e nM)).trans (s2 _ _ e), ?_⟩
        rw [upd_same, List.take_add_one, hy]; rfl
      · rintro H2 ⟨s2, hM⟩
        rw [List.take_length] at hM
        have lx := RowsT.length dx
        have s02 := sp0.trans s2
        obtain ⟨ks, e1, e2, hk⟩ := rows_ks (RowsT.same s02 dx)
        have lk : ks.length = xs.length := by rw [e1, List.length_map]
        have bd : ∀ p ∈ ks, p.2.length = k ∧ TS.Bd 64 p.2 := fun p hp => by
          have h1 : p.2 ∈ ks.map (·.2) := List.mem_map.mpr ⟨p, hp, rfl⟩
          rw [e2] at h1
          obtain ⟨r, hr3, e3⟩ := List.mem_map.mp h1
          obtain ⟨rl, rb⟩ := rok r hr3
          rw [← e3]
          refine ⟨by unfold intR; rw [List.length_map]; exact rl, fun m hm => ?_⟩
          obtain ⟨x, hx3, rfl⟩ := List.mem_map.mp hm
          have := rb x hx3
          omega
        refine ⟨_, rfl, _, rfl, _, rfl, M, ks, rfl, SqL.of (by rw [hM, e1]), fun p hp => SqT.of (hk p hp), by omega, fun a L na z1 z2 => ?_⟩
        have sa := same_upd (o := SetTO P w a L) na
        refine ⟨a, L, k, 64, rfl, upd_same, fun p hp => SqT.of (sa _ _ (hk p (z1 p hp))), fun p hp => bd p (z1 p hp), fun L' p pm nd few pw np => ?_⟩
        have sp := same_upd (o := .lst (L'.map fun q => V.ref q.1)) np
        refine ⟨p, _, rfl, .inl ⟨SqL.of upd_same, fun l nl => ?_⟩⟩
        have sl := same_upd (o := .tup (L'.map fun q => V.ref q.1)) nl
        refine ⟨(by show 3 ≤ sizeLine; decide), fun v nv => ?_⟩
        have sv := same_upd (o := .tup [.str nm, .int (k : Nat), .ref l]) nv
        obtain ⟨J, eJ, kept⟩ := kept_of e2 z1 z2 pm nd few pw
        have sall := ((sa.trans sp).trans sl).trans sv
        refine q _ v J (s02.trans sall) (Same.none (((s02.trans sa).trans sp).trans sl) nv) ?_ kept
        exact ⟨v, l, _, rfl, SqT.of upd_same, SqT.of (sv _ _ upd_same), ks_rows eJ fun p hp => sall _ _ (hk p (z1 p (pm.mem_iff.mp hp)))⟩
end
/-! ### set(xs) of a list or a tuple of ints and texts: what it holds, how many -/
theorem sub_len {α : Type} [DecidableEq α] : ∀ (d l : List α), d.Nodup → (∀ x, x ∈ d → x ∈ l) → d.length ≤ l.length
  | [], _, _, _ => Nat.zero_le _
  | x :: d, l, nd, sub => by
    have two := List.nodup_cons.mp nd
    have inl := sub x (List.mem_cons_self ..)
    have step := sub_len d (l.erase x) two.2 (fun y hy => (List.mem_erase_of_ne (fun e => two.1 (by rw [← e]; exact hy))).mpr (sub y (List.mem_cons_of_mem _ hy)))
    have shorter := List.length_erase_of_mem inl
    have some_ := List.length_pos_of_mem inl
    simp only [List.length_cons]
    omega
theorem dup_shorter {α : Type} [DecidableEq α] : ∀ (l : List α), ¬ l.Nodup → ∃ l' : List α, l'.length < l.length ∧ ∀ x, x ∈ l → x ∈ l'
  | [], h => absurd List.nodup_nil h
  | x :: l, h => by
    by_cases hx : x ∈ l
    · exact ⟨l, Nat.lt_succ_self _, fun y hy => (List.mem_cons.mp hy).elim (fun e => by rw [e]; exact hx) id⟩
    · obtain ⟨l', h1, h2⟩ := dup_shorter l (fun hl => h (List.nodup_cons.mpr ⟨hx, hl⟩))
      refine ⟨x :: l', Nat.succ_lt_succ h1, fun y hy => ?_⟩
      rcases List.mem_cons.mp hy with e | hy
      · rw [e]; exact List.mem_cons_self ..
      · exact List.mem_cons_of_mem _ (h2 y hy)
/-- c different ones in l -/
def Cnt {α : Type} (l : List α) (c : Nat) : Prop := ∃ d : List α, d.Nodup ∧ (∀ k, k ∈ d ↔ k ∈ l) ∧ d.length = c
theorem Cnt.nil {α : Type} : Cnt ([] : List α) 0 := ⟨[], List.nodup_nil, fun _ => Iff.rfl, rfl⟩
theorem Cnt.old {α : Type} {l : List α} {c : Nat} {k : α} (h : Cnt l c) (hk : k ∈ l) : Cnt (l ++ [k]) c := by
  obtain ⟨d, h1, h2, h3⟩ := h
  refine ⟨d, h1, fun x => (h2 x).trans ⟨List.mem_append_left _, fun hx => ?_⟩, h3⟩
  rcases List.mem_append.mp hx with hx | hx
  · exact hx
  · rw [List.mem_singleton.mp hx]; exact hk
theorem Cnt.new {α : Type} {l : List α} {c : Nat} {k : α} (h : Cnt l c) (hk : ¬ k ∈ l) : Cnt (l ++ [k]) (c + 1) := by
  obtain ⟨d, h1, h2, h3⟩ := h
  refine ⟨k :: d, List.nodup_cons.mpr ⟨fun hd => hk ((h2 k).mp hd), h1⟩, fun x => ?_, by rw [List.length_cons, h3]⟩
  rw [List.mem_cons, h2 x, List.mem_append, List.mem_singleton]
  exact Or.comm
theorem Cnt.le {α : Type} [DecidableEq α] {l : List α} {c : Nat} (h : Cnt l c) : c ≤ l.length := by
  obtain ⟨d, h1, h2, rfl⟩ := h
  exact sub_len d l h1 fun x hx => (h2 x).mp hx
theorem Cnt.all {α : Type} [DecidableEq α] {l : List α} {c : Nat} (h : Cnt l c) : c = l.length ↔ l.Nodup := by
  obtain ⟨d, h1, h2, rfl⟩ := h
  constructor
  · intro e
    by_cases hn : l.Nodup
    · exact hn
    · obtain ⟨l', a, b⟩ := dup_shorter l hn
      have := sub_len d l' h1 fun x hx => b x ((h2 x).mp hx)
      omega
  · intro hn
    exact Nat.le_antisymm (sub_len d l h1 fun x hx => (h2 x).mp hx) (sub_len l d hn fun x hx => (h2 x).mpr hx)
section
variable {P : Program} {w : World} {A : Around} {E : Value → Shared → Prop} {R : Result → Shared → Prop} {it : Addr} {fp wr : List Addr} {G : Array GenState → Array GenState → Prop} {n : Nat} {Pv : Nat → Value → Prop} {St : Nat → Shared → Prop}
theorem setOf_moves {h h' : Heap} {a : Addr} {S : Key → Bool} {c : Nat} (q : h.SetOf (mixKind P w) a S c) (k : ∀ o, h.get? a = some o → h'.get? a = some o) : h'.SetOf (mixKind P w) a S c := setOf_at q k
/-- k stands in l -/
def memK (l : List Key) (k : Key) : Bool := l.any fun j => decide (j = k)
theorem memK_iff {l : List Key} {k : Key} : memK l k = true ↔ k ∈ l := by
  unfold memK
  rw [List.any_eq_true]
  exact ⟨fun ⟨x, h1, h2⟩ => of_decide_eq_true h2 ▸ h1, fun h => ⟨k, h, decide_eq_true rfl⟩⟩
theorem memK_snoc {l : List Key} {k j : Key} : memK (l ++ [k]) j = (memK l j || decide (j = k)) := by
  unfold memK
  rw [List.any_append, List.any_cons, List.any_nil, Bool.or_false]
  congr 1
  exact decide_eq_decide.mpr ⟨Eq.symm, Eq.symm⟩
theorem setOf_as {h : Heap} {a : Addr} {S S' : Key → Bool} {c : Nat} (q : h.SetOf (mixKind P w) a S c) (e : ∀ k, S k = S' k) : h.SetOf (mixKind P w) a S' c := by
  have e' : S = S' := funext e
  rw [← e']; exact q
/-- the loop of set.update, one key a turn -/
theorem keys_loop (W : WalksS P w A.in1 it fp wr G n Pv St) (S : Addr) (out : S ∉ fp) (ks : List Key) (len : n = ks.length) (room : n + 1 < scanBound)
    (val : ∀ i v, Pv i v → ∃ k, ks[i]? = some k ∧ keyIs k v = true ∧ v.scannable = true) : ∀ (m i : Nat) (s : Shared), n - i = m → i ≤ n → St i s →
      (∃ c, Cnt (ks.take i) c ∧ s.heap.SetOf (mixKind P w) S (memK (ks.take i)) c) →
      (∀ s' c, Moved (S :: wr) G s s' → Cnt ks c → s'.heap.SetOf (mixKind P w) S (memK ks) c → R (.ok (.ret .none)) s') → codeAny (model P w) A (.builtin "set.update.loop" ⟨[.ref S, .ref it], []⟩) R s := by
  have outW : S ∉ wr := fun z => out (W.sub _ z)
  have wider : ∀ b ∈ wr, b ∈ S :: wr := fun _ z => List.mem_cons_of_mem _ z
  intro m
  induction m with
  | zero =>
    intro i s e1 e2 st ⟨c, hc, hS⟩ fin
    have ei : i = n := by omega
    subst ei
    refine codeAny_builtin F.entry_set_update_loop ?_; rw [Around.under_plainId F.plain_set_update_loop _]
    show wpAny _ A.in1 (pyNext (.ref it) >>= _) _ _ s
    refine wpAny_bind (W.done s _ _ st fun s' mv => ?_)
    have all : ks.take i = ks := List.take_of_length_le (Nat.le_of_eq len.symm)
    rw [all] at hc hS
    exact wpAny_pure (fin s' c (mv.mono wider) hc (setOf_moves hS fun o z => mv.heap S o outW z))
  | succ m ih =>
    intro i s e1 e2 st ⟨c, hc, hS⟩ fin
    refine codeAny_builtin F.entry_set_update_loop ?_; rw [Around.under_plainId F.plain_set_update_loop _]
    show wpAny _ A.in1 (pyNext (.ref it) >>= _) _ _ s
    refine wpAny_bind (W.item i s _ _ (by omega) st fun v s' pv st' mv => ?_)
    obtain ⟨k, hk, kv, sc⟩ := val i v pv
    have nx : ks.take (i + 1) = ks.take i ++ [k] := by rw [List.take_add_one, hk]; rfl
    have hS' := setOf_moves hS fun o z => mv.heap S o outW z
    have cl : c ≤ i := Nat.le_trans hc.le (List.length_take_le _ _)
    show wpAny _ A.in1 (holding [v] (setAdd S v) >>= _) _ _ s'
    refine wpAny_bind (wpAny_holding ?_); unfold setAdd; refine wpAny_holding (wpAny_bind ((mixKind P w).pyHash (k := k) kv ?_))
    refine wpAny_setAddHashed_of (knd := mixKind P w) (s := { s' with toks := s'.toks + 1 }) kv sc hS' (by omega) fun h2 same hS2 => ?_
    have inv2 : ∃ c2, Cnt (ks.take (i + 1)) c2 ∧ h2.SetOf (mixKind P w) S (memK (ks.take (i + 1))) c2 := by
      cases hm : memK (ks.take i) k with
      | true =>
        refine ⟨c, nx ▸ hc.old (memK_iff.mp hm), ?_⟩
        rw [hm, if_pos rfl] at hS2
        exact setOf_as hS2 fun j => by rw [nx, memK_snoc]
      | false =>
        refine ⟨c + 1, nx ▸ hc.new (fun z => by rw [memK_iff.mpr z] at hm; cases hm), ?_⟩
        rw [hm, if_neg Bool.false_ne_true] at hS2
        exact setOf_as hS2 fun j => by rw [nx, memK_snoc]
    refine wpAny_pure ⟨plainId_quiet F.plain_set_update_loop _, ih (i + 1) _ (by omega) (by omega) (W.frame _ s' _ _ st' (Nat.le_succ _) fun b hb o z => ?_) inv2 fun s3 c3 mv3 hc3 hS3 => ?_⟩
    · exact (same.2 b (fun e => out (e ▸ hb))).trans z
    · refine fin s3 c3 (Moved.trans W.gtrans ((mv.mono wider).then_heap (Nat.le_succ _) fun b o hb z => ?_) mv3) hc3 hS3
      exact (same.2 b (fun e => hb (e ▸ List.mem_cons_self ..))).trans z
end
section
variable {P : Program} {w : World} {A : Around} {E : Value → Shared → Prop} {s : Shared}
abbrev emptySet (led : Bool) : Obj := { cls := .type "set", dict := none, data := .set #[] 0 (.fresh 0 0 led) }
theorem empty_setOf {h : Heap} {a : Addr} {led : Bool} (e : h.get? a = some (emptySet led)) : h.SetOf (mixKind P w) a (fun _ => false) 0 :=
  ⟨_, #[], 0, _, e, ⟨rfl, rfl, rfl⟩, rfl, fun z hz => (by simp at hz), fun k => (by simp), by decide, rfl, rfl⟩
set_option maxHeartbeats 8000000 in
/-- set(l), l a tuple of keys -/
theorem set_of_tuple {l : Addr} {items : Array Value} {ks : List Key} {Q : Value → Shared → Prop} (hh : A.handled = none) (src : s.heap.IsTuple l items) (len : items.size = ks.length) (room : ks.length + 1 < scanBound)
    (val : ∀ (i : Nat) (v : Value), items[i]? = some v → ∃ k, ks[i]? = some k ∧ keyIs k v = true ∧ v.scannable = true)
    (fin : ∀ h' tk c, Cnt ks c → h'.SetOf (mixKind P w) s.heap.objs.size (memK ks) c → (∀ b o, s.heap.get? b = some o → h'.get? b = some o) → Q (.ref s.heap.objs.size) { s with heap := h', toks := tk }) :
    wpAny (model P w) A (call (.type "set") [.ref l]) Q E s := by
  have ⟨mc, mt, mro⟩ := F.called_set.mro; have made := F.called_set.made; have subs := F.called_set.sub
  refine wpAny_call (codeAny_of_tree ?_); show wpAny _ _ (callAny (.type "set") _) _ _ _
  refine wpAny_pure ⟨Code.quiet_builtin _ (by decide +kernel), codeAny_builtin F.entry_type_call ?_⟩; rw [Around.under_plain (weight_type_call_type "set" [.ref l] []) rfl]
  have f1 := F.called_set.notType; have f2 := F.called_set.canCreate; have f3 := F.typeCall_set_1 (.ref l)
  repeat (any_goals (first | assumption | wp_step))
  refine codeAny_mono (code_set_new_1 (.ref l) (E := E) (Q₁ := fun ob s1 => ∃ led : Bool, ob = .ref s.heap.objs.size ∧ s1 = { s with heap := s.heap.push (emptySet led) }) fun led => ⟨led, rfl, rfl⟩) fun r s1 hr => ?_
  rcases r with e | fl
  · exact hr
  rcases fl with _ | _ | _ | ob
  all_goals first | exact hr.elim | skip
  obtain ⟨led, rfl, rfl⟩ := hr
  have at0 : (s.heap.push (emptySet led)).get? s.heap.objs.size = some (emptySet led) := Heap.get?_push_size _ rfl
  have isS : Shared.TypeIs { s with heap := s.heap.push (emptySet led) } (.ref s.heap.objs.size) "set" := ⟨_, at0, rfl⟩
  have f4 := F.called_set.init.lookup; have f5 := F.called_set.init.bind (.ref s.heap.objs.size)
  repeat (any_goals (first | assumption | wp_step))
  refine codeAny_mono (codeAny_call_builtin (R := wants (fun r s2 => r = .none ∧ ∃ h' tk c, s2 = { s with heap := h', toks := tk } ∧ Cnt ks c ∧ h'.SetOf (mixKind P w) s.heap.objs.size (memK ks) c ∧ ∀ b o, s.heap.get? b = some o → h'.get? b = some o) E)
    F.called_set.init.plain F.entry_set_init (check_set_init_1 isS ?_)) fun r2 s2 hr2 => ?_
  · obtain ⟨ol, atl, cl, nl, dl⟩ := src; obtain ⟨oc, od, odt, osl⟩ := ol; simp only at cl dl; subst cl dl
    have ltl : l < s.heap.objs.size := Heap.lt_size atl
    have at1 : (s.heap.push (emptySet led)).get? l = some { cls := .type "tuple", dict := od, data := .seq items nl, slots := osl } := Heap.get?_push_of_some _ atl
    have g1 := F.sub_tuple_set; have g2 := F.sub_tuple_frozenset; have g3 : (Value.type "tuple" == Value.type "dict") = false := by decide
    have src1 : (s.heap.push (emptySet led)).IsTuple l items := ⟨_, at1, rfl, nl, rfl⟩
    have szp : (s.heap.push (emptySet led)).objs.size = s.heap.objs.size + 1 := Heap.size_push ..
    unfold Builtin.«set.__init__» noKeywords Builtin.Frozenset.updateFrom
    generalize keepIter : pyIter = PI
    wp_walk
    subst keepIter
    refine wpAny_pyIter_tuple src1 (wpAny_bind (wpAny_runValue ?_))
    have neI : l ≠ (s.heap.push (emptySet led)).objs.size := by rw [szp]; exact Nat.ne_of_lt (Nat.lt_succ_of_lt ltl)
    have notIn : s.heap.objs.size ∉ [(s.heap.push (emptySet led)).objs.size, l] := fun z => by
      rw [szp] at z
      rcases List.mem_cons.mp z with z | z
      · exact absurd z (Nat.ne_of_lt (Nat.lt_succ_self _))
      · exact absurd (List.mem_singleton.mp z).symm (Nat.ne_of_lt ltl)
    refine keys_loop ((Walks.tuple (show A.in1.in1.in1.handled = none by simp [hh]) _ l neI items).toS) s.heap.objs.size notIn ks len (by rw [len]; exact room) val (items.size - 0) 0 _ (by omega) (Nat.zero_le _)
      ⟨⟨_, Heap.get?_push_size _ rfl, rfl, rfl⟩, src1.push _⟩ ⟨0, .nil, ?_⟩ fun s' c mv hc hS => ?_
    · exact setOf_as (empty_setOf (led := led) (Heap.get?_push_of_some _ at0)) fun k => rfl
    · obtain ⟨h', g', d', tk', os'⟩ := s'
      obtain rfl : g' = s.gens := mv.gens
      obtain rfl : d' = s.drawn := mv.drawn
      obtain rfl : os' = s.os := mv.os
      refine wpAny_pure (wpAny_pure ⟨rfl, h', tk', c, rfl, hc, hS, fun b o z => ?_⟩)
      have lb := Heap.lt_size z
      refine mv.heap b o (fun hm => ?_) (Heap.get?_push_of_some _ (Heap.get?_push_of_some _ z))
      rcases List.mem_cons.mp hm with e | hm
      · exact absurd e (Nat.ne_of_lt lb)
      · have e := List.mem_singleton.mp hm
        rw [szp] at e
        exact absurd e (Nat.ne_of_lt (Nat.lt_succ_of_lt lb))
  · rcases r2 with e | fl2
    · exact hr2
    rcases fl2 with _ | _ | _ | r
    all_goals first | exact hr2.elim | skip
    obtain ⟨rfl, h', tk, c, rfl, hc, hS, hk⟩ := hr2
    repeat (any_goals (first | assumption | wp_step))
    exact fin _ _ _ hc hS hk
set_option maxHeartbeats 8000000 in
/-- set(l), l a list of keys -/
theorem set_of_list {l : Addr} {items : Array Value} {ks : List Key} {Q : Value → Shared → Prop} (hh : A.handled = none) (src : s.heap.IsList l items) (len : items.size = ks.length) (room : ks.length + 1 < scanBound)
    (val : ∀ (i : Nat) (v : Value), items[i]? = some v → ∃ k, ks[i]? = some k ∧ keyIs k v = true ∧ v.scannable = true)
    (fin : ∀ h' tk c, Cnt ks c → h'.SetOf (mixKind P w) s.heap.objs.size (memK ks) c → (∀ b o, s.heap.get? b = some o → h'.get? b = some o) → Q (.ref s.heap.objs.size) { s with heap := h', toks := tk }) :
    wpAny (model P w) A (call (.type "set") [.ref l]) Q E s := by
  have ⟨mc, mt, mro⟩ := F.called_set.mro; have made := F.called_set.made; have subs := F.called_set.sub
  refine wpAny_call (codeAny_of_tree ?_); show wpAny _ _ (callAny (.type "set") _) _ _ _
  refine wpAny_pure ⟨Code.quiet_builtin _ (by decide +kernel), codeAny_builtin F.entry_type_call ?_⟩; rw [Around.under_plain (weight_type_call_type "set" [.ref l] []) rfl]
  have f1 := F.called_set.notType; have f2 := F.called_set.canCreate; have f3 := F.typeCall_set_1 (.ref l)
  repeat (any_goals (first | assumption | wp_step))
  refine codeAny_mono (code_set_new_1 (.ref l) (E := E) (Q₁ := fun ob s1 => ∃ led : Bool, ob = .ref s.heap.objs.size ∧ s1 = { s with heap := s.heap.push (emptySet led) }) fun led => ⟨led, rfl, rfl⟩) fun r s1 hr => ?_
  rcases r with e | fl
  · exact hr
  rcases fl with _ | _ | _ | ob
  all_goals first | exact hr.elim | skip
  obtain ⟨led, rfl, rfl⟩ := hr
  have at0 : (s.heap.push (emptySet led)).get? s.heap.objs.size = some (emptySet led) := Heap.get?_push_size _ rfl
  have isS : Shared.TypeIs { s with heap := s.heap.push (emptySet led) } (.ref s.heap.objs.size) "set" := ⟨_, at0, rfl⟩
  have f4 := F.called_set.init.lookup; have f5 := F.called_set.init.bind (.ref s.heap.objs.size)
  repeat (any_goals (first | assumption | wp_step))
  refine codeAny_mono (codeAny_call_builtin (R := wants (fun r s2 => r = .none ∧ ∃ h' tk c, s2 = { s with heap := h', toks := tk } ∧ Cnt ks c ∧ h'.SetOf (mixKind P w) s.heap.objs.size (memK ks) c ∧ ∀ b o, s.heap.get? b = some o → h'.get? b = some o) E)
    F.called_set.init.plain F.entry_set_init (check_set_init_1 isS ?_)) fun r2 s2 hr2 => ?_
  · obtain ⟨ol, atl, cl, nl, dl⟩ := src; obtain ⟨oc, od, odt, osl⟩ := ol; simp only at cl dl; subst cl dl
    have ltl : l < s.heap.objs.size := Heap.lt_size atl
    have at1 : (s.heap.push (emptySet led)).get? l = some { cls := .type "list", dict := od, data := .seq items nl, slots := osl } := Heap.get?_push_of_some _ atl
    have g1 := F.sub_list_set; have g2 := F.sub_list_frozenset; have g3 : (Value.type "list" == Value.type "dict") = false := by decide
    have src1 : (s.heap.push (emptySet led)).IsList l items := ⟨_, at1, rfl, nl, rfl⟩
    have szp : (s.heap.push (emptySet led)).objs.size = s.heap.objs.size + 1 := Heap.size_push ..
    unfold Builtin.«set.__init__» noKeywords Builtin.Frozenset.updateFrom
    generalize keepIter : pyIter = PI
    wp_walk
    subst keepIter
    refine wpAny_pyIter_list src1 (wpAny_bind (wpAny_runValue ?_))
    have neI : l ≠ (s.heap.push (emptySet led)).objs.size := by rw [szp]; exact Nat.ne_of_lt (Nat.lt_succ_of_lt ltl)
    have notIn : s.heap.objs.size ∉ [(s.heap.push (emptySet led)).objs.size, l] := fun z => by
      rw [szp] at z
      rcases List.mem_cons.mp z with z | z
      · exact absurd z (Nat.ne_of_lt (Nat.lt_succ_self _))
      · exact absurd (List.mem_singleton.mp z).symm (Nat.ne_of_lt ltl)
    refine keys_loop ((Walks.list (show A.in1.in1.in1.handled = none by simp [hh]) _ l neI items).toS) s.heap.objs.size notIn ks len (by rw [len]; exact room) val (items.size - 0) 0 _ (by omega) (Nat.zero_le _)
      ⟨⟨_, Heap.get?_push_size _ rfl, rfl, rfl⟩, src1.push _⟩ ⟨0, .nil, ?_⟩ fun s' c mv hc hS => ?_
    · exact setOf_as (empty_setOf (led := led) (Heap.get?_push_of_some _ at0)) fun k => rfl
    · obtain ⟨h', g', d', tk', os'⟩ := s'
      obtain rfl : g' = s.gens := mv.gens
      obtain rfl : d' = s.drawn := mv.drawn
      obtain rfl : os' = s.os := mv.os
      refine wpAny_pure (wpAny_pure ⟨rfl, h', tk', c, rfl, hc, hS, fun b o z => ?_⟩)
      have lb := Heap.lt_size z
      refine mv.heap b o (fun hm => ?_) (Heap.get?_push_of_some _ (Heap.get?_push_of_some _ z))
      rcases List.mem_cons.mp hm with e | hm
      · exact absurd e (Nat.ne_of_lt lb)
      · have e := List.mem_singleton.mp hm
        rw [szp] at e
        exact absurd e (Nat.ne_of_lt (Nat.lt_succ_of_lt lb))
  · rcases r2 with e | fl2
    · exact hr2
    rcases fl2 with _ | _ | _ | r
    all_goals first | exact hr2.elim | skip
    obtain ⟨rfl, h', tk, c, rfl, hc, hS, hk⟩ := hr2
    repeat (any_goals (first | assumption | wp_step))
    exact fin _ _ _ hc hS hk
end
section
variable {X : Cx}
theorem keys_val : ∀ {ks : List Key} {us : List Value}, Vals (ks.map kV) us → ∀ (i : Nat) (v : Value), us[i]? = some v → ∃ k, ks[i]? = some k ∧ keyIs k v = true ∧ v.scannable = true
  | [], _, .nil, i, v, h => by simp at h
  | k :: ks, _, .cons r t, 0, v, h => by
    have e := Option.some.inj h
    subst e
    exact ⟨k, rfl, by cases k with | inl i => obtain ⟨t, rfl⟩ := r; exact keyIs_int i t | inr x => obtain ⟨t, rfl⟩ := r; exact keyIs_str x t, key_scan r⟩
  | k :: ks, _, .cons r t, i + 1, v, h => keys_val t i v h
/-- set(xs), xs a list or a tuple of ints and texts -/
def rSetK (K : PySem.W.Frag) (P : Program) (w : World) : List V → Hp → VK → Prop := fun xs H Q => ∃ (l : Addr) (ks : List Key), xs = [V.ref l] ∧ (SqL K H l (ks.map kV) ∨ SqT K H l (ks.map kV)) ∧ ks.length ≤ 4000 ∧
  ∀ p c, H p = none → Cnt ks c → Q (.ref p) (upd H p (SetK P w p (memK ks) c))
theorem cr_setK (hc : X.calm = true) : CallR X (.type "set") (rSetK X.K X.prog X.w) := by
  intro pins s σ H xs us Q I r h
  obtain ⟨l, ks, rfl, hq, few, q⟩ := h
  rw [Vals.ref1 r]
  have new := I.hok.fresh (Nat.le_refl s.heap.objs.size)
  have small : ks.length + 1 < scanBound := Nat.lt_of_le_of_lt (Nat.succ_le_succ few) (by decide)
  rcases hq with hq | hq
  · obtain ⟨its, rv, pl, hz⟩ := I.list hq
    refine set_of_list (I.ok.hd hc) pl.isList (by rw [List.size_toArray, ← rv.length, List.length_map]) small (fun i v hv => keys_val rv i v (by simpa using hv)) fun h' tk c hcn hS k => ?_
    exact ⟨.ref s.heap.objs.size, upd H s.heap.objs.size (SetK X.prog X.w s.heap.objs.size (memK ks) c), I.laid (t' := tk) k (Nat.le_refl _) (setK_new hS), rfl, q _ c new hcn⟩
  · obtain ⟨its, rv, tp, hz⟩ := I.tuple hq
    refine set_of_tuple (I.ok.hd hc) (show s.heap.IsTuple l its.toArray from tp) (by rw [List.size_toArray, ← rv.length, List.length_map]) small (fun i v hv => keys_val rv i v (by simpa using hv)) fun h' tk c hcn hS k => ?_
    exact ⟨.ref s.heap.objs.size, upd H s.heap.objs.size (SetK X.prog X.w s.heap.objs.size (memK ks) c), I.laid (t' := tk) k (Nat.le_refl _) (setK_new hS), rfl, q _ c new hcn⟩
/-- len of a set of keys -/
def rLenSK (P : Program) (w : World) : List V → Hp → VK → Prop := fun xs H Q => ∃ (a : Addr) (S : Key → Bool) (n : Nat), xs = [V.ref a] ∧ H a = some (SetK P w a S n) ∧ Q (.int n) H
theorem call_lenSK : CallR X (.builtin "len") (rLenSK X.prog X.w) := by
  intro pins s σ H xs us Q I r h
  obtain ⟨a, S, n, rfl, ha, q⟩ := h
  rw [Vals.ref1 r]
  obtain ⟨o, es, ep, t, ho, hex, hd, _, _, hb, hf, hn⟩ := setK_get I ha
  have fit : (es.size : Int) < 2 ^ 63 := by
    have h1 : es.size < 4096 := hb
    omega
  exact call_len_set ho hex hd hf fit ⟨.int n, H, I.tok _, ⟨_, by rw [hn]⟩, q⟩
end
/-! ### {e for x in xs}: a set of texts and ints -/
section
variable {X : Cx}
def tScK (P : Program) (w : World) (wi : TI) (g : TG) (tt : TT) (te : TE) (vs : List Nat) : TE := fun σ H Q => wi σ H fun J H1 => ∀ D, H1 D = none → ∃ W : Nat → Nat → Hp → Prop, (∃ m, W 0 m (upd H1 D (SetK P w D (fun _ => false) 0))) ∧ ∀ i m H, W i m H →
  (J.stop i H ∧ Q (.ref D) H) ∨ (J.go i H ∧ ∃ Nx : Hp → Prop, (∀ H', Nx H' → ∃ m', m' < m ∧ W (i + 1) m' H') ∧ ∀ x H', J.yld i H x H' → g x (wipe σ vs) H' fun σ2 H2 => wipe σ2 vs = wipe σ vs ∧ tt σ2 H2 fun b H3 =>
    if b = true then te σ2 H3 fun y H4 => rSAddK P w (.ref D) [y] H4 fun _ G => Nx G else Nx H3)
theorem pe_scK {elt tg iter : Expr} {ifs : List Expr} {scope : Scope} {own : List (PySem.Str × Nat)} {pos : Pos} {wi : TI} {g : TG} {tt : TT} {te : TE} (hc : X.calm = true) (hN : X.N.Nodup) (hi : PI X tg iter wi) (ok : BlkOk X.N X.env.scope scope own)
    (hg : ∀ (s : Shared) (H : Hp) (C : Addr) (cl : List (PySem.Str × Addr)) (fp : List Addr), PG (X.blk s H scope (compEnvC scope cl C X.env) fp) tg g) (ht : ∀ (s : Shared) (H : Hp) (C : Addr) (cl : List (PySem.Str × Addr)) (fp : List Addr), PTs (X.blk s H scope (compEnvC scope cl C X.env) fp) ifs tt)
    (he : ∀ (s : Shared) (H : Hp) (C : Addr) (cl : List (PySem.Str × Addr)) (fp : List Addr), PE (X.blk s H scope (compEnvC scope cl C X.env) fp) elt te) (hs : ∀ x, foldedSetIterable iter X.env x = pure x := by intro _; rfl) :
    PE X (.SetComp elt [⟨tg, iter, ifs, 0⟩] scope pos) (tScK X.prog X.w wi g tt te (own.map (·.2))) := by
  refine ⟨fun pins s σ H Q I h => ?_⟩
  rw [PpSet.eval_SetComp]
  have fr : ∀ y ∈ scope.names, y.2 = .free → ∃ c, X.env.cells.lookup y.1 = some c := fun y hy e => (ok.free y hy e).elim (fun k => I.ok.has _ (.inl k)) fun k => I.ok.has _ (.inr k)
  refine wpAny_comprehension_free rfl hs (closure_ok fr) ok.kind (fun y hy e => by rw [ok.uniq y hy, e]) (thn (hi.run pins s σ H _ I h) fun xv s1 hx => thn hx fun itv s2 h2 => ?_)
  obtain ⟨it, fp, tn, J, H2, e, I2, T, st2, f2, q⟩ := h2
  subst e
  refine PpSet.newSet_ok (newEnv_comp ?_)
  have low : ∀ b ∈ fp, b < s2.heap.objs.size := fun b hb => by
    obtain ⟨o, e, _⟩ := T.obj _ _ st2 b hb
    exact Heap.lt_size e
  generalize hD : s2.heap.objs.size = D
  obtain ⟨W, ⟨m0, w0⟩, turn⟩ := q D (I2.hok.fresh (Nat.le_of_eq hD))
  generalize hs3 : ({ s2 with heap := s2.heap.push { cls := .type "set", dict := none, data := .set #[] 0 (.fresh 0 0 (!X.w.params.followText "set-order")) } } : Shared) = s3
  have h3 : s3.heap = s2.heap.push (emptySet (!X.w.params.followText "set-order")) := by rw [← hs3]
  have I3 : Inv X pins σ (upd H2 D (SetK X.prog X.w D (fun _ => false) 0)) s3 := by
    rw [← hs3]
    exact I2.laid (t' := s2.toks) (fun b o e => Heap.get?_push_of_some _ e) (Nat.le_of_eq hD) (setK_new (empty_setOf (by rw [← hD]; exact Heap.get?_push_size _ rfl)))
  generalize hH3 : upd H2 D (SetK X.prog X.w D (fun _ => false) 0) = H3 at I3 w0
  have f3 : ∀ b ∈ fp, FpOk X pins H3 b ∧ b < s3.heap.objs.size := fun b hb => by
    have lt := low b hb
    refine ⟨⟨?_, (f2 b hb).2⟩, by rw [h3, Heap.size_push]; exact Nat.lt_succ_of_lt lt⟩
    rw [← hH3, upd_ne (by rw [← hD]; exact Nat.ne_of_lt lt)]
    exact (f2 b hb).1
  have st3 : tn 0 s3.heap := T.keep _ _ _ st2 fun b _ o e => by rw [h3]; exact Heap.get?_push_of_some _ e
  have I4 := block_start I3 ok hN f3
  generalize hcl : cellsFrom (s3.heap.objs.size + 1) scope.names (cloFrom X.env.cells scope.names []) = cl at I4
  have pg := hg s3 H3 s3.heap.objs.size cl fp
  have pt := ht s3 H3 s3.heap.objs.size cl fp
  have pe := he s3 H3 s3.heap.objs.size cl fp
  show codeAny _ _ (.compStart (.SetComp elt [⟨tg, iter, ifs, 0⟩] scope pos) 0 (.ref it) (.ref D) (compEnvC scope cl s3.heap.objs.size X.env)) (compPost (model X.prog X.w) X.A X.xe none (EP X pins σ Q) (.ref D) s3.heap.objs.size) { s3 with heap := pushCells (s3.heap.push { cls := .type "dict", data := .dict #[] }) scope.names }
  generalize hce : compEnvC scope cl s3.heap.objs.size X.env = ce at I4 pg pt pe ⊢
  have cL : ce.locals = s3.heap.objs.size := by subst hce; rfl
  generalize hs4 : ({ s3 with heap := pushCells (s3.heap.push { cls := .type "dict", data := .dict #[] }) scope.names } : Shared) = s4 at I4 ⊢
  have st4 : tn 0 s4.heap := T.keep _ _ _ st3 fun b _ o e => by rw [← hs4]; exact pushCells_keeps _ _ _ _ (Heap.get?_push_of_some _ e)
  have own_ : ∀ {σ' : L2.St} {H' : Hp} {s' : Shared}, Inv (X.blk s3 H3 scope ce fp) [] σ' H' s' → (∀ b ∈ fp, H' b = none) → ∀ b ∈ fp, FpOk (X.blk s3 H3 scope ce fp) [] H' b := fun {σ' H' s'} I' hn b hb =>
    ⟨hn b hb, (I'.ok.exf b hb).1, I'.ok.exfs b hb, .inl hb, fun x c e => (I'.ok.exf b hb).2 x c e, fun p hp => absurd (show p ∈ ([] : List (Addr × Obj)) ++ [] from hp) (by simp)⟩
  suffices loop : codeAny (model X.prog X.w) X.A (.compLoop (.SetComp elt [⟨tg, iter, ifs, 0⟩] scope pos) 0 (.ref it) (.ref D) ce) (compPost (model X.prog X.w) X.A X.xe none (EP X pins σ Q) (.ref D) s3.heap.objs.size) s4 from PpSet.codeAny_compStart_set loop (T.self X.A 0 _ _ _ st4 loop)
  refine PpSet.compLoopS_any (fun n s' => ∃ i G, Inv (X.blk s3 H3 scope ce fp) [] (wipe σ (own.map (·.2))) G s' ∧ tn i s'.heap ∧ (∀ b ∈ fp, G b = none) ∧ W i n G) ?_ m0 ⟨0, H3, I4, st4, fun b hb => (f3 b hb).1.1, w0⟩
  rintro n s5 ⟨i, H5, I5, st5, n5, w5⟩
  rcases turn i n H5 w5 with ⟨stop, qq⟩ | ⟨go, Nx, hNx, step⟩
  · refine thnF (T.done (X.blk s3 H3 scope ce fp) rfl rfl rfl hc i [] s5 _ H5 (fun _ _ => False) I5 (own_ I5 n5) st5 stop) fun r s6 ⟨hr, I6⟩ => ?_
    subst hr
    have I7 : Inv X pins σ H5 s6 := I3.call' (ch := fp) I6.os I6.base I6.hok I6.bare fun b hb => ⟨(f3 b hb).1.2.2.2.1, (f3 b hb).1.2.1, (f3 b hb).1.2.2.2.2.1, (f3 b hb).1.2.2.2.2.2⟩
    have nC : H5 s3.heap.objs.size = none := cL ▸ (show H5 ce.locals = none from I6.free)
    obtain ⟨m, hn, _⟩ := I6.loc
    have hn : s6.heap.Ns ce.locals m := hn
    rw [cL] at hn
    obtain ⟨f0, f1, f2, f3, f4, f5⟩ := I3.fpOk (Nat.le_refl _) nC
    refine ⟨m, hn, fun h'' sb => ?_⟩
    exact ⟨.ref D, H5, I7.turned (t' := s6.toks) (fun b o hb e => (sb.2 b hb).trans e) f0 f1 f3 f4 f5, rfl, qq⟩
  · refine thnF (T.item (X.blk s3 H3 scope ce fp) rfl rfl rfl hc i [] s5 _ H5 (fun _ _ => False) I5 (own_ I5 n5) st5 go) fun r s6 ⟨u, hr, h6⟩ => ?_
    subst hr
    refine thnF h6 fun _ s7 ⟨x, H7, I7, r7, y7, st7, n7⟩ => ?_
    refine thnF (pg.run _ s7 _ H7 x u _ (I7.pinned (own_ I7 n7) (T.obj _ _ st7)) r7 (step x H7 y7)) fun _ s8 ⟨σ8, H8, I8, hw8, q8⟩ => ?_
    refine thnF (pt.run _ s8 σ8 H8 _ I8 q8) fun b s9 ⟨H9, I9, q9⟩ => ?_
    have fin : ∀ {s' : Shared} {G : Hp}, Inv (X.blk s3 H3 scope ce fp) ([] ++ pinsAt fp s7.heap) σ8 G s' → Nx G → ∃ m, m < n ∧ ∃ i G, Inv (X.blk s3 H3 scope ce fp) [] (wipe σ (own.map (·.2))) G s' ∧ tn i s'.heap ∧ (∀ b ∈ fp, G b = none) ∧ W i m G := fun {s' G} I' nx => by
      obtain ⟨m', hm, w'⟩ := hNx G nx
      have pin' : ∀ b ∈ fp, ∀ o, s7.heap.get? b = some o → s'.heap.get? b = some o ∧ G b = none := fun b hb o e =>
        let z := I'.pin (b, o) (List.mem_append_right _ (List.mem_append_right _ (mem_pinsAt hb e)))
        ⟨z.1, z.2.1⟩
      refine ⟨m', hm, i + 1, G, (I'.unpinned (pins := [])).weak (by rw [← hw8, wipe_length]) (fun j v e => ?_), T.keep _ _ _ st7 fun b hb o e => (pin' b hb o e).1, fun b hb => ?_, w'⟩
      · rw [← hw8] at e
        exact (wipe_some e).1
      · obtain ⟨o, e, _⟩ := T.obj _ _ st7 b hb
        exact (pin' b hb o e).2
    cases b with
    | false =>
      simp only [Bool.false_eq_true, if_false] at q9 ⊢
      exact fin I9 q9
    | true =>
      simp only [if_true] at q9 ⊢
      refine thnF (pe.run _ s9 σ8 H9 _ I9 q9) fun z s10 ⟨yv, H10, I10, r10, add⟩ => ?_
      refine thnF (mt_saddK (X := X.blk s3 H3 scope ce fp) _ s10 σ8 H10 (.ref D) [yv] (.ref D) [z] _ I10 rfl (.cons r10 .nil) add) fun _ s11 ⟨_, H11, I11, _, nx⟩ => fin I11 nx
end
theorem sck_it {P : Program} {w : World} {J : It} {n : Nat} {G : Hp → Prop} {Y : Nat → Hp → V → Hp → Prop} (wk : Walk J n G Y) {g : TG} {tt : TT} {te : TE} {vs : List Nat} {σ : L2.St} {H1 : Hp} {D : Addr} {Qd : Hp → Prop}
    (Pv : Nat → Hp → Prop) (h0 : Pv 0 (upd H1 D (SetK P w D (fun _ => false) 0))) (hG : ∀ i H, i ≤ n → Pv i H → G H)
    (hs : ∀ i x H H', i < n → Pv i H → Y i H x H' → g x (wipe σ vs) H' fun a A => wipe a vs = wipe σ vs ∧ tt a A fun b B => if b = true then te a B fun y C => rSAddK P w (.ref D) [y] C fun _ F => Pv (i + 1) F else Pv (i + 1) B) (hd : ∀ H, Pv n H → Qd H) :
    ∃ U : Nat → Nat → Hp → Prop, (∃ m, U 0 m (upd H1 D (SetK P w D (fun _ => false) 0))) ∧ ∀ i m H, U i m H → (J.stop i H ∧ Qd H) ∨
      (J.go i H ∧ ∃ Nx : Hp → Prop, (∀ H', Nx H' → ∃ m', m' < m ∧ U (i + 1) m' H') ∧
        ∀ x H', J.yld i H x H' → g x (wipe σ vs) H' fun a A => wipe a vs = wipe σ vs ∧ tt a A fun b B => if b = true then te a B fun y C => rSAddK P w (.ref D) [y] C fun _ F => Nx F else Nx B) := by
  refine ⟨fun i m H => m = n - i ∧ i ≤ n ∧ Pv i H, ⟨n, by simp, Nat.zero_le _, h0⟩, ?_⟩
  rintro i m H ⟨rfl, hi, p⟩
  have q := hG i H hi p
  by_cases lt : i < n
  · exact .inr ⟨wk.goes i H lt q, Pv (i + 1), fun H' p' => ⟨n - (i + 1), by omega, rfl, lt, p'⟩, fun x H' y => hs i x H H' lt p (wk.yields i H x H' lt q y)⟩
  · obtain rfl : i = n := by omega
    exact .inl ⟨wk.stops H q, hd H p⟩
/-! ### the relations of a structure, kept -/
/-- a relation as it is handed on: its rows stand in a list or a tuple -/
def HandR (K : PySem.W.Frag) (H : Hp) (v : V) (z : Wrl) : Prop := ∃ (t b : Addr) (xs : List V), v = .ref t ∧ SqT K H t [.str z.1.1, .int (z.1.2 : Nat), .ref b] ∧ SqA K H b xs ∧ RowsT H xs z.2
def HandL (K : PySem.W.Frag) (H : Hp) (xs : List V) (L : List Wrl) : Prop := xs.length = L.length ∧ ∀ (i : Nat) (v : V) (z : Wrl), xs[i]? = some v → L[i]? = some z → HandR K H v z
structure RelOk (n : Nat) (z : Wrl) : Prop where
  rows : RowsOk n z.1.2 z.2
  few : z.2.length < 64
  nm : Nm z.1.1
  ar : z.1.2 ≤ 6
  pw : n ^ z.1.2 ≤ 4096
structure RelsOk (n : Nat) (L : List Wrl) : Prop where
  n1 : 1 ≤ n
  n16 : n ≤ 16
  l6 : L.length ≤ 6
  nd : (L.map fun z => z.1.1).Nodup
  all : ∀ z, z ∈ L → RelOk n z
def KeptL (L J : List Wrl) : Prop := J.length = L.length ∧ ∀ (i : Nat) (z : Wrl), L[i]? = some z → ∃ z', J[i]? = some z' ∧ z'.1 = z.1 ∧ KeptOf z.2 z'.2
theorem KeptL.signs {L J : List Wrl} (k : KeptL L J) : J.map (·.1) = L.map (·.1) := by
  refine List.ext_getElem? fun i => ?_
  rw [List.getElem?_map, List.getElem?_map]
  cases e : L[i]? with
  | none =>
    have h1 := List.getElem?_eq_none_iff.mp e
    rw [List.getElem?_eq_none_iff.mpr (by rw [k.1]; exact h1)]
  | some z =>
    obtain ⟨z', e1, e2, _⟩ := k.2 i z e
    rw [e1]
    show some z'.1 = some z.1
    rw [e2]
theorem KeptL.snoc {L J : List Wrl} {i : Nat} {z z' : Wrl} (k : KeptL (L.take i) J) (e : L[i]? = some z) (e1 : z'.1 = z.1) (e2 : KeptOf z.2 z'.2) : KeptL (L.take (i + 1)) (J ++ [z']) := by
  have li := (List.getElem?_eq_some_iff.mp e).1
  have lt : (L.take i).length = i := by rw [List.length_take]; omega
  have lJ : J.length = i := by rw [k.1, lt]
  refine ⟨by rw [List.length_append, lJ, List.length_take]; simp; omega, fun j y hj => ?_⟩
  rw [List.take_add_one, e] at hj
  by_cases h : j < i
  · rw [List.getElem?_append_left (by rw [lt]; exact h)] at hj
    obtain ⟨y', h1, h2⟩ := k.2 j y hj
    exact ⟨y', by rw [List.getElem?_append_left (by omega)]; exact h1, h2⟩
  · have hj' : j = i := by
      have := (List.getElem?_eq_some_iff.mp hj).1
      rw [List.length_append, lt] at this
      simp at this
      omega
    subst hj'
    rw [List.getElem?_append_right (by omega), lt] at hj
    simp at hj
    subst hj
    refine ⟨z', ?_, e1, e2⟩
    rw [List.getElem?_append_right (by omega), lJ]
    simp
theorem HandR.same {K : PySem.W.Frag} {H H' : Hp} {v : V} {z : Wrl} (e : Same H H') (h : HandR K H v z) : HandR K H' v z := by
  obtain ⟨t, b, xs, rfl, h1, h2, h3⟩ := h
  exact ⟨t, b, xs, rfl, Same.sqt e h1, h2.elim (fun q => .inl (e.seq q)) (fun q => .inr (Same.sqt e q)), RowsT.same e h3⟩
def spKepts (K : PySem.W.Frag) : Sp := fun vs H Q _ => ∃ (a : Addr) (xs : List V) (n : Nat) (L : List Wrl), vs = [.ref a, .int (n : Nat)] ∧ SqL K H a xs ∧ HandL K H xs L ∧ RelsOk n L ∧
  ∀ (H' : Hp) (p : Addr) (ys : List V) (J : List Wrl), Same H H' → H p = none → H' p = some (.lst ys) → RelL K H' ys J → KeptL L J → Q (.ref p) H'
section
variable {P : Program} {w : World} {K : PySem.W.Frag} {mg : Str → Option Value} {base : Heap}
theorem call_lenSKw {X : Cx} (hP : X.prog = P) (hw : X.w = w) : CallR X (.builtin "len") (rLenSK P w) := by
  subst hP hw
  exact call_lenSK
theorem sc_kepts : FnScope ["relations", "size", "kept", "relation"] ["relations", "size"] (defScope (top 23)) := ⟨rfl, rfl, rfl, by decide +kernel, rfl, by decide +kernel, by decide +kernel⟩
theorem has_kepts (D : Def K mg "_kept_relations" ["relations", "size"] (top 23)) (T : Txt mg) (BS : XC K mg "BadStructure") (k1 : ∃ t, mg "MOST_RELATIONS" = some (.int 6 t)) (C1 : Has P w K mg base 4 "_kept_relation" ["relation", "size"] (spKeptRel K)) : Has P w K mg base 5 "_kept_relations" ["relations", "size"] (spKepts K) := D.has fun f fd F => by
  obtain ⟨f1, fd1, G_kept_relation, g_kept_relation, k_kept_relation, b_kept_relation⟩ := C1
  obtain ⟨t1, c_MOST_RELATIONS⟩ := k1
  refine F.ok sc_kepts (fun vs H Q E h => ?_) (fun cdv A outer s H vs Q E hr h => ?_)
  · obtain ⟨a, xs, n, L, rfl, _⟩ := h; rfl
  · obtain ⟨a, xs, n, L, rfl, hS, ⟨lx, hx⟩, rok, q⟩ := h
    have R_kept_relation : Room 4 _ := hr
    have l6 := rok.l6
    refine ⟨_, PSs.nox (pss_cons (ps_if (PW.pt (pw_or (pt_not (pt_val (pe_callB call_isi (by rfl) T.n_isinstance (by decide +kernel) (pa_cons (pv 0) (pa_cons (pe_bltn (v := .ty "list") (by rfl) T.n_list (by decide +kernel) rfl) pa_nil))))) (pw_or1 (pt_cmpR op_gt (pe_callB call_len_seq (by rfl) T.n_len PySem.boot_len (pa_cons (pv 0) pa_nil)) (pe_glob (v := .int 6) (by rfl) c_MOST_RELATIONS ⟨_, rfl⟩) (nomark _))))) pss_never pss_nil) (pss_cons (ps_setLc (i := 2) (own := [("relation", 3)]) rfl sc_kepts.nd rfl rfl (sw_true rfl rfl rfl (by decide +kernel)) (pi_list (pv 0)) (blkOk_by (N := ["relations", "size", "kept", "relation"]) (sc := defScope (top 23)) (by decide +kernel)) (fun _ _ _ _ _ => (pg_name (i := 3) sc_kepts.nd rfl (Or.inl rfl))) (fun _ _ _ _ _ => pts_nil) (fun _ _ _ _ _ => (pe_call G_kept_relation R_kept_relation (by rfl) g_kept_relation k_kept_relation b_kept_relation .nil pass0 (pa_cons (pv 3) (pa_cons (pv 1) pa_nil))))) (pss_cons (ps_if (pt_cmpR op_ne (pe_callB (call_lenSKw (P := P) (w := w) rfl rfl) (by rfl) T.n_len PySem.boot_len (pa_cons (pe_scK (own := [("relation", 3)]) rfl sc_kepts.nd (pi_list (pv 2)) (blkOk_by (N := ["relations", "size", "kept", "relation"]) (sc := defScope (top 23)) (by decide +kernel)) (fun _ _ _ _ _ => (pg_name (i := 3) sc_kepts.nd rfl (Or.inl rfl))) (fun _ _ _ _ _ => pts_nil) (fun _ _ _ _ _ => (pe_ix (ix_tupK (K := K) rfl) (pv 3) pe_int (fun _ _ => rfl)))) pa_nil)) (pe_callB call_len_seq (by rfl) T.n_len PySem.boot_len (pa_cons (pv 2) pa_nil)) (nomark _)) pss_never pss_nil) (pss_one (ps_ret (pv 2)))))), ?_⟩
    refine ⟨_, rfl, _, _, _, _, _, rfl, .ty _, ty_lst hS, kit_ty (b := "list") (r := true) (by decide +kernel), _, rfl, iteF ?_⟩
    refine ⟨_, rfl, a, _, rfl, .inl hS, _, _, rfl, rfl, _, rfl, cF (k := decide ((6 : Int) < (xs.length : Nat))) (decide_eq_false (by omega)) ?_⟩
    refine ⟨_, rfl, a, rfl, ⟨_, hS⟩, fun M nM => ?_⟩
    refine lc_it (walk_list (K := K) (a := a) (xs := xs)) (fun i H2 => ∃ (acc : List V) (J : List Wrl), Same H H2 ∧ H2 M = some (.lst acc) ∧ RelL K H2 acc J ∧ KeptL (L.take i) J) ⟨[], [], same_upd nM, upd_same, .nil, rfl, fun i z h => by simp at h⟩ (fun i H2 _ ⟨_, _, s2, _⟩ => s2.seq hS) ?_ ?_
    · rintro i y H2 H3 hi ⟨acc, J, s2, hM, dacc, kj⟩ ⟨rfl, hy⟩
      have li : i < L.length := by omega
      have hz : L[i]? = some L[i] := List.getElem?_eq_getElem li
      generalize L[i] = z at hz
      have ok := rok.all z (List.mem_of_getElem? hz)
      obtain ⟨t, b, rs, rfl, h1, h2, h3⟩ := HandR.same s2 (hx i y z hy hz)
      have lacc := RelL.length dacc
      have lJ := kj.1
      rw [List.length_take] at lJ
      obtain ⟨⟨nm, k⟩, R⟩ := z
      refine ⟨rfl, _, rfl, _, rfl, t, b, rs, n, k, nm, R, rfl, h1, h2, h3, ok.rows, ok.few, ok.nm, ok.ar, rok.n1, rok.n16, ok.pw, fun H4 p J4 s4 np d4 kp4 => ?_⟩
      refine ⟨acc, s4 _ _ hM, small1000 (by omega), acc ++ [.ref p], J ++ [((nm, k), J4)], fun c o e => (upd_ne (ne_of_none e nM)).trans (s4 _ _ (s2 _ _ e)), upd_same, ?_, kj.snoc hz rfl kp4⟩
      exact RelL.kl (Kl.upd (s4 _ _ hM)) (RelL.append (RelL.same s4 dacc) (.cons d4 .nil))
    · rintro H2 ⟨acc, J, s2, hM, dacc, kj⟩
      rw [lx, List.take_length] at kj
      have lacc := RelL.length dacc
      have lJ := kj.1
      have hS2 : SqL K H2 M acc := SqL.of hM
      have ndJ : (J.map fun z => (Sum.inr z.1.1 : Key)).Nodup := by
        have e1 : (J.map fun z => (Sum.inr z.1.1 : Key)) = (L.map fun z => z.1.1).map Sum.inr := by
          have := congrArg (List.map fun s : Str × Nat => (Sum.inr s.1 : Key)) kj.signs
          rw [List.map_map, List.map_map] at this
          rw [List.map_map]
          exact this
        rw [e1]
        exact List.Pairwise.map _ (fun a b hab e => hab (Sum.inr.inj e)) rok.nd
      refine ⟨_, rfl, M, rfl, ⟨_, hS2⟩, fun D nD => ?_⟩
      refine sck_it (walk_list (K := K) (a := M) (xs := acc)) (fun i H3 => ∃ c, Same H2 H3 ∧ H3 D = some (SetK P w D (memK ((J.map fun z => (Sum.inr z.1.1 : Key)).take i)) c) ∧ Cnt ((J.map fun z => (Sum.inr z.1.1 : Key)).take i) c) ⟨0, same_upd nD, upd_same, Cnt.nil⟩ (fun i H3 _ ⟨_, s3, _⟩ => s3.seq hS2) ?_ ?_
      · rintro i y H3 H4 hi ⟨c, s3, hD, cnt⟩ ⟨rfl, hy⟩
        obtain ⟨dd, hd, dpy⟩ := DpAll.get' (RelL.dp dacc) hy
        obtain ⟨z, hz, rfl⟩ := get_map hd
        obtain ⟨u, zs, rfl, hu, hz2⟩ := Dp.tup_inv (Dp.same s3 dpy)
        obtain ⟨x1, w1, rfl, g1, hz2⟩ := DpAll.cons_inv hz2
        obtain ⟨x2, w2, rfl, g2, hz3⟩ := DpAll.cons_inv hz2
        obtain ⟨x3, w3, rfl, g3, hz4⟩ := DpAll.cons_inv hz3
        obtain rfl := DpAll.nil_inv hz4
        obtain rfl := Dp.str_inv g1
        have ek : (J.map fun z => (Sum.inr z.1.1 : Key))[i]? = some (Sum.inr z.1.1) := by rw [List.getElem?_map, hz]; rfl
        have c6 : c ≤ 6 := by
          have := cnt.le
          rw [List.length_take] at this
          rw [List.length_map] at this
          omega
        refine ⟨rfl, _, rfl, u, _, 0, _, rfl, rfl, hu, rfl, D, Sum.inr z.1.1, _, c, rfl, rfl, hD, Nat.lt_of_le_of_lt (Nat.add_le_add_right c6 1) (by decide), ?_⟩
        have e1 : ((J.map fun z => (Sum.inr z.1.1 : Key)).take (i + 1)) = (J.map fun z => (Sum.inr z.1.1 : Key)).take i ++ [Sum.inr z.1.1] := by rw [List.take_add_one, ek]; rfl
        have sd : ∀ o, Same H2 (upd H4 D o) := fun o b x e => (upd_ne (ne_of_none e nD)).trans (s3 _ _ e)
        have ef : (fun j => memK ((J.map fun z => (Sum.inr z.1.1 : Key)).take i) j || decide (j = Sum.inr z.1.1)) = memK ((J.map fun z => (Sum.inr z.1.1 : Key)).take (i + 1)) := by
          rw [e1]; funext j; exact memK_snoc.symm
        by_cases mm : memK ((J.map fun z => (Sum.inr z.1.1 : Key)).take i) (Sum.inr z.1.1) = true
        · exact ⟨c, sd _, by rw [upd_same, ef, if_pos mm]; rfl, by rw [e1]; exact cnt.old (memK_iff.mp mm)⟩
        · exact ⟨c + 1, sd _, by rw [upd_same, ef, if_neg mm]; rfl, by rw [e1]; exact cnt.new fun z => mm (memK_iff.mpr z)⟩
      · rintro H3 ⟨c, s3, hD, cnt⟩
        rw [List.take_of_length_le (by rw [List.length_map]; omega)] at cnt hD
        have ec := cnt.all.mpr ndJ
        rw [List.length_map] at ec
        refine ⟨D, _, c, rfl, hD, _, rfl, M, _, rfl, .inl (s3.seq hS2), rfl, _, rfl, cF (k := !decide (V.int (c : Nat) = V.int (acc.length : Nat))) (nd_f (by rw [ec, lacc])) ?_⟩
        exact ⟨_, rfl, q _ M acc J (s2.trans s3) nM (s3 _ _ hM) (RelL.same s3 dacc) kj⟩
end
/-! ### what an instance that changes leaves as it is -/
/-- all but the instance s stays -/
def Kii (s : Addr) (H H' : Hp) : Prop := ∀ b o, H b = some o → b ≠ s → H' b = some o
section
variable {K : PySem.W.Frag} {s : Addr} {H H' : Hp} {c dx : Addr} {fs : List (Str × V)}
theorem Kii.sqL (k : Kii s H H') (hs : H s = some (.ins c dx fs)) {a : Addr} {xs : List V} (h : SqL K H a xs) : SqL K H' a xs := by
  rcases h with (h | ⟨o, h⟩) | h
  · exact .inl (.inl (k _ _ h fun z => by rw [z, hs] at h; cases h))
  · exact .inl (.inr ⟨o, k _ _ h fun z => by rw [z, hs] at h; cases h⟩)
  · exact .inr h
theorem Kii.sqT (k : Kii s H H') (hs : H s = some (.ins c dx fs)) {a : Addr} {xs : List V} (h : SqT K H a xs) : SqT K H' a xs := by
  rcases h with (h | ⟨o, h⟩) | h
  · exact .inl (.inl (k _ _ h fun z => by rw [z, hs] at h; cases h))
  · exact .inl (.inr ⟨o, k _ _ h fun z => by rw [z, hs] at h; cases h⟩)
  · exact .inr h
theorem Kii.tup (k : Kii s H H') (hs : H s = some (.ins c dx fs)) (t : Addr) (xs : List V) (h : H t = some (.tup xs)) : H' t = some (.tup xs) := k _ _ h fun z => by rw [z, hs] at h; cases h
theorem Kii.relL (k : Kii s H H') (hs : H s = some (.ins c dx fs)) {ys : List V} {J : List Wrl} (h : RelL K H ys J) : RelL K H' ys J := h.keep (fun _ _ q => k.sqT hs q) (k.tup hs)
theorem Kii.handL (k : Kii s H H') (hs : H s = some (.ins c dx fs)) {xs : List V} {L : List Wrl} (h : HandL K H xs L) : HandL K H' xs L := by
  refine ⟨h.1, fun i v z h1 h2 => ?_⟩
  obtain ⟨t, b, ys, rfl, g1, g2, g3⟩ := h.2 i v z h1 h2
  exact ⟨t, b, ys, rfl, k.sqT hs g1, g2.elim (fun q => .inl (k.sqL hs q)) (fun q => .inr (k.sqT hs q)), g3.keep (k.tup hs)⟩
end
/-! ### structures -/
def stF (n : Nat) (p : Addr) : List (Str × V) := [("size", .int (n : Nat)), ("relations", .ref p)]
/-- v is a structure of n elements with the relations J -/
def StR (K : PySem.W.Frag) (H : Hp) (v : V) (n : Nat) (J : List Wrl) : Prop := ∃ (s dx p : Addr) (ys : List V), v = .ref s ∧ H s = some (.ins (He.ga K "Structure") dx (stF n p)) ∧ H p = some (.lst ys) ∧ RelL K H ys J
theorem StR.same {K : PySem.W.Frag} {H H' : Hp} {v : V} {n : Nat} {J : List Wrl} (e : Same H H') (h : StR K H v n J) : StR K H' v n J := by
  obtain ⟨s, dx, p, ys, rfl, h1, h2, h3⟩ := h
  exact ⟨s, dx, p, ys, rfl, e _ _ h1, e _ _ h2, RelL.same e h3⟩
def spStIni (K : PySem.W.Frag) : Sp := fun vs H Q _ => ∃ (s dx a : Addr) (xs : List V) (n : Nat) (L : List Wrl), vs = [.ref s, .int (n : Nat), .ref a] ∧ H s = some (.ins (He.ga K "Structure") dx []) ∧ SqL K H a xs ∧ HandL K H xs L ∧ RelsOk n L ∧
  ∀ (H' : Hp) (J : List Wrl), (∀ b o, H b = some o → b ≠ s → H' b = some o) → StR K H' (.ref s) n J → KeptL L J → Q .non H'
section
variable {P : Program} {w : World} {K : PySem.W.Frag} {mg : Str → Option Value} {base : Heap}
theorem sc_st_init : FnScope ["self", "size", "relations"] ["self", "size", "relations"] (defScope (inClass (top 24) 0)) := ⟨rfl, rfl, rfl, by decide +kernel, rfl, by decide +kernel, by decide +kernel⟩
theorem has_st_init (D : DefM K "Structure" "__init__" "Structure.__init__" ["self", "size", "relations"] (inClass (top 24) 0)) (SC : StC K) (BS : XC K mg "BadStructure") (k1 : ∃ t, mg "LARGEST_SIZE" = some (.int 16 t)) (C1 : Has P w K mg base 2 "is_between" ["value", "low", "high"] spBetween) (C2 : Has P w K mg base 5 "_kept_relations" ["relations", "size"] (spKepts K)) : HasM P w K mg base 6 "Structure" "__init__" ["self", "size", "relations"] (spStIni K) := D.has fun f fd F => by
  obtain ⟨f1, fd1, G_is_between, g_is_between, k_is_between, b_is_between⟩ := C1
  obtain ⟨f2, fd2, G_kept_relations, g_kept_relations, k_kept_relations, b_kept_relations⟩ := C2
  obtain ⟨t1, c_LARGEST_SIZE⟩ := k1
  refine F.ok sc_st_init (fun vs H Q E h => ?_) (fun cdv A outer s H vs Q E hr h => ?_)
  · obtain ⟨s, dx, a, xs, n, L, rfl, _⟩ := h; rfl
  · obtain ⟨s, dx, a, xs, n, L, rfl, h1, hA, hL, rok, q⟩ := h
    have R_is_between : Room 2 _ := hr.mono (by decide)
    have R_kept_relations : Room 5 _ := hr
    have n1 := rok.n1
    have n16 := rok.n16
    refine ⟨_, PSs.nox (pss_cons (ps_if (pt_not (pt_val (pe_call G_is_between R_is_between (by rfl) g_is_between k_is_between b_is_between .nil pass0 (pa_cons (pv 1) (pa_cons pe_int (pa_cons (pe_glob (v := .int 16) (by rfl) c_LARGEST_SIZE ⟨_, rfl⟩) pa_nil)))))) pss_never pss_nil) (pss_cons (ps_fld (pv 0) (pv 1) rfl) (pss_one (ps_fld (pv 0) (pe_call G_kept_relations R_kept_relations (by rfl) g_kept_relations k_kept_relations b_kept_relations .nil pass0 (pa_cons (pv 2) (pa_cons (pv 1) pa_nil))) rfl)))), ?_⟩
    refine ⟨_, rfl, _, 1, 16, rfl, rfl, _, rfl, ?_⟩
    have bt : btw 1 16 (V.int (n : Nat)) = true := by
      show (decide ((1 : Int) ≤ (n : Nat)) && decide (((n : Nat) : Int) ≤ 16)) = true
      rw [decide_eq_true (by omega), decide_eq_true (by omega)]; rfl
    refine cF (k := !btw 1 16 (V.int (n : Nat))) (by rw [bt]; rfl) ?_
    refine ⟨_, rfl, _, rfl, s, _, dx, _, rfl, h1, SC.cls, SC.ns, (by show 0 < 1000; decide), ?_⟩
    -- what stays but the instance
    have keep : ∀ b o, H b = some o → b ≠ s → (upd H s (.ins (He.ga K "Structure") dx (putF "size" (.int (n : Nat)) []))) b = some o := fun b o e nb => (upd_ne nb).trans e
    generalize hH1 : upd H s (.ins (He.ga K "Structure") dx (putF "size" (.int (n : Nat)) [])) = H1 at keep ⊢
    have h1s : H1 s = some (.ins (He.ga K "Structure") dx [("size", .int (n : Nat))]) := by rw [← hH1, upd_same]; rfl
    clear hH1
    have ki : Kii s H H1 := keep
    refine ⟨_, rfl, _, rfl, a, xs, n, L, rfl, ki.sqL h1 hA, ki.handL h1 hL, rok, fun H2 p ys J s2 np hp dJ kJ => ?_⟩
    refine ⟨_, rfl, s, _, dx, _, rfl, s2 _ _ h1s, SC.cls, SC.nr, (by show 1 < 1000; decide), ?_⟩
    have nps : p ≠ s := fun z => by rw [z, h1s] at np; cases np
    refine q _ J (fun b o e nb => (upd_ne nb).trans (s2 _ _ (keep b o e nb))) ⟨s, dx, p, ys, rfl, upd_same, (upd_ne nps).trans hp, ?_⟩ kJ
    exact Kii.relL (fun b o e nb => (upd_ne nb).trans e) (s2 _ _ h1s) dJ
end
/-! ### sorted of pairs of a text and an int -/
def IsTI (h : Heap) (v : Value) (x : Str) (y : Int) : Prop :=
  ∃ a o t u n, v = .ref a ∧ h.get? a = some o ∧ o.cls = .type "tuple" ∧ o.data = .seq #[.str x t, .int y u] n
theorem IsTI.keeps {h h' : Heap} {v : Value} {x : Str} {y : Int} (p : IsTI h v x y)
    (k : ∀ b o, h.get? b = some o → o.cls = .type "tuple" → h'.get? b = some o) : IsTI h' v x y := by
  obtain ⟨a, o, t, u, n, e, h1, h2, h3⟩ := p
  exact ⟨a, o, t, u, n, e, k _ _ h1 h2, h2, h3⟩
/-- ρ tells the order of these texts -/
def Rk (ρ : Str → Int) (xs : List Str) : Prop :=
  ∀ x y, x ∈ xs → y ∈ xs → decide (x.cps.toList < y.cps.toList) = decide (ρ x < ρ y) ∧ (ρ x = ρ y → x = y)
section
open Srt
variable {prog : Program} {w : World} {A : Around} {s : Shared} {vs : List Value} {k : Value → Str × Int} {ρ : Str → Int}
theorem ti_cmp (hp : ∀ v ∈ vs, IsTI s.heap v (k v).1 (k v).2) (hr : Rk ρ (vs.map fun v => (k v).1)) :
    SrtO.Cmp prog w A s (tuples' true) (fun p => p.1 ∈ vs) (SrtO.lt2 fun v u => SrtO.lexB (ρ (k v).1, (k v).2) (ρ (k u).1, (k u).2)) := by
  intro p q m1 m2
  have a1 := hp _ m1
  have a2 := hp _ m2
  have r1 := hr (k p.1).1 (k q.1).1 (List.mem_map.mpr ⟨_, m1, rfl⟩) (List.mem_map.mpr ⟨_, m2, rfl⟩)
  show wpAny (model prog w) A (keyLt' (tuples' true) p.1 q.1) (fun r s' => s' = s ∧ r = SrtO.lexB (ρ (k p.1).1, (k p.1).2) (ρ (k q.1).1, (k q.1).2)) (fun _ _ => False) s
  generalize (k p.1).1 = x at a1 r1 ⊢
  generalize (k p.1).2 = y at a1 ⊢
  generalize (k q.1).1 = x2 at a2 r1 ⊢
  generalize (k q.1).2 = y2 at a2 ⊢
  obtain ⟨rl, ri⟩ := r1
  obtain ⟨a, o, t, u, n, e, ho, hc, hd⟩ := a1
  obtain ⟨b, o2, t2, u2, n2, e2, ho2, hc2, hd2⟩ := a2
  rw [e, e2]
  refine PySem.W.kat_lt ho hd ho2 hd2 ?_
  show PySem.W.KatLex prog w A true (decide (2 < 2)) _ [(.str x t, .str x2 t2), (.int y u, .int y2 u2)] 0 s
  refine PySem.W.kat_cons (SeqAt.EqAt.str_str x t x2 t2 prog w _ _ ?_)
  refine PySem.W.kat_go (fun z1 => ?_) (fun z1 => ?_)
  · have ex : x = x2 := by simpa using z1
    refine PySem.W.kat_yes (PySem.W.kat_cons (SeqAt.EqAt.int_int y u y2 u2 prog w _ _ ?_))
    refine PySem.W.kat_go (fun z2 => ?_) (fun z2 => ?_)
    · have ey : y = y2 := by simpa using z2
      refine PySem.W.kat_yes (PySem.W.kat_nil ⟨rfl, Eq.symm ?_⟩)
      exact SrtO.lexB_no.mpr (by rw [ex, ey]; omega)
    · refine PySem.W.kat_no (PySem.W.kat_one _ _ (PyProof.Rows.lt_int ?_))
      have e3 : SrtO.lexB (ρ x, y) (ρ x2, y2) = decide (y < y2) := by
        unfold SrtO.lexB
        exact if_pos (by rw [ex])
      exact (show s = s ∧ decide (y < y2) = _ from ⟨rfl, e3.symm⟩)
  · have ex : ¬ x = x2 := by simpa using z1
    have e3 : SrtO.lexB (ρ x, y) (ρ x2, y2) = decide (x.cps.toList < x2.cps.toList) := by
      rw [rl]
      unfold SrtO.lexB
      exact if_neg fun z => ex (ri z)
    exact PySem.W.kat_no (PyProof.Rows.oneLt_str ⟨rfl, e3.symm⟩)
theorem ti_firsts {h : Heap} : ∀ {vs : List Value}, (∀ v ∈ vs, IsTI h v (k v).1 (k v).2) →
    ∃ fs : List Value, PySem.W.KatTups h vs fs ∧ fs.length = vs.length ∧ ∀ f ∈ fs, ∃ x t, f = Value.str x t
  | [], _ => ⟨[], PySem.W.KatTups.nil, rfl, fun _ z => by simp at z⟩
  | v :: vs, hp => by
    obtain ⟨fs, c1, c2, c3⟩ := ti_firsts (vs := vs) fun v2 z => hp v2 (List.mem_cons_of_mem _ z)
    obtain ⟨a, o, t, u, n, e, ho, hc, hd⟩ := hp v (List.mem_cons_self ..)
    subst e
    refine ⟨.str (k (.ref a)).1 t :: fs, PySem.W.KatTups.cons ho hc hd rfl c1, by simp [c2], fun f hf => ?_⟩
    rcases List.mem_cons.mp hf with rfl | hf
    · exact ⟨_, t, rfl⟩
    · exact c3 f hf
theorem ti_swo : SrtO.Swo fun v u : Value => SrtO.lexB (ρ (k v).1, (k v).2) (ρ (k u).1, (k u).2) := SrtO.swo_lex fun v => (ρ (k v).1, (k v).2)
theorem ti_sortable {a : Addr} (h0 : 0 < vs.length) (hp : ∀ v ∈ vs, IsTI s.heap v (k v).1 (k v).2) (hr : Rk ρ (vs.map fun v => (k v).1))
    (ha : ∀ o, s.heap.get? a = some o → o.cls ≠ .type "tuple") : SrtO.SortableO prog w A s a vs fun v u => SrtO.lexB (ρ (k v).1, (k v).2) (ρ (k u).1, (k u).2) := by
  intro h2 keep
  have hp2 : ∀ v ∈ vs, IsTI h2 v (k v).1 (k v).2 := fun v hv => (hp v hv).keeps fun b o e c => keep b o (fun z => by subst z; exact ha o e c) e
  obtain ⟨fs, c1, c2, c3⟩ := ti_firsts hp2
  refine ⟨tuples' true, fun Q E hq => ?_, ti_cmp hp2 hr⟩
  refine PySem.W.kat_kind (T := .type "str") c1 (by omega) (fun f hf => ?_) (by rfl) ?_
  · obtain ⟨x, t, rfl⟩ := c3 f hf
    exact PySem.W.Looks.now
  · have e : (Value.type "str" != Value.type "tuple") = true := by first | decide +kernel | rfl | decide
    rw [e]
    exact hq
end
/-- sorted(xs), xs a list of pairs of a text and an int -/
def ltTI (ρ : Str → Int) (k : V → Str × Int) (x y : V) : Bool := SrtO.lexB (ρ (k x).1, (k x).2) (ρ (k y).1, (k y).2)
theorem ltTI_swo (ρ : Str → Int) (k : V → Str × Int) : SrtO.Swo (ltTI ρ k) := ltP_swo fun x => (ρ (k x).1, (k x).2)
def rSortTI (K : PySem.W.Frag) : List V → Hp → VK → Prop := fun vs H Q => ∃ (a : Addr) (xs : List V) (k : V → Str × Int) (ρ : Str → Int), vs = [V.ref a] ∧ SqL K H a xs ∧ (∀ x ∈ xs, ∃ t, x = V.ref t ∧ H t = some (.tup [.str (k x).1, .int (k x).2])) ∧ Rk ρ (xs.map fun x => (k x).1) ∧
  ∀ ys p, SrtO.Srtd (ltTI ρ k) ys → SrtO.Stb (ltTI ρ k) ys xs → H p = none → Q (.ref p) (upd H p (.lst ys))
section
variable {X : Cx}
theorem cr_sortTI : CallR X (.builtin "sorted") (rSortTI X.K) := by
  intro pins s σ H vs us Q I r h
  obtain ⟨a, xs, k, ρ, rfl, hs, hx, hr, q⟩ := h
  obtain ⟨its, rv, hl, hz⟩ := I.list hs
  obtain ⟨u, rfl, ru⟩ := vals1 r
  obtain rfl : u = Value.ref a := ru
  obtain ⟨e1, e2⟩ := refs_back rv fun x m => by
    obtain ⟨t, e, _⟩ := hx x m
    exact ⟨t, e⟩
  have hp : ∀ v ∈ its, IsTI s.heap v (k (backV v)).1 (k (backV v)).2 := fun v hv => by
    obtain ⟨t, rfl⟩ := e2 v hv
    have hm : V.ref t ∈ xs := by rw [e1]; exact List.mem_map.mpr ⟨_, hv, rfl⟩
    obtain ⟨t2, e, ht⟩ := hx _ hm
    cases e
    obtain ⟨_, l2, r2, o, ho, hc, n, hd⟩ := I.hok _ _ ht
    obtain ⟨u1, u2, rfl, ri, rj⟩ := vals2 r2
    obtain ⟨t1, rfl⟩ := ri
    obtain ⟨t3, rfl⟩ := rj
    exact ⟨t, o, t1, t3, n, rfl, ho, hc, hd⟩
  have hr2 : Rk ρ (its.map fun v => (k (backV v)).1) := by
    have e : (its.map fun v => (k (backV v)).1) = xs.map fun x => (k x).1 := by
      rw [e1, List.map_map]
      rfl
    rw [e]
    exact hr
  refine SrtO.sorted_ord (ti_swo (k := fun u => k (backV u)) (ρ := ρ)) hl.isList (by rw [← rv.length]; exact hz) (fun n2 h1 a1 ha kk => ?_) fun out hs1 hb => ?_
  · refine ti_sortable (k := fun u => k (backV u)) (s := { s with heap := h1 }) (by omega) (fun v hv => (hp v hv).keeps fun b o e _ => (kk b o e).2) hr2 fun o e => ?_
    have e3 : some o = some (PyProof.Rows.seqObj "list" its.toArray 0) := e.symm.trans ha
    cases e3
    intro c
    exact absurd (Value.type.inj c) (by decide)
  · have h3 : ∀ u ∈ out, ∃ a, u = Value.ref a := fun u hu => e2 u (hb.perm.mem_iff.mp hu)
    obtain ⟨n, hn⟩ := PyProof.Rows.sortedAll_at s.heap its out.toArray
    have hbb : SrtO.Stb (ltTI ρ k) (out.map backV) xs := by
      rw [e1]
      exact SrtO.Stb.map (ltTI_swo ρ k) backV hb
    have fr := I.hok.fresh (Nat.le_succ s.heap.objs.size)
    refine ⟨.ref _, upd H (s.heap.objs.size + 1) (.lst (out.map backV)), I.laid (t' := s.toks) (fun _ _ => PyProof.Rows.sortedAll_old) (Nat.le_succ _) ⟨?_, out, n, vals_back h3, hn⟩, rfl, q _ _ (SrtO.srtd_map hs1) hbb fr⟩
    rw [hbb.len]
    exact hz
end

/-! ### lists of pairs of a name and an arity -/
def sD (p : Str × Nat) : PyData := .tuple [.str p.1, .int p.2]
inductive TIs (H : Hp) : List V → List (Str × Nat) → Prop
  | nil : TIs H [] []
  | cons {t : Addr} {p : Str × Nat} {xs : List V} {l : List (Str × Nat)} : H t = some (.tup [.str p.1, .int (p.2 : Nat)]) → TIs H xs l → TIs H (.ref t :: xs) (p :: l)
theorem TIs.kl {H H' : Hp} (k : Kl H H') : ∀ {xs : List V} {l : List (Str × Nat)}, TIs H xs l → TIs H' xs l
  | _, _, .nil => .nil
  | _, _, .cons e t => .cons (k _ _ e fun zs z => nomatch z) (TIs.kl k t)
theorem TIs.snoc {H : Hp} {t : Addr} {p : Str × Nat} (e : H t = some (.tup [.str p.1, .int (p.2 : Nat)])) : ∀ {xs : List V} {l : List (Str × Nat)}, TIs H xs l → TIs H (xs ++ [.ref t]) (l ++ [p])
  | _, _, .nil => .cons e .nil
  | _, _, .cons a r => .cons a (TIs.snoc e r)
theorem TIs.len {H : Hp} : ∀ {xs : List V} {l : List (Str × Nat)}, TIs H xs l → xs.length = l.length
  | _, _, .nil => rfl
  | _, _, .cons _ r => congrArg Nat.succ (TIs.len r)
theorem TIs.dp {K : PySem.W.Frag} {H : Hp} : ∀ {xs : List V} {l : List (Str × Nat)}, TIs H xs l → DpAll K H xs (l.map sD)
  | _, _, .nil => .nil
  | _, _, .cons e r => .cons (.tup (.inl (.inl e)) (.cons (.str _) (.cons (.int _) .nil))) (TIs.dp r)
theorem TIs.get {H : Hp} : ∀ {xs : List V} {l : List (Str × Nat)} {i : Nat} {x : V}, TIs H xs l → xs[i]? = some x → ∃ t p, x = .ref t ∧ l[i]? = some p ∧ H t = some (.tup [.str p.1, .int (p.2 : Nat)])
  | _, _, i, x, .nil, h => by simp at h
  | _, _, 0, x, .cons e r, h => by
    have z := Option.some.inj h
    exact ⟨_, _, z.symm, rfl, e⟩
  | _, _, i + 1, x, .cons e r, h => TIs.get (i := i) r h
theorem TIs.perm {H : Hp} {xs ys : List V} (p : ys.Perm xs) : ∀ {l : List (Str × Nat)}, TIs H xs l → ∃ m, TIs H ys m ∧ m.Perm l := by
  induction p with
  | nil => intro l h; cases h; exact ⟨[], .nil, List.Perm.refl _⟩
  | cons x p ih =>
    intro l h
    cases h with
    | cons e r =>
      obtain ⟨m, h1, h2⟩ := ih r
      exact ⟨_ :: m, .cons e h1, h2.cons _⟩
  | swap x y l0 =>
    intro l h
    cases h with
    | cons e1 r1 =>
      cases r1 with
      | cons e2 r2 => exact ⟨_, .cons e2 (.cons e1 r2), List.Perm.swap ..⟩
  | trans p q ih1 ih2 =>
    intro l h
    obtain ⟨m, h1, h2⟩ := ih2 h
    obtain ⟨k, h3, h4⟩ := ih1 h1
    exact ⟨k, h3, h4.trans h2⟩
def kvH (H : Hp) (x : V) : Str × Int := match x with
  | .ref t => (match H t with
    | some (.tup [.str n, .int k]) => (n, k)
    | _ => ("", 0))
  | _ => ("", 0)
theorem TIs.kv {H : Hp} : ∀ {xs : List V} {l : List (Str × Nat)}, TIs H xs l → xs.map (kvH H) = l.map fun p => (p.1, (p.2 : Int))
  | _, _, .nil => rfl
  | _, _, .cons e r => by
    rw [List.map_cons, List.map_cons, TIs.kv r]
    congr 1
    simp only [kvH, e]
def five : List Str := ["e", "more", "p", "q"]
def rho5 (x : Str) : Int := if x = "e" then 0 else if x = "more" then 1 else if x = "p" then 2 else if x = "q" then 3 else 4
def rk5B : Bool := five.all fun x => five.all fun y => decide (decide (x.cps.toList < y.cps.toList) = decide (rho5 x < rho5 y)) && (!decide (rho5 x = rho5 y) || decide (x = y))
theorem rk5 {xs : List Str} (h : ∀ x, x ∈ xs → x ∈ five) : Rk rho5 xs := by
  have b : rk5B = true := by decide +kernel
  intro x y hx hy
  have b1 := List.all_eq_true.mp (List.all_eq_true.mp b x (h x hx)) y (h y hy)
  obtain ⟨b2, b3⟩ := Bool.and_eq_true_iff.mp b1
  refine ⟨of_decide_eq_true b2, fun e => ?_⟩
  rw [decide_eq_true e] at b3
  simpa using b3
/-- ss: the pairs of xs in order -/
structure SymOf (ss xs : List (Str × Nat)) : Prop where
  nd : (ss.map (·.1)).Nodup
  so : ss.Pairwise fun p q => rho5 p.1 ≤ rho5 q.1
  mem : ∀ p, p ∈ ss ↔ p ∈ xs
  fv : ∀ p, p ∈ ss → p.1 ∈ five
theorem sym_uniq : ∀ (l m : List (Str × Nat)), (∀ p, p ∈ l → p.1 ∈ five) → (l.map (·.1)).Nodup → l.Pairwise (fun p q => rho5 p.1 ≤ rho5 q.1) → m.Pairwise (fun p q => rho5 p.1 ≤ rho5 q.1) → l.Perm m → l = m
  | [], m, _, _, _, _, p => (List.nil_perm.mp p).symm
  | x :: l, [], _, _, _, _, p => by have := p.length_eq; cases this
  | x :: l, y :: m, f5, nd, hl, hm, p => by
    obtain ⟨a, b⟩ := List.pairwise_cons.mp hl
    obtain ⟨c, d⟩ := List.pairwise_cons.mp hm
    rw [List.map_cons] at nd
    obtain ⟨nd1, nd2⟩ := List.nodup_cons.mp nd
    have e : x = y := by
      rcases List.mem_cons.mp (p.mem_iff.mp (List.mem_cons_self ..)) with e | hx
      · exact e
      · rcases List.mem_cons.mp (p.mem_iff.mpr (List.mem_cons_self ..)) with e | hy
        · exact e.symm
        · have h1 := a y hy
          have h2 := c x hx
          have e2 := (rk5 (xs := five) (fun _ z => z) x.1 y.1 (f5 x (List.mem_cons_self ..)) (f5 y (List.mem_cons_of_mem _ hy))).2 (by omega)
          exact absurd (List.mem_map.mpr ⟨y, hy, e2.symm⟩) nd1
    subst e
    rw [sym_uniq l m (fun q hq => f5 q (List.mem_cons_of_mem _ hq)) nd2 b d p.cons_inv]
theorem nodup_fst {l : List (Str × Nat)} (h : (l.map (·.1)).Nodup) : l.Nodup := List.Pairwise.of_map (·.1) (fun a b hne e => hne (by rw [e])) h
theorem SymOf.uniq {ss tt xs : List (Str × Nat)} (a : SymOf ss xs) (b : SymOf tt xs) : ss = tt :=
  sym_uniq ss tt a.fv a.nd a.so b.so ((List.perm_ext_iff_of_nodup (nodup_fst a.nd) (nodup_fst b.nd)).mpr fun x => (a.mem x).trans (b.mem x).symm)
theorem SymOf.len {ss xs : List (Str × Nat)} (a : SymOf ss xs) : ss.length ≤ 5 := by
  have := sub_len (ss.map (·.1)) five a.nd fun x hx => by
    obtain ⟨p, hp, rfl⟩ := List.mem_map.mp hx
    exact a.fv p hp
  rw [List.length_map] at this
  exact Nat.le_trans this (by decide)
/-- sorted of such a list -/
theorem sortTI_q {K : PySem.W.Frag} {H : Hp} {c : Addr} {vs : List V} {l : List (Str × Nat)} {Q : VK} (hc : H c = some (.lst vs)) (hv : TIs H vs l) (nd : (l.map (·.1)).Nodup) (h5 : ∀ p, p ∈ l → p.1 ∈ five)
    (q : ∀ (p : Addr) (ys : List V) (ss : List (Str × Nat)), H p = none → TIs (upd H p (.lst ys)) ys ss → SymOf ss l → Q (.ref p) (upd H p (.lst ys))) : rSortTI K [.ref c] H Q := by
  have hkv := hv.kv
  refine ⟨c, vs, kvH H, rho5, rfl, SqL.of hc, fun x hx => ?_, rk5 fun x hx => ?_, fun ys p so st np => ?_⟩
  · obtain ⟨i, hi⟩ := List.mem_iff_getElem?.mp hx
    obtain ⟨t, pp, rfl, _, ht⟩ := hv.get hi
    refine ⟨t, rfl, ?_⟩
    have e : kvH H (.ref t) = (pp.1, (pp.2 : Int)) := by simp only [kvH, ht]
    rw [e]
    exact ht
  · have e : (vs.map fun x => (kvH H x).1) = l.map (·.1) := by
      have := congrArg (List.map Prod.fst) hkv
      rw [List.map_map, List.map_map] at this
      exact this
    rw [e] at hx
    obtain ⟨pp, hp, rfl⟩ := List.mem_map.mp hx
    exact h5 pp hp
  · obtain ⟨ss, ht, pm⟩ := hv.perm st.perm
    refine q p ys ss np (ht.kl (.of (same_upd np))) ⟨(pm.map (·.1)).nodup_iff.mpr nd, ?_, fun p => pm.mem_iff, fun p hp => h5 p (pm.mem_iff.mp hp)⟩
    have e := ht.kv
    have s2 : (ys.map (kvH H)).Pairwise fun a b => SrtO.lexB (rho5 b.1, b.2) (rho5 a.1, a.2) = false := List.pairwise_map.mpr so
    rw [e, List.pairwise_map] at s2
    refine s2.imp fun {a b} z => ?_
    have z2 : ¬ (rho5 b.1 < rho5 a.1 ∨ (rho5 b.1 = rho5 a.1 ∧ ((b.2 : Nat) : Int) < (a.2 : Nat))) := SrtO.lexB_no.mp z
    omega
theorem eqv_sD (p q : Str × Nat) : PyData.eqv (sD p) (sD q) = decide (p = q) := by
  obtain ⟨a, m⟩ := p
  obtain ⟨b, n⟩ := q
  simp only [sD, PyData.eqv, PyData.eqvAll, Bool.and_true]
  by_cases h : a = b
  · subst h
    by_cases h2 : m = n
    · subst h2; simp
    · have : ¬ (m : Int) = n := fun z => h2 (by omega)
      simp [h2, this]
  · simp [h]
theorem any_sD (l : List (Str × Nat)) (p : Str × Nat) : ((l.map sD).any fun z => PyData.eqv z (sD p)) = decide (p ∈ l) := by
  rw [List.any_map]
  by_cases h : p ∈ l
  · rw [decide_eq_true h]
    exact List.any_eq_true.mpr ⟨p, h, by rw [Function.comp, eqv_sD]; exact decide_eq_true rfl⟩
  · rw [decide_eq_false h]
    refine List.any_eq_false.mpr fun q hq z => h ?_
    rw [Function.comp, eqv_sD] at z
    rw [← of_decide_eq_true z]
    exact hq
theorem five_ok {x : Str} (h : x ∈ five) : PyData.canLay0 (.str x) = true := by
  have b : (five.all fun x => PyData.canLay0 (.str x)) = true := by decide +kernel
  exact List.all_eq_true.mp b x h
theorem lay_sD {p : Str × Nat} (h : p.1 ∈ five) : PyData.canLay0 (sD p) = true := by
  simp only [sD, PyData.canLay0, PyData.canLayAll0, Bool.and_true]
  exact five_ok h
theorem dep_sD (p : Str × Nat) : (sD p).depth = 1 := by
  simp only [sD, PyData.depth, PyData.depthAll]
  rfl
theorem shaped_sD {p : Str × Nat} (h : p.1 ∈ five) : SeqAt.shaped (sD p) = true := by
  unfold SeqAt.shaped
  rw [lay_sD h, dep_sD]
  rfl
theorem lays_sD : ∀ {l : List (Str × Nat)}, (∀ p, p ∈ l → p.1 ∈ five) → PyData.canLayAll0 (l.map sD) = true
  | [], _ => by rw [List.map_nil, PyData.canLayAll0]
  | p :: l, h => by
    rw [List.map_cons, PyData.canLayAll0, lay_sD (h p (List.mem_cons_self ..)), lays_sD fun q hq => h q (List.mem_cons_of_mem _ hq)]
    rfl
theorem deps_sD : ∀ (l : List (Str × Nat)), PyData.depthAll (l.map sD) ≤ 1
  | [] => by rw [List.map_nil, PyData.depthAll]; decide
  | p :: l => by
    rw [List.map_cons, PyData.depthAll, dep_sD]
    have := deps_sD l
    omega
theorem shapeds_sD {l : List (Str × Nat)} (h : ∀ p, p ∈ l → p.1 ∈ five) : SeqAt.shaped (.list (l.map sD)) = true := by
  unfold SeqAt.shaped
  rw [PyData.canLay0, lays_sD h, PyData.depth]
  have := deps_sD l
  exact decide_eq_true (by omega)

/-! ### what a structure tells of its relations -/
def spSymb (K : PySem.W.Frag) : Sp := fun vs H Q _ => ∃ (v : V) (n : Nat) (J : List Wrl), vs = [v] ∧ StR K H v n J ∧ J.length ≤ 6 ∧ ∀ (H' : Hp) (p : Addr) (ys : List V), Same H H' → H p = none → H' p = some (.lst ys) → TIs H' ys (J.map (·.1)) → Q (.ref p) H'
section
variable {P : Program} {w : World} {K : PySem.W.Frag} {mg : Str → Option Value} {base : Heap}
theorem sl_tupK {X : Cx} (h : X.K = K) : SlR X (rSlT K) := h ▸ sl_tup
theorem sc_symbols : FnScope ["self", "relation"] ["self"] (defScope (inClass (top 24) 5)) := ⟨rfl, rfl, rfl, by decide +kernel, rfl, by decide +kernel, by decide +kernel⟩
theorem has_symbols (D : DefM K "Structure" "symbols" "Structure.symbols" ["self"] (inClass (top 24) 5)) (SC : StC K) (T : Txt mg) : HasM P w K mg base 1 "Structure" "symbols" ["self"] (spSymb K) := D.has fun f fd F => by
  refine F.ok sc_symbols (fun vs H Q E h => ?_) (fun cdv A outer s H vs Q E hr h => ?_)
  · obtain ⟨v, n, J, rfl, _⟩ := h; rfl
  · obtain ⟨v, n, J, rfl, ⟨s0, dx, p, ys, rfl, h1, hp, dJ⟩, l6, q⟩ := h
    refine ⟨_, PSs.nox (pss_one (ps_ret (pe_lc (own := [("relation", 1)]) rfl sc_symbols.nd (pi_list (pe_fld (pv 0) rfl)) (blkOk_by (N := ["self", "relation"]) (sc := defScope (inClass (top 24) 5)) (by decide +kernel)) (fun _ _ _ _ _ => (pg_name (i := 1) sc_symbols.nd rfl (Or.inl rfl))) (fun _ _ _ _ _ => pts_nil) (fun _ _ _ _ _ => (pe_slice (sl_tupK (K := K) rfl) (pv 1) po_none (po_some pe_int)))))), ?_⟩
    have ly := RelL.length dJ
    refine ⟨_, rfl, s0, _, dx, _, _, rfl, h1, SC.cls, SC.nr, rfl, p, rfl, ⟨_, SqL.of hp⟩, fun M nM => ?_⟩
    refine lc_it (walk_list (K := K) (a := p) (xs := ys)) (fun i H2 => ∃ acc, Same H H2 ∧ H2 M = some (.lst acc) ∧ TIs H2 acc ((J.map (·.1)).take i)) ⟨[], same_upd nM, upd_same, .nil⟩ (fun i H2 _ ⟨_, s2, _⟩ => s2.seq (SqL.of hp)) ?_ ?_
    · rintro i y H2 H3 hi ⟨acc, s2, hM, ht⟩ ⟨rfl, hy⟩
      obtain ⟨dd, hd, dpy⟩ := DpAll.get' (RelL.dp dJ) hy
      obtain ⟨z, hz, rfl⟩ := get_map hd
      obtain ⟨u, zs, rfl, hu, hz2⟩ := Dp.tup_inv (Dp.same s2 dpy)
      obtain ⟨x1, w1, rfl, g1, hz2⟩ := DpAll.cons_inv hz2
      obtain ⟨x2, w2, rfl, g2, hz2⟩ := DpAll.cons_inv hz2
      obtain ⟨x3, w3, rfl, g3, hz2⟩ := DpAll.cons_inv hz2
      obtain rfl := DpAll.nil_inv hz2
      obtain rfl := Dp.str_inv g1
      obtain rfl := Dp.int_inv g2
      have la := ht.len
      rw [List.length_take, List.length_map] at la
      refine ⟨rfl, _, rfl, _, rfl, u, _, rfl, hu, fun z => absurd z.2 (by show ¬ (2 = 3); decide), fun t nt => ?_⟩
      have st := same_upd (o := .tup (cutV [.str z.1.1, .int (z.1.2 : Nat), x3] none (some 2))) nt
      have e1 : (J.map (·.1)).take (i + 1) = (J.map (·.1)).take i ++ [z.1] := by
        rw [List.take_add_one, List.getElem?_map, hz]; rfl
      refine ⟨acc, st _ _ hM, small1000 (by omega), _, fun b o e => (upd_ne (ne_of_none e nM)).trans (st _ _ (s2 _ _ e)), upd_same, ?_⟩
      rw [e1]
      have nt2 : t ≠ M := fun e => by rw [e, hM] at nt; cases nt
      exact TIs.snoc ((upd_ne nt2).trans upd_same) ((ht.kl (.of st)).kl (Kl.upd (st _ _ hM)))
    · rintro H2 ⟨acc, s2, hM, ht⟩
      rw [List.take_of_length_le (by rw [List.length_map]; omega)] at ht
      exact q H2 M acc s2 nM hM ht
end
/-! ### two structures of one kind -/
theorem eqvs_all : ∀ l m : List (Str × Nat), PyData.eqvAll (l.map sD) (m.map sD) = decide (l = m)
  | [], [] => by rw [List.map_nil, PyData.eqvAll]; rfl
  | [], y :: s => by rw [List.map_nil, List.map_cons, PyData.eqvAll]; · rfl
                     all_goals (intros; contradiction)
  | x :: r, [] => by rw [List.map_nil, List.map_cons, PyData.eqvAll]; · rfl
                     all_goals (intros; contradiction)
  | x :: r, y :: s => by
    rw [List.map_cons, List.map_cons, PyData.eqvAll, eqvs_all r s, eqv_sD]
    by_cases e : x = y
    · subst e; simp
    · simp [e]
theorem eqvs_sD (l m : List (Str × Nat)) : PyData.eqv (.list (l.map sD)) (.list (m.map sD)) = decide (l = m) := by
  rw [PyData.eqv]
  exact eqvs_all l m
structure SgOk (l : List (Str × Nat)) : Prop where
  l6 : l.length ≤ 5
  nd : (l.map (·.1)).Nodup
  fv : ∀ p, p ∈ l → p.1 ∈ five
  ar : ∀ p, p ∈ l → p.2 ≤ 6
def spComp (K : PySem.W.Frag) : Sp := fun vs H Q E => ∃ (u v : V) (n m : Nat) (I J : List Wrl), vs = [u, v] ∧ StR K H u n I ∧ StR K H v m J ∧ SgOk (I.map (·.1)) ∧ SgOk (J.map (·.1)) ∧
  ((∀ p, p ∈ I.map (·.1) ↔ p ∈ J.map (·.1)) → ∀ (H' : Hp), Same H H' → Q .non H') ∧ (¬ (∀ p, p ∈ I.map (·.1) ↔ p ∈ J.map (·.1)) → ∀ (H' : Hp), Same H H' → E (.ref (He.ga K "NotFitting")) none H')
section
variable {P : Program} {w : World} {K : PySem.W.Frag} {mg : Str → Option Value} {base : Heap}
theorem sc_comp : FnScope ["first", "second"] ["first", "second"] (defScope (top 36)) := ⟨rfl, rfl, rfl, by decide +kernel, rfl, by decide +kernel, by decide +kernel⟩
theorem has_comp (D : Def K mg "_check_comparable" ["first", "second"] (top 36)) (T : Txt mg) (SC : StC K) (NF : XC K mg "NotFitting") (C1 : HasM P w K mg base 1 "Structure" "symbols" ["self"] (spSymb K)) : HasX (L2N.CX P w) P w K mg base 2 "_check_comparable" ["first", "second"] (spComp K) := D.has fun f fd F => by
  obtain ⟨f1, fd1, M_symbols, hm_symbols, bm_symbols⟩ := C1
  refine F.ok sc_comp (fun vs H Q E h => ?_) (fun cdv A outer s H vs Q E hr h => ?_)
  · obtain ⟨u, v, n, m, I, J, rfl, _⟩ := h; rfl
  · obtain ⟨u, v, n, m, I, J, rfl, hu, hv, oI, oJ, q, qe⟩ := h
    have RM_symbols : Room 1 _ := hr
    have iI := oI.l6
    have iJ := oJ.l6
    rw [List.length_map] at iI iJ
    refine ⟨_, (pss_one (ps_if (pt_cmpR (op_neD hr.units) (pe_callB cr_sortTI (by rfl) T.n_sorted (by decide +kernel) (pa_cons (pe_meth0 (pv 0) SC.cls hm_symbols M_symbols RM_symbols bm_symbols .nil pass0) pa_nil)) (pe_callB cr_sortTI (by rfl) T.n_sorted (by decide +kernel) (pa_cons (pe_meth0 (pv 1) SC.cls hm_symbols M_symbols RM_symbols bm_symbols .nil pass0) pa_nil)) (nomark _)) (pss_one (ps_raiseXN NF rfl (L2N.takes_of rfl rfl rfl rfl) rfl)) pss_nil)), ?_⟩
    obtain ⟨x1, dx1, p1, ys1, rfl, a1, b1, c1⟩ := id hu
    obtain ⟨x2, dx2, p2, ys2, rfl, a2, b2, c2⟩ := id hv
    refine ⟨_, rfl, x1, dx1, _, rfl, a1, rfl, .ref x1, n, I, rfl, hu, by omega, fun H1 p ys k1 np hp ti => ?_⟩
    dsimp only [tNil]
    refine sortTI_q (K := K) hp ti oI.nd oI.fv fun q1 zs ss nq tq so => ?_
    have k2 := k1.trans (same_upd (o := .lst zs) nq)
    generalize hH2 : upd H1 q1 (.lst zs) = H2 at k2 tq ⊢
    have hq1 : H2 q1 = some (.lst zs) := by rw [← hH2]; exact upd_same
    refine ⟨_, rfl, x2, dx2, _, rfl, k2 _ _ a2, rfl, .ref x2, m, J, rfl, StR.same k2 hv, by omega, fun H3 p' ys' k3 np' hp' ti' => ?_⟩
    dsimp only [tNil]
    refine sortTI_q (K := K) hp' ti' oJ.nd oJ.fv fun q2 zs' ss' nq' tq' so' => ?_
    have k4 := k3.trans (same_upd (o := .lst zs') nq')
    refine ⟨.list (ss.map sD), .list (ss'.map sD), .lst (SqL.of (k4 _ _ hq1)) (TIs.dp (tq.kl (.of k4))), .lst (SqL.of upd_same) (TIs.dp tq'), shapeds_sD so.fv, shapeds_sD so'.fv, _, rfl, ?_⟩
    have k5 := k2.trans k4
    rw [eqvs_sD]
    by_cases e : ∀ p, p ∈ I.map (·.1) ↔ p ∈ J.map (·.1)
    · have es : ss = ss' := so.uniq ⟨so'.nd, so'.so, fun p => (so'.mem p).trans (e p).symm, so'.fv⟩
      exact cF (k := !decide (ss = ss')) (by rw [decide_eq_true es]; rfl) (q e _ k5)
    · have es : ¬ ss = ss' := fun z => e fun p => by rw [← so.mem, ← so'.mem, z]
      exact cT (k := !decide (ss = ss')) (by rw [decide_eq_false es]; rfl) (qe e _ k5)
end
theorem hk_fit {n : Nat} (h : n ≤ 100001) : n < sizeLine := Nat.lt_of_le_of_lt h (by decide)
theorem same_own {H H' : Hp} {p : Addr} {o : HO} (k : Same H H') (np : H p = none) : Same H (upd H' p o) := fun b x e => by
  rw [upd_ne (ne_of_none e np)]
  exact k b x e
def tyD : PyData → String
  | .none => "NoneType"
  | .bool _ => "bool"
  | .int _ => "int"
  | .str _ => "str"
  | .list _ => "list"
  | .tuple _ => "tuple"
  | .dict _ => "dict"
theorem ty_lstX {K : PySem.W.Frag} {H : Hp} {a : Addr} {xs : List V} (h : SqL K H a xs) : TyX K H (.ref a) (.type "list") := by
  rcases h with (h | ⟨o, h⟩) | ⟨o, its, n, h, c, _⟩
  · exact .base (.lst h)
  · exact .base (.frz h)
  · exact .kList h c
theorem dp_ty {K : PySem.W.Frag} {H : Hp} {v : V} {t : PyData} (h : Dp K H v t) : TyX K H v (.type (tyD t)) := by
  cases h with
  | non => exact .base .non
  | bl b => exact .base (.bl b)
  | int i => exact .base (.int i)
  | str x => exact .base (.str x)
  | lst h _ => exact ty_lstX h
  | tup h _ => exact ty_tup h
def wholeD : PyData → Bool
  | .int _ => true
  | _ => false
def btwD (t : PyData) (lo hi : Int) : Bool := match t with
  | .int i => decide (lo ≤ i) && decide (i ≤ hi)
  | _ => false
def boolD : PyData → Bool
  | .bool _ => true
  | _ => false
def tupD : PyData → Bool
  | .tuple _ => true
  | _ => false
theorem kit_int (t : PyData) : kitB (tyD t) "int" = some (wholeD t || boolD t) := by
  cases t
  · show kitB "NoneType" "int" = some false; decide +kernel
  · show kitB "bool" "int" = some true; decide +kernel
  · show kitB "int" "int" = some true; decide +kernel
  · show kitB "str" "int" = some false; decide +kernel
  · show kitB "list" "int" = some false; decide +kernel
  · show kitB "tuple" "int" = some false; decide +kernel
  · show kitB "dict" "int" = some false; decide +kernel
theorem kit_bool (t : PyData) : kitB (tyD t) "bool" = some (boolD t) := by
  cases t
  · show kitB "NoneType" "bool" = some false; decide +kernel
  · show kitB "bool" "bool" = some true; decide +kernel
  · show kitB "int" "bool" = some false; decide +kernel
  · show kitB "str" "bool" = some false; decide +kernel
  · show kitB "list" "bool" = some false; decide +kernel
  · show kitB "tuple" "bool" = some false; decide +kernel
  · show kitB "dict" "bool" = some false; decide +kernel
theorem kit_tup (t : PyData) : kitB (tyD t) "tuple" = some (tupD t) := by
  cases t
  · show kitB "NoneType" "tuple" = some false; decide +kernel
  · show kitB "bool" "tuple" = some false; decide +kernel
  · show kitB "int" "tuple" = some false; decide +kernel
  · show kitB "str" "tuple" = some false; decide +kernel
  · show kitB "list" "tuple" = some false; decide +kernel
  · show kitB "tuple" "tuple" = some true; decide +kernel
  · show kitB "dict" "tuple" = some false; decide +kernel
def spWholeD (K : PySem.W.Frag) : Sp := fun vs H Q _ => ∃ (v : V) (t : PyData), vs = [v] ∧ Dp K H v t ∧ Q (.bl (wholeD t)) H
def spBetwD (K : PySem.W.Frag) : Sp := fun vs H Q _ => ∃ (v : V) (t : PyData) (lo hi : Int), vs = [v, .int lo, .int hi] ∧ Dp K H v t ∧ Q (.bl (btwD t lo hi)) H
section
variable {P : Program} {w : World} {K : PySem.W.Frag} {mg : Str → Option Value} {base : Heap}
theorem has_wholeD (D : Def K mg "is_whole" ["value"] (top 8)) (T : Txt mg) : Has P w K mg base 1 "is_whole" ["value"] (spWholeD K) := D.has fun f fd F => by
  refine F.ok sc_is_whole (fun vs H Q E h => ?_) (fun cdv A outer s H vs Q E hr h => ?_)
  · obtain ⟨v, t, rfl, _⟩ := h; rfl
  · obtain ⟨v, t, rfl, dp, q⟩ := h
    refine ⟨_, PSs.nox (pss_one (ps_ret (pe_and (pe_callB call_isi (by rfl) T.n_isinstance (by decide +kernel) (pa_cons (pv 0) (pa_cons (pe_bltn (v := .ty "int") (by rfl) T.n_int (by decide +kernel) rfl) pa_nil))) (pe_one (pe_not (pe_callB call_isi (by rfl) T.n_isinstance (by decide +kernel) (pa_cons (pv 0) (pa_cons (pe_bltn (v := .ty "bool") (by rfl) T.n_bool (by decide +kernel) rfl) pa_nil)))))))), ?_⟩
    cases dp with
    | int i => exact isi_q rfl (.base (.int i)) (m := "int") (b := true) (by decide +kernel) ⟨_, rfl, iteT (isi_q rfl (.base (.int i)) (m := "int") (b := false) (by decide +kernel) ⟨_, rfl, q⟩)⟩
    | bl b => exact isi_q rfl (.base (.bl b)) (m := "bool") (b := true) (by decide +kernel) ⟨_, rfl, iteT (isi_q rfl (.base (.bl b)) (m := "bool") (b := true) (by decide +kernel) ⟨_, rfl, q⟩)⟩
    | str z => exact isi_q rfl (.base (.str z)) (m := "str") (b := false) (by decide +kernel) ⟨_, rfl, iteF q⟩
    | non => exact isi_q rfl (.base .non) (m := "NoneType") (b := false) (by decide +kernel) ⟨_, rfl, iteF q⟩
    | lst h _ => exact isi_q rfl (ty_lstX h) (m := "list") (b := false) (by decide +kernel) ⟨_, rfl, iteF q⟩
    | tup h _ => exact isi_q rfl (ty_tup h) (m := "tuple") (b := false) (by decide +kernel) ⟨_, rfl, iteF q⟩
theorem has_betwD (D : Def K mg "is_between" ["value", "low", "high"] (top 9)) (C1 : Has P w K mg base 1 "is_whole" ["value"] (spWholeD K)) : Has P w K mg base 2 "is_between" ["value", "low", "high"] (spBetwD K) := D.has fun f fd F => by
  obtain ⟨f1, fd1, G_is_whole, g_is_whole, k_is_whole, b_is_whole⟩ := C1
  refine F.ok sc_is_between (fun vs H Q E h => ?_) (fun cdv A outer s H vs Q E hr h => ?_)
  · obtain ⟨v, t, lo, hi, rfl, _⟩ := h; rfl
  · obtain ⟨v, t, lo, hi, rfl, dp, q⟩ := h
    have R_is_whole : Room 1 _ := hr.mono (by decide)
    refine ⟨_, PSs.nox (pss_one (ps_ret (pe_and (pe_call G_is_whole R_is_whole (by rfl) g_is_whole k_is_whole b_is_whole .nil pass0 (pa_cons (pv 0) pa_nil)) (pe_one (pe_chain op_le op_le (pv 1) (pv 0) (pv 2)))))), ?_⟩
    refine ⟨_, rfl, v, t, rfl, dp, _, rfl, ?_⟩
    cases dp with
    | int i =>
      refine iteT ⟨_, rfl, _, rfl, _, _, rfl, rfl, _, rfl, ?_⟩
      show if decide (lo ≤ i) = true then _ else _
      have q' : Q (.bl (decide (lo ≤ i) && decide (i ≤ hi))) H := q
      by_cases e : lo ≤ i
      · rw [decide_eq_true e] at q' ⊢
        exact iteT ⟨_, rfl, _, _, rfl, rfl, q'⟩
      · rw [decide_eq_false e] at q' ⊢
        exact iteF q'
    | _ => exact iteF q
end
/-! ### what is a position -/
def entD (n m : Nat) : PyData → Bool
  | .none => true
  | .tuple [a, b] => btwD a 0 ((n : Nat) - 1) && btwD b 0 ((m : Nat) - 1)
  | _ => false
def posD (n m : Nat) : PyData → Bool
  | .tuple ts => decide (1 ≤ ts.length) && decide (ts.length ≤ 3) && ts.all (entD n m)
  | _ => false
theorem two_of {α : Type} {l : List α} (h : l.length = 2) : ∃ a b, l = [a, b] := by
  match l, h with
  | [a, b], _ => exact ⟨a, b, rfl⟩
def spEntry (K : PySem.W.Frag) : Sp := fun vs H Q _ => ∃ (v x y : V) (t : PyData) (n m : Nat) (I J : List Wrl), vs = [v, x, y] ∧ Dp K H v t ∧ StR K H x n I ∧ StR K H y m J ∧ Q (.bl (entD n m t)) H
def spPos (K : PySem.W.Frag) : Sp := fun vs H Q _ => ∃ (v x y : V) (t : PyData) (n m : Nat) (I J : List Wrl), vs = [x, y, v] ∧ Dp K H v t ∧ StR K H x n I ∧ StR K H y m J ∧ ∀ H' : Hp, Same H H' → Q (.bl (posD n m t)) H'
section
variable {P : Program} {w : World} {K : PySem.W.Frag} {mg : Str → Option Value} {base : Heap}
theorem sc_is_entry : FnScope ["value", "first", "second"] ["value", "first", "second"] (defScope (top 29)) := ⟨rfl, rfl, rfl, by decide +kernel, rfl, by decide +kernel, by decide +kernel⟩
theorem has_is_entry (D : Def K mg "_is_entry" ["value", "first", "second"] (top 29)) (T : Txt mg) (SC : StC K) (C1 : Has P w K mg base 2 "is_between" ["value", "low", "high"] (spBetwD K)) : Has P w K mg base 3 "_is_entry" ["value", "first", "second"] (spEntry K) := D.has fun f fd F => by
  obtain ⟨f1, fd1, G_is_between, g_is_between, k_is_between, b_is_between⟩ := C1
  refine F.ok sc_is_entry (fun vs H Q E h => ?_) (fun cdv A outer s H vs Q E hr h => ?_)
  · obtain ⟨v, x, y, t, n, m, I, J, rfl, _⟩ := h; rfl
  · obtain ⟨v, x, y, t, n, m, I, J, rfl, dp, ⟨s1, dx1, p1, ys1, rfl, a1, b1, c1⟩, ⟨s2, dx2, p2, ys2, rfl, a2, b2, c2⟩, q⟩ := h
    have R_is_between : Room 2 _ := hr
    refine ⟨_, PSs.nox (pss_cons (ps_if (pt_cmpR op_isN (pv 0) pe_non (nomark _)) (pss_one (ps_ret pe_bl)) pss_nil) (pss_cons (ps_if (PW.pt (pw_or (pt_not (pt_val (pe_callB call_isi (by rfl) T.n_isinstance (by decide +kernel) (pa_cons (pv 0) (pa_cons (pe_bltn (v := .ty "tuple") (by rfl) T.n_tuple (by decide +kernel) rfl) pa_nil))))) (pw_or1 (pt_cmpR op_ne (pe_callB call_len_seq (by rfl) T.n_len PySem.boot_len (pa_cons (pv 0) pa_nil)) pe_int (nomark _))))) (pss_one (ps_ret pe_bl)) pss_nil) (pss_one (ps_ret (pe_and (pe_call G_is_between R_is_between (by rfl) g_is_between k_is_between b_is_between .nil pass0 (pa_cons (pe_ix ix_tup (pv 0) pe_int (fun _ _ => rfl)) (pa_cons pe_int (pa_cons (pe_op op_sub (pe_fld (pv 1) rfl) pe_int) pa_nil)))) (pe_one (pe_call G_is_between R_is_between (by rfl) g_is_between k_is_between b_is_between .nil pass0 (pa_cons (pe_ix ix_tup (pv 0) pe_int (fun _ _ => rfl)) (pa_cons pe_int (pa_cons (pe_op op_sub (pe_fld (pv 2) rfl) pe_int) pa_nil)))))))))), ?_⟩
    refine ⟨_, rfl, rfl, _, rfl, ?_⟩
    cases dp with
    | non => exact cT (k := decide (V.non = V.non)) rfl q
    | str z => exact cF (k := decide (V.str z = V.non)) rfl ⟨_, rfl, _, _, _, _, _, rfl, .ty _, .base (.str z), kit_ty (a := "str") (b := "tuple") (r := false) (by decide +kernel), _, rfl, iteT q⟩
    | int z => exact cF (k := decide (V.int z = V.non)) rfl ⟨_, rfl, _, _, _, _, _, rfl, .ty _, .base (.int z), kit_ty (a := "int") (b := "tuple") (r := false) (by decide +kernel), _, rfl, iteT q⟩
    | bl z => exact cF (k := decide (V.bl z = V.non)) rfl ⟨_, rfl, _, _, _, _, _, rfl, .ty _, .base (.bl z), kit_ty (a := "bool") (b := "tuple") (r := false) (by decide +kernel), _, rfl, iteT q⟩
    | lst h _ => exact cF (k := decide (V.ref _ = V.non)) rfl ⟨_, rfl, _, _, _, _, _, rfl, .ty _, ty_lstX h, kit_ty (a := "list") (b := "tuple") (r := false) (by decide +kernel), _, rfl, iteT q⟩
    | @tup a xs ts h hx =>
      refine cF (k := decide (V.ref _ = V.non)) rfl ⟨_, rfl, _, _, _, _, _, rfl, .ty _, ty_tup h, kit_ty (a := "tuple") (b := "tuple") (r := true) (by decide +kernel), _, rfl, iteF ?_⟩
      have lx := DpAll.length hx
      refine ⟨_, rfl, a, _, rfl, .inr h, rfl, _, rfl, ?_⟩
      by_cases l2 : xs.length = 2
      · refine cF (k := !decide (V.int (xs.length : Nat) = V.int 2)) (nd_f (by rw [l2]; rfl)) ?_
        obtain ⟨t1, t2, rfl⟩ := two_of (lx.symm.trans l2)
        obtain ⟨v1, w1, rfl, g1, hx2⟩ := DpAll.cons_inv hx
        obtain ⟨v2, w2, rfl, g2, hx3⟩ := DpAll.cons_inv hx2
        obtain rfl := DpAll.nil_inv hx3
        refine ⟨_, rfl, a, _, 0, _, rfl, rfl, h, rfl, _, rfl, s1, _, dx1, _, _, rfl, a1, SC.cls, SC.ns, rfl, _, _, rfl, rfl, v1, t1, 0, _, rfl, g1, ?_⟩
        have q' : Q (.bl (btwD t1 0 ((n : Nat) - 1) && btwD t2 0 ((m : Nat) - 1))) H := q
        cases hb : btwD t1 0 ((n : Nat) - 1) with
        | false => rw [hb] at q'; exact ⟨_, rfl, iteF q'⟩
        | true =>
          rw [hb] at q'
          exact ⟨_, rfl, iteT ⟨_, rfl, a, _, 1, _, rfl, rfl, h, rfl, _, rfl, s2, _, dx2, _, _, rfl, a2, SC.cls, SC.ns, rfl, _, _, rfl, rfl, v2, t2, 0, _, rfl, g2, q'⟩⟩
      · refine cT (k := !decide (V.int (xs.length : Nat) = V.int 2)) (by rw [decide_eq_false fun z => l2 (by have := V.int.inj z; omega)]; rfl) ?_
        have e : entD n m (.tuple ts) = false := by
          match ts, lx with
          | [], _ => rfl
          | [_], _ => rfl
          | [_, _], lx => exact absurd lx l2
          | _ :: _ :: _ :: _, _ => rfl
        rw [e] at q
        exact q
theorem sc_is_pos : FnScope ["first", "second", "value", "entry"] ["first", "second", "value"] (defScope (top 30)) := ⟨rfl, rfl, rfl, by decide +kernel, rfl, by decide +kernel, by decide +kernel⟩
theorem has_is_pos (D : Def K mg "is_position" ["first", "second", "value"] (top 30)) (T : Txt mg) (k1 : ∃ t, mg "MOST_ENTRIES" = some (.int 3 t)) (C1 : Has P w K mg base 3 "_is_entry" ["value", "first", "second"] (spEntry K)) : Has P w K mg base 4 "is_position" ["first", "second", "value"] (spPos K) := D.has fun f fd F => by
  obtain ⟨f1, fd1, G_is_entry, g_is_entry, k_is_entry, b_is_entry⟩ := C1
  obtain ⟨tk, c_MOST_ENTRIES⟩ := k1
  refine F.ok sc_is_pos (fun vs H Q E h => ?_) (fun cdv A outer s H vs Q E hr h => ?_)
  · obtain ⟨v, x, y, t, n, m, I, J, rfl, _⟩ := h; rfl
  · obtain ⟨v, x, y, t, n, m, I, J, rfl, dp, hx, hy, q⟩ := h
    have R_is_entry : Room 3 _ := hr
    refine ⟨_, PSs.nox (pss_cons (ps_if (PW.pt (pw_or (pt_not (pt_val (pe_callB call_isi (by rfl) T.n_isinstance (by decide +kernel) (pa_cons (pv 2) (pa_cons (pe_bltn (v := .ty "tuple") (by rfl) T.n_tuple (by decide +kernel) rfl) pa_nil))))) (pw_or1 (pt_not (pt_chain op_le op_le pe_int (pe_callB call_len_seq (by rfl) T.n_len PySem.boot_len (pa_cons (pv 2) pa_nil)) (pe_glob (v := .int 3) (by rfl) c_MOST_ENTRIES ⟨_, rfl⟩)))))) (pss_one (ps_ret pe_bl)) pss_nil) (pss_one (ps_ret (pe_callB (cr_all rfl) (by rfl) T.n_all (by decide +kernel) (pa_cons (pe_lc (own := [("entry", 3)]) rfl sc_is_pos.nd (pi_tup (pv 2)) (blkOk_by (N := ["first", "second", "value", "entry"]) (sc := defScope (top 30)) (by decide +kernel)) (fun _ _ _ _ _ => (pg_name (i := 3) sc_is_pos.nd rfl (Or.inl rfl))) (fun _ _ _ _ _ => pts_nil) (fun _ _ _ _ _ => (pe_call G_is_entry R_is_entry (by rfl) g_is_entry k_is_entry b_is_entry .nil pass0 (pa_cons (pv 3) (pa_cons (pv 0) (pa_cons (pv 1) pa_nil)))))) pa_nil))))), ?_⟩
    cases dp with
    | non => exact ⟨_, rfl, _, _, _, _, _, rfl, .ty _, .base .non, kit_ty (a := "NoneType") (b := "tuple") (r := false) (by decide +kernel), _, rfl, iteT (q H (.refl H))⟩
    | str z => exact ⟨_, rfl, _, _, _, _, _, rfl, .ty _, .base (.str z), kit_ty (a := "str") (b := "tuple") (r := false) (by decide +kernel), _, rfl, iteT (q H (.refl H))⟩
    | int z => exact ⟨_, rfl, _, _, _, _, _, rfl, .ty _, .base (.int z), kit_ty (a := "int") (b := "tuple") (r := false) (by decide +kernel), _, rfl, iteT (q H (.refl H))⟩
    | bl z => exact ⟨_, rfl, _, _, _, _, _, rfl, .ty _, .base (.bl z), kit_ty (a := "bool") (b := "tuple") (r := false) (by decide +kernel), _, rfl, iteT (q H (.refl H))⟩
    | lst h _ => exact ⟨_, rfl, _, _, _, _, _, rfl, .ty _, ty_lstX h, kit_ty (a := "list") (b := "tuple") (r := false) (by decide +kernel), _, rfl, iteT (q H (.refl H))⟩
    | @tup a xs ts h hxs =>
      refine ⟨_, rfl, _, _, _, _, _, rfl, .ty _, ty_tup h, kit_ty (a := "tuple") (b := "tuple") (r := true) (by decide +kernel), _, rfl, iteF ?_⟩
      have lx := DpAll.length hxs
      refine ⟨_, rfl, a, _, rfl, .inr h, _, _, rfl, rfl, _, rfl, ite2 (fun e => ?_) (fun e => ?_)⟩
      · refine ⟨_, _, rfl, rfl, _, rfl, ?_⟩
        have e1 := of_decide_eq_true e
        by_cases h3 : ((xs.length : Nat) : Int) ≤ 3
        · refine cF (nd_f h3) ?_
          refine ⟨_, rfl, a, rfl, ⟨_, h⟩, fun L nL => ?_⟩
          refine lc_it (walk_tup (K := K) (a := a) (xs := xs)) (fun i H2 => H2 L = some (.lst (((ts.take i).map (entD n m)).map V.bl)) ∧ Same H H2) ⟨upd_same, same_upd nL⟩ (fun i H2 _ ⟨_, s2⟩ => Same.sqt s2 h) ?_ ?_
          · rintro i z H2 H3 hi ⟨hL, s2⟩ ⟨rfl, hyi⟩
            obtain ⟨d, hd, dpy⟩ := DpAll.get' hxs hyi
            refine ⟨rfl, _, rfl, _, rfl, _, rfl, z, x, y, d, n, m, I, J, rfl, Dp.same s2 dpy, StR.same s2 hx, StR.same s2 hy, _, hL, ?_, ?_, same_own s2 nL⟩
            · rw [List.length_map, List.length_map, List.length_take]
              exact hk_fit (by omega)
            · rw [upd_same, List.take_add_one, hd, List.map_append, List.map_append]; rfl
          · rintro H2 ⟨hL, s2⟩
            refine ⟨L, _, rfl, SqL.of hL, ?_⟩
            have e2 : (((ts.take xs.length).map (entD n m)).all id) = posD n m (.tuple ts) := by
              rw [lx, List.take_length, List.all_map]
              show _ = (decide (1 ≤ ts.length) && decide (ts.length ≤ 3) && ts.all (entD n m))
              rw [decide_eq_true (by omega), decide_eq_true (by omega)]; rfl
            rw [e2]
            exact q H2 s2
        · refine cT (nd_t h3) ?_
          have e2 : posD n m (.tuple ts) = false := by
            show (decide (1 ≤ ts.length) && decide (ts.length ≤ 3) && ts.all (entD n m)) = false
            rw [decide_eq_false (p := ts.length ≤ 3) (by omega), Bool.and_false, Bool.false_and]
          rw [e2] at q
          exact q H (.refl H)
      · have e1 : ¬ ((1 : Int) ≤ (xs.length : Nat)) := fun z => e (decide_eq_true z)
        refine ⟨_, rfl, cT (k := !false) rfl ?_⟩
        have e2 : posD n m (.tuple ts) = false := by
          show (decide (1 ≤ ts.length) && decide (ts.length ≤ 3) && ts.all (entD n m)) = false
          rw [decide_eq_false (p := 1 ≤ ts.length) (by omega), Bool.false_and, Bool.false_and]
        rw [e2] at q
        exact q H (.refl H)
end
/-! ### all rows of elements -/
def spAllRows : Sp := fun vs H Q _ => ∃ n k : Nat, vs = [.int (n : Nat), .int (k : Nat)] ∧ n ≤ 16 ∧ k ≤ 8 ∧ (∀ i, i ≤ k → n ^ i ≤ 4096) ∧
  ∀ (H' : Hp) (r : Addr) (xs : List V), Same H H' → H r = none → H' r = some (.lst xs) → RowsT H' xs (tups n k) → Q (.ref r) H'
theorem hu1 {k : Nat} {A : Around} (r : Room k A) : A.units + 1 < cLine := by have := r.un; omega
section
variable {P : Program} {w : World} {K : PySem.W.Frag} {mg : Str → Option Value} {base : Heap}
theorem big1 {n : Nat} (h : n ≤ 5000) : n < sizeLine := Nat.lt_of_le_of_lt h (by decide)
theorem sc_all_rows : FnScope ["size", "count", "rows", "_", "row", "element"] ["size", "count"] (defScope (top 26)) := ⟨rfl, rfl, rfl, by decide +kernel, rfl, by decide +kernel, by decide +kernel⟩
theorem has_all_rows (D : Def K mg "all_rows" ["size", "count"] (top 26)) (T : Txt mg) : Has P w K mg base 1 "all_rows" ["size", "count"] spAllRows := D.has fun f fd F => by
  refine F.ok sc_all_rows (fun vs H Q E h => ?_) (fun cdv A outer s H vs Q E hr h => ?_)
  · obtain ⟨n, k, rfl, _⟩ := h; rfl
  · obtain ⟨n, k, rfl, hn, hk, pw, q⟩ := h
    refine ⟨_, PSs.nox (pss_cons (ps_set (i := 2) sc_all_rows.nd rfl (Or.inl rfl) (pe_lst (pa_cons (pe_tup pa_nil) pa_nil))) (pss_cons (ps_for PassesOwn.never rfl (pi_range1 (by rfl) T.n_range (pa_cons (pv 1) pa_nil)) (pg_name (i := 3) sc_all_rows.nd rfl (Or.inl rfl)) (pss_one (ps_setLc2 (i := 2) (own := [("row", 4), ("element", 5)]) (vs1 := [5]) rfl sc_all_rows.nd rfl rfl (sw_true rfl rfl rfl (by decide +kernel)) (pi_list (pv 2)) (blkOk_by (N := ["size", "count", "rows", "_", "row", "element"]) (sc := defScope (top 26)) (by decide +kernel)) (by decide) (fun _ _ _ _ _ => (pg_name (i := 4) sc_all_rows.nd rfl (Or.inl rfl))) (fun _ _ _ _ _ => pts_nil) (fun _ _ _ _ _ => (pi_range1 (by rfl) T.n_range (pa_cons (pv 0) pa_nil))) (fun _ _ _ _ _ => (pg_name (i := 5) sc_all_rows.nd rfl (Or.inl rfl))) (fun _ _ _ _ _ => pts_nil) (fun _ _ _ _ _ => (pe_op (op_catAK (K := K) rfl) (pv 4) (pe_tup (pa_cons (pv 5) pa_nil))))))) (pss_one (ps_ret (pv 2))))), ?_⟩
    refine ⟨(by show 0 ≤ sizeLine; exact Nat.zero_le _), fun t nt => ⟨(by show 1 ≤ sizeLine; decide), fun c nc => ?_⟩⟩
    have st := same_upd (o := .tup []) nt
    have sc := same_upd (o := .lst [.ref t]) nc
    refine ⟨_, rfl, k, rfl, by omega, by omega, for_it walk_range (fun i σ H2 => ∃ (y3 y4 y5 : Option V) (p : Addr) (xs : List V), σ = [some (.int (n : Nat)), some (.int (k : Nat)), some (.ref p), y3, y4, y5] ∧ Same H H2 ∧ H p = none ∧ H2 p = some (.lst xs) ∧ RowsT H2 xs (tups n i))
      ⟨none, none, none, c, [.ref t], rfl, st.trans sc, Same.none st nc, upd_same, .cons (sc _ _ upd_same) .nil⟩ (fun _ _ _ _ _ => trivial) ?_ ?_⟩
    · rintro i y σ H2 H3 hi ⟨y3, y4, y5, p, xs, rfl, s2, np, hp, dx⟩ ⟨rfl, rfl⟩
      refine ⟨_, rfl, p, rfl, ⟨_, SqL.of hp⟩, fun c1 nc1 => ?_⟩
      have hp1 := same_upd (o := .lst []) nc1 _ _ hp
      have npc : p ≠ c1 := ne_of_none hp nc1
      have lx := RowsT.length dx
      rw [tups_len] at lx
      have pi := pw i (by omega)
      have pi1 := pw (i + 1) (by omega)
      have pe : n ^ (i + 1) = n ^ i * n := Nat.pow_succ ..
      -- the first clause: the rows so far
      refine ⟨fun j m H5 => m = xs.length - j ∧ j ≤ xs.length ∧ ∃ (xl : List V), Same H3 H5 ∧ H5 c1 = some (.lst xl) ∧ RowsT H5 xl (moreT n ((tups n i).take j)), ⟨xs.length, by simp, Nat.zero_le _, [], same_upd nc1, upd_same, .nil⟩, ?_⟩
      rintro j m H5 ⟨rfl, hj, xl, s5, hc, dxl⟩
      have hp5 := SqL.of (K := K) (s5 _ _ hp)
      by_cases lt : j < xs.length
      · refine .inr ⟨(walk_list (K := K) (a := p) (xs := xs)).goes j H5 lt hp5, fun H' => j + 1 ≤ xs.length ∧ ∃ (xl : List V), Same H3 H' ∧ H' c1 = some (.lst xl) ∧ RowsT H' xl (moreT n ((tups n i).take (j + 1))), fun H' p' => ⟨xs.length - (j + 1), by omega, rfl, p'⟩, fun x H' yy => ?_⟩
        obtain ⟨rfl, hx⟩ := (walk_list (K := K) (a := p) (xs := xs)).yields j H5 x H' lt hp5 yy
        obtain ⟨t0, r, rfl, hr2, ht0⟩ := RowsT.get' dx hx
        have hm := tups_mem.mp (List.mem_of_getElem? hr2)
        have rl : r.length ≤ 8 := by omega
        have ltk := List.length_take_le' j (tups n i)
        have lt1 : ((tups n i).take (j + 1)).length * n ≤ n ^ (i + 1) := by
          rw [pe]
          refine Nat.mul_le_mul_right n ?_
          rw [List.length_take, tups_len]; omega
        have lt2 : ((tups n i).take (j + 1)).length = ((tups n i).take j).length + 1 := by
          rw [List.length_take, List.length_take, tups_len]; omega
        rw [lt2, Nat.add_mul, Nat.one_mul] at lt1
        refine ⟨rfl, _, rfl, n, rfl, by omega, by omega, fun e k2 H6 => k2 = n - e ∧ e ≤ n ∧ ∃ (xl : List V), Same H3 H6 ∧ H6 c1 = some (.lst xl) ∧ RowsT H6 xl (moreT n ((tups n i).take j) ++ (List.range e).map fun x => r ++ [x]), ⟨n, by simp, Nat.zero_le _, xl, s5, hc, by rw [List.range_zero, List.map_nil, List.append_nil]; exact dxl⟩, ?_⟩
        rintro e k2 H6 ⟨rfl, he, xm, s6, hc6, dxm⟩
        by_cases le : e < n
        · refine .inr ⟨(walk_range (n := n)).goes e H6 le trivial, fun H' => e + 1 ≤ n ∧ ∃ (xl : List V), Same H3 H' ∧ H' c1 = some (.lst xl) ∧ RowsT H' xl (moreT n ((tups n i).take j) ++ (List.range (e + 1)).map fun x => r ++ [x]), fun H' p' => ⟨n - (e + 1), by omega, rfl, p'⟩, fun x H' yy => ?_⟩
          obtain ⟨rfl, rfl⟩ := (walk_range (n := n)).yields e H6 x H' le trivial yy
          have ht0 := s6 _ _ ht0
          have lxm := RowsT.length dxm
          rw [List.length_append, moreT_len, List.length_map, List.length_range] at lxm
          refine ⟨rfl, _, rfl, _, rfl, (by show 1 ≤ sizeLine; decide), fun u nu => ?_⟩
          have su := same_upd (o := .tup [.int (0 + (e : Nat))]) nu
          refine catT (su _ _ ht0) upd_same (by rw [rowV, List.length_map]; show r.length + 1 ≤ 1000; omega) fun H8 r8 s8 h8 => ?_
          have s68 := su.trans s8
          refine ⟨xm, s68 _ _ hc6, big1 (by omega), le, xm ++ [.ref r8], fun b o e2 => (upd_ne (ne_of_none e2 nc1)).trans (s68 _ _ (s6 _ _ e2)), upd_same, ?_⟩
          rw [List.range_succ, List.map_append, ← List.append_assoc]
          have e9 : rowV (r ++ [e]) = rowV r ++ [.int (0 + (e : Nat))] := by rw [rowV, List.map_append, Int.zero_add]; rfl
          exact RowsT.kl (Kl.upd (s68 _ _ hc6)) (RowsT.append (RowsT.same s68 dxm) (.cons (by rw [e9]; exact h8) .nil))
        · obtain rfl : e = n := by omega
          refine .inl ⟨(walk_range (n := e)).stops H6 trivial, lt, xm, s6, hc6, ?_⟩
          rw [moreT_take hr2]
          exact dxm
      · obtain rfl : j = xs.length := by omega
        refine .inl ⟨(walk_list (K := K) (a := p) (xs := xs)).stops H5 hp5, ?_⟩
        refine ⟨_, _, _, c1, xl, rfl, s2.trans s5, Same.none s2 nc1, hc, ?_⟩
        rw [List.take_of_length_le (by rw [tups_len]; omega)] at dxl
        exact dxl
    · rintro σ H2 ⟨y3, y4, y5, p, xs, rfl, s2, np, hp, dx⟩
      exact ⟨_, rfl, q H2 p xs s2 np hp dx⟩
end
/-! ### {k: v for x in xs}, keys tuples -/
theorem sw_trueD {kx vx : Expr} {gs : List Comprehension} {scope : Scope} {pos py : Pos} {y : Str} {l : Nat} {env : Env} (a1 : env.scope.kind = .function) (a2 : env.scope.names.lookup y = some .local)
    (a3 : (py.line == pos.line) = true) (a4 : (scope.names.any fun (n, k) => n == y && (k == .local || k == .cell)) = false) : swapsWith (.DictComp kx vx gs scope pos) (some (.Name y py)) l env = pure true := by
  have b1 : env.kindOf y = some .local := a2
  have b2 : env.blockKind = .function := by
    unfold Env.blockKind
    rw [a1]
    rfl
  unfold swapsWith
  simp only [b1, b2, a4, Expr.pos, a3]
  rfl
section
variable {X : Cx}
theorem pi_tupK {K : PySem.W.Frag} {tg l : Expr} {tl : TE} (h : X.K = K) (hl : PE X l tl) : PI X tg l (iTup K tl) := h ▸ pi_tup hl
theorem pi_listK {K : PySem.W.Frag} {tg l : Expr} {tl : TE} (h : X.K = K) (hl : PE X l tl) : PI X tg l (iList K tl) := h ▸ pi_list hl
theorem d_dictSetT {pins : List (Addr × Obj)} {σ : L2.St} {H : Hp} {s : Shared} {E : Value → Shared → Prop} {D b : Addr} {kvs : List (List Key × V)} {k : List Key} {v : V} {r : Value} {Q : Unit → Shared → Prop} (hu : X.A.units + 1 < cLine) (I : Inv X pins σ H s) (hD : H D = some (.dT kvs)) (l : kvs.length < sizeLine)
    (eb : H b = some (.tup (k.map kV))) (rv : RelV v r) (h : ∀ s', Inv X pins σ (upd H D (.dT (putK kvs k v))) s' → Q () s') : wpAny (model X.prog X.w) X.A (dictSet D (.ref b) r) Q E s := by
  obtain ⟨z, hd, xs, rel, dd⟩ := dt_of I.hok hD
  have hz : xs.length ≤ sizeLine := by rw [← Paired.length rel]; exact z
  have hl : (putK kvs k v).length ≤ sizeLine := by have := length_putK kvs k v; omega
  refine wpAny_dictSet_heap (hsz := hz) (Nat.lt_of_succ_lt hu) (key_of I.hok eb) dd fun h' dd' hs => h _ ?_
  obtain ⟨q, es, ep, hq, h2, h3, h4, _, h5⟩ := dd'
  refine d_write I (by rw [hD]; exact True.intro) hs ⟨q, hq⟩ ⟨hl, hd, _, (rel.put k eb rv).keeps fun c ys ec => ?_, q, es, ep, hq, h2, h3, h4, h5⟩
  rw [upd_ne (ne_of ec hD (fun z => nomatch z))]
  exact ec
def tDcT (wi : TI) (g : TG) (tt : TT) (tk tv : TE) (vs : List Nat) : TE := fun σ H Q => wi σ H fun J H1 => ∀ D, H1 D = none → ∃ W : Nat → Nat → Hp → Prop, (∃ m, W 0 m (upd H1 D (.dT []))) ∧ ∀ i m H, W i m H →
  (J.stop i H ∧ Q (.ref D) H) ∨ (J.go i H ∧ ∃ Nx : Hp → Prop, (∀ H', Nx H' → ∃ m', m' < m ∧ W (i + 1) m' H') ∧ ∀ x H', J.yld i H x H' → g x (wipe σ vs) H' fun σ2 H2 => wipe σ2 vs = wipe σ vs ∧ tt σ2 H2 fun b H3 =>
    if b = true then tk σ2 H3 fun y H4 => tv σ2 H4 fun z H5 => ∃ kvs k b, y = .ref b ∧ H5 b = some (.tup (k.map kV)) ∧ H5 D = some (.dT kvs) ∧ kvs.length < sizeLine ∧ Nx (upd H5 D (.dT (putK kvs k z))) else Nx H3)
theorem dcT_core {pins : List (Addr × Obj)} {s : Shared} {σ : L2.St} {H : Hp} {Q : VK} {kx vx tg iter : Expr} {ifs : List Expr} {scope : Scope} {own : List (PySem.Str × Nat)} {pos pos' : Pos} {wi : TI} {g : TG} {tt : TT} {tk tv : TE} {use : Option (Value → Sem Unit)} {Qf : Value → Shared → Prop}
    (hu : X.A.units + 1 < cLine) (hc : X.calm = true) (hN : X.N.Nodup) (I : Inv X pins σ H s) (hi : PI X tg iter wi) (ok : BlkOk X.N X.env.scope scope own)
    (hg : ∀ (s : Shared) (H : Hp) (C : Addr) (cl : List (PySem.Str × Addr)) (fp : List Addr), PG (X.blk s H scope (compEnvC scope cl C X.env) fp) tg g) (ht : ∀ (s : Shared) (H : Hp) (C : Addr) (cl : List (PySem.Str × Addr)) (fp : List Addr), PTs (X.blk s H scope (compEnvC scope cl C X.env) fp) ifs tt)
    (hk : ∀ (s : Shared) (H : Hp) (C : Addr) (cl : List (PySem.Str × Addr)) (fp : List Addr), PE (X.blk s H scope (compEnvC scope cl C X.env) fp) kx tk)
    (he : ∀ (s : Shared) (H : Hp) (C : Addr) (cl : List (PySem.Str × Addr)) (fp : List Addr), PE (X.blk s H scope (compEnvC scope cl C X.env) fp) vx tv) (hs : ∀ x, foldedSetIterable iter X.env x = pure x)
    (h : tDcT wi g tt tk tv (own.map (·.2)) σ H Q)
    (hRR : ∀ D C s' m H', Inv X pins σ H' s' → Q (.ref D) H' → s'.heap.Ns C m → FpOk X pins H' C → compPost (model X.prog X.w) X.A X.xe use Qf (.ref D) C (.ok .next) s') :
    wpAny (model X.prog X.w) X.A (comprehension (.DictComp kx vx [⟨tg, iter, ifs, 0⟩] scope pos) scope X.env pos' newDict false (eval iter X.env) use) Qf X.xe s := by
  have fr : ∀ y ∈ scope.names, y.2 = .free → ∃ c, X.env.cells.lookup y.1 = some c := fun y hy e => (ok.free y hy e).elim (fun k => I.ok.has _ (.inl k)) fun k => I.ok.has _ (.inr k)
  refine wpAny_comprehension_free (use := use) rfl hs (closure_ok fr) ok.kind (fun y hy e => by rw [ok.uniq y hy, e]) (thn (hi.run pins s σ H _ I h) fun xv s1 hx => thn hx fun itv s2 h2 => ?_)
  obtain ⟨it, fp, tn, J, H2, e, I2, T, st2, f2, q⟩ := h2
  subst e
  refine wpAny_newObj_type (newEnv_comp ?_)
  have low : ∀ b ∈ fp, b < s2.heap.objs.size := fun b hb => by
    obtain ⟨o, e, _⟩ := T.obj _ _ st2 b hb
    exact Heap.lt_size e
  generalize hD : s2.heap.objs.size = D
  obtain ⟨W, ⟨m0, w0⟩, turn⟩ := q D (I2.hok.fresh (Nat.le_of_eq hD))
  generalize hs3 : ({ s2 with heap := s2.heap.push { cls := .type "dict", data := .dict #[] } } : Shared) = s3
  have h3 : s3.heap = s2.heap.push { cls := .type "dict", data := .dict #[] } := by rw [← hs3]
  have I3 : Inv X pins σ (upd H2 D (.dT [])) s3 := by
    rw [← hs3]
    refine I2.laid (t' := s2.toks) (fun b o e => Heap.get?_push_of_some _ e) (Nat.le_of_eq hD) ?_
    rw [← hD]
    exact dt_empty s2.heap I2.big
  generalize hH3 : upd H2 D (.dT []) = H3 at I3 w0
  have f3 : ∀ b ∈ fp, FpOk X pins H3 b ∧ b < s3.heap.objs.size := fun b hb => by
    have lt := low b hb
    refine ⟨⟨?_, (f2 b hb).2⟩, by rw [h3, Heap.size_push]; exact Nat.lt_succ_of_lt lt⟩
    rw [← hH3, upd_ne (by rw [← hD]; exact Nat.ne_of_lt lt)]
    exact (f2 b hb).1
  have st3 : tn 0 s3.heap := T.keep _ _ _ st2 fun b _ o e => by rw [h3]; exact Heap.get?_push_of_some _ e
  have I4 := block_start I3 ok hN f3
  generalize hcl : cellsFrom (s3.heap.objs.size + 1) scope.names (cloFrom X.env.cells scope.names []) = cl at I4
  have pg := hg s3 H3 s3.heap.objs.size cl fp
  have pt := ht s3 H3 s3.heap.objs.size cl fp
  have pk := hk s3 H3 s3.heap.objs.size cl fp
  have pe := he s3 H3 s3.heap.objs.size cl fp
  show codeAny _ _ (.compStart (.DictComp kx vx [⟨tg, iter, ifs, 0⟩] scope pos) 0 (.ref it) (.ref D) (compEnvC scope cl s3.heap.objs.size X.env)) (compPost (model X.prog X.w) X.A X.xe use Qf (.ref D) s3.heap.objs.size) { s3 with heap := pushCells (s3.heap.push { cls := .type "dict", data := .dict #[] }) scope.names }
  generalize hce : compEnvC scope cl s3.heap.objs.size X.env = ce at I4 pg pt pk pe ⊢
  have cL : ce.locals = s3.heap.objs.size := by subst hce; rfl
  generalize hs4 : ({ s3 with heap := pushCells (s3.heap.push { cls := .type "dict", data := .dict #[] }) scope.names } : Shared) = s4 at I4 ⊢
  have st4 : tn 0 s4.heap := T.keep _ _ _ st3 fun b _ o e => by rw [← hs4]; exact pushCells_keeps _ _ _ _ (Heap.get?_push_of_some _ e)
  have own_ : ∀ {σ' : L2.St} {H' : Hp} {s' : Shared}, Inv (X.blk s3 H3 scope ce fp) [] σ' H' s' → (∀ b ∈ fp, H' b = none) → ∀ b ∈ fp, FpOk (X.blk s3 H3 scope ce fp) [] H' b := fun {σ' H' s'} I' hn b hb =>
    ⟨hn b hb, (I'.ok.exf b hb).1, I'.ok.exfs b hb, .inl hb, fun x c e => (I'.ok.exf b hb).2 x c e, fun p hp => absurd (show p ∈ ([] : List (Addr × Obj)) ++ [] from hp) (by simp)⟩
  suffices loop : codeAny (model X.prog X.w) X.A (.compLoop (.DictComp kx vx [⟨tg, iter, ifs, 0⟩] scope pos) 0 (.ref it) (.ref D) ce) (compPost (model X.prog X.w) X.A X.xe use Qf (.ref D) s3.heap.objs.size) s4 from codeAny_compStart_dict loop (T.self X.A 0 _ _ _ st4 loop)
  refine compLoop_anyD (fun n s' => ∃ i G, Inv (X.blk s3 H3 scope ce fp) [] (wipe σ (own.map (·.2))) G s' ∧ tn i s'.heap ∧ (∀ b ∈ fp, G b = none) ∧ W i n G) ?_ m0 ⟨0, H3, I4, st4, fun b hb => (f3 b hb).1.1, w0⟩
  rintro n s5 ⟨i, H5, I5, st5, n5, w5⟩
  rcases turn i n H5 w5 with ⟨stop, qq⟩ | ⟨go, Nx, hNx, step⟩
  · refine thnF (T.done (X.blk s3 H3 scope ce fp) rfl rfl rfl hc i [] s5 _ H5 (fun _ _ => False) I5 (own_ I5 n5) st5 stop) fun r s6 ⟨hr, I6⟩ => ?_
    subst hr
    have I7 : Inv X pins σ H5 s6 := I3.call' (ch := fp) I6.os I6.base I6.hok I6.bare fun b hb => ⟨(f3 b hb).1.2.2.2.1, (f3 b hb).1.2.1, (f3 b hb).1.2.2.2.2.1, (f3 b hb).1.2.2.2.2.2⟩
    have nC : H5 s3.heap.objs.size = none := cL ▸ (show H5 ce.locals = none from I6.free)
    obtain ⟨m, hn, _⟩ := I6.loc
    have hn : s6.heap.Ns ce.locals m := hn
    rw [cL] at hn
    exact hRR D s3.heap.objs.size s6 m H5 I7 qq hn (I3.fpOk (Nat.le_refl _) nC)
  · refine thnF (T.item (X.blk s3 H3 scope ce fp) rfl rfl rfl hc i [] s5 _ H5 (fun _ _ => False) I5 (own_ I5 n5) st5 go) fun r s6 ⟨u, hr, h6⟩ => ?_
    subst hr
    refine thnF h6 fun _ s7 ⟨x, H7, I7, r7, y7, st7, n7⟩ => ?_
    refine thnF (pg.run _ s7 _ H7 x u _ (I7.pinned (own_ I7 n7) (T.obj _ _ st7)) r7 (step x H7 y7)) fun _ s8 ⟨σ8, H8, I8, hw8, q8⟩ => ?_
    refine thnF (pt.run _ s8 σ8 H8 _ I8 q8) fun b s9 ⟨H9, I9, q9⟩ => ?_
    have fin : ∀ {s' : Shared} {G : Hp}, Inv (X.blk s3 H3 scope ce fp) ([] ++ pinsAt fp s7.heap) σ8 G s' → Nx G → ∃ m, m < n ∧ ∃ i G, Inv (X.blk s3 H3 scope ce fp) [] (wipe σ (own.map (·.2))) G s' ∧ tn i s'.heap ∧ (∀ b ∈ fp, G b = none) ∧ W i m G := fun {s' G} I' nx => by
      obtain ⟨m', hm, w'⟩ := hNx G nx
      have pin' : ∀ b ∈ fp, ∀ o, s7.heap.get? b = some o → s'.heap.get? b = some o ∧ G b = none := fun b hb o e =>
        let z := I'.pin (b, o) (List.mem_append_right _ (List.mem_append_right _ (mem_pinsAt hb e)))
        ⟨z.1, z.2.1⟩
      refine ⟨m', hm, i + 1, G, (I'.unpinned (pins := [])).weak (by rw [← hw8, wipe_length]) (fun j v e => ?_), T.keep _ _ _ st7 fun b hb o e => (pin' b hb o e).1, fun b hb => ?_, w'⟩
      · rw [← hw8] at e
        exact (wipe_some e).1
      · obtain ⟨o, e, _⟩ := T.obj _ _ st7 b hb
        exact (pin' b hb o e).2
    cases b with
    | false =>
      simp only [Bool.false_eq_true, if_false] at q9 ⊢
      exact fin I9 q9
    | true =>
      simp only [if_true] at q9 ⊢
      refine thnF (pk.run _ s9 σ8 H9 _ I9 q9) fun z s10 ⟨yk, H10, I10, r10, q10⟩ => ?_
      refine thnF (pe.run _ s10 σ8 H10 _ I10 q10) fun z2 s11 ⟨yv, H11, I11, r11, kvs, k, bb, ek, hb11, hD11, hz11, nx⟩ => ?_
      subst ek
      cases (show z = Value.ref bb from r10)
      exact d_dictSetT (X := X.blk s3 H3 scope ce fp) hu I11 hD11 hz11 hb11 r11 fun s12 I12 => fin I12 nx
theorem pe_dcT {kx vx tg iter : Expr} {ifs : List Expr} {scope : Scope} {own : List (PySem.Str × Nat)} {pos : Pos} {wi : TI} {g : TG} {tt : TT} {tk tv : TE} (hu : X.A.units + 1 < cLine) (hc : X.calm = true) (hN : X.N.Nodup) (hi : PI X tg iter wi) (ok : BlkOk X.N X.env.scope scope own)
    (hg : ∀ (s : Shared) (H : Hp) (C : Addr) (cl : List (PySem.Str × Addr)) (fp : List Addr), PG (X.blk s H scope (compEnvC scope cl C X.env) fp) tg g) (ht : ∀ (s : Shared) (H : Hp) (C : Addr) (cl : List (PySem.Str × Addr)) (fp : List Addr), PTs (X.blk s H scope (compEnvC scope cl C X.env) fp) ifs tt)
    (hk : ∀ (s : Shared) (H : Hp) (C : Addr) (cl : List (PySem.Str × Addr)) (fp : List Addr), PE (X.blk s H scope (compEnvC scope cl C X.env) fp) kx tk)
    (he : ∀ (s : Shared) (H : Hp) (C : Addr) (cl : List (PySem.Str × Addr)) (fp : List Addr), PE (X.blk s H scope (compEnvC scope cl C X.env) fp) vx tv) (hs : ∀ x, foldedSetIterable iter X.env x = pure x := by intro _; rfl) :
    PE X (.DictComp kx vx [⟨tg, iter, ifs, 0⟩] scope pos) (tDcT wi g tt tk tv (own.map (·.2))) := by
  refine ⟨fun pins s σ H Q I h => ?_⟩
  rw [arm_eval_DictComp]
  refine dcT_core hu hc hN I hi ok hg ht hk he hs h fun D C s' m H' I' q hn f => ⟨m, hn, fun h'' sb => ?_⟩
  obtain ⟨f0, f1, f2, f3, f4, f5⟩ := f
  exact ⟨.ref D, H', I'.turned (t' := s'.toks) (fun b o hb e => (sb.2 b hb).trans e) f0 f1 f3 f4 f5, rfl, q⟩
theorem pe_dcTn {kx vx tg iter : Expr} {ifs : List Expr} {scope : Scope} {own : List (PySem.Str × Nat)} {pos : Pos} {wi : TI} {g : TG} {tt : TT} {tk tv : TE} (hu : X.A.units + 1 < cLine) (hc : X.calm = true) (hN : X.N.Nodup) (hi : PI X tg iter wi) (ok : BlkOk X.N X.env.scope scope own)
    (hg : ∀ (s : Shared) (H : Hp) (C : Addr) (cl : List (PySem.Str × Addr)) (fp : List Addr), PG (X.blk s H scope (compEnvC scope cl C X.env) fp) tg g) (ht : ∀ (s : Shared) (H : Hp) (C : Addr) (cl : List (PySem.Str × Addr)) (fp : List Addr), PTs (X.blk s H scope (compEnvC scope cl C X.env) fp) ifs tt)
    (hk : ∀ (s : Shared) (H : Hp) (C : Addr) (cl : List (PySem.Str × Addr)) (fp : List Addr), PE (X.blk s H scope (compEnvC scope cl C X.env) fp) kx tk)
    (he : ∀ (s : Shared) (H : Hp) (C : Addr) (cl : List (PySem.Str × Addr)) (fp : List Addr), PE (X.blk s H scope (compEnvC scope cl C X.env) fp) vx tv) (hs : ∀ x, foldedSetIterable iter X.env x = pure x) :
    PE X (.DictComp kx vx [⟨tg, iter, ifs, 0⟩] scope pos) (tDcT wi g tt tk tv (own.map (·.2))) := by
  refine ⟨fun pins s σ H Q I h => ?_⟩
  rw [arm_eval_DictComp]
  refine dcT_core hu hc hN I hi ok hg ht hk he hs h fun D C s' m H' I' q hn f => ⟨m, hn, fun h'' sb => ?_⟩
  obtain ⟨f0, f1, f2, f3, f4, f5⟩ := f
  exact ⟨.ref D, H', I'.turned (t' := s'.toks) (fun b o hb e => (sb.2 b hb).trans e) f0 f1 f3 f4 f5, rfl, q⟩
theorem ps_setDcT {i : Nat} {y : Str} {py : Pos} {kx vx tg iter : Expr} {ifs : List Expr} {scope : Scope} {own : List (Str × Nat)} {pos spos : Pos} {wi : TI} {g : TG} {tt : TT} {tk tv : TE}
    (hu : X.A.units + 1 < cLine) (hc : X.calm = true) (hN : X.N.Nodup) (hy : X.N[i]? = some y) (hyl : X.env.scope.names.lookup y = some .local)
    (hsw : swapsWith (.DictComp kx vx [⟨tg, iter, ifs, 0⟩] scope pos) (some (.Name y py)) spos.line X.env = pure true)
    (hi : PI X tg iter wi) (ok : BlkOk X.N X.env.scope scope own)
    (hg : ∀ (s : Shared) (H : Hp) (C : Addr) (cl : List (Str × Addr)) (fp : List Addr),
      PG (X.blk s H scope (compEnvC scope cl C X.env) fp) tg g)
    (ht : ∀ (s : Shared) (H : Hp) (C : Addr) (cl : List (Str × Addr)) (fp : List Addr),
      PTs (X.blk s H scope (compEnvC scope cl C X.env) fp) ifs tt)
    (hk : ∀ (s : Shared) (H : Hp) (C : Addr) (cl : List (Str × Addr)) (fp : List Addr),
      PE (X.blk s H scope (compEnvC scope cl C X.env) fp) kx tk)
    (he : ∀ (s : Shared) (H : Hp) (C : Addr) (cl : List (Str × Addr)) (fp : List Addr),
      PE (X.blk s H scope (compEnvC scope cl C X.env) fp) vx tv)
    (hs : ∀ x, foldedSetIterable iter X.env x = pure x := by intro _; rfl) :
    PS X (.Assign [.Name y py] (.DictComp kx vx [⟨tg, iter, ifs, 0⟩] scope pos) spos) (tAsg (tDcT wi g tt tk tv (own.map (·.2))) (gName i)) := by
  refine ⟨fun pins s σ H D I hw => ?_⟩
  rw [exec_Assign_Name_used _ _ _ _ hsw]
  refine wpAny_bind (wpAny_standAt (wpAny_bind ?_))
  show wpAny _ X.A (do
    let _ ← comprehension (.DictComp kx vx [⟨tg, iter, ifs, 0⟩] scope pos) scope X.env (firstIterPos [⟨tg, iter, ifs, 0⟩] pos) newDict false (eval iter X.env) (some (assign (.Name y py) X.env))) _ _ s
  have hw : tDcT wi g tt tk tv (own.map (·.2)) σ H (fun x H1 => gName i x σ H1 D.nx) := hw
  refine wpAny_bind (thn (dcT_core (Qf := fun _ s' => SP X pins D .next s') hu hc hN I hi ok hg ht hk he hs hw fun L C s' m H' I' q hn f => ?_) fun _ s' z => wpAny_pure (wpAny_pure z))
  show wpAny _ _ (assign (.Name y py) X.env (.ref L)) _ _ _
  refine wpAny_assign_Name (store_ok2 (v := V.ref L) I' hN hy (.inl hyl) rfl (fun s2 I2 ⟨a, sb, ha⟩ => ?_) (.inr hyl))
  obtain ⟨g0, g1, g2, g3, g4, g5⟩ := f
  have cna : C ≠ a := by
    rcases ha with z | z
    · rw [z]
      exact g1
    · exact fun e => g4 y a z e.symm
  exact ⟨m, hn.sameBut sb cna, fun h3 sb3 => ⟨_, H', I2.turned (t' := s2.toks) (fun b o hb e => (sb3.2 b hb).trans e) g0 g1 g3 g4 g5, q⟩⟩
theorem ps_setDc {i : Nat} {y : Str} {py : Pos} {kx vx tg iter : Expr} {ifs : List Expr} {scope : Scope} {own : List (Str × Nat)} {pos spos : Pos} {wi : TI} {g : TG} {tt : TT} {tk tv : TE}
    (hc : X.calm = true) (hN : X.N.Nodup) (hy : X.N[i]? = some y) (hyl : X.env.scope.names.lookup y = some .local)
    (hsw : swapsWith (.DictComp kx vx [⟨tg, iter, ifs, 0⟩] scope pos) (some (.Name y py)) spos.line X.env = pure true)
    (hi : PI X tg iter wi) (ok : BlkOk X.N X.env.scope scope own)
    (hg : ∀ (s : Shared) (H : Hp) (C : Addr) (cl : List (Str × Addr)) (fp : List Addr),
      PG (X.blk s H scope (compEnvC scope cl C X.env) fp) tg g)
    (ht : ∀ (s : Shared) (H : Hp) (C : Addr) (cl : List (Str × Addr)) (fp : List Addr),
      PTs (X.blk s H scope (compEnvC scope cl C X.env) fp) ifs tt)
    (hk : ∀ (s : Shared) (H : Hp) (C : Addr) (cl : List (Str × Addr)) (fp : List Addr),
      PE (X.blk s H scope (compEnvC scope cl C X.env) fp) kx tk)
    (he : ∀ (s : Shared) (H : Hp) (C : Addr) (cl : List (Str × Addr)) (fp : List Addr),
      PE (X.blk s H scope (compEnvC scope cl C X.env) fp) vx tv)
    (hs : ∀ x, foldedSetIterable iter X.env x = pure x := by intro _; rfl) :
    PS X (.Assign [.Name y py] (.DictComp kx vx [⟨tg, iter, ifs, 0⟩] scope pos) spos) (tAsg (tDc wi g tt tk tv (own.map (·.2))) (gName i)) := by
  refine ⟨fun pins s σ H D I hw => ?_⟩
  rw [exec_Assign_Name_used _ _ _ _ hsw]
  refine wpAny_bind (wpAny_standAt (wpAny_bind ?_))
  show wpAny _ X.A (do
    let _ ← comprehension (.DictComp kx vx [⟨tg, iter, ifs, 0⟩] scope pos) scope X.env (firstIterPos [⟨tg, iter, ifs, 0⟩] pos) newDict false (eval iter X.env) (some (assign (.Name y py) X.env))) _ _ s
  have hw : tDc wi g tt tk tv (own.map (·.2)) σ H (fun x H1 => gName i x σ H1 D.nx) := hw
  refine wpAny_bind (thn (dc_core (Qf := fun _ s' => SP X pins D .next s') hc hN I hi ok hg ht hk he hs hw fun L C s' m H' I' q hn f => ?_) fun _ s' z => wpAny_pure (wpAny_pure z))
  show wpAny _ _ (assign (.Name y py) X.env (.ref L)) _ _ _
  refine wpAny_assign_Name (store_ok2 (v := V.ref L) I' hN hy (.inl hyl) rfl (fun s2 I2 ⟨a, sb, ha⟩ => ?_) (.inr hyl))
  obtain ⟨g0, g1, g2, g3, g4, g5⟩ := f
  have cna : C ≠ a := by
    rcases ha with z | z
    · rw [z]
      exact g1
    · exact fun e => g4 y a z e.symm
  exact ⟨m, hn.sameBut sb cna, fun h3 sb3 => ⟨_, H', I2.turned (t' := s2.toks) (fun b o hb e => (sb3.2 b hb).trans e) g0 g1 g3 g4 g5, q⟩⟩
theorem BlkOk.nf {N : List Str} {sc0 sc scope : Scope} {own : List (Str × Nat)} (h : BlkOk N sc0 scope own) (nf : (scope.names.all fun y => y.2 != .free) = true) : BlkOk N sc scope own :=
  ⟨h.kind, h.uniq, h.ix, (fun y hy e => by have z := List.all_eq_true.mp nf y hy; rw [e] at z; cases z), h.own⟩
end
theorem dct_it {J : It} {n : Nat} {G : Hp → Prop} {Y : Nat → Hp → V → Hp → Prop} (wk : Walk J n G Y) {g : TG} {tt : TT} {tk tv : TE} {vs : List Nat} {σ : L2.St} {H1 : Hp} {D : Addr} {Qd : Hp → Prop}
    (Pv : Nat → Hp → Prop) (h0 : Pv 0 (upd H1 D (.dT []))) (hG : ∀ i H, i ≤ n → Pv i H → G H)
    (hs : ∀ i x H H', i < n → Pv i H → Y i H x H' → g x (wipe σ vs) H' fun a A => wipe a vs = wipe σ vs ∧ tt a A fun b B => if b = true then tk a B fun y C => tv a C fun z F => ∃ kvs k b, y = .ref b ∧ F b = some (.tup (k.map kV)) ∧ F D = some (.dT kvs) ∧ kvs.length < sizeLine ∧ Pv (i + 1) (upd F D (.dT (putK kvs k z))) else Pv (i + 1) B) (hd : ∀ H, Pv n H → Qd H) :
    ∃ U : Nat → Nat → Hp → Prop, (∃ m, U 0 m (upd H1 D (.dT []))) ∧ ∀ i m H, U i m H → (J.stop i H ∧ Qd H) ∨
      (J.go i H ∧ ∃ Nx : Hp → Prop, (∀ H', Nx H' → ∃ m', m' < m ∧ U (i + 1) m' H') ∧
        ∀ x H', J.yld i H x H' → g x (wipe σ vs) H' fun a A => wipe a vs = wipe σ vs ∧ tt a A fun b B => if b = true then tk a B fun y C => tv a C fun z F => ∃ kvs k b, y = .ref b ∧ F b = some (.tup (k.map kV)) ∧ F D = some (.dT kvs) ∧ kvs.length < sizeLine ∧ Nx (upd F D (.dT (putK kvs k z))) else Nx B) := by
  refine ⟨fun i m H => m = n - i ∧ i ≤ n ∧ Pv i H, ⟨n, by simp, Nat.zero_le _, h0⟩, ?_⟩
  rintro i m H ⟨rfl, hi, p⟩
  have q := hG i H hi p
  by_cases lt : i < n
  · exact .inr ⟨wk.goes i H lt q, Pv (i + 1), fun H' p' => ⟨n - (i + 1), by omega, rfl, lt, p'⟩, fun x H' y => hs i x H H' lt p (wk.yields i H x H' lt q y)⟩
  · obtain rfl : i = n := by omega
    exact .inl ⟨wk.stops H q, hd H p⟩
/-! ### dict comprehensions over any walk -/
theorem dc_it {J : It} {n : Nat} {G : Hp → Prop} {Y : Nat → Hp → V → Hp → Prop} (wk : Walk J n G Y) {g : TG} {tt : TT} {tk tv : TE}
    {vs : List Nat} {σ : L2.St} {H1 : Hp} {D : Addr} {Qd : Hp → Prop}
    (Pv : Nat → Hp → Prop) (h0 : Pv 0 (upd H1 D (.dK []))) (hG : ∀ i H, i ≤ n → Pv i H → G H)
    (hs : ∀ i x H H', i < n → Pv i H → Y i H x H' → g x (wipe σ vs) H' fun a A => wipe a vs = wipe σ vs ∧ tt a A fun b B =>
      if b = true then tk a B fun y C => tv a C fun z F => ∃ kvs k, y = kV k ∧ F D = some (.dK kvs) ∧ kvs.length < sizeLine ∧ Pv (i + 1) (upd F D (.dK (putK kvs k z)))
      else Pv (i + 1) B)
    (hd : ∀ H, Pv n H → Qd H) :
    ∃ U : Nat → Nat → Hp → Prop, (∃ m, U 0 m (upd H1 D (.dK []))) ∧ ∀ i m H, U i m H → (J.stop i H ∧ Qd H) ∨
      (J.go i H ∧ ∃ Nx : Hp → Prop, (∀ H', Nx H' → ∃ m', m' < m ∧ U (i + 1) m' H') ∧
        ∀ x H', J.yld i H x H' → g x (wipe σ vs) H' fun a A => wipe a vs = wipe σ vs ∧ tt a A fun b B =>
          if b = true then tk a B fun y C => tv a C fun z F => ∃ kvs k, y = kV k ∧ F D = some (.dK kvs) ∧ kvs.length < sizeLine ∧ Nx (upd F D (.dK (putK kvs k z)))
          else Nx B) := by
  refine ⟨fun i m H => m = n - i ∧ i ≤ n ∧ Pv i H, ⟨n, by simp, Nat.zero_le _, h0⟩, ?_⟩
  rintro i m H ⟨rfl, hi, p⟩
  have q := hG i H hi p
  by_cases lt : i < n
  · exact .inr ⟨wk.goes i H lt q, Pv (i + 1), fun H' p' => ⟨n - (i + 1), by omega, rfl, lt, p'⟩, fun x H' y => hs i x H H' lt p (wk.yields i H x H' lt q y)⟩
  · have e : i = n := by omega
    subst e
    exact .inl ⟨wk.stops H q, hd H p⟩
/-! ### rows as the keys of a dict -/
def rowK (r : List Nat) : List Key := r.map fun x => Sum.inl ((x : Nat) : Int)
theorem rowK_kV (r : List Nat) : (rowK r).map kV = rowV r := by
  unfold rowK rowV
  rw [List.map_map]; rfl
theorem rowK_inj {r s : List Nat} (h : rowK r = rowK s) : r = s := by
  have e := congrArg (List.map kV) h
  rw [rowK_kV, rowK_kV, rowV_int, rowV_int] at e
  refine intR_inj ?_
  have f : Function.Injective V.int := fun a b z => V.int.inj z
  exact (List.map_inj_right (fun a b z => V.int.inj z)).mp e
/-- the keys of the dict at d are the rows R -/
def DicR (H : Hp) (d : Addr) (R : List (List Nat)) : Prop := ∃ kvs, H d = some (.dT kvs) ∧ ∀ r : List Nat, (valV kvs (rowK r)).isSome = true ↔ r ∈ R
theorem DicR.same {H H' : Hp} (s : Same H H') {d : Addr} {R : List (List Nat)} (h : DicR H d R) : DicR H' d R := by
  obtain ⟨kvs, h1, h2⟩ := h
  exact ⟨kvs, s _ _ h1, h2⟩
theorem tdcT_rows {K : PySem.W.Frag} {y0 y1 y2 y3 y4 y5 y6 y7 y9 y10 y11 y12 y13 y14 : Option V} {H : Hp} {b : Addr} {xs : List V} {R : List (List Nat)} {Q : VK} (hB : SqT K H b xs) (hR : RowsT H xs R) (l : R.length < 64) (q : ∀ (H' : Hp) (d : Addr), Same H H' → H d = none → DicR H' d R → Q (.ref d) H') :
    tDcT (iTup K (tVar 8)) (gName 13) tYes (tVar 13) (tC (.bl true)) [13] [y0, y1, y2, y3, y4, y5, y6, y7, some (.ref b), y9, y10, y11, y12, y13, y14] H Q := by
  refine ⟨_, rfl, b, rfl, ⟨_, hB⟩, fun D nD => ?_⟩
  have lx := hR.length
  refine dct_it (walk_tup (K := K) (a := b) (xs := xs)) (fun i H2 => ∃ kvs, Same H H2 ∧ H2 D = some (.dT kvs) ∧ kvs.length ≤ i ∧ ∀ r : List Nat, (valV kvs (rowK r)).isSome = true ↔ r ∈ R.take i) ⟨[], same_upd nD, upd_same, Nat.le_refl _, fun r => by simp [valV]⟩ (fun i H2 _ ⟨_, s2, _⟩ => Same.sqt s2 hB) ?_ ?_
  · rintro i x H2 H3 hi ⟨kvs, s2, hD, lk, mem⟩ ⟨rfl, hx⟩
    obtain ⟨t0, r, rfl, hr, ht⟩ := RowsT.get' hR hx
    refine ⟨rfl, _, rfl, kvs, rowK r, t0, rfl, by rw [rowK_kV]; exact s2 _ _ ht, hD, big1 (by omega), putK kvs (rowK r) (.bl true), fun c o e => (upd_ne (ne_of_none e nD)).trans (s2 _ _ e), upd_same, by have := length_putK kvs (rowK r) (V.bl true); omega, fun r' => ?_⟩
    rw [List.take_add_one, hr, valV_put, List.mem_append]
    by_cases e : rowK r' = rowK r
    · rw [if_pos e]
      refine ⟨fun _ => .inr ?_, fun _ => rfl⟩
      rw [rowK_inj e]
      exact List.mem_singleton.mpr rfl
    · rw [if_neg e, mem]
      refine ⟨fun z => .inl z, fun z => z.elim id fun w => ?_⟩
      exact absurd (by rw [List.mem_singleton.mp w]) e
  · rintro H2 ⟨kvs, s2, hD, lk, mem⟩
    rw [lx, List.take_length] at mem
    exact q H2 D s2 nD ⟨kvs, hD, mem⟩
theorem tdcT_rowsS {K : PySem.W.Frag} {y0 y1 y2 y3 y4 y5 y6 y7 y9 y10 y11 y12 y13 y14 : Option V} {H : Hp} {b : Addr} {xs : List V} {R : List (List Nat)} {rest : TS} {D} (hB : SqT K H b xs) (hR : RowsT H xs R) (l : R.length < 64)
    (q : ∀ (H' : Hp) (d : Addr), Same H H' → H d = none → DicR H' d R → rest D [y0, y1, y2, y3, y4, y5, y6, y7, some (.ref b), some (.ref d), y10, y11, y12, y13, y14] H') :
    tSeq (tAsg (tDcT (iTup K (tVar 8)) (gName 13) tYes (tVar 13) (tC (.bl true)) [13]) (gName 9)) rest D [y0, y1, y2, y3, y4, y5, y6, y7, some (.ref b), y9, y10, y11, y12, y13, y14] H := by
  unfold tSeq tAsg
  exact tdcT_rows hB hR l fun H' d s n r => q H' d s n r
/-! ### what tells pairs apart -/
def pD (p : Nat × Nat) : PyData := .tuple [.int (p.1 : Nat), .int (p.2 : Nat)]
def SoundP (ps : List (Nat × Nat)) (I J : List Wrl) : Prop := (∀ a b, a ∈ ps → b ∈ ps → (a.1 = b.1 ↔ a.2 = b.2)) ∧
  ∀ z, z ∈ I → ∀ y, y ∈ J → y.1 = z.1 → ∀ r : List (Nat × Nat), (∀ p, p ∈ r → p ∈ ps) → r.length = z.1.2 → (r.map (·.1) ∈ z.2 ↔ r.map (·.2) ∈ y.2)
structure ToldOk (ps : List (Nat × Nat)) (I J : List Wrl) : Prop where
  l3 : ps.length ≤ 3
  ar : ∀ z, z ∈ I → z.1.2 ≤ 6
  rows : ∀ z, z ∈ I ++ J → z.2.length < 64
  ndJ : (J.map fun z => z.1.1).Nodup
  lJ : J.length ≤ 6
  lI : I.length ≤ 6
  sg : ∀ z, z ∈ I → ∃ y, y ∈ J ∧ y.1 = z.1
theorem vint_dec (a b : Nat) : decide (V.int (a : Nat) = V.int (b : Nat)) = decide (a = b) := by
  by_cases e : a = b
  · subst e; simp
  · rw [decide_eq_false e]; exact decide_eq_false fun z => e (by have := V.int.inj z; omega)
def spTold (K : PySem.W.Frag) : Sp := fun vs H Q _ => ∃ (x y : V) (t : Addr) (us : List V) (ps : List (Nat × Nat)) (n m : Nat) (I J : List Wrl), vs = [x, y, .ref t] ∧ StR K H x n I ∧ StR K H y m J ∧ SqT K H t us ∧ DpAll K H us (ps.map pD) ∧ ToldOk ps I J ∧
  ∀ (H' : Hp) (v : V), Same H H' → (v = .non ↔ SoundP ps I J) → Q v H'
/-- the entries at some places -/
theorem lc_pairs {K : PySem.W.Frag} {c : Int} {g : Nat × Nat → Nat} (hg : ∀ p : Nat × Nat, atI [V.int (p.1 : Nat), V.int (p.2 : Nat)] c = some (V.int (g p : Nat))) {y0 y1 y3 y4 y5 y6 y7 y8 y9 y11 y12 y13 y14 : Option V} {H : Hp} {t t0 : Addr} {us : List V} {ps r : List (Nat × Nat)} {pl : List Nat} {Q : VK}
    (hT : SqT K H t us) (ent : ∀ i : Nat, i < us.length → ∃ (u : Addr) (p : Nat × Nat), us[i]? = some (.ref u) ∧ ps[i]? = some p ∧ SqT K H u [.int (p.1 : Nat), .int (p.2 : Nat)]) (h0 : H t0 = some (.tup (rowV pl))) (er : r.map some = pl.map fun x => ps[x]?) (lt : ∀ x, x ∈ pl → x < us.length) (l : pl.length ≤ 6)
    (q : ∀ (H' : Hp) (M : Addr), Same H H' → H M = none → H' M = some (.lst (rowV (r.map g))) → Q (.ref M) H') :
    tLc (iTup K (tVar 10)) (gName 14) tYes (tOp (rIxT K) (tOp (rIxT K) (tVar 2) (tVar 14)) (tC (.int c))) [14] [y0, y1, some (.ref t), y3, y4, y5, y6, y7, y8, y9, some (.ref t0), y11, y12, y13, y14] H Q := by
  have lr : r.length = pl.length := by have := congrArg List.length er; rw [List.length_map, List.length_map] at this; exact this
  have lv : (rowV pl).length = pl.length := by rw [rowV, List.length_map]
  refine ⟨_, rfl, t0, rfl, ⟨_, SqT.of h0⟩, fun M nM => ?_⟩
  refine lc_it (walk_tup (K := K) (a := t0) (xs := rowV pl)) (fun i H2 => Same H H2 ∧ H2 M = some (.lst (rowV ((r.take i).map g)))) ⟨same_upd nM, upd_same⟩ (fun i H2 _ ⟨s2, _⟩ => SqT.of (s2 _ _ h0)) ?_ ?_
  · rintro i v H2 H3 hi ⟨s2, hM⟩ ⟨rfl, hv⟩
    obtain ⟨x, hx, rfl⟩ := get_map hv
    obtain ⟨u, p, eu, ep, hu⟩ := ent x (lt x (List.mem_of_getElem? hx))
    have hr : r[i]? = some p := by
      have e := congrArg (fun z => z[i]?) er
      simp only [List.getElem?_map, hx, Option.map_some] at e
      rw [ep] at e
      cases hri : r[i]? with
      | none => rw [hri] at e; cases e
      | some p' =>
        rw [hri] at e
        simp at e
        rw [e]
    refine ⟨rfl, _, rfl, _, rfl, t, us, _, _, rfl, rfl, Same.sqt s2 hT, atI_nat eu, u, _, c, _, rfl, rfl, Same.sqt s2 hu, hg p, _, hM, small1000 (by rw [rowV, List.length_map, List.length_map]; have := List.length_take_le' i r; omega), fun b o e => (upd_ne (ne_of_none e nM)).trans (s2 _ _ e), ?_⟩
    rw [upd_same, List.take_add_one, hr, List.map_append, rowV, rowV, List.map_append]; rfl
  · rintro H2 ⟨s2, hM⟩
    rw [lv, ← lr, List.take_length] at hM
    exact q H2 M s2 nM hM
abbrev rTupO (K : PySem.W.Frag) : List V → Hp → VK → Prop := fun xs H Q => ∃ p ys, xs = [V.ref p] ∧ ((SqL K H p ys ∧ ∀ l, H l = none → Q (.ref l) (upd H l (.tup ys))) ∨ (SqT K H p ys ∧ Q (.ref p) H))
theorem in_pairs {K : PySem.W.Frag} {c : Int} {g : Nat × Nat → Nat} (hg : ∀ p : Nat × Nat, atI [V.int (p.1 : Nat), V.int (p.2 : Nat)] c = some (V.int (g p : Nat))) {y0 y1 y3 y4 y5 y6 y7 y8 y9 y11 y12 y13 y14 : Option V} {H : Hp} {t t0 : Addr} {us : List V} {ps r : List (Nat × Nat)} {pl : List Nat} {Q : VK} {td : TE}
    (hT : SqT K H t us) (ent : ∀ i : Nat, i < us.length → ∃ (u : Addr) (p : Nat × Nat), us[i]? = some (.ref u) ∧ ps[i]? = some p ∧ SqT K H u [.int (p.1 : Nat), .int (p.2 : Nat)]) (h0 : H t0 = some (.tup (rowV pl))) (er : r.map some = pl.map fun x => ps[x]?) (lt : ∀ x, x ∈ pl → x < us.length) (l : pl.length ≤ 6)
    (q : ∀ (H' : Hp) (b : Addr), Same H H' → H' b = some (.tup (rowV (r.map g))) → td [y0, y1, some (.ref t), y3, y4, y5, y6, y7, y8, y9, some (.ref t0), y11, y12, y13, y14] H' (fun x H2 => ∃ a o, x = .ref a ∧ DGet H2 a (.ref b) o ∧ Q (.bl o.isSome) H2)) :
    tDIn (tCB (rTupO K) (tCons (tLc (iTup K (tVar 10)) (gName 14) tYes (tOp (rIxT K) (tOp (rIxT K) (tVar 2) (tVar 14)) (tC (.int c))) [14]) tNil)) td [y0, y1, some (.ref t), y3, y4, y5, y6, y7, y8, y9, some (.ref t0), y11, y12, y13, y14] H Q := by
  unfold tDIn tCB tCons
  refine lc_pairs hg hT ent h0 er lt l fun H' M s' nM hM => ?_
  refine ⟨M, _, rfl, .inl ⟨SqL.of hM, fun b nb => ?_⟩⟩
  exact q _ b (s'.trans (same_upd nb)) upd_same
theorem in_pairsS {K : PySem.W.Frag} {c : Int} {g : Nat × Nat → Nat} (hg : ∀ p : Nat × Nat, atI [V.int (p.1 : Nat), V.int (p.2 : Nat)] c = some (V.int (g p : Nat))) {y0 y1 y3 y4 y5 y6 y7 y8 y11 y12 y13 y14 : Option V} {H : Hp} {t t0 d : Addr} {us : List V} {ps r : List (Nat × Nat)} {pl : List Nat} {R : List (List Nat)} {rest : TS} {D}
    (hT : SqT K H t us) (ent : ∀ i : Nat, i < us.length → ∃ (u : Addr) (p : Nat × Nat), us[i]? = some (.ref u) ∧ ps[i]? = some p ∧ SqT K H u [.int (p.1 : Nat), .int (p.2 : Nat)]) (h0 : H t0 = some (.tup (rowV pl))) (er : r.map some = pl.map fun x => ps[x]?) (lt : ∀ x, x ∈ pl → x < us.length) (l : pl.length ≤ 6) (dR : DicR H d R)
    (q : ∀ (H' : Hp), Same H H' → rest D [y0, y1, some (.ref t), y3, y4, y5, y6, y7, y8, some (.ref d), some (.ref t0), some (.bl (decide (r.map g ∈ R))), y12, y13, y14] H') :
    tSeq (tAsg (tDIn (tCB (rTupO K) (tCons (tLc (iTup K (tVar 10)) (gName 14) tYes (tOp (rIxT K) (tOp (rIxT K) (tVar 2) (tVar 14)) (tC (.int c))) [14]) tNil)) (tVar 9)) (gName 11)) rest D [y0, y1, some (.ref t), y3, y4, y5, y6, y7, y8, some (.ref d), some (.ref t0), y11, y12, y13, y14] H := by
  unfold tSeq tAsg
  refine in_pairs hg hT ent h0 er lt l fun H' b s' hb => ?_
  obtain ⟨kvs, hd, hm⟩ := dR.same s'
  refine ⟨_, rfl, d, _, rfl, DGet.t (k := rowK (r.map g)) hd (by rw [rowK_kV]; exact hb), ?_⟩
  have e : (valV kvs (rowK (r.map g))).isSome = decide (r.map g ∈ R) := by
    by_cases m : r.map g ∈ R
    · rw [decide_eq_true m]; exact (hm _).mpr m
    · rw [decide_eq_false m]
      cases h : (valV kvs (rowK (r.map g))).isSome with
      | true => exact absurd ((hm _).mp h) m
      | false => rfl
  rw [e]
  exact q H' s'
theorem idx_of {ps : List (Nat × Nat)} : ∀ {r : List (Nat × Nat)}, (∀ p, p ∈ r → p ∈ ps) → ∃ pl : List Nat, r.map some = pl.map (fun x => ps[x]?) ∧ (∀ x, x ∈ pl → x < ps.length) ∧ pl.length = r.length
  | [], _ => ⟨[], rfl, fun x hx => (nomatch hx), rfl⟩
  | p :: r, h => by
    obtain ⟨pl, e, l, ll⟩ := idx_of (ps := ps) (r := r) fun q hq => h q (List.mem_cons_of_mem _ hq)
    obtain ⟨i, hi⟩ := List.mem_iff_getElem?.mp (h p List.mem_cons_self)
    refine ⟨i :: pl, by rw [List.map_cons, List.map_cons, e, hi], fun x hx => ?_, by rw [List.length_cons, List.length_cons, ll]⟩
    rcases List.mem_cons.mp hx with rfl | hx
    · exact (List.getElem?_eq_some_iff.mp hi).1
    · exact l x hx
theorem at_idx {ps : List (Nat × Nat)} : ∀ {pl : List Nat}, (∀ x, x ∈ pl → x < ps.length) → ∃ r : List (Nat × Nat), r.map some = pl.map fun x => ps[x]?
  | [], _ => ⟨[], rfl⟩
  | x :: pl, h => by
    obtain ⟨r, e⟩ := at_idx (ps := ps) (pl := pl) fun y hy => h y (List.mem_cons_of_mem _ hy)
    exact ⟨ps[x]'(h x List.mem_cons_self) :: r, by rw [List.map_cons, List.map_cons, e, List.getElem?_eq_getElem (h x List.mem_cons_self)]⟩
section
variable {P : Program} {w : World} {K : PySem.W.Frag} {mg : Str → Option Value} {base : Heap}
theorem sc_told : FnScope ["first", "second", "pairs", "one", "other", "tables", "name", "arity", "rows", "table", "places", "here", "_", "row", "place"] ["first", "second", "pairs"] (defScope (top 31)) := ⟨rfl, rfl, rfl, by decide +kernel, rfl, by decide +kernel, by decide +kernel⟩
theorem has_told (D : Def K mg "told_apart" ["first", "second", "pairs"] (top 31)) (T : Txt mg) (SC : StC K) (C1 : Has P w K mg base 1 "all_rows" ["size", "count"] spAllRows) : Has P w K mg base 2 "told_apart" ["first", "second", "pairs"] (spTold K) := D.has fun f fd F => by
  obtain ⟨f1, fd1, G_all_rows, g_all_rows, k_all_rows, b_all_rows⟩ := C1
  refine F.ok sc_told (fun vs H Q E h => ?_) (fun cdv A outer s H vs Q E hr h => ?_)
  · obtain ⟨x, y, t, us, ps, n, m, I, J, rfl, _⟩ := h; rfl
  · obtain ⟨x, y, t, us, ps, n, m, I, J, rfl, hx, hy, hT, dps, ok, q⟩ := h
    have R_all_rows : Room 1 _ := hr
    refine ⟨_, PSs.nox (pss_cons (ps_for PassesOwn.never rfl (pi_list (pe_call G_all_rows R_all_rows (by rfl) g_all_rows k_all_rows b_all_rows .nil pass0 (pa_cons (pe_callB call_len_seq (by rfl) T.n_len PySem.boot_len (pa_cons (pv 2) pa_nil)) (pa_cons pe_int pa_nil)))) (pg_tup rfl (pgs_cons (pg_name (i := 3) sc_told.nd rfl (Or.inl rfl)) (pgs_cons (pg_name (i := 4) sc_told.nd rfl (Or.inl rfl)) pgs_nil))) (pss_one (ps_if (pt_cmpR op_ne (pe_cmpR op_eq (pe_ix ix_tup (pe_ix ix_tup (pv 2) (pv 3) (fun _ _ => rfl)) pe_int (fun _ _ => rfl)) (pe_ix ix_tup (pe_ix ix_tup (pv 2) (pv 4) (fun _ _ => rfl)) pe_int (fun _ _ => rfl)) (nomark _)) (pe_cmpR op_eq (pe_ix ix_tup (pe_ix ix_tup (pv 2) (pv 3) (fun _ _ => rfl)) pe_int (fun _ _ => rfl)) (pe_ix ix_tup (pe_ix ix_tup (pv 2) (pv 4) (fun _ _ => rfl)) pe_int (fun _ _ => rfl)) (nomark _)) (nomark _)) (pss_one (ps_ret (pe_tup (pa_cons pe_str (pa_cons (pe_tup (pa_cons (pv 3) (pa_cons (pv 4) pa_nil))) (pa_cons (pe_cmpR op_eq (pe_ix ix_tup (pe_ix ix_tup (pv 2) (pv 3) (fun _ _ => rfl)) pe_int (fun _ _ => rfl)) (pe_ix ix_tup (pe_ix ix_tup (pv 2) (pv 4) (fun _ _ => rfl)) pe_int (fun _ _ => rfl)) (nomark _)) pa_nil)))))) pss_nil))) (pss_cons (ps_setDc (i := 5) (own := [("name", 6), ("_", 12), ("rows", 8)]) rfl sc_told.nd rfl rfl (sw_trueD rfl rfl rfl (by decide +kernel)) (pi_list (pe_fld (pv 1) rfl)) (blkOk_by (N := ["first", "second", "pairs", "one", "other", "tables", "name", "arity", "rows", "table", "places", "here", "_", "row", "place"]) (sc := defScope (top 31)) (by decide +kernel)) (fun _ _ _ _ _ => (pg_names3 (K := K) rfl rfl sc_told.nd (i := 6) rfl (Or.inl rfl) (j := 12) rfl (Or.inl rfl) (l := 8) rfl (Or.inl rfl))) (fun _ _ _ _ _ => pts_nil) (fun _ _ _ _ _ => (pv 6)) (fun _ _ _ _ _ => (by exact pe_dcTn (hu1 hr) rfl sc_told.nd (pi_tupK (K := K) rfl (pv 8)) (own := [("row", 13)]) (BlkOk.nf (sc0 := defScope (top 31)) (blkOk_by (N := ["first", "second", "pairs", "one", "other", "tables", "name", "arity", "rows", "table", "places", "here", "_", "row", "place"]) (by decide +kernel)) (by decide +kernel)) (fun _ _ _ _ _ => (pg_name (i := 13) sc_told.nd rfl (Or.inl rfl))) (fun _ _ _ _ _ => pts_nil) (fun _ _ _ _ _ => (pv 13)) (fun _ _ _ _ _ => pe_bl) (fun _ => rfl)))) (pss_cons (ps_for PassesOwn.never rfl (pi_list (pe_fld (pv 0) rfl)) (pg_tup rfl (pgs_cons (pg_name (i := 6) sc_told.nd rfl (Or.inl rfl)) (pgs_cons (pg_name (i := 7) sc_told.nd rfl (Or.inl rfl)) (pgs_cons (pg_name (i := 8) sc_told.nd rfl (Or.inl rfl)) pgs_nil)))) (pss_cons (ps_setDcT (hu1 hr) (i := 9) (own := [("row", 13)]) rfl sc_told.nd rfl rfl (sw_trueD rfl rfl rfl (by decide +kernel)) (pi_tup (pv 8)) (blkOk_by (N := ["first", "second", "pairs", "one", "other", "tables", "name", "arity", "rows", "table", "places", "here", "_", "row", "place"]) (sc := defScope (top 31)) (by decide +kernel)) (fun _ _ _ _ _ => (pg_name (i := 13) sc_told.nd rfl (Or.inl rfl))) (fun _ _ _ _ _ => pts_nil) (fun _ _ _ _ _ => (pv 13)) (fun _ _ _ _ _ => pe_bl)) (pss_one (ps_for PassesOwn.never rfl (pi_list (pe_call G_all_rows R_all_rows (by rfl) g_all_rows k_all_rows b_all_rows .nil pass0 (pa_cons (pe_callB call_len_seq (by rfl) T.n_len PySem.boot_len (pa_cons (pv 2) pa_nil)) (pa_cons (pv 7) pa_nil)))) (pg_name (i := 10) sc_told.nd rfl (Or.inl rfl)) (pss_cons (ps_set (i := 11) sc_told.nd rfl (Or.inl rfl) (pe_cmp (pc_din (hu_of hr) (pe_callTy call_tuple_of (by rfl) T.n_tuple (by decide +kernel) (pa_cons (pe_lc (own := [("place", 14)]) rfl sc_told.nd (pi_tup (pv 10)) (blkOk_by (N := ["first", "second", "pairs", "one", "other", "tables", "name", "arity", "rows", "table", "places", "here", "_", "row", "place"]) (sc := defScope (top 31)) (by decide +kernel)) (fun _ _ _ _ _ => (pg_name (i := 14) sc_told.nd rfl (Or.inl rfl))) (fun _ _ _ _ _ => pts_nil) (fun _ _ _ _ _ => (pe_ix (ix_tupK (K := K) rfl) (pe_ix (ix_tupK (K := K) rfl) (pv 2) (pv 14) (fun _ _ => rfl)) pe_int (fun _ _ => rfl)))) pa_nil)) (pv 9)))) (pss_one (ps_if (pt_cmpR op_ne (pv 11) (pe_cmp (pc_din (hu_of hr) (pe_callTy call_tuple_of (by rfl) T.n_tuple (by decide +kernel) (pa_cons (pe_lc (own := [("place", 14)]) rfl sc_told.nd (pi_tup (pv 10)) (blkOk_by (N := ["first", "second", "pairs", "one", "other", "tables", "name", "arity", "rows", "table", "places", "here", "_", "row", "place"]) (sc := defScope (top 31)) (by decide +kernel)) (fun _ _ _ _ _ => (pg_name (i := 14) sc_told.nd rfl (Or.inl rfl))) (fun _ _ _ _ _ => pts_nil) (fun _ _ _ _ _ => (pe_ix (ix_tupK (K := K) rfl) (pe_ix (ix_tupK (K := K) rfl) (pv 2) (pv 14) (fun _ _ => rfl)) pe_int (fun _ _ => rfl)))) pa_nil)) (pe_dget (hu_of hr) (pv 5) (pv 6) (fun _ _ => rfl)))) (nomark _)) (pss_one (ps_ret (pe_tup (pa_cons (pv 6) (pa_cons (pv 10) (pa_cons (pv 11) pa_nil)))))) pss_nil))))))) (pss_one (ps_ret pe_non))))), ?_⟩
    obtain ⟨x1, dx1, p1, ys1, rfl, a1, b1, c1⟩ := id hx
    obtain ⟨x2, dx2, p2, ys2, rfl, a2, b2, c2⟩ := id hy
    have lus := DpAll.length dps
    rw [List.length_map] at lus
    have l3 := ok.l3
    have pws : ∀ k : Nat, k ≤ 6 → ∀ i, i ≤ k → us.length ^ i ≤ 4096 := fun k hk i hi => Nat.le_trans (Nat.pow_le_pow_left (show us.length ≤ 3 by omega) i) (Nat.le_trans (Nat.pow_le_pow_right (by decide) (show i ≤ 6 by omega)) (by decide))
    -- the entry of an index
    have ent : ∀ (H1 : Hp) (i : Nat), Same H H1 → i < us.length → ∃ (u : Addr) (p : Nat × Nat), us[i]? = some (.ref u) ∧ ps[i]? = some p ∧ SqT K H1 u [.int (p.1 : Nat), .int (p.2 : Nat)] := fun H1 i s1 hi => by
      obtain ⟨dd, hd, dpy⟩ := DpAll.get' dps (List.getElem?_eq_getElem hi)
      obtain ⟨p, hp, rfl⟩ := get_map hd
      obtain ⟨u, zs, e, hu, hz⟩ := Dp.tup_inv (Dp.same s1 dpy)
      obtain ⟨v1, w1, rfl, g1, hz⟩ := DpAll.cons_inv hz
      obtain ⟨v2, w2, rfl, g2, hz⟩ := DpAll.cons_inv hz
      obtain rfl := DpAll.nil_inv hz
      obtain rfl := Dp.int_inv g1
      obtain rfl := Dp.int_inv g2
      exact ⟨u, p, by rw [List.getElem?_eq_getElem hi, e], hp, hu⟩
    have ixI : ∀ i : Nat, i < us.length → ∀ v, us[i]? = some v → atI us (i : Nat) = some v := fun i hi v e => atI_nat e
    refine ⟨_, rfl, t, us, rfl, .inr hT, us.length, 2, rfl, by omega, by decide, pws 2 (by decide), fun H1 r rs s1 nr hr1 dr => ?_⟩
    refine ⟨r, rfl, ⟨_, SqL.of hr1⟩, for_list (K := K) (a := r) (xs := rs) (fun i σ H2 => ∃ (y3 y4 : Option V), σ = [some (.ref x1), some (.ref x2), some (.ref t), y3, y4, none, none, none, none, none, none, none, none, none, none] ∧ Same H1 H2 ∧
      ∀ (j a b : Nat) (p s : Nat × Nat), j < i → (tups us.length 2)[j]? = some [a, b] → ps[a]? = some p → ps[b]? = some s → (p.1 = s.1 ↔ p.2 = s.2)) ⟨none, none, rfl, .refl _, fun j a b p s hj => absurd hj (Nat.not_lt_zero _)⟩ (fun i σ H2 _ ⟨_, _, _, s2, _⟩ => SqL.of (s2 _ _ hr1)) ?_ ?_⟩
    · rintro i y σ H2 hi ⟨y3, y4, rfl, s2, al⟩
      obtain ⟨t0, row, rfl, hrow, ht0⟩ := RowsT.get' dr hi
      obtain ⟨rl, rb⟩ := tups_mem.mp (List.mem_of_getElem? hrow)
      obtain ⟨a, b, rfl⟩ := two_of rl
      have la := rb a (by simp)
      have lb := rb b (by simp)
      obtain ⟨ua, pa, ea, epa, ha⟩ := ent H2 a (s1.trans s2) la
      obtain ⟨ub, pb, eb, epb, hb⟩ := ent H2 b (s1.trans s2) lb
      refine ⟨t0, _, rfl, SqT.of (s2 _ _ ht0), rfl, _, _, rfl, _, _, rfl, rfl, ?_⟩
      refine ⟨_, rfl, _, rfl, t, us, _, _, rfl, rfl, Same.sqt (s1.trans s2) hT, ixI a la _ ea, ua, _, 0, _, rfl, rfl, ha, rfl, ?_⟩
      refine ⟨_, rfl, _, rfl, t, us, _, _, rfl, rfl, Same.sqt (s1.trans s2) hT, ixI b lb _ eb, ub, _, 0, _, rfl, rfl, hb, rfl, rfl, ?_⟩
      refine ⟨_, rfl, _, rfl, t, us, _, _, rfl, rfl, Same.sqt (s1.trans s2) hT, ixI a la _ ea, ua, _, 1, _, rfl, rfl, ha, rfl, ?_⟩
      refine ⟨_, rfl, _, rfl, t, us, _, _, rfl, rfl, Same.sqt (s1.trans s2) hT, ixI b lb _ eb, ub, _, 1, _, rfl, rfl, hb, rfl, rfl, ?_⟩
      refine ⟨rfl, _, rfl, ?_⟩
      by_cases e : (pa.1 = pb.1 ↔ pa.2 = pb.2)
      · refine cF (k := !decide (V.bl (decide (V.int (pa.1 : Nat) = V.int (pb.1 : Nat))) = V.bl (decide (V.int (pa.2 : Nat) = V.int (pb.2 : Nat))))) (nd_f ?_) ?_
        · rw [vint_dec, vint_dec, decide_eq_decide.mpr e]
        · refine ⟨_, _, rfl, s2, fun j a' b' p s hj ht hp hs => ?_⟩
          by_cases ej : j = i
          · subst ej
            rw [hrow] at ht
            cases ht
            rw [epa] at hp
            rw [epb] at hs
            cases hp
            cases hs
            exact e
          · exact al j a' b' p s (by omega) ht hp hs
      · refine cT (k := !decide (V.bl (decide (V.int (pa.1 : Nat) = V.int (pb.1 : Nat))) = V.bl (decide (V.int (pa.2 : Nat) = V.int (pb.2 : Nat))))) (nd_t fun z => ?_) ?_
        · rw [vint_dec, vint_dec] at z
          exact e (decide_eq_decide.mp (V.bl.inj z))
        · refine ⟨_, rfl, _, rfl, (by show 2 ≤ sizeLine; decide), fun g1 n1 => ?_⟩
          have sg1 := same_upd (o := .tup [V.int (a : Nat), V.int (b : Nat)]) n1
          have s12 := (s1.trans s2).trans sg1
          refine ⟨_, rfl, _, rfl, t, us, _, _, rfl, rfl, Same.sqt s12 hT, ixI a la _ ea, ua, _, 0, _, rfl, rfl, Same.sqt sg1 ha, rfl, ?_⟩
          refine ⟨_, rfl, _, rfl, t, us, _, _, rfl, rfl, Same.sqt s12 hT, ixI b lb _ eb, ub, _, 0, _, rfl, rfl, Same.sqt sg1 hb, rfl, rfl, ?_⟩
          refine ⟨(by show 3 ≤ sizeLine; decide), fun g2 n2 => ?_⟩
          refine q _ _ (s12.trans (same_upd n2)) ⟨fun z => (nomatch z), fun z => absurd (z.1 pa pb (List.mem_of_getElem? epa) (List.mem_of_getElem? epb)) e⟩
    · rintro σ H2 ⟨y3, y4, rfl, s2, al⟩
      have allP : ∀ a b, a ∈ ps → b ∈ ps → (a.1 = b.1 ↔ a.2 = b.2) := fun a b ha hb => by
        obtain ⟨i, hi⟩ := List.mem_iff_getElem?.mp ha
        obtain ⟨j, hj⟩ := List.mem_iff_getElem?.mp hb
        have li := (List.getElem?_eq_some_iff.mp hi).1
        have lj := (List.getElem?_eq_some_iff.mp hj).1
        have m : [i, j] ∈ tups us.length 2 := tups_mem.mpr ⟨rfl, fun x hx => by
          rcases List.mem_cons.mp hx with rfl | hx
          · omega
          · rw [List.mem_singleton.mp hx]; omega⟩
        obtain ⟨k, hk⟩ := List.mem_iff_getElem?.mp m
        have lk := (List.getElem?_eq_some_iff.mp hk).1
        exact al k i j a b (by rw [dr.length]; exact lk) hk hi hj
      have sH2 := s1.trans s2
      refine ⟨_, rfl, x2, _, dx2, _, _, rfl, sH2 _ _ a2, SC.cls, SC.nr, rfl, p2, rfl, ⟨_, SqL.of (sH2 _ _ b2)⟩, fun D nD => ?_⟩
      have lJ := ok.lJ
      have lys := c2.length
      refine dc_it (walk_list (K := K) (a := p2) (xs := ys2)) (fun i H3 => ∃ kvs, Same H2 H3 ∧ H3 D = some (.dK kvs) ∧ kvs.length ≤ i ∧ ∀ (j : Nat) (z : Wrl), j < i → J[j]? = some z → ∃ d, valV kvs (Sum.inr z.1.1) = some (.ref d) ∧ d ≠ D ∧ DicR H3 d z.2) ⟨[], same_upd nD, upd_same, Nat.le_refl _, fun j z hj => absurd hj (Nat.not_lt_zero _)⟩ (fun i H3 _ ⟨_, s3, _⟩ => SqL.of (s3 _ _ (sH2 _ _ b2))) ?_ ?_
      · rintro i v H3 H4 hi ⟨kvs, s3, hD, lk, al3⟩ ⟨rfl, hv⟩
        obtain ⟨z, hz, u, b, xs, rfl, hu, hb, hR⟩ := RelL.get' c2 hv
        have sH3 := sH2.trans s3
        refine ⟨u, _, rfl, Same.sqt sH3 hu, rfl, _, _, rfl, _, _, rfl, _, _, rfl, rfl, rfl, _, rfl, ?_⟩
        refine tdcT_rows (K := K) (Same.sqt sH3 hb) (RowsT.same sH3 hR) (ok.rows z (List.mem_append_right _ (List.mem_of_getElem? hz))) fun H5 d s5 nd dR => ?_
        refine ⟨kvs, Sum.inr z.1.1, rfl, s5 _ _ hD, small20 (by omega), putK kvs (Sum.inr z.1.1) (.ref d), fun c o e => (upd_ne (ne_of_none e nD)).trans (s5 _ _ (s3 _ _ e)), upd_same, by have := length_putK kvs (Sum.inr z.1.1) (V.ref d); omega, fun j z' hj hz' => ?_⟩
        have dD : d ≠ D := fun e => by rw [e, hD] at nd; cases nd
        have dic : ∀ {d' : Addr} {R : List (List Nat)} {o : HO}, d' ≠ D → DicR H5 d' R → DicR (upd H5 D o) d' R := fun {d' R o} nn h => by
          obtain ⟨kk, h1, h2⟩ := h
          exact ⟨kk, (upd_ne nn).trans h1, h2⟩
        rw [valV_put]
        by_cases ej : j = i
        · subst ej
          rw [hz] at hz'
          cases hz'
          exact ⟨d, if_pos rfl, dD, dic dD dR⟩
        · obtain ⟨d', h1, h2, h3⟩ := al3 j z' (by omega) hz'
          have nn : (Sum.inr z'.1.1 : Key) ≠ Sum.inr z.1.1 := fun e => by
            have e1 : (J.map fun z => z.1.1)[j]? = some z'.1.1 := by rw [List.getElem?_map, hz']; rfl
            have e2 : (J.map fun z => z.1.1)[i]? = some z.1.1 := by rw [List.getElem?_map, hz]; rfl
            rw [Sum.inr.inj e] at e1
            exact ej ((List.getElem?_inj (List.getElem?_eq_some_iff.mp e1).1 ok.ndJ).mp (e1.trans e2.symm))
          exact ⟨d', by rw [if_neg nn]; exact h1, h2, dic h2 (h3.same s5)⟩
      · rintro H3 ⟨kvs, s3, hD, lk, al3⟩
        have sH3 := sH2.trans s3
        have tabs : ∀ z, z ∈ J → ∃ d, valV kvs (Sum.inr z.1.1) = some (.ref d) ∧ DicR H3 d z.2 := fun z hz => by
          obtain ⟨j, hj⟩ := List.mem_iff_getElem?.mp hz
          obtain ⟨d, h1, _, h3⟩ := al3 j z (by have := (List.getElem?_eq_some_iff.mp hj).1; omega) hj
          exact ⟨d, h1, h3⟩
        refine ⟨_, rfl, x1, _, dx1, _, _, rfl, sH3 _ _ a1, SC.cls, SC.nr, rfl, p1, rfl, ⟨_, SqL.of (sH3 _ _ b1)⟩, ?_⟩
        have lys1 := c1.length
        refine for_list (K := K) (a := p1) (xs := ys1) (fun i σ H4 => ∃ (y6 y7 y8 y9 y10 y11 : Option V), σ = [some (.ref x1), some (.ref x2), some (.ref t), y3, y4, some (.ref D), y6, y7, y8, y9, y10, y11, none, none, none] ∧ Same H3 H4 ∧
          ∀ (j : Nat) (z y : Wrl), j < i → I[j]? = some z → y ∈ J → y.1 = z.1 → ∀ r : List (Nat × Nat), (∀ p, p ∈ r → p ∈ ps) → r.length = z.1.2 → (r.map (·.1) ∈ z.2 ↔ r.map (·.2) ∈ y.2)) ⟨none, none, none, none, none, none, rfl, .refl _, fun j z y hj => absurd hj (Nat.not_lt_zero _)⟩ (fun i σ H4 _ ⟨_, _, _, _, _, _, _, s4, _⟩ => SqL.of (s4 _ _ (sH3 _ _ b1))) ?_ ?_
        · rintro i v σ H4 hi ⟨y6, y7, y8, y9, y10, y11, rfl, s4, al4⟩
          obtain ⟨z, hz, u, b, xs, rfl, hu, hb, hR⟩ := RelL.get' c1 hi
          have sH4 := sH3.trans s4
          refine ⟨u, _, rfl, Same.sqt sH4 hu, rfl, _, _, rfl, _, _, rfl, _, _, rfl, rfl, ?_⟩
          refine tdcT_rowsS (K := K) (Same.sqt sH4 hb) (RowsT.same sH4 hR) (ok.rows z (List.mem_append_left _ (List.mem_of_getElem? hz))) fun H5 d s5 nd dR => ?_
          have sH5 := sH4.trans s5
          have zI := List.mem_of_getElem? hz
          have ar := ok.ar z zI
          obtain ⟨y, hyJ, eyz⟩ := ok.sg z zI
          obtain ⟨dt, hdt, dRt⟩ := tabs y hyJ
          refine ⟨_, rfl, t, us, rfl, .inr (Same.sqt sH5 hT), _, rfl, us.length, z.1.2, rfl, by omega, by omega, pws _ ar, fun H6 r2 rs2 s6 nr2 hr2 dr2 => ?_⟩
          refine ⟨r2, rfl, ⟨_, SqL.of hr2⟩, ?_⟩
          refine for_list (K := K) (a := r2) (xs := rs2) (fun m σ H7 => ∃ (y10 y11 : Option V), σ = [some (.ref x1), some (.ref x2), some (.ref t), y3, y4, some (.ref D), some (.str z.1.1), some (.int (z.1.2 : Nat)), some (.ref b), some (.ref d), y10, y11, none, none, none] ∧ Same H6 H7 ∧
            ∀ (j : Nat) (pl : List Nat) (r : List (Nat × Nat)), j < m → (tups us.length z.1.2)[j]? = some pl → r.map some = pl.map (fun x => ps[x]?) → (r.map (·.1) ∈ z.2 ↔ r.map (·.2) ∈ y.2)) ⟨_, _, rfl, .refl _, fun j pl r hj => absurd hj (Nat.not_lt_zero _)⟩ (fun i σ H7 _ ⟨_, _, _, s7, _⟩ => SqL.of (s7 _ _ hr2)) ?_ ?_
          · rintro k v σ H7 hi2 ⟨y10, y11, rfl, s7, al7⟩
            obtain ⟨t0, pl, rfl, hpl, ht0⟩ := RowsT.get' dr2 hi2
            obtain ⟨pll, plb⟩ := tups_mem.mp (List.mem_of_getElem? hpl)
            obtain ⟨r, er⟩ := at_idx (ps := ps) (pl := pl) fun x hx => by have := plb x hx; omega
            have sH7 := sH5.trans (s6.trans s7)
            have hz1 : (rowK (r.map (·.1))).map kV = rowV (r.map (·.1)) := rowK_kV _
            have lrr : r.length = z.1.2 := by have := congrArg List.length er; rw [List.length_map, List.length_map] at this; omega
            show tSeq _ _ _ _ _
            refine in_pairsS (K := K) (c := 0) (g := fun p => p.1) (fun p => rfl) (Same.sqt sH7 hT) (ent H7 · sH7) (s7 _ _ ht0) er plb (by omega) (dR.same (s6.trans s7)) fun H8 s8 => ?_
            have sH8 := sH7.trans s8
            refine ⟨_, rfl, ?_⟩
            refine in_pairs (K := K) (c := 1) (g := fun p => p.2) (fun p => rfl) (Same.sqt sH8 hT) (ent H8 · sH8) (s8 _ _ (s7 _ _ ht0)) er plb (by omega) fun H9 b9 s9 hb9 => ?_
            obtain ⟨kk, hk1, hk2⟩ := ((dRt.same (s4.trans (s5.trans (s6.trans s7)))).same s8).same s9
            have hD9 := s9 _ _ (s8 _ _ (s7 _ _ (s6 _ _ (s5 _ _ (s4 _ _ hD)))))
            have gk : DGet H9 D (.str z.1.1) (some (.ref dt)) := by
              have e1 := DGet.k (k := Sum.inr z.1.1) hD9
              rw [eyz] at hdt
              rw [hdt] at e1
              exact e1
            have em : (valV kk (rowK (r.map fun p => p.2))).isSome = decide (r.map (fun p => p.2) ∈ y.2) := by
              by_cases m : r.map (fun p => p.2) ∈ y.2
              · rw [decide_eq_true m]; exact (hk2 _).mpr m
              · rw [decide_eq_false m]
                cases h : (valV kk (rowK (r.map fun p => p.2))).isSome with
                | true => exact absurd ((hk2 _).mp h) m
                | false => rfl
            refine ⟨_, rfl, _, rfl, D, .ref dt, rfl, gk, dt, _, rfl, DGet.t (k := rowK (r.map fun p => p.2)) hk1 (by rw [rowK_kV]; exact hb9), rfl, _, rfl, ?_⟩
            rw [em]
            by_cases e : (r.map (fun p => p.1) ∈ z.2 ↔ r.map (fun p => p.2) ∈ y.2)
            · refine cF (k := !decide (V.bl (decide (r.map (fun p => p.1) ∈ z.2)) = V.bl (decide (r.map (fun p => p.2) ∈ y.2)))) (nd_f (by rw [decide_eq_decide.mpr e])) ?_
              refine ⟨_, _, rfl, s7.trans (s8.trans s9), fun j pl' r' hj hpl' er' => ?_⟩
              by_cases ej : j = k
              · subst ej
                rw [hpl] at hpl'
                cases hpl'
                have e5 : r' = r := (List.map_inj_right (fun a b z => Option.some.inj z)).mp (er'.trans er.symm)
                rw [e5]
                exact e
              · exact al7 j pl' r' (by omega) hpl' er'
            · refine cT (k := !decide (V.bl (decide (r.map (fun p => p.1) ∈ z.2)) = V.bl (decide (r.map (fun p => p.2) ∈ y.2)))) (nd_t fun w => e (decide_eq_decide.mp (V.bl.inj w))) ?_
              refine ⟨_, rfl, _, rfl, _, rfl, (by show 3 ≤ sizeLine; decide), fun g2 n2 => ?_⟩
              refine q _ _ (((sH8.trans s9)).trans (same_upd n2)) ⟨fun w => (nomatch w), fun w => absurd (w.2 z zI y hyJ eyz r (fun p hp => ?_) lrr) e⟩
              have m1 : some p ∈ r.map some := List.mem_map.mpr ⟨p, hp, rfl⟩
              rw [er] at m1
              obtain ⟨x, _, hx9⟩ := List.mem_map.mp m1
              exact List.mem_of_getElem? hx9
          · rintro σ H7 ⟨y10, y11, rfl, s7, al7⟩
            refine ⟨_, _, _, _, _, _, rfl, s4.trans (s5.trans (s6.trans s7)), fun j z' y' hj hz' hy' e' r hr hl => ?_⟩
            by_cases ej : j = i
            · subst ej
              rw [hz] at hz'
              cases hz'
              have ey : y' = y := by
                obtain ⟨i1, h1⟩ := List.mem_iff_getElem?.mp hy'
                obtain ⟨i2, h2⟩ := List.mem_iff_getElem?.mp hyJ
                have g1 : (J.map fun z => z.1.1)[i1]? = some y'.1.1 := by rw [List.getElem?_map, h1]; rfl
                have g2 : (J.map fun z => z.1.1)[i2]? = some y.1.1 := by rw [List.getElem?_map, h2]; rfl
                rw [e', ← eyz] at g1
                have ei := (List.getElem?_inj (List.getElem?_eq_some_iff.mp g1).1 ok.ndJ).mp (g1.trans g2.symm)
                rw [ei, h2] at h1
                exact (Option.some.inj h1).symm
              subst ey
              obtain ⟨pl, er, plb, pll⟩ := idx_of hr
              have m : pl ∈ tups us.length z.1.2 := tups_mem.mpr ⟨by omega, fun x hx => by have := plb x hx; omega⟩
              obtain ⟨k, hk⟩ := List.mem_iff_getElem?.mp m
              exact al7 k pl r (by rw [dr2.length]; exact (List.getElem?_eq_some_iff.mp hk).1) hk er
            · exact al4 j z' y' (by omega) hz' hy' e' r hr hl
        · rintro σ H4 ⟨y6, y7, y8, y9, y10, y11, rfl, s4, al4⟩
          refine q _ _ (sH3.trans s4) ⟨fun _ => ⟨allP, fun z hz y hy e r hr hl => ?_⟩, fun _ => rfl⟩
          obtain ⟨j, hj⟩ := List.mem_iff_getElem?.mp hz
          exact al4 j z y (by have := (List.getElem?_eq_some_iff.mp hj).1; omega) hj hy e r hr hl
end
/-! ### the law's lists -/
def spLLists (K : PySem.W.Frag) : Sp := fun vs H Q _ => ∃ (r : Addr) (ys : List V) (L : List Wrl), vs = [.ref r] ∧ H r = some (.lst ys) ∧ RelL K H ys L ∧ L.length ≤ 6 ∧
  ∀ (H' : Hp) (p : Addr) (zs : List V), Same H H' → H p = none → H' p = some (.lst zs) → HandL K H' zs L → Q (.ref p) H'
theorem HandL.snoc {K : PySem.W.Frag} {H : Hp} {zs : List V} {L : List Wrl} {i : Nat} {v : V} {z : Wrl} (h : HandL K H zs (L.take i)) (e : L[i]? = some z) (hv : HandR K H v z) : HandL K H (zs ++ [v]) (L.take (i + 1)) := by
  have li := (List.getElem?_eq_some_iff.mp e).1
  have lt : (L.take i).length = i := by rw [List.length_take]; omega
  have lz : zs.length = i := by rw [h.1, lt]
  refine ⟨by rw [List.length_append, lz, List.length_take]; simp; omega, fun j u y hj hy => ?_⟩
  rw [List.take_add_one, e] at hy
  by_cases hlt : j < i
  · rw [List.getElem?_append_left (by omega)] at hj
    rw [List.getElem?_append_left (by omega)] at hy
    exact h.2 j u y hj hy
  · have hj' : j = i := by
      have := (List.getElem?_eq_some_iff.mp hj).1
      rw [List.length_append, lz] at this
      simp at this
      omega
    subst hj'
    rw [List.getElem?_append_right (by omega), lz] at hj
    rw [List.getElem?_append_right (by omega), lt] at hy
    simp at hj hy
    rw [← hj, ← hy]
    exact hv
theorem HandL.same {K : PySem.W.Frag} {H H' : Hp} (s : Same H H') {zs : List V} {L : List Wrl} (h : HandL K H zs L) : HandL K H' zs L := ⟨h.1, fun i v z a b => (h.2 i v z a b).same s⟩
/-- the heap without the list at M -/
def noM (M : Addr) (H : Hp) : Hp := fun a => if a = M then none else H a
theorem noM_upd {M : Addr} {H : Hp} {o : HO} : noM M (upd H M o) = noM M H := by
  funext a
  unfold noM
  by_cases e : a = M
  · rw [if_pos e, if_pos e]
  · rw [if_neg e, if_neg e, upd_ne e]
theorem noM_same {M : Addr} {H H' : Hp} (s : Same H H') : Same (noM M H) (noM M H') := fun b o e => by
  unfold noM at e ⊢
  by_cases eb : b = M
  · rw [if_pos eb] at e; cases e
  · rw [if_neg eb] at e ⊢; exact s _ _ e
theorem noM_sub {M : Addr} {H : Hp} : Same (noM M H) H := fun b o e => by
  unfold noM at e
  by_cases eb : b = M
  · rw [if_pos eb] at e; cases e
  · rw [if_neg eb] at e; exact e
theorem noM_none {M : Addr} {H H' : Hp} (n : H M = none) (s : Same H H') : Same H (noM M H') := fun b o e => by
  unfold noM
  rw [if_neg (ne_of_none e n)]
  exact s _ _ e
section
variable {P : Program} {w : World} {K : PySem.W.Frag} {mg : Str → Option Value} {base : Heap}
theorem sc_llists : FnScope ["relations", "name", "arity", "rows"] ["relations"] (defScope (top 53)) := ⟨rfl, rfl, rfl, by decide +kernel, rfl, by decide +kernel, by decide +kernel⟩
theorem has_llists (D : Def K mg "_law_lists" ["relations"] (top 53)) (T : Txt mg) : Has P w K mg base 1 "_law_lists" ["relations"] (spLLists K) := D.has fun f fd F => by
  refine F.ok sc_llists (fun vs H Q E h => ?_) (fun cdv A outer s H vs Q E hr h => ?_)
  · obtain ⟨r, ys, L, rfl, _⟩ := h; rfl
  · obtain ⟨r, ys, L, rfl, hr0, hL, l6, q⟩ := h
    refine ⟨_, PSs.nox (pss_one (ps_ret (pe_lc (own := [("name", 1), ("arity", 2), ("rows", 3)]) rfl sc_llists.nd (pi_list (pv 0)) (blkOk_by (N := ["relations", "name", "arity", "rows"]) (sc := defScope (top 53)) (by decide +kernel)) (fun _ _ _ _ _ => (pg_names3 (K := K) rfl rfl sc_llists.nd (i := 1) rfl (Or.inl rfl) (j := 2) rfl (Or.inl rfl) (l := 3) rfl (Or.inl rfl))) (fun _ _ _ _ _ => pts_nil) (fun _ _ _ _ _ => (pe_tup (pa_cons (pv 1) (pa_cons (pv 2) (pa_cons (pe_callTy (call_list_ofK (K := K) rfl) (by rfl) T.n_list (by decide +kernel) (pa_cons (pv 3) pa_nil)) pa_nil)))))))), ?_⟩
    have ly := hL.length
    refine ⟨_, rfl, r, rfl, ⟨_, SqL.of hr0⟩, fun M nM => ?_⟩
    refine lc_it (walk_list (K := K) (a := r) (xs := ys)) (fun i H2 => ∃ (acc : List V), Same H H2 ∧ H2 M = some (.lst acc) ∧ HandL K (noM M H2) acc (L.take i)) ⟨[], same_upd nM, upd_same, rfl, fun i v z h => by simp at h⟩ (fun i H2 _ ⟨_, s2, _⟩ => SqL.of (s2 _ _ hr0)) ?_ ?_
    · rintro i v H2 H3 hi ⟨acc, s2, hM, hacc⟩ ⟨rfl, hv⟩
      obtain ⟨z, hz, u, b, xs, rfl, hu, hb, hR⟩ := RelL.get' hL hv
      have la := hacc.1
      rw [List.length_take] at la
      refine ⟨u, _, rfl, Same.sqt s2 hu, rfl, _, _, rfl, _, _, rfl, _, _, rfl, rfl, rfl, ?_⟩
      refine ⟨_, rfl, _, rfl, _, rfl, b, xs, rfl, .inr (Same.sqt s2 hb), fun l nl => ?_⟩
      have sl := same_upd (o := .lst xs) nl
      refine ⟨(by show 3 ≤ sizeLine; decide), fun p np => ?_⟩
      have sp := same_upd (o := .tup [.str z.1.1, .int (z.1.2 : Nat), .ref l]) np
      have s3 := sl.trans sp
      refine ⟨acc, s3 _ _ hM, small1000 (by omega), acc ++ [.ref p], fun c o e => (upd_ne (ne_of_none e nM)).trans (s3 _ _ (s2 _ _ e)), upd_same, ?_⟩
      rw [noM_upd]
      have nlM : l ≠ M := fun e => by rw [e, hM] at nl; cases nl
      have npM : p ≠ M := fun e => by rw [e, sl _ _ hM] at np; cases np
      have nH : Same H (noM M (upd (upd H3 l (.lst xs)) p (.tup [.str z.1.1, .int (z.1.2 : Nat), .ref l]))) := noM_none nM (s2.trans s3)
      refine HandL.snoc (hacc.same (noM_same s3)) hz ⟨p, l, xs, rfl, SqT.of ?_, .inl (SqL.of ?_), RowsT.same nH hR⟩
      · unfold noM; rw [if_neg npM]; exact upd_same
      · unfold noM; rw [if_neg nlM]; exact sp _ _ upd_same
    · rintro H2 ⟨acc, s2, hM, hacc⟩
      rw [ly, List.take_length] at hacc
      exact q H2 M acc s2 nM hM (hacc.same noM_sub)
end
/-! ### the law's structures -/
theorem st_make {K : PySem.W.Frag} {H : Hp} {s dx a : Addr} {xs : List V} {n : Nat} {L : List Wrl} {Z : VK} {EE : XK} (ns : H s = none) (nd : H dx = none) (hS : SqL K H a xs) (hL : HandL K H xs L) (rok : RelsOk n L) (z : ∀ (H2 : Hp) (J : List Wrl), Same H H2 → StR K H2 (.ref s) n J → KeptL L J → Z .non H2) :
    spStIni K [.ref s, .int (n : Nat), .ref a] (upd (upd H dx (.own s)) s (.ins (He.ga K "Structure") dx [])) Z EE := by
  have s0 : Same H (upd (upd H dx (.own s)) s (.ins (He.ga K "Structure") dx [])) := fun b o e => by
    rw [upd_ne (ne_of_none e ns), upd_ne (ne_of_none e nd)]
    exact e
  refine ⟨s, dx, a, xs, n, L, rfl, upd_same, s0.seq hS, hL.same s0, rok, fun H2 J keep st kj => z H2 J (fun b o e => ?_) st kj⟩
  exact keep b o (s0 _ _ e) (ne_of_none e ns)
theorem HandL.rev {K : PySem.W.Frag} {H : Hp} {zs : List V} {L : List Wrl} (h : HandL K H zs L) : HandL K H zs.reverse L.reverse := by
  obtain ⟨l, al⟩ := h
  refine ⟨by rw [List.length_reverse, List.length_reverse, l], fun i v z hv hz => ?_⟩
  have li : i < zs.length := by have := (List.getElem?_eq_some_iff.mp hv).1; rwa [List.length_reverse] at this
  rw [List.getElem?_reverse li] at hv
  rw [List.getElem?_reverse (by omega)] at hz
  exact al _ v z hv (by rw [l]; exact hz)
def spLStr (K : PySem.W.Frag) : Sp := fun vs H Q _ => ∃ (a r1 r2 : Addr) (n m : Nat) (ys1 ys2 : List V) (L1 L2 : List Wrl), vs = [.ref a] ∧ H a = some (.lst [.int (n : Nat), .ref r1, .int (m : Nat), .ref r2]) ∧ H r1 = some (.lst ys1) ∧ RelL K H ys1 L1 ∧ H r2 = some (.lst ys2) ∧ RelL K H ys2 L2 ∧
  RelsOk n L1 ∧ RelsOk m L2.reverse ∧ ∀ (H' : Hp) (p : Addr) (u v : V) (I J : List Wrl), Same H H' → H p = none → H' p = some (.lst [u, v]) → StR K H' u n I → StR K H' v m J → KeptL L1 I → KeptL L2.reverse J → Q (.ref p) H'
section
variable {P : Program} {w : World} {K : PySem.W.Frag} {mg : Str → Option Value} {base : Heap}
theorem sc_lstr : FnScope ["pair"] ["pair"] (defScope (top 54)) := ⟨rfl, rfl, rfl, by decide +kernel, rfl, by decide +kernel, by decide +kernel⟩
theorem has_lstr (D : Def K mg "_law_structures" ["pair"] (top 54)) (T : Txt mg) (gC_Structure : mg "Structure" = some (.ref (He.ga K "Structure"))) (I : ∃ f fd, Mk K (He.ga K "Structure") f ∧ FnOk P w K mg base CX0 6 f fd ["self", "size", "relations"] (spStIni K) ∧ Binds K fd ["self", "size", "relations"] []) (C1 : Has P w K mg base 1 "_law_lists" ["relations"] (spLLists K)) : Has P w K mg base 8 "_law_structures" ["pair"] (spLStr K) := D.has fun f fd F => by
  obtain ⟨f1, fd1, G_law_lists, g_law_lists, k_law_lists, b_law_lists⟩ := C1
  obtain ⟨f4, fd4, MK_Structure, GI_Structure, bI_Structure⟩ := I
  refine F.ok sc_lstr (fun vs H Q E h => ?_) (fun cdv A outer s H vs Q E hr h => ?_)
  · obtain ⟨a, r1, r2, n, m, ys1, ys2, L1, L2, rfl, _⟩ := h; rfl
  · obtain ⟨a, r1, r2, n, m, ys1, ys2, L1, L2, rfl, ha, h1, d1, h2, d2, o1, o2, q⟩ := h
    have R_law_lists : Room 1 _ := hr.mono (by decide)
    have RI_Structure : Room (6 + 1) _ := hr
    refine ⟨_, PSs.nox (pss_one (ps_ret (pe_lst (pa_cons (pe_make MK_Structure GI_Structure RI_Structure (by rfl) gC_Structure bI_Structure .nil pass0 (pa_cons (pe_ix ix_list (pv 0) pe_int (fun _ _ => rfl)) (pa_cons (pe_call G_law_lists R_law_lists (by rfl) g_law_lists k_law_lists b_law_lists .nil pass0 (pa_cons (pe_ix ix_list (pv 0) pe_int (fun _ _ => rfl)) pa_nil)) pa_nil))) (pa_cons (pe_make MK_Structure GI_Structure RI_Structure (by rfl) gC_Structure bI_Structure .nil pass0 (pa_cons (pe_ix ix_list (pv 0) pe_int (fun _ _ => rfl)) (pa_cons (pe_revL (pe_call G_law_lists R_law_lists (by rfl) g_law_lists k_law_lists b_law_lists .nil pass0 (pa_cons (pe_ix ix_list (pv 0) pe_int (fun _ _ => rfl)) pa_nil))) pa_nil))) pa_nil))))), ?_⟩
    have hl : ∀ {H1 : Hp}, Same H H1 → SqL K H1 a [.int (n : Nat), .ref r1, .int (m : Nat), .ref r2] := fun s => SqL.of (s _ _ ha)
    have l1 := o1.l6
    have l2 := o2.l6
    rw [List.length_reverse] at l2
    refine ⟨_, rfl, a, _, 0, _, rfl, rfl, hl (.refl H), rfl, _, rfl, a, _, 1, _, rfl, rfl, hl (.refl H), rfl, r1, ys1, L1, rfl, h1, d1, l1, fun H1 p1 zs1 s1 np1 hp1 hh1 => ?_⟩
    intro s0 dx0 ns0 nd0 ne0
    refine st_make ns0 nd0 (SqL.of hp1) hh1 o1 fun H2 I1 s2 st1 kj1 => ⟨rfl, ?_⟩
    have s12 := s1.trans s2
    refine ⟨_, rfl, a, _, 2, _, rfl, rfl, hl s12, rfl, _, rfl, a, _, 3, _, rfl, rfl, hl s12, rfl, r2, ys2, L2, rfl, s12 _ _ h2, d2.same s12, l2, fun H3 p3 zs3 s3 np3 hp3 hh3 => ?_⟩
    refine ⟨p3, zs3, rfl, SqL.of hp3, fun p4 np4 => ?_⟩
    have s4 := same_upd (o := .lst zs3.reverse) np4
    intro s5 dx5 ns5 nd5 ne5
    refine st_make ns5 nd5 (SqL.of upd_same) (hh3.same s4).rev o2 fun H5 J1 s6 st2 kj2 => ⟨rfl, ?_⟩
    have s25 := (s3.trans s4).trans s6
    refine ⟨(by show 2 ≤ sizeLine; decide), fun p np => ?_⟩
    have sp := same_upd (o := .lst [.ref s0, .ref s5]) np
    exact q _ p _ _ I1 J1 ((s12.trans s25).trans sp) (Same.none (s12.trans s25) np) upd_same ((st1.same s25).same sp) (st2.same sp) kj1 kj2
end
/-! ### the law's positions -/
def eD : Option (Nat × Nat) → PyData
  | none => .none
  | some p => .tuple [.int (p.1 : Nat), .int (p.2 : Nat)]
theorem noL_eD (e : Option (Nat × Nat)) : noL (eD e) = true := by
  cases e with
  | none => show noL .none = true; rw [noL]; all_goals (intros; contradiction)
  | some p => exact noL_tup (by rw [noLs_cons, noLs_cons, noL_int, noL_int, noLs]; rfl)
theorem es_noL (l : List (Option (Nat × Nat))) : noLs (l.map eD) = true := noLs_all fun t ht => by
  obtain ⟨x, _, rfl⟩ := List.mem_map.mp ht
  exact noL_eD x
/-! ### _law_equal of flat values -/
def spEqual : Sp := fun vs H Q _ => ∃ x y : V, vs = [x, y] ∧ flatV x = true ∧ flatV y = true ∧ Q (.bl (decide (x = y))) H
section
variable {P : Program} {w : World} {K : PySem.W.Frag} {mg : Str → Option Value} {base : Heap}
theorem sc_equal : FnScope ["actual", "due"] ["actual", "due"] (defScope (top 43)) := ⟨rfl, rfl, rfl, by decide +kernel, rfl, by decide +kernel, by decide +kernel⟩
theorem has_equal (D : Def K mg "_law_equal" ["actual", "due"] (top 43)) (T : Txt mg) : Has P w K mg base 1 "_law_equal" ["actual", "due"] spEqual := D.has fun f fd F => by
  refine F.ok sc_equal (fun vs H Q E h => ?_) (fun cdv A outer s H vs Q E hr h => ?_)
  · obtain ⟨x, y, rfl, _⟩ := h; rfl
  · obtain ⟨x, y, rfl, fx, fy, q⟩ := h
    refine ⟨_, PSs.nox (pss_cons (ps_if (pt_val (pe_callB call_isi (by rfl) T.n_isinstance (by decide +kernel) (pa_cons (pv 1) (pa_cons (pe_bltn (v := .ty "list") (by rfl) T.n_list (by decide +kernel) rfl) pa_nil)))) pss_never pss_nil) (pss_cons (ps_if (pt_val (pe_callB call_isi (by rfl) T.n_isinstance (by decide +kernel) (pa_cons (pv 1) (pa_cons (pe_bltn (v := .ty "tuple") (by rfl) T.n_tuple (by decide +kernel) rfl) pa_nil)))) pss_never pss_nil) (pss_cons (ps_if (pt_val (pe_callB call_isi (by rfl) T.n_isinstance (by decide +kernel) (pa_cons (pv 1) (pa_cons (pe_bltn (v := .ty "bool") (by rfl) T.n_bool (by decide +kernel) rfl) pa_nil)))) (pss_one (ps_ret (pe_and (pe_callB call_isi (by rfl) T.n_isinstance (by decide +kernel) (pa_cons (pv 0) (pa_cons (pe_bltn (v := .ty "bool") (by rfl) T.n_bool (by decide +kernel) rfl) pa_nil))) (pe_one (pe_cmpR op_eq (pv 0) (pv 1) (nomark _)))))) pss_nil) (pss_cons (ps_if (pt_val (pe_callB call_isi (by rfl) T.n_isinstance (by decide +kernel) (pa_cons (pv 1) (pa_cons (pe_bltn (v := .ty "int") (by rfl) T.n_int (by decide +kernel) rfl) pa_nil)))) (pss_one (ps_ret (pe_and (pe_callB call_isi (by rfl) T.n_isinstance (by decide +kernel) (pa_cons (pv 0) (pa_cons (pe_bltn (v := .ty "int") (by rfl) T.n_int (by decide +kernel) rfl) pa_nil))) (pe_and (pe_not (pe_callB call_isi (by rfl) T.n_isinstance (by decide +kernel) (pa_cons (pv 0) (pa_cons (pe_bltn (v := .ty "bool") (by rfl) T.n_bool (by decide +kernel) rfl) pa_nil)))) (pe_one (pe_cmpR op_eq (pv 0) (pv 1) (nomark _))))))) pss_nil) (pss_cons (ps_if (pt_val (pe_callB call_isi (by rfl) T.n_isinstance (by decide +kernel) (pa_cons (pv 1) (pa_cons (pe_bltn (v := .ty "str") (by rfl) T.n_str (by decide +kernel) rfl) pa_nil)))) (pss_one (ps_ret (pe_and (pe_callB call_isi (by rfl) T.n_isinstance (by decide +kernel) (pa_cons (pv 0) (pa_cons (pe_bltn (v := .ty "str") (by rfl) T.n_str (by decide +kernel) rfl) pa_nil))) (pe_one (pe_cmpR op_eq (pv 0) (pv 1) (nomark _)))))) pss_nil) (pss_one (ps_ret (pe_cmpR op_isN (pv 0) pe_non (nomark _))))))))), ?_⟩
    have tx : TyX K H x (.type (tyN x)) := ty_flat fx
    have ty : TyX K H y (.type (tyN y)) := ty_flat fy
    have no : ∀ {u v : V}, Q (.bl (decide (u = v))) H → u ≠ v → Q (.bl false) H := fun z h => by rw [decide_eq_false h] at z; exact z
    cases y with
    | bl b =>
      have ty : TyX K H (.bl b) (.type "bool") := .base (.bl b)
      refine isi_t rfl ty (b := false) (by decide +kernel) (iteF ?_)
      refine isi_t rfl ty (b := false) (by decide +kernel) (iteF ?_)
      refine isi_t rfl ty (b := true) (by decide +kernel) (iteT ?_)
      cases x with
      | bl c => exact isi_q rfl (.base (.bl c)) (b := true) (by decide +kernel) ⟨_, rfl, iteT ⟨_, rfl, _, rfl, rfl, q⟩⟩
      | non => exact isi_q rfl (.base .non) (b := false) (by decide +kernel) ⟨_, rfl, iteF (no q (by intro z; cases z))⟩
      | int c => exact isi_q rfl (.base (.int c)) (b := false) (by decide +kernel) ⟨_, rfl, iteF (no q (by intro z; cases z))⟩
      | str c => exact isi_q rfl (.base (.str c)) (b := false) (by decide +kernel) ⟨_, rfl, iteF (no q (by intro z; cases z))⟩
      | byt _ => cases fx
      | flt _ => cases fx
      | ref _ => cases fx
      | ty _ => cases fx
    | int b =>
      have ty : TyX K H (.int b) (.type "int") := .base (.int b)
      refine isi_t rfl ty (b := false) (by decide +kernel) (iteF ?_)
      refine isi_t rfl ty (b := false) (by decide +kernel) (iteF ?_)
      refine isi_t rfl ty (b := false) (by decide +kernel) (iteF ?_)
      refine isi_t rfl ty (b := true) (by decide +kernel) (iteT ?_)
      cases x with
      | bl c => exact isi_q rfl (.base (.bl c)) (b := true) (by decide +kernel) ⟨_, rfl, iteT (isi_q rfl (.base (.bl c)) (b := true) (by decide +kernel) ⟨_, rfl, _, rfl, iteF (no q (by intro z; cases z))⟩)⟩
      | int c => exact isi_q rfl (.base (.int c)) (b := true) (by decide +kernel) ⟨_, rfl, iteT (isi_q rfl (.base (.int c)) (b := false) (by decide +kernel) ⟨_, rfl, _, rfl, iteT ⟨_, rfl, _, rfl, rfl, q⟩⟩)⟩
      | non => exact isi_q rfl (.base .non) (b := false) (by decide +kernel) ⟨_, rfl, iteF (no q (by intro z; cases z))⟩
      | str c => exact isi_q rfl (.base (.str c)) (b := false) (by decide +kernel) ⟨_, rfl, iteF (no q (by intro z; cases z))⟩
      | byt _ => cases fx
      | flt _ => cases fx
      | ref _ => cases fx
      | ty _ => cases fx
    | str b =>
      have ty : TyX K H (.str b) (.type "str") := .base (.str b)
      refine isi_t rfl ty (b := false) (by decide +kernel) (iteF ?_)
      refine isi_t rfl ty (b := false) (by decide +kernel) (iteF ?_)
      refine isi_t rfl ty (b := false) (by decide +kernel) (iteF ?_)
      refine isi_t rfl ty (b := false) (by decide +kernel) (iteF ?_)
      refine isi_t rfl ty (b := true) (by decide +kernel) (iteT ?_)
      cases x with
      | str c => exact isi_q rfl (.base (.str c)) (b := true) (by decide +kernel) ⟨_, rfl, iteT ⟨_, rfl, _, rfl, rfl, q⟩⟩
      | bl c => exact isi_q rfl (.base (.bl c)) (b := false) (by decide +kernel) ⟨_, rfl, iteF (no q (by intro z; cases z))⟩
      | int c => exact isi_q rfl (.base (.int c)) (b := false) (by decide +kernel) ⟨_, rfl, iteF (no q (by intro z; cases z))⟩
      | non => exact isi_q rfl (.base .non) (b := false) (by decide +kernel) ⟨_, rfl, iteF (no q (by intro z; cases z))⟩
      | byt _ => cases fx
      | flt _ => cases fx
      | ref _ => cases fx
      | ty _ => cases fx
    | non =>
      have ty : TyX K H .non (.type "NoneType") := .base .non
      refine isi_t rfl ty (b := false) (by decide +kernel) (iteF ?_)
      refine isi_t rfl ty (b := false) (by decide +kernel) (iteF ?_)
      refine isi_t rfl ty (b := false) (by decide +kernel) (iteF ?_)
      refine isi_t rfl ty (b := false) (by decide +kernel) (iteF ?_)
      refine isi_t rfl ty (b := false) (by decide +kernel) (iteF ?_)
      exact ⟨_, rfl, rfl, q⟩
    | byt _ => cases fy
    | flt _ => cases fy
    | ref _ => cases fy
    | ty _ => cases fy
end

/-! ### what is sound does not depend on how it is listed -/
theorem KeptL.fwd {L I : List Wrl} (k : KeptL L I) {w : Wrl} (h : w ∈ L) : ∃ z, z ∈ I ∧ z.1 = w.1 ∧ KeptOf w.2 z.2 := by
  obtain ⟨i, hi⟩ := List.mem_iff_getElem?.mp h
  obtain ⟨z, h1, h2, h3⟩ := k.2 i w hi
  exact ⟨z, List.mem_of_getElem? h1, h2, h3⟩
theorem KeptL.bwd {L I : List Wrl} (k : KeptL L I) {z : Wrl} (h : z ∈ I) : ∃ w, w ∈ L ∧ z.1 = w.1 ∧ KeptOf w.2 z.2 := by
  obtain ⟨i, hi⟩ := List.mem_iff_getElem?.mp h
  have li : i < L.length := by rw [← k.1]; exact (List.getElem?_eq_some_iff.mp hi).1
  obtain ⟨z', h1, h2, h3⟩ := k.2 i L[i] (List.getElem?_eq_getElem li)
  rw [hi] at h1
  cases h1
  exact ⟨L[i], List.getElem_mem li, h2, h3⟩
theorem sound_iff {held ps : List (Nat × Nat)} (m : ∀ p, p ∈ ps ↔ p ∈ held) {I J L1 L2 : List Wrl} (k1 : KeptL L1 I) (k2 : KeptL L2.reverse J) : SoundP ps I J ↔ SoundP held L1 L2 := by
  refine ⟨fun ⟨a, b⟩ => ⟨fun p q hp hq => a p q ((m p).mpr hp) ((m q).mpr hq), fun z hz y hy e r hr hl => ?_⟩, fun ⟨a, b⟩ => ⟨fun p q hp hq => a p q ((m p).mp hp) ((m q).mp hq), fun z hz y hy e r hr hl => ?_⟩⟩
  · obtain ⟨z', h1, h2, h3⟩ := k1.fwd hz
    obtain ⟨y', g1, g2, g3⟩ := k2.fwd (List.mem_reverse.mpr hy)
    have q := b z' h1 y' g1 (by rw [g2, h2, e]) r (fun p hp => (m p).mpr (hr p hp)) (by rw [h2]; exact hl)
    rw [h3.mem, g3.mem] at q
    exact q
  · obtain ⟨z', h1, h2, h3⟩ := k1.bwd hz
    obtain ⟨y', g1, g2, g3⟩ := k2.bwd hy
    have q := b z' h1 y' (List.mem_reverse.mp g1) (by rw [← g2, ← h2, e]) r (fun p hp => (m p).mp (hr p hp)) (by rw [← h2]; exact hl)
    rw [h3.mem, g3.mem]
    exact q
/-- by places, as the law asks -/
theorem sound_at {held : List (Nat × Nat)} {L1 L2 : List Wrl} (sg : L1.map (·.1) = L2.map (·.1)) (nd : (L1.map fun z => z.1.1).Nodup) :
    SoundP held L1 L2 ↔ (∀ a b, a ∈ held → b ∈ held → (a.1 = b.1 ↔ a.2 = b.2)) ∧ ∀ (k : Nat) (z y : Wrl), L1[k]? = some z → L2[k]? = some y → ∀ r : List (Nat × Nat), (∀ p, p ∈ r → p ∈ held) → r.length = z.1.2 → (r.map (·.1) ∈ z.2 ↔ r.map (·.2) ∈ y.2) := by
  have at_ : ∀ (k : Nat) (z y : Wrl), L1[k]? = some z → L2[k]? = some y → y.1 = z.1 := fun k z y hz hy => by
    have e := congrArg (fun l => l[k]?) sg
    simp only [List.getElem?_map, hz, hy, Option.map_some] at e
    exact (Option.some.inj e).symm
  refine ⟨fun ⟨a, b⟩ => ⟨a, fun k z y hz hy => b z (List.mem_of_getElem? hz) y (List.mem_of_getElem? hy) (at_ k z y hz hy)⟩, fun ⟨a, b⟩ => ⟨a, fun z hz y hy e r hr hl => ?_⟩⟩
  obtain ⟨i, hi⟩ := List.mem_iff_getElem?.mp hz
  obtain ⟨j, hj⟩ := List.mem_iff_getElem?.mp hy
  have e1 : (L1.map fun z => z.1.1)[i]? = some z.1.1 := by rw [List.getElem?_map, hi]; rfl
  have e2 : (L1.map fun z => z.1.1)[j]? = some z.1.1 := by
    have s2 : (L1.map fun z => z.1.1) = L2.map fun z => z.1.1 := by
      have := congrArg (List.map fun s : Str × Nat => s.1) sg
      rw [List.map_map, List.map_map] at this
      exact this
    rw [s2, List.getElem?_map, hj, ← e]; rfl
  have ij := (List.getElem?_inj (List.getElem?_eq_some_iff.mp e1).1 nd).mp (e1.trans e2.symm)
  subst ij
  exact b i z y hi hj r hr hl
/-! ### functions that a def returns: they hold their cells -/
section
open NdefX LamX
/-- a cell that holds v, for good -/
def CellO (c : Addr) (v : V) : HO := .ext fun h => ∃ u, RelV v u ∧ h.IsCell c (some u)
def hideC (cs : List Addr) (H : Hp) : Hp := fun a => if a ∈ cs then none else H a
def backC (cs : List Addr) (H H' : Hp) : Hp := fun a => if a ∈ cs then H a else H' a
def Celled (cs : List Addr) (H : Hp) : Prop := ∀ c, c ∈ cs → ∃ v, H c = some (CellO c v)
theorem hide_in {cs : List Addr} {H : Hp} {a : Addr} (h : a ∈ cs) : hideC cs H a = none := if_pos h
theorem hide_ne {cs : List Addr} {H : Hp} {a : Addr} (h : a ∉ cs) : hideC cs H a = H a := if_neg h
theorem hide_none {cs : List Addr} {H : Hp} {a : Addr} (h : H a = none) : hideC cs H a = none := by
  by_cases e : a ∈ cs
  · exact hide_in e
  · rw [hide_ne e]; exact h
theorem back_in {cs : List Addr} {H H' : Hp} {a : Addr} (h : a ∈ cs) : backC cs H H' a = H a := if_pos h
theorem back_ne {cs : List Addr} {H H' : Hp} {a : Addr} (h : a ∉ cs) : backC cs H H' a = H' a := if_neg h
theorem Celled.out {cs : List Addr} {H : Hp} {a : Addr} {o : HO} (C : Celled cs H) (e : H a = some o) (n : ∀ v, o ≠ CellO a v) : a ∉ cs := fun z => by
  obtain ⟨v, hv⟩ := C a z
  rw [hv] at e
  exact n v (Option.some.inj e).symm
section
variable {P : Program} {w : World} {K : PySem.W.Frag} {mg : Str → Option Value} {base : Heap} {H H' : Hp} {h h' : Heap} {cs : List Addr} {k : Nat}
theorem cellO_ok {c : Addr} {v : V} (x : ObjOk P w H h c (CellO c v)) : (∃ u, RelV v u ∧ h.IsCell c (some u)) ∧ ∃ o, h.get? c = some o := ⟨x.1, x.2.1⟩
theorem hok_hide (hok : HOk P w H h) (C : Celled cs H) : HOk P w (hideC cs H) h := fun a o e => by
  have na : a ∉ cs := fun z => by rw [hide_in z] at e; cases e
  rw [hide_ne na] at e
  refine (hok a o e).stay (fun b u _ q => q) (fun b q => ?_) (fun b xs q => ?_)
  · rw [hide_ne (C.out q fun v z => by unfold CellO at z; cases z)]; exact q
  · rw [hide_ne (C.out q fun v z => by unfold CellO at z; cases z)]; exact q
theorem env0_hide {A : Around} {outer : List Env} {s : Shared} (e : Env0 P w K mg base A outer s H) (C : Celled cs H) : Env0 P w K mg base A outer s (hideC cs H) :=
  ⟨e.frames, e.mod, fun b o q => ⟨(e.bs b o q).1, hide_none (e.bs b o q).2⟩, e.bsz, e.funs, fun b hb => hide_none (e.frf b hb), hok_hide e.hok C, e.bare⟩
theorem ce_back {outer : List Env} {s s' : Shared} {Q : VK} {u : Value} (C : Celled cs H) (hok0 : HOk P w H s.heap) (frf : ∀ b ∈ frs outer, H b = none) (x : CE outer P w (hideC cs H) s (fun v G => Q v (backC cs H G)) u s') : CE outer P w H s Q u s' := by
  obtain ⟨v, G, os, bare, un, hok, rv, q⟩ := x
  have stays : ∀ c, c ∈ cs → G c = none ∧ ∀ o, s.heap.get? c = some o → s'.heap.get? c = some o := fun c hc => by
    obtain ⟨v, hv⟩ := C c hc
    obtain ⟨_, o, ho⟩ := cellO_ok (hok0 c _ hv)
    have nf : c ∉ frs outer := fun z => by rw [frf c z] at hv; cases hv
    exact ⟨un.free c o ho (hide_in hc) (by simp), fun o' e => un.keep c o' e (hide_in hc) nf (by simp)⟩
  have outN : ∀ {b : Addr} {o : HO}, H b = some o → (∀ v, o ≠ CellO b v) → b ∉ cs := fun e n => C.out e n
  refine ⟨v, backC cs H G, os, bare, ⟨fun b o e n => un.keep b o e (hide_none n), fun b o e n => un.slot b o e (hide_none n), fun b o e n hx => ?_, un.there, fun b xs e => ?_, fun b o u e => ?_, fun b ps e => ?_⟩, fun a o e => ?_, rv, q⟩
  · by_cases hb : b ∈ cs
    · rw [back_in hb]; exact n
    · rw [back_ne hb]; exact un.free b o e (hide_none n) hx
  · have nb := outN e fun v z => by unfold CellO at z; cases z
    rw [back_ne nb]
    exact un.tups b xs (by rw [hide_ne nb]; exact e)
  · have nb := outN e fun v z => by unfold CellO at z; cases z
    rw [back_ne nb]
    exact un.frzs b o u (by rw [hide_ne nb]; exact e)
  · have nb := outN e fun v z => by unfold CellO at z; cases z
    rw [back_ne nb]
    exact un.tbls b ps (by rw [hide_ne nb]; exact e)
  · by_cases ha : a ∈ cs
    · rw [back_in ha] at e
      obtain ⟨v, hv⟩ := C a ha
      rw [hv] at e
      cases e
      obtain ⟨x1, ⟨o1, x2⟩, x3⟩ := hok0 a _ hv
      exact ⟨x3 s.heap s'.heap x1 (stays a ha).2, ⟨o1, (stays a ha).2 o1 x2⟩, x3⟩
    · rw [back_ne ha] at e
      have gin : ∀ {b : Addr} {o : HO}, G b = some o → b ∉ cs := fun q z => by rw [(stays _ z).1] at q; cases q
      exact (hok a o e).stay (fun b u _ q => q) (fun b q => by rw [back_ne (gin q)]; exact q) (fun b xs q => by rw [back_ne (gin q)]; exact q)
end
/-- the captured names fr have the values vals -/
structure Cls (H : Hp) (cl : List (Str × Addr)) (fr : List Str) (vals : List V) : Prop where
  len : vals.length = fr.length
  inj : ∀ x y c, cl.lookup x = some c → cl.lookup y = some c → x = y
  all : Celled (cl.map (·.2)) H
  has : ∀ (i : Nat) (y : Str), fr[i]? = some y → ∃ c, cl.lookup y = some c ∧ ∀ v, vals[i]? = some v → H c = some (CellO c v)
/-- a function object with its cells -/
structure CloAt (H : Hp) (f : Addr) (F : NF) (obj : HO) (fr : List Str) (vals : List V) : Prop where
  fn : H f = some obj
  code : H F.c = some (CodeO F.c F.qual)
  nf : f ∉ F.cl.map (·.2)
  nc : F.c ∉ F.cl.map (·.2)
  cls : Cls H F.cl fr vals
/-- called at any time with vs where H lies, f gives what Q wants -/
def Runs (P : Program) (w : World) (K : PySem.W.Frag) (mg : Str → Option Value) (base : Heap) (k : Nat) (f : Addr) (vs : List V) (H : Hp) (Q : VK) : Prop :=
  ∀ (A : Around) (outer : List Env) (s : Shared) (us : List Value), Room k A → Env0 P w K mg base A outer s H → Vals vs us → codeAny (model P w) A (.call (.ref f) ⟨us, []⟩) (CR CX0 outer P w H s Q E0) s
/-- what a function's body promises, its cells hidden -/
def Rn (P : Program) (w : World) (K : PySem.W.Frag) (mg : Str → Option Value) (base : Heap) (k : Nat) (f : Addr) (F : NF) (obj : HO) (fr : List Str) (sp : List (Option V) → List V → Hp → VK → Prop) : Prop :=
  ∀ (A : Around) (outer : List Env) (s : Shared) (H : Hp) (us : List Value) (vs : List V) (ws : List (Option V)) (Q : VK), Room k A → Env0 P w K mg base A outer s H → H f = some obj → H F.c = some (CodeO F.c F.qual) →
    CellsAt F.cl fr ws s.heap H → Vals vs us → sp ws vs H Q → codeAny (model P w) A (.call (.ref f) ⟨us, []⟩) (CR CX0 outer P w H s Q E0) s
section
variable {P : Program} {w : World} {K : PySem.W.Frag} {mg : Str → Option Value} {base : Heap} {H : Hp} {k : Nat} {f : Addr} {F : NF} {obj : HO} {fr : List Str} {vals vs : List V} {sp : List (Option V) → List V → Hp → VK → Prop} {Q : VK}
theorem runs_of (R : Rn P w K mg base k f F obj fr sp) (C : CloAt H f F obj fr vals) (q : sp (vals.map some) vs (hideC (F.cl.map (·.2)) H) (fun v G => Q v (backC (F.cl.map (·.2)) H G))) : Runs P w K mg base k f vs H Q := fun A outer s us hr e0 r => by
  have e1 := env0_hide e0 C.cls.all
  have ca : CellsAt F.cl fr (vals.map some) s.heap (hideC (F.cl.map (·.2)) H) := by
    have mem : ∀ {y : Str} {c : Addr}, F.cl.lookup y = some c → c ∈ F.cl.map (·.2) := fun e => List.mem_map.mpr ⟨_, PySem.mem_of_lookup e, rfl⟩
    refine ⟨by rw [List.length_map]; exact C.cls.len, fun y c e => ⟨hide_in (mem e), ?_⟩, C.cls.inj, fun i y e => ?_⟩
    · obtain ⟨v, hv⟩ := C.cls.all c (mem e)
      obtain ⟨⟨u, _, hu⟩, _⟩ := cellO_ok (e0.hok c _ hv)
      exact ⟨_, hu⟩
    · obtain ⟨c, hc, hv⟩ := C.cls.has i y e
      refine ⟨c, hc, fun v ev => ?_⟩
      rw [List.getElem?_map] at ev
      cases e2 : vals[i]? with
      | none => rw [e2] at ev; cases ev
      | some v2 =>
        rw [e2] at ev
        cases ev
        exact (cellO_ok (e0.hok c _ (hv _ e2))).1
  refine codeAny_mono (R A outer s _ us vs _ _ hr e1 (by rw [hide_ne C.nf]; exact C.fn) (by rw [hide_ne C.nc]; exact C.code) ca r q) fun x s' hx => ?_
  cases x with
  | error e => exact hx
  | ok fl =>
    cases fl with
    | ret u => exact ce_back C.cls.all e0.hok e0.frf hx
    | next => exact hx
    | brk => exact hx
    | cont => exact hx
theorem Runs.mono {j : Nat} (h : Runs P w K mg base j f vs H Q) (l : j ≤ k) : Runs P w K mg base k f vs H Q := fun A outer s us hr => h A outer s us (hr.mono l)
end
/-! a def that returns such a function -/
structure PRet (X : Cx) (body : List Stmt) (t : (L2.St → V → Hp → Prop) → L2.St → Hp → Prop) : Prop where
  run : ∀ (pins : List (Addr × Obj)) (s : Shared) (σ : L2.St) (H : Hp) (R : L2.St → V → Hp → Prop), Inv X pins σ H s → t R σ H →
    wpAny (model X.prog X.w) X.A (execs body X.env) (fun fl s' => ∃ (u : Value) (v : V) (σ' : L2.St) (H' : Hp), fl = .ret u ∧ Inv X pins σ' H' s' ∧ RelV v u ∧ R σ' v H') X.xe s
section
variable {X : Cx}
theorem pr_cons {st : Stmt} {rest : List Stmt} {t : TS} {u : (L2.St → V → Hp → Prop) → L2.St → Hp → Prop} (h1 : PS X st t) (h2 : PRet X rest u) : PRet X (st :: rest) (fun R σ H => t { nx := u R, rt := fun _ _ => False } σ H) := by
  refine ⟨fun pins s σ H R I h => ?_⟩
  refine wpAny_execs_cons (thn (h1.run pins s σ H { nx := u R, rt := fun _ _ => False } I h) fun fl s1 q => ?_)
  cases fl with
  | next =>
    obtain ⟨σ1, H1, I1, q1⟩ := q
    exact h2.run pins s1 σ1 H1 R I1 q1
  | ret v => obtain ⟨_, _, _, _, _, z⟩ := q; exact z.elim
  | brk => obtain ⟨_, _, _, z⟩ := q; exact z.elim
  | cont => obtain ⟨_, _, _, z⟩ := q; exact z.elim
theorem pr_ret {e : Expr} {te : TE} {pos : Pos} (he : PE X e te) : PRet X [.Return (some e) pos] (fun R σ H => te σ H (R σ)) := by
  refine ⟨fun pins s σ H R I h => ?_⟩
  refine wpAny_execs_cons (wpAny_Return_some (thn (he.run pins s σ H _ I h) fun v s1 ⟨x, H1, I1, r1, q1⟩ => ?_))
  exact ⟨v, x, σ, H1, rfl, I1, r1, q1⟩
end
end
/-! ### making such functions -/
section
open NdefX LamX
def FnL (F : NF) (e : Expr) (f : Addr) : HO := .ext fun h => ∃ pm ctv : Value, h.get? f = some (PySem.W.kla_obj "<lambda>" F.qual F.params e F.scope F.cl pm F.c ctv)
section
variable {X : Cx} {pins : List (Addr × Obj)} {σ : L2.St} {H : Hp} {s : Shared}
theorem inv_lam {F : NF} {e : Expr} {t' : Nat} {pm ctv : Value} (I : Inv X pins σ H s) :
    Inv X pins σ (upd H s.heap.objs.size (FnL F e s.heap.objs.size)) { s with heap := s.heap.push (PySem.W.kla_obj "<lambda>" F.qual F.params e F.scope F.cl pm F.c ctv), toks := t' } := by
  refine I.laid (a := s.heap.objs.size) (fun b u q => Heap.get?_push_of_some _ q) (Nat.le_refl _) ?_
  have q : (s.heap.push (PySem.W.kla_obj "<lambda>" F.qual F.params e F.scope F.cl pm F.c ctv)).get? s.heap.objs.size = some (PySem.W.kla_obj "<lambda>" F.qual F.params e F.scope F.cl pm F.c ctv) := Heap.get?_push_size _ rfl
  exact ⟨⟨pm, ctv, q⟩, ⟨_, q⟩, fun h1 h2 ⟨p, t, z⟩ st => ⟨p, t, st _ z⟩⟩
theorem lam_makeC {T : List NTab} {nm : Nat → Nat → Str} {c P : Addr} {params : Arguments} {body : Expr} {scope : Scope} {pos : Pos} {E : Value → Shared → Prop} {Q : Value → Shared → Prop} (I : Inv X pins σ H s) (TB : TabB X.base X.mg c P) (hcode : X.env.code = .ref c)
    (hm : (P, nm) ∈ T) (hn : nm pos.line pos.col = X.env.qual ++ "<lambda>") (hu : ∀ p ∈ T, p.1 = P → p.2 = nm) (hT : TabsN T H) (hdef : defaultsOf params X.env = ([], [])) (hfree : ∀ y ∈ scope.names, y.2 = .free → ∃ c, X.env.cells.lookup y.1 = some c)
    (h : ∀ (f c' : Addr) (H1 : Hp) (s' : Shared), Inv X pins σ H1 s' → ExtN H H1 → TabsN T H1 → H f = none → H1 f = some (FnL ⟨"<lambda>", X.env.qual ++ "<lambda>", params, [], scope, cloFrom X.env.cells scope.names [], c'⟩ body f) → H1 c' = some (CodeO c' (X.env.qual ++ "<lambda>")) → Q (.ref f) s') :
    wpAny (model X.prog X.w) X.A (eval (.Lambda params body scope pos) X.env) Q E s := by
  obtain ⟨ps, hP, ht, ha⟩ := (show TabN H P nm from hT _ hm)
  have bP : s.heap.BuiltinsAt X.mg P := TB.bm.keeps I.bk
  have hP' : s.heap.get? P = some { cls := .none, data := .fields ps } := I.hok P _ hP
  refine PySem.W.kla_eval hdef ?_
  cases hc : codeAmong pos ps.toList with
  | none =>
    refine PySem.W.kla_makeFunction (mg := X.mg) (c := c) (P := P) (ps := ps) (closure_ok hfree) I.ok.glob (I.mod.glob.keeps I.bk) hcode (TB.code.keeps I.bk) hP' ht hc TB.gP bP fun c' ctv h' tk hx hge hlt hrec htb => ?_
    obtain ⟨c2, oc, vs, t, e2, hoc, hd, hv⟩ := hrec
    cases e2
    have nC : H c' = none := I.hok.fresh hge
    have J := inv_table (t' := tk) (more := #[rawInt pos.line, rawInt pos.col, .ref c']) (h' := h') I hP (fun b o hb e => hx b o hb e) htb hge ⟨oc, vs, t, hoc, hd, hv⟩
    have ext1 : ExtN H (upd (upd H P (.tbl (ps ++ #[rawInt pos.line, rawInt pos.col, .ref c']))) c' (CodeO c' (X.env.qual ++ "<lambda>"))) := fun b o e n => by
      rw [upd_ne (ne_of_none e nC), upd_ne (fun z => n ps (Option.some.inj (e.symm.trans (by rw [z]; exact hP))))]
      exact e
    have lst : (ps ++ #[rawInt pos.line, rawInt pos.col, .ref c']).toList = ps.toList ++ [rawInt pos.line, rawInt pos.col, .ref c'] := by simp
    have tabs : TabsN T (upd (upd H P (.tbl (ps ++ #[rawInt pos.line, rawInt pos.col, .ref c']))) c' (CodeO c' (X.env.qual ++ "<lambda>"))) := fun p hp => by
      by_cases hb : p.1 = P
      · rw [hu p hp hb, hb]
        refine ⟨_, by rw [upd_ne (ne_of_none hP nC), upd_same], by rw [lst]; exact PySem.TriplesOk_snoc _ _ _ _ ht, fun p' cv hcv => ?_⟩
        rw [lst] at hcv
        rcases among_app2 _ ht hcv with z | ⟨z, z1, z2⟩
        · obtain ⟨c0, e1, e2⟩ := ha p' cv z
          exact ⟨c0, e1, ext1 _ _ e2 codeO_ne⟩
        · refine ⟨c', z, ?_⟩
          rw [← z1, ← z2, hn]
          exact upd_same
      · obtain ⟨ps', a1, a2, a3⟩ := hT p hp
        refine ⟨ps', by rw [upd_ne (ne_of_none a1 nC), upd_ne hb]; exact a1, a2, fun p' cv hcv => ?_⟩
        obtain ⟨c0, e1, e2⟩ := a3 p' cv hcv
        exact ⟨c0, e1, ext1 _ _ e2 codeO_ne⟩
    have fresh := J.hok.fresh (Nat.le_refl _)
    have J2 := inv_lam (F := ⟨"<lambda>", X.env.qual ++ "<lambda>", params, [], scope, cloFrom X.env.cells scope.names [], c'⟩) (e := body) (t' := tk) (pm := (X.mg "__name__").getD .none) (ctv := ctv) J
    refine h h'.objs.size c' _ _ J2 (fun b o e n => ?_) (tabs.ext fun b o e => ?_) (I.hok.fresh (Nat.le_trans hge (Nat.le_of_lt hlt))) upd_same ?_
    · exact (upd_ne (ne_of_none (ext1 b o e n) fresh)).trans (ext1 b o e n)
    · exact (upd_ne (ne_of_none e fresh)).trans e
    · exact (upd_ne (Nat.ne_of_lt hlt)).trans upd_same
  | some cv =>
    obtain ⟨c', e, hco⟩ := ha pos cv hc
    subst e
    rw [hn] at hco
    refine PySem.W.kla_makeFunctionHit (mg := X.mg) (c := c) (P := P) (ps := ps) (closure_ok hfree) I.ok.glob (I.mod.glob.keeps I.bk) hcode (TB.code.keeps I.bk) hP' ht hc bP fun ctv h' tk hx hsz => ?_
    have J : Inv X pins σ H { s with heap := h', toks := tk } := I.kept hx
    have fresh : H h'.objs.size = none := J.hok.fresh (Nat.le_refl _)
    have J2 := inv_lam (F := ⟨"<lambda>", X.env.qual ++ "<lambda>", params, [], scope, cloFrom X.env.cells scope.names [], c'⟩) (e := body) (t' := tk) (pm := (X.mg "__name__").getD .none) (ctv := ctv) J
    exact h h'.objs.size c' _ _ J2 (fun b o e n => (upd_ne (ne_of_none e fresh)).trans e) (hT.ext fun b o e => (upd_ne (ne_of_none e fresh)).trans e) fresh upd_same ((upd_ne (ne_of_none hco fresh)).trans hco)
/-- lambda: e -/
def tLamC (T : List NTab) (F : Addr → NF) (e : Expr) : TE := fun _ H Q => TabsN T H ∧ ∀ (f c' : Addr) (H1 : Hp), ExtN H H1 → TabsN T H1 → H f = none → H1 f = some (FnL (F c') e f) → H1 c' = some (CodeO c' (F c').qual) → Q (.ref f) H1
theorem pe_lamC {T : List NTab} {nm : Nat → Nat → Str} {c P : Addr} {params : Arguments} {body : Expr} {scope : Scope} {pos : Pos} (TB : TabB X.base X.mg c P) (hcode : X.env.code = .ref c) (hm : (P, nm) ∈ T) (hn : nm pos.line pos.col = X.env.qual ++ "<lambda>") (hu : ∀ p ∈ T, p.1 = P → p.2 = nm)
    (hdef : defaultsOf params X.env = ([], [])) (hfree : ∀ y ∈ scope.names, y.2 = .free → X.env.scope.names.lookup y.1 = some .cell ∨ X.env.scope.names.lookup y.1 = some .free) :
    PE X (.Lambda params body scope pos) (tLamC T (fun c' => ⟨"<lambda>", X.env.qual ++ "<lambda>", params, [], scope, cloFrom X.env.cells scope.names [], c'⟩) body) := by
  refine ⟨fun pins s σ H Q I h => ?_⟩
  have hfr : ∀ y ∈ scope.names, y.2 = .free → ∃ c, X.env.cells.lookup y.1 = some c := fun y hy e => (hfree y hy e).elim (fun z => I.ok.has _ (.inl z)) fun z => I.ok.has _ (.inr z)
  exact lam_makeC I TB hcode hm hn hu h.1 hdef hfr fun f c' H1 s' J eN T1 f0 f1 c1 => ⟨.ref f, H1, J, rfl, h.2 f c' H1 eN T1 f0 f1 c1⟩
end
section
variable {P : Program} {w : World} {K : PySem.W.Frag} {mg : Str → Option Value} {base : Heap} {N ps fr : List Str} {F : NF} {f : Addr} {k : Nat}
theorem rn_def {sp : List (Option V) → Sp} (O : NOk P w K mg base CX0 k f F ps fr sp) : Rn P w K mg base k f F (FnO f F) fr (fun ws vs H Q => sp ws vs H Q E0) := fun A outer s H us vs ws Q hr e0 hf hc C r q => O.run A outer s H us vs ws Q E0 hr e0 hf hc C r q
theorem rn_lam {e : Expr} {sp : List (Option V) → List V → Hp → VK → Prop} (S : NScope N ps fr F.scope) (hb : ∀ (pm ctv : Value) (us : List Value), us.length = ps.length → bindArgs (PySem.W.kla_fn "<lambda>" F.qual F.params e F.scope F.cl pm (.ref F.c) ctv) ⟨us, []⟩ = pure (ps.zip us)) (len : ∀ ws vs H Q, sp ws vs H Q → vs.length = ps.length)
    (hbody : ∀ (A : Around) (outer : List Env) (s : Shared) (H : Hp) (vs : List V) (ws : List (Option V)) (Q : VK), Room k (A.deeper (envF F f s.heap.objs.size)) → ws.length = fr.length → sp ws vs H Q →
      ∃ te, PE (ncx CX0 P w K mg base N F f A outer s H E0) e te ∧ te (startF N vs ws) H Q) : Rn P w K mg base (k + 1) f F (FnL F e f) fr sp := by
  intro A outer s H us vs ws Q hr e0 hf hc C r hsp
  have hl := len _ _ _ _ hsp
  have lim : s.heap.NoLimit := e0.mod.nolimit.keeps fun b o e => (e0.bs b o e).1
  obtain ⟨⟨pm, ctv, ho⟩, _, _⟩ := e0.hok f _ hf
  refine PySem.W.kla_callFunE hr.depth ho rfl S.co S.gen rfl (codeO_at e0.hok hc) ?_
  rw [hb pm ctv us (by rw [← r.length]; exact hl)]
  refine wpAny_pure (wpAny_newFunctionEnv S.nocell (fun ⟨n, _⟩ hy => S.par n (List.of_mem_zip hy).1) (fun h₁ hns hsb => ⟨lim.fresh _ hsb, ?_⟩) S.kind)
  show codeAny _ _ (.expr e (envF F f s.heap.objs.size)) _ _
  have kp : ∀ b o, s.heap.get? b = some o → h₁.get? b = some o := fun b o q => hsb.extBut b o (Nat.ne_of_lt (Heap.lt_size q)) (Heap.get?_push_of_some _ q)
  obtain ⟨te, ht, hq⟩ := hbody A outer s H vs ws Q (hr.deeper _) C.len hsp
  have I : Inv (ncx CX0 P w K mg base N F f A outer s H E0) [] (startF N vs ws) H { s with heap := h₁, toks := s.toks + (ps.zip us).length } := inv_startN S hr.hd e0 hl r C hns kp
  refine PySem.W.kla_codeExpr (wpAny_mono (ht.run [] _ (startF N vs ws) H Q I hq) (fun v s' hq => ?_) fun e s' hq => hq)
  obtain ⟨v', H', J, rv, q⟩ := hq
  exact ⟨v', H', J.os, J.bare, J.base, J.hok, rv, q⟩
end
/-- G is H with the cells of cl, which hold vals -/
structure Put (cl : List (Str × Addr)) (fr : List Str) (vals : List V) (H G : Hp) : Prop where
  cls : Cls G cl fr vals
  new : ∀ c, c ∈ cl.map (·.2) → H c = none
  old : ∀ c, c ∉ cl.map (·.2) → G c = H c
theorem Put.same {cl : List (Str × Addr)} {fr : List Str} {vals : List V} {H G : Hp} (p : Put cl fr vals H G) : Same H G := fun b o e => by
  rw [p.old b fun z => by rw [p.new b z] at e; cases e]
  exact e
theorem put_make {cl : List (Str × Addr)} {fr : List Str} {vals : List V} {H : Hp} (len : vals.length = fr.length) (nd : fr.Nodup) (inj : ∀ x y c, cl.lookup x = some c → cl.lookup y = some c → x = y) (fun_ : ∀ p, p ∈ cl → cl.lookup p.1 = some p.2) (mem : ∀ p, p ∈ cl → p.1 ∈ fr) (has : ∀ y, y ∈ fr → ∃ c, cl.lookup y = some c) (new : ∀ c, c ∈ cl.map (·.2) → H c = none) :
    ∃ G, Put cl fr vals H G ∧ ∀ c, c ∈ cl.map (·.2) → ∃ (i : Nat) (y : Str) (v : V), fr[i]? = some y ∧ cl.lookup y = some c ∧ vals[i]? = some v ∧ G c = some (CellO c v) := by
  have pick : ∀ c : Addr, ∃ v : V, c ∈ cl.map (·.2) → ∃ (i : Nat) (y : Str), fr[i]? = some y ∧ cl.lookup y = some c ∧ vals[i]? = some v := fun c => by
    by_cases hc : c ∈ cl.map (·.2)
    · obtain ⟨p, hp, rfl⟩ := List.mem_map.mp hc
      obtain ⟨i, hi⟩ := List.mem_iff_getElem?.mp (mem p hp)
      have li : i < vals.length := by rw [len]; exact (List.getElem?_eq_some_iff.mp hi).1
      exact ⟨vals[i], fun _ => ⟨i, p.1, hi, fun_ p hp, List.getElem?_eq_getElem li⟩⟩
    · exact ⟨.non, fun z => absurd z hc⟩
  obtain ⟨g, hg⟩ := Classical.axiomOfChoice pick
  have inG : ∀ c, c ∈ cl.map (·.2) → (fun a => if a ∈ cl.map (·.2) then some (CellO a (g a)) else H a) c = some (CellO c (g c)) := fun c hc => if_pos hc
  refine ⟨fun a => if a ∈ cl.map (·.2) then some (CellO a (g a)) else H a, ⟨⟨len, inj, fun c hc => ⟨g c, inG c hc⟩, fun i y e => ?_⟩, new, fun c hc => if_neg hc⟩, fun c hc => ?_⟩
  · obtain ⟨c, hc⟩ := has y (List.mem_of_getElem? e)
    have hm : c ∈ cl.map (·.2) := List.mem_map.mpr ⟨_, PySem.mem_of_lookup hc, rfl⟩
    refine ⟨c, hc, fun v ev => ?_⟩
    obtain ⟨j, y2, e1, e2, e3⟩ := hg c hm
    have ey := inj _ _ c e2 hc
    rw [ey] at e1
    have ej : j = i := (List.getElem?_inj (List.getElem?_eq_some_iff.mp e1).1 nd).mp (e1.trans e.symm)
    rw [ej, ev] at e3
    rw [Option.some.inj e3]
    exact inG c hm
  · obtain ⟨j, y2, e1, e2, e3⟩ := hg c hc
    exact ⟨j, y2, g c, e1, e2, e3, inG c hc⟩
end
/-! ### a def that returns a function: its promise -/
section
open NdefX LamX
/-- what is wanted of a returned function: Q, where the cells of the names fr are known -/
def Gives (X : Cx) (nsc : Scope) (fr : List Str) (js : List Nat) (Q : VK) (σ : L2.St) (v : V) (H : Hp) : Prop :=
  ∃ vals : List V, js.map (slotAt σ) = vals.map some ∧ ∀ G : Hp, Put (cloFrom X.env.cells nsc.names []) fr vals H G → Q v G
theorem isCell_st {c : Addr} {v : Option Value} {h1 h2 : Heap} (x : h1.IsCell c v) (st : ∀ o, h1.get? c = some o → h2.get? c = some o) : h2.IsCell c v := by
  obtain ⟨o, ho, hd⟩ := x
  exact ⟨o, st _ ho, hd⟩
theorem ce_gives {CX : CXT} {P : Program} {w : World} {K : PySem.W.Frag} {mg : Str → Option Value} {base : Heap} {N : List Str} {qual : Str} {scope nsc : Scope} {f : Addr} {cdv : Value} {A : Around} {outer : List Env} {s s' : Shared} {H H' : Hp} {E : XK} {fr : List Str} {js : List Nat} {Q : VK} {v : V} {u : Value} {σ : L2.St}
    (nd : fr.Nodup) (hB : ndefB scope nsc fr = true) (hall : ∀ y ∈ nsc.names, y.2 = .free → y.1 ∈ fr) (hjs : js.map (fun j => N[j]?) = fr.map some)
    (J : Inv (cxOf CX P w K mg base N qual scope f cdv A outer s H E) [] σ H' s') (rv : RelV v u) (g : Gives (cxOf CX P w K mg base N qual scope f cdv A outer s H E) nsc fr js Q σ v H') : CE outer P w H s Q u s' := by
  obtain ⟨vals, hv, q⟩ := g
  have caps : Caps (cxOf CX P w K mg base N qual scope f cdv A outer s H E) (cloFrom (cxOf CX P w K mg base N qual scope f cdv A outer s H E).env.cells nsc.names []) fr js := Caps.made J.ok (ndef_free hB) (ndef_fr hB) hjs
  have hfree : ∀ y ∈ nsc.names, y.2 = .free → ∃ c, (cxOf CX P w K mg base N qual scope f cdv A outer s H E).env.cells.lookup y.1 = some c := fun y hy e => (ndef_free hB y hy e).elim (fun z => J.ok.has _ (.inl z)) fun z => J.ok.has _ (.inr z)
  have ca := cells_of J caps
  have lv : vals.length = fr.length := by
    have z := congrArg List.length hv
    rw [List.length_map, List.length_map] at z
    have z2 := congrArg List.length hjs
    rw [List.length_map, List.length_map] at z2
    omega
  have one : ∀ p, p ∈ cloFrom (cxOf CX P w K mg base N qual scope f cdv A outer s H E).env.cells nsc.names [] → (cloFrom (cxOf CX P w K mg base N qual scope f cdv A outer s H E).env.cells nsc.names []).lookup p.1 = some p.2 ∧ p.1 ∈ fr := fun p hp => by
    rcases cloFrom_mem hp with z | ⟨h1, h2⟩
    · cases z
    · obtain ⟨c, hc⟩ := hfree _ h1 rfl
      have hc : (cxOf CX P w K mg base N qual scope f cdv A outer s H E).env.cells.lookup p.1 = some c := hc
      refine ⟨?_, hall _ h1 rfl⟩
      rw [h2, hc]
      exact clo_has hfree h1 hc
  have looks : ∀ c, c ∈ (cloFrom (cxOf CX P w K mg base N qual scope f cdv A outer s H E).env.cells nsc.names []).map (·.2) → ∃ y, (cloFrom (cxOf CX P w K mg base N qual scope f cdv A outer s H E).env.cells nsc.names []).lookup y = some c := fun c hc => by
    obtain ⟨p, hp, rfl⟩ := List.mem_map.mp hc
    exact ⟨_, (one p hp).1⟩
  obtain ⟨G, pg, hg⟩ := put_make (H := H') lv nd ca.inj (fun p hp => (one p hp).1) (fun p hp => (one p hp).2) (fun y hy => by
    obtain ⟨i, hi⟩ := List.mem_iff_getElem?.mp hy
    obtain ⟨c, hc, _⟩ := ca.has i y hi
    exact ⟨c, hc⟩) (fun c hc => by
    obtain ⟨y, hy⟩ := looks c hc
    exact (ca.all y c hy).1)
  have sm := pg.same
  have J0 := J.base
  refine ⟨v, G, J.os, J.bare, ⟨J0.keep, J0.slot, fun b o e n hx => ?_, J0.there, fun b xs e => sm _ _ (J0.tups b xs e), fun b o u e => sm _ _ (J0.frzs b o u e), fun b ps e => ?_⟩, fun a o e => ?_, rv, q G pg⟩
  · have nb : b ∉ (cloFrom (cxOf CX P w K mg base N qual scope f cdv A outer s H E).env.cells nsc.names []).map (·.2) := fun z => by
      obtain ⟨y, hy⟩ := looks b z
      have h1 := J.ok.cab y b rfl (caps.sub y b hy)
      exact Nat.lt_irrefl _ (Nat.lt_of_lt_of_le (Heap.lt_size e) h1)
    rw [pg.old b nb]
    exact J0.free b o e n hx
  · obtain ⟨more, hm⟩ := J0.tbls b ps e
    exact ⟨more, sm _ _ hm⟩
  · by_cases ha : a ∈ (cloFrom (cxOf CX P w K mg base N qual scope f cdv A outer s H E).env.cells nsc.names []).map (·.2)
    · obtain ⟨i, y, v0, e1, e2, e3, e4⟩ := hg a ha
      rw [e4] at e
      cases e
      obtain ⟨c, hc, hval⟩ := ca.has i y e1
      rw [e2] at hc
      cases hc
      obtain ⟨u0, r0, z0⟩ := hval v0 (by rw [hv, List.getElem?_map, e3]; rfl)
      obtain ⟨o0, ho, hd⟩ := id z0
      exact ⟨⟨u0, r0, z0⟩, ⟨o0, ho⟩, fun h1 h2 ⟨u1, r1, z1⟩ st => ⟨u1, r1, isCell_st z1 st⟩⟩
    · rw [pg.old a ha] at e
      exact (J.hok a o e).stay (fun b u _ q => q) (fun b q => sm _ _ q) (fun b xs q => sm _ _ q)
theorem fnd_okC {K : PySem.W.Frag} {x qual : Str} {params : Arguments} {body : List Stmt} {scope : Scope} {f : Addr} {fd : FuncData} {P : Program} {w : World} {mg : Str → Option Value} {base : Heap} {N ps : List Str} {k : Nat} {sp : Sp} (F : FunD K x qual params body scope [] [] f fd) (S : FnScope N ps scope)
    (nsc : Scope) (fr : List Str) (js : List Nat) (nd : fr.Nodup) (hB : ndefB scope nsc fr = true) (hall : ∀ y ∈ nsc.names, y.2 = .free → y.1 ∈ fr) (hjs : js.map (fun j => N[j]?) = fr.map some)
    (len : ∀ vs H Q E, sp vs H Q E → vs.length = ps.length)
    (hbody : ∀ (cdv : Value) (A : Around) (outer : List Env) (s : Shared) (H : Hp) (vs : List V) (Q : VK) (E : XK), Room k (A.deeper (envOfC qual scope s.heap.objs.size f cdv)) → PySem.W.codeIn K cdv qual = true → sp vs H Q E →
      ∃ t, PRet (cxOf CX0 P w K mg base N qual scope f cdv A outer s H E) body t ∧ t (Gives (cxOf CX0 P w K mg base N qual scope f cdv A outer s H E) nsc fr js Q) (L2.start N vs) H) : FnOk P w K mg base CX0 (k + 1) f fd ps sp := by
  obtain ⟨oc, od, dV, kV, doc, pm, an, cdv, ct, osl, rfl, lk, hcd, _, _⟩ := F.ex
  refine ⟨len, fun A outer s H args us vs Q E hr e0 hb r hsp => ?_⟩
  have hl := len _ _ _ _ hsp
  have kin : K.In s.heap := e0.mod.kin.keeps fun b o e => (e0.bs b o e).1
  have lim : s.heap.NoLimit := e0.mod.nolimit.keeps fun b o e => (e0.bs b o e).1
  refine codeAny_call_function hr.depth (kin _ _ lk) rfl S.co S.gen rfl (PySem.W.codeRec_of kin hcd) (hb _ _ _ _ (wpAny_newFunctionEnv_cells S.kind (fun ⟨n, v⟩ hy => ?_) fun env he s1 x => ?_))
  · rcases S.par n (List.of_mem_zip hy).1 with q | q
    · exact .inl q
    · exact .inr ⟨q, PySem.W.cellsFrom_some _ _ _ (.inl q)⟩
  · subst he
    refine ⟨lim.keeps x.toInCall.keep, codeAny_func ?_⟩
    obtain ⟨t, ht, hq⟩ := hbody cdv A outer s H vs Q E (hr.deeper _) hcd hsp
    have I := inv_start (CX := CX0) (P := P) (w := w) (mg := mg) (E := E) S hr.hd e0 hl r x
    refine wpAny_mono (ht.run [] s1 _ H _ I hq) (fun fl s' hs => ?_) fun e s' hs => hs
    obtain ⟨u, v, σ', H', rfl, J, rv, g⟩ := hs
    exact ce_gives nd hB hall hjs J rv g
end
/-! ### dicts whose keys are nested tuples -/
abbrev NEn := NestedKey × Addr × V
mutual
/-- v is the key k, its tuples lie in H -/
inductive NkV (K : PySem.W.Frag) (H : Hp) : NestedKey → V → Prop
  | non : NkV K H .none .non
  | bl (b : Bool) : NkV K H (.num (if b = true then 1 else 0)) (.bl b)
  | int (i : Int) : NkV K H (.num i) (.int i)
  | str (x : Str) : NkV K H (.text x) (.str x)
  | tup {a : Addr} {xs : List V} {ks : List NestedKey} : SqT K H a xs → NkVs K H ks xs → NkV K H (.tup ks) (.ref a)
inductive NkVs (K : PySem.W.Frag) (H : Hp) : List NestedKey → List V → Prop
  | nil : NkVs K H [] []
  | cons {k : NestedKey} {v : V} {ks : List NestedKey} {vs : List V} : NkV K H k v → NkVs K H ks vs → NkVs K H (k :: ks) (v :: vs)
end
mutual
theorem NkV.keep {K : PySem.W.Frag} {H H' : Hp} (t : ∀ a xs, SqT K H a xs → SqT K H' a xs) : ∀ (k : NestedKey) (v : V), NkV K H k v → NkV K H' k v
  | .none, _, h => by cases h; exact .non
  | .num j, _, h => by
    cases h with
    | bl b => exact .bl b
    | int => exact .int j
  | .text x, _, h => by cases h; exact .str x
  | .tup ks, _, h => by
    cases h with
    | tup e q => exact .tup (t _ _ e) (NkVs.keep t ks _ q)
theorem NkVs.keep {K : PySem.W.Frag} {H H' : Hp} (t : ∀ a xs, SqT K H a xs → SqT K H' a xs) : ∀ (ks : List NestedKey) (vs : List V), NkVs K H ks vs → NkVs K H' ks vs
  | [], _, h => by cases h; exact .nil
  | k :: ks, _, h => by
    cases h with
    | cons e q => exact .cons (NkV.keep t k _ e) (NkVs.keep t ks _ q)
end
mutual
theorem nk_is {X : Cx} {pins : List (Addr × Obj)} {σ : L2.St} {H : Hp} {s : Shared} (I : Inv X pins σ H s) : ∀ (k : NestedKey) (v : V) (u : Value), NkV X.K H k v → RelV v u → NestedIs s.heap k u
  | .none, _, u, hk, r => by
    cases hk
    obtain rfl : u = Value.none := r
    exact .none
  | .num _, _, u, hk, r => by
    cases hk with
    | bl b =>
      obtain rfl : u = Value.bool b := r
      exact .bool rfl
    | int i =>
      obtain ⟨t, rfl⟩ := (show ∃ t, u = Value.int _ t from r)
      exact .int _ t
  | .text x, _, u, hk, r => by
    cases hk
    obtain ⟨t, rfl⟩ := (show ∃ t, u = Value.str x t from r)
    exact .text x t
  | .tup ks, _, u, hk, r => by
    cases hk with
    | @tup a xs _ e q =>
      obtain rfl : u = Value.ref a := r
      obtain ⟨its, rv, ⟨o, h1, h2, n, h3⟩, _⟩ := I.tuple e
      exact .tup h1 h2 h3 (by simpa using nks_are I ks xs its q rv)
theorem nks_are {X : Cx} {pins : List (Addr × Obj)} {σ : L2.St} {H : Hp} {s : Shared} (I : Inv X pins σ H s) : ∀ (ks : List NestedKey) (vs : List V) (us : List Value), NkVs X.K H ks vs → Vals vs us → NestedAll s.heap ks us
  | [], _, us, hk, r => by
    cases hk
    cases r
    exact .nil
  | k :: ks, _, us, hk, r => by
    cases hk with
    | cons e q =>
      cases r with
      | cons r1 r2 => exact .cons (nk_is I k _ _ e r1) (nks_are I ks _ _ q r2)
end
def valN (kvs : List NEn) (k : NestedKey) : Option V := (kvs.find? fun x => decide (x.1 = k)).map (·.2.2)
def putN (kvs : List NEn) (k : NestedKey) (a : Addr) (v : V) : List NEn := if (valN kvs k).isSome then kvs.map (fun x => if x.1 = k then (x.1, x.2.1, v) else x) else kvs ++ [(k, a, v)]
theorem valN_nil (k : NestedKey) : valN [] k = none := rfl
theorem valN_one (k : NestedKey) (a : Addr) (v : V) : valN [(k, a, v)] k = some v := by simp [valN]
theorem putN_nil (k : NestedKey) (a : Addr) (v : V) : putN [] k a v = [(k, a, v)] := rfl
theorem putN_length (kvs : List NEn) (k : NestedKey) (a : Addr) (v : V) : (putN kvs k a v).length ≤ kvs.length + 1 := by
  unfold putN
  split
  · rw [List.length_map]; exact Nat.le_succ _
  · rw [List.length_append]; exact Nat.le_refl _
theorem putN_mem {kvs : List NEn} {k : NestedKey} {a : Addr} {v : V} {e : NEn} (h : e ∈ putN kvs k a v) : (e.1 = k ∧ e.2.1 = a) ∨ ∃ e', e' ∈ kvs ∧ e'.1 = e.1 ∧ e'.2.1 = e.2.1 := by
  unfold putN at h
  split at h
  · obtain ⟨x, hx, rfl⟩ := List.mem_map.mp h
    refine .inr ⟨x, hx, ?_⟩
    split <;> exact ⟨rfl, rfl⟩
  · rcases List.mem_append.mp h with h | h
    · exact .inr ⟨e, h, rfl, rfl⟩
    · rw [List.mem_singleton.mp h]; exact .inl ⟨rfl, rfl⟩
theorem valN_cons (p : NEn) (ps : List NEn) (k : NestedKey) : valN (p :: ps) k = if p.1 = k then some p.2.2 else valN ps k := by
  unfold valN
  by_cases e : p.1 = k
  · rw [if_pos e, List.find?_cons, decide_eq_true e]; rfl
  · rw [if_neg e, List.find?_cons, decide_eq_false e]
theorem valN_put (kvs : List NEn) (k k' : NestedKey) (a : Addr) (v : V) : valN (putN kvs k a v) k' = if k = k' then some v else valN kvs k' := by
  have mp : ∀ l : List NEn, valN (l.map fun x => if x.1 = k then (x.1, x.2.1, v) else x) k' = if k = k' ∧ (valN l k).isSome then some v else valN l k' := by
    intro l
    induction l with
    | nil => simp [valN]
    | cons p ps ih =>
      rw [List.map_cons, valN_cons, valN_cons, valN_cons, ih]
      by_cases e : p.1 = k
      · simp only [e, if_true]
        by_cases e2 : k = k' <;> simp [e2]
      · simp only [e, if_false]
        by_cases e2 : p.1 = k'
        · have e3 : ¬ k = k' := fun z => e (e2.trans z.symm)
          simp [e2, e3]
        · simp [e2]
  have ap : ∀ l : List NEn, (valN l k).isSome = false → valN (l ++ [(k, a, v)]) k' = if k = k' then some v else valN l k' := by
    intro l
    induction l with
    | nil => intro _; rw [List.nil_append, valN_cons]
    | cons p ps ih =>
      intro h
      rw [valN_cons] at h
      rw [List.cons_append, valN_cons, valN_cons]
      by_cases e : p.1 = k
      · rw [if_pos e] at h; cases h
      · rw [if_neg e] at h
        rw [ih h]
        by_cases e2 : p.1 = k'
        · have e3 : ¬ k = k' := fun z => e (e2.trans z.symm)
          simp [e2, e3]
        · simp [e2]
  unfold putN
  by_cases q : (valN kvs k).isSome = true
  · rw [if_pos q, mp]
    by_cases e : k = k' <;> simp [e, q]
    intro z
    rw [← e] at z
    rw [z] at q
    cases q
  · rw [if_neg q]
    exact ap kvs (by simpa using q)
abbrev NKT : List NEn → List (NestedKey × Addr × Value) → Prop := Paired fun p q => p.1 = q.1 ∧ p.2.1 = q.2.1 ∧ RelV p.2.2 q.2.2
theorem NKT.val {kvs : List NEn} {xs : List (NestedKey × Addr × Value)} (r : NKT kvs xs) (k : NestedKey) : RelO (valN kvs k) ((atKey xs k).map (·.2)) := by
  induction r with
  | nil => exact True.intro
  | @cons p q ps qs h t ih =>
    obtain ⟨h1, _, h2⟩ := h
    rw [valN_cons]
    by_cases e : p.1 = k
    · have e' : q.1 = k := h1.symm.trans e
      have b : atKey (q :: qs) k = some q.2 := by simp [atKey, List.find?_cons, e']
      rw [if_pos e, b]; exact h2
    · have e' : ¬ q.1 = k := fun z => e (h1.trans z)
      have b : atKey (q :: qs) k = atKey qs k := by simp [atKey, List.find?_cons, e']
      rw [if_neg e, b]; exact ih
theorem NKT.repl {kvs : List NEn} {xs : List (NestedKey × Addr × Value)} (r : NKT kvs xs) (k : NestedKey) {y : V} {u : Value} (ry : RelV y u) :
    NKT (kvs.map fun x => if x.1 = k then (x.1, x.2.1, y) else x) (xs.map (putAt k u)) := by
  induction r with
  | nil => exact .nil
  | @cons p q ps qs h t ih =>
    rw [List.map_cons, List.map_cons]
    refine .cons ?_ ih
    obtain ⟨h1, h2, h3⟩ := h
    unfold putAt
    by_cases e : p.1 = k
    · rw [if_pos e, if_pos (h1.symm.trans e)]; exact ⟨h1, h2, ry⟩
    · rw [if_neg e, if_neg (fun z => e (h1.trans z))]; exact ⟨h1, h2, h3⟩
theorem NKT.put {kvs : List NEn} {xs : List (NestedKey × Addr × Value)} (r : NKT kvs xs) (k : NestedKey) (b : Addr) {y : V} {u : Value} (ry : RelV y u) : NKT (putN kvs k b y) (storedH xs k b u) := by
  have e : (valN kvs k).isSome = (atKey xs k).isSome := by
    rw [(r.val k).isSome_eq, Option.isSome_map]
  unfold putN storedH
  rw [e]
  by_cases q : (atKey xs k).isSome = true
  · rw [if_pos q, if_pos q]; exact r.repl k ry
  · rw [if_neg q, if_neg q]; exact Paired.snoc r ⟨rfl, rfl, ry⟩
/-- the dict's object -/
def DnO (P : Program) (w : World) (d : Addr) (kvs : List NEn) : HO := .ext fun h => kvs.length ≤ sizeLine ∧ (d == sysModules) = false ∧ ∃ xs, NKT kvs xs ∧
  ∃ o es ep, h.get? d = some o ∧ o.ExactDict ∧ o.data = .dict es ep ∧ es.toList = xs.map (entryOfKey (nestedKind P w)) ∧ (xs.map (·.1)).Nodup
/-- at d lies a dict with these keys and values -/
structure DnAt (K : PySem.W.Frag) (P : Program) (w : World) (H : Hp) (d : Addr) (kvs : List NEn) : Prop where
  at_ : H d = some (DnO P w d kvs)
  keys : ∀ e, e ∈ kvs → NkV K H e.1 (.ref e.2.1) ∧ e.1.depth ≤ 8
theorem DnAt.keep {K : PySem.W.Frag} {P : Program} {w : World} {H H' : Hp} {d : Addr} {kvs : List NEn} (x : DnAt K P w H d kvs) (e : H' d = H d) (t : ∀ a xs, SqT K H a xs → SqT K H' a xs) : DnAt K P w H' d kvs :=
  ⟨e.trans x.at_, fun y hy => ⟨NkV.keep t _ _ (x.keys y hy).1, (x.keys y hy).2⟩⟩
theorem DnAt.same {K : PySem.W.Frag} {P : Program} {w : World} {H H' : Hp} {d : Addr} {kvs : List NEn} (s : Same H H') (x : DnAt K P w H d kvs) : DnAt K P w H' d kvs :=
  ⟨s _ _ x.at_, fun y hy => ⟨NkV.keep (fun a xs e => Same.sqt s e) _ _ (x.keys y hy).1, (x.keys y hy).2⟩⟩
theorem dn_of {X : Cx} {pins : List (Addr × Obj)} {σ : L2.St} {H : Hp} {s : Shared} {d : Addr} {kvs : List NEn} (I : Inv X pins σ H s) (x : DnAt X.K X.prog X.w H d kvs) : kvs.length ≤ sizeLine ∧ (d == sysModules) = false ∧ ∃ xs, NKT kvs xs ∧ s.heap.DictOfH (nestedKind X.prog X.w) d xs := by
  obtain ⟨⟨z, y, xs, r, o, es, ep, h1, h2, h3, h4, h5⟩, _, _⟩ := (show ObjOk X.prog X.w H s.heap d (DnO X.prog X.w d kvs) from I.hok d _ x.at_)
  refine ⟨z, y, xs, r, o, es, ep, h1, h2, h3, h4, ?_, h5⟩
  have all : ∀ {l : List NEn} {m : List (NestedKey × Addr × Value)}, NKT l m → (∀ e, e ∈ l → NkV X.K H e.1 (.ref e.2.1) ∧ e.1.depth ≤ 8) → ∀ x ∈ m, (nestedKind X.prog X.w).is s.heap x.1 x.2.1 := by
    intro l m q
    induction q with
    | nil => intro _ x hx; exact nomatch hx
    | @cons p q ps qs hq t ih =>
      intro hk x hx
      rcases List.mem_cons.mp hx with e | hx
      · subst e
        have k0 := hk p List.mem_cons_self
        rw [← hq.1, ← hq.2.1]
        exact ⟨nk_is I _ _ _ k0.1 rfl, k0.2⟩
      · exact ih (fun e he => hk e (List.mem_cons_of_mem _ he)) x hx
  exact all r x.keys
theorem dn_empty {P : Program} {w : World} {H : Hp} (h : Heap) (hb : sysModules < h.objs.size) : ObjOk P w H (h.push { cls := .type "dict", data := .dict #[] }) h.objs.size (DnO P w h.objs.size []) := by
  have e := Heap.get?_push_size (o := ({ cls := .type "dict", data := .dict #[] } : Obj)) h rfl
  refine ⟨⟨Nat.zero_le _, beq_eq_false_iff_ne.mpr (Ne.symm (Nat.ne_of_lt hb)), [], .nil, _, #[], 0, e, ⟨rfl, rfl, rfl⟩, rfl, rfl, List.nodup_nil⟩, ⟨_, e⟩, ?_⟩
  intro h1 h2 ⟨a, b, xs, r, o, es, ep, g, c⟩ st
  exact ⟨a, b, xs, r, o, es, ep, st _ g, c⟩
/-- {}, to be such a dict -/
def tDNewN (P : Program) (w : World) : TE := fun _ H Q => ∀ p, H p = none → Q (.ref p) (upd H p (DnO P w p []))
/-- y in d, y not in d -/
def tNIn (K : PySem.W.Frag) (P : Program) (w : World) (ty td : TE) : TE := fun σ H Q => ty σ H fun y H1 => td σ H1 fun x H2 => ∃ a b kvs k, x = .ref a ∧ y = .ref b ∧ DnAt K P w H2 a kvs ∧ NkV K H2 k (.ref b) ∧ k.depth ≤ 8 ∧ Q (.bl (valN kvs k).isSome) H2
def tNNotIn (K : PySem.W.Frag) (P : Program) (w : World) (ty td : TE) : TE := fun σ H Q => ty σ H fun y H1 => td σ H1 fun x H2 => ∃ a b kvs k, x = .ref a ∧ y = .ref b ∧ DnAt K P w H2 a kvs ∧ NkV K H2 k (.ref b) ∧ k.depth ≤ 8 ∧ Q (.bl (!(valN kvs k).isSome)) H2
/-- d[y] -/
def tNGet (K : PySem.W.Frag) (P : Program) (w : World) (td ty : TE) : TE := fun σ H Q => td σ H fun x H1 => ty σ H1 fun y H2 => ∃ a b kvs k v, x = .ref a ∧ y = .ref b ∧ DnAt K P w H2 a kvs ∧ NkV K H2 k (.ref b) ∧ k.depth ≤ 8 ∧ valN kvs k = some v ∧ Q v H2
/-- d[y] = v -/
def sNPut (K : PySem.W.Frag) (P : Program) (w : World) (td ty tv : TE) : TS := fun D σ H => tv σ H fun v H1 => td σ H1 fun x H2 => ty σ H2 fun y H3 => ∃ a b kvs k, x = .ref a ∧ y = .ref b ∧ DnAt K P w H3 a kvs ∧ NkV K H3 k (.ref b) ∧ k.depth ≤ 8 ∧ kvs.length < sizeLine ∧
  ∀ H4 : Hp, H4 = upd H3 a (DnO P w a (putN kvs k b v)) → DnAt K P w H4 a (putN kvs k b v) → D.nx σ H4
section
variable {X : Cx} {pos pos' : Pos} {i o : Expr} {td ty : TE}
theorem pe_dnewN : PE X (.Dict [] [] pos) (tDNewN X.prog X.w) := ⟨fun pins s σ H Q I h =>
  wpAny_Dict_empty ⟨.ref s.heap.objs.size, _, I.laid (a := s.heap.objs.size) (o := DnO X.prog X.w s.heap.objs.size []) (t' := s.toks) (fun _ _ q => Heap.get?_push_of_some _ q) (Nat.le_refl _) (dn_empty s.heap I.big), rfl, h _ (I.hok.fresh (Nat.le_refl _))⟩⟩
theorem room_n (hu : X.A.units + 9 < cLine) : (nestedKind X.prog X.w).room X.A.in1 := by
  show X.A.in1.units + 8 < cLine
  have e : X.A.in1.units ≤ X.A.units + 1 := Nat.le_refl _
  omega
theorem pc_nin (hu : X.A.units + 9 < cLine) (hi : PE X i ty) (ho : PE X o td) : PC X .In i o (tNIn X.K X.prog X.w ty td) := by
  refine ⟨fun pins s σ H Q I h => ?_⟩
  refine thn (hi.run pins s σ H _ I h) fun iv s1 ⟨y, H1, I1, ry, q1⟩ => thn (ho.run pins s1 σ H1 _ I1 q1) fun u s2 ⟨x, H2, I2, rx, a, b, kvs, k, ex, ey, g, nk, dk, q2⟩ => ?_
  subst ex
  subst ey
  obtain rfl : u = Value.ref a := rx
  obtain rfl : iv = Value.ref b := ry
  obtain ⟨z, hd, xs, rel, dd⟩ := dn_of I2 g
  refine wpAny_in_heap (room_n hu) ⟨nk_is I2 _ _ _ nk rfl, dk⟩ hd dd ?_
  have q := (rel.val k).isSome_eq
  rw [Option.isSome_map] at q
  rw [← q]
  exact ⟨.bl _, H2, I2.tok _, rfl, q2⟩
theorem pc_nnotin (hu : X.A.units + 9 < cLine) (hi : PE X i ty) (ho : PE X o td) : PC X .NotIn i o (tNNotIn X.K X.prog X.w ty td) := by
  refine ⟨fun pins s σ H Q I h => ?_⟩
  refine thn (hi.run pins s σ H _ I h) fun iv s1 ⟨y, H1, I1, ry, q1⟩ => thn (ho.run pins s1 σ H1 _ I1 q1) fun u s2 ⟨x, H2, I2, rx, a, b, kvs, k, ex, ey, g, nk, dk, q2⟩ => ?_
  subst ex
  subst ey
  obtain rfl : u = Value.ref a := rx
  obtain rfl : iv = Value.ref b := ry
  obtain ⟨z, hd, xs, rel, dd⟩ := dn_of I2 g
  refine wpAny_notIn_heap (room_n hu) ⟨nk_is I2 _ _ _ nk rfl, dk⟩ hd dd ?_
  have q := (rel.val k).isSome_eq
  rw [Option.isSome_map] at q
  rw [← q]
  exact ⟨.bl _, H2, I2.tok _, rfl, q2⟩
theorem pe_nget (hu : X.A.units + 9 < cLine) (ho : PE X o td) (hi : PE X i ty) (hs : NoSl i) : PE X (.Subscript o i pos) (tNGet X.K X.prog X.w td ty) := by
  refine ⟨fun pins s σ H Q I h => ?_⟩
  refine subD_of PySem.F.slot_dict_getitem.lookup hs (thn (ho.run pins s σ H _ I h) fun u s1 ⟨x, H1, I1, rx, q1⟩ => thn (hi.run pins s1 σ H1 _ I1 q1) fun iv s2 ⟨y, H2, I2, ry, a, b, kvs, k, v, ex, ey, g, nk, dk, hv, q2⟩ => ?_)
  subst ex
  subst ey
  obtain rfl : u = Value.ref a := rx
  obtain rfl : iv = Value.ref b := ry
  obtain ⟨z, hd, xs, rel, dd⟩ := dn_of I2 g
  obtain ⟨w', hw, rw'⟩ := RelO.some_of (v := v) (o := (atKey xs k).map (·.2)) (by rw [← hv]; exact rel.val k)
  obtain ⟨p, hp, hp2⟩ := Option.map_eq_some_iff.mp hw
  refine ⟨dd.typeIs, wpAny_getItem_heap (room_n hu) ⟨nk_is I2 _ _ _ nk rfl, dk⟩ dd hp ?_⟩
  rw [hp2]
  exact ⟨v, H2, I2.tok _, rw', q2⟩
theorem ps_nput {value : Expr} {tv : TE} (hu : X.A.units + 9 < cLine) (ho : PE X o td) (hi : PE X i ty) (hv : PE X value tv) (hs : swapsWith value (some (.Subscript o i pos')) pos.line X.env = pure false) :
    PS X (.Assign [.Subscript o i pos'] value pos) (sNPut X.K X.prog X.w td ty tv) := by
  refine ⟨fun pins s σ H D I h => ?_⟩
  refine wpAny_Assign_Subscript (thn (hv.run pins s σ H _ I h) fun r s1 ⟨v, H1, I1, rv, q1⟩ => thn (ho.run pins s1 σ H1 _ I1 q1) fun u s2 ⟨x, H2, I2, rx, q2⟩ => thn (hi.run pins s2 σ H2 _ I2 q2) fun iv s3 ⟨y, H3, I3, ry, a, b, kvs, k, ex, ey, g, nk, dk, l, q3⟩ => ?_) hs
  subst ex
  subst ey
  obtain rfl : u = Value.ref a := rx
  obtain rfl : iv = Value.ref b := ry
  obtain ⟨z, hd, xs, rel, dd⟩ := dn_of I3 g
  have hz : xs.length ≤ sizeLine := by rw [← Paired.length rel]; exact z
  refine wpAny_setItem_heap (hsz := hz) (room_n hu) ⟨nk_is I3 _ _ _ nk rfl, dk⟩ dd fun h' dd' hs' => ?_
  obtain ⟨q, es, ep, hq, h2, h3, h4, _, h5⟩ := dd'
  have hl : (putN kvs k b v).length ≤ sizeLine := by have := putN_length kvs k b v; omega
  have J := d_write (ob := DnO X.prog X.w a (putN kvs k b v)) (t' := s3.toks + (nestedKind X.prog X.w).draws k) I3 (by rw [g.at_]; exact True.intro) hs' ⟨q, hq⟩ ⟨⟨hl, hd, _, rel.put k b rv, q, es, ep, hq, h2, h3, h4, h5⟩, ⟨q, hq⟩, fun h1 h2 ⟨x1, x2, x3, x4, x5, x6, x7, x8, x9⟩ st => ⟨x1, x2, x3, x4, x5, x6, x7, st _ x8, x9⟩⟩
  have kt : ∀ c ys, SqT X.K H3 c ys → SqT X.K (upd H3 a (DnO X.prog X.w a (putN kvs k b v))) c ys := fun c ys ec => by
    rcases ec with (ec | ⟨o, ec⟩) | ec
    · exact .inl (.inl (by rw [upd_ne (ne_of ec g.at_ (fun z => nomatch z))]; exact ec))
    · exact .inl (.inr ⟨o, by rw [upd_ne (ne_of ec g.at_ (fun z => nomatch z))]; exact ec⟩)
    · exact .inr ec
  refine ⟨σ, _, J, q3 _ rfl ⟨upd_same, fun e he => ?_⟩⟩
  rcases putN_mem he with ⟨e1, e2⟩ | ⟨e', he', e1, e2⟩
  · rw [e1, e2]; exact ⟨NkV.keep kt _ _ nk, dk⟩
  · have z := g.keys e' he'
    rw [e1, e2] at z
    exact ⟨NkV.keep kt _ _ z.1, z.2⟩
end
/-! ### calling a function that a name holds; the code that makes it; promises without errors -/
section
open NdefX LamX
/-- a def within a def -/
def inDef (st : Stmt) (j : Nat) : Stmt := (defBody st).getD j (.Pass ⟨0, 0, 0, 0⟩)
/-- f(..), the name at i holds such a function -/
def tCallR (P : Program) (w : World) (K : PySem.W.Frag) (mg : Str → Option Value) (base : Heap) (k i : Nat) (t : TA) : TE := fun σ H Q => ∃ (f : Addr) (F : NF), σ[i]? = some (some (.ref f)) ∧ H f = some (FnO f F) ∧
  t σ H fun vs H1 => H1 f = some (FnO f F) ∧ Runs P w K mg base k f vs H1 Q
section
variable {X : Cx} {i k : Nat} {x : Str} {t : TA} {e : Expr} {es : List Expr} {p pos : Pos}
theorem run_r {pins : List (Addr × Obj)} {σ : L2.St} {H : Hp} {s : Shared} {Q : VK} {f : Addr} {us : List Value} {vs : List V} (hr : Room k X.A) (I : Inv X pins σ H s) (r : Vals vs us) (R : Runs X.prog X.w X.K X.mg X.base k f vs H Q) :
    wpAny (model X.prog X.w) X.A (call (.ref f) us) (EP X pins σ Q) X.xe s := by
  refine wpAny_call (codeAny_mono (R X.A X.stack s us hr I.env0 r) fun r s' hq => ?_)
  cases r with
  | error e => exact False.elim hq
  | ok fl =>
    cases fl with
    | ret u => exact I.after hq
    | next => exact False.elim hq
    | brk => exact False.elim hq
    | cont => exact False.elim hq
theorem pe_callR (hr : Room k X.A) (hN : X.N[i]? = some x) (hv : Vis X.env.scope x) (ha : PA X (e :: es) t)
    (hd : (x == ("__debug__" : Str)) = false := by decide) (hcd : (x == ("__classdict__" : Str)) = false := by decide)
    (he : starEach (e :: es) X.env = (false, eval e X.env) :: starEach es X.env := by rfl) (hpl : (backTo pos (starEach es X.env)).any (·.1) = false := by rfl) :
    PE X (.Call (.Name x p) (e :: es) [] pos) (tCallR X.prog X.w X.K X.mg X.base k i t) := by
  refine ⟨fun pins s σ H Q I h => ?_⟩
  obtain ⟨f, F, hs, hf, ht⟩ := h
  refine wpAny_Call_Name_kw (thn ((pe_var (pos := p) hN hv hd hcd).run pins s σ H (fun v H1 => v = .ref f ∧ H1 = H) I ⟨.ref f, hs, rfl, rfl⟩) fun u s1 ⟨v, H1, I1, r1, q1⟩ => ?_)
  obtain ⟨ev, eH⟩ := q1
  subst ev
  rw [eH] at I1
  obtain rfl : u = Value.ref f := r1
  refine PySem.W.callWith_F (first := []) (fnAt_of I1 hf) (thn (ha.run pos pins s1 σ H _ I1 ht) fun us s2 ⟨vs, H2, I2, r, h1, q⟩ => ⟨fnAt_of I2 h1, ?_⟩) he hpl
  show wpAny _ _ (call (.ref f) us) _ _ _
  exact run_r hr I2 r q
theorem pe_callRK {P : Program} {w : World} {K : PySem.W.Frag} {mg : Str → Option Value} {base : Heap} (hP : X.prog = P) (hw : X.w = w) (hK : X.K = K) (hm : X.mg = mg) (hb : X.base = base) (hr : Room k X.A) (hN : X.N[i]? = some x) (hv : Vis X.env.scope x) (ha : PA X (e :: es) t)
    (hd : (x == ("__debug__" : Str)) = false := by decide) (hcd : (x == ("__classdict__" : Str)) = false := by decide)
    (he : starEach (e :: es) X.env = (false, eval e X.env) :: starEach es X.env := by rfl) (hpl : (backTo pos (starEach es X.env)).any (·.1) = false := by rfl) :
    PE X (.Call (.Name x p) (e :: es) [] pos) (tCallR P w K mg base k i t) := by
  subst hP hw hK hm hb
  exact pe_callR hr hN hv ha hd hcd he hpl
end
/-- a def that returns a function; its code object is told -/
theorem fnd_okT {K : PySem.W.Frag} {x qual : Str} {params : Arguments} {body : List Stmt} {scope : Scope} {q : Str × Option Str} {fd : FuncData} {P : Program} {w : World} {mg : Str → Option Value} {base : Heap} {N ps : List Str} {k : Nat} {sp : Sp} (F : FunD K x qual params body scope [] [] (He.fAd K q) fd) (S : FnScope N ps scope)
    (nsc : Scope) (fr : List Str) (js : List Nat) (nd : fr.Nodup) (hB : ndefB scope nsc fr = true) (hall : ∀ y ∈ nsc.names, y.2 = .free → y.1 ∈ fr) (hjs : js.map (fun j => N[j]?) = fr.map some)
    (len : ∀ vs H Q E, sp vs H Q E → vs.length = ps.length)
    (hbody : ∀ (A : Around) (outer : List Env) (s : Shared) (H : Hp) (vs : List V) (Q : VK) (E : XK), Room k (A.deeper (envOfC qual scope s.heap.objs.size (He.fAd K q) (.ref (He.codeOf K q)))) → sp vs H Q E →
      ∃ t, PRet (cxOf CX0 P w K mg base N qual scope (He.fAd K q) (.ref (He.codeOf K q)) A outer s H E) body t ∧ t (Gives (cxOf CX0 P w K mg base N qual scope (He.fAd K q) (.ref (He.codeOf K q)) A outer s H E) nsc fr js Q) (L2.start N vs) H) : FnOk P w K mg base CX0 (k + 1) (He.fAd K q) fd ps sp := by
  obtain ⟨oc, od, dV, kV, doc, pm, an, cdv, ct, osl, rfl, lk, hcd, _, _⟩ := F.ex
  obtain ⟨c, rfl⟩ := He.codeIn_ref hcd
  have ec : He.codeOf K q = c := He.codeOf_eq lk rfl
  refine ⟨len, fun A outer s H args us vs Q E hr e0 hb r hsp => ?_⟩
  have hl := len _ _ _ _ hsp
  have kin : K.In s.heap := e0.mod.kin.keeps fun b o e => (e0.bs b o e).1
  have lim : s.heap.NoLimit := e0.mod.nolimit.keeps fun b o e => (e0.bs b o e).1
  refine codeAny_call_function hr.depth (kin _ _ lk) rfl S.co S.gen rfl (PySem.W.codeRec_of kin hcd) (hb _ _ _ _ (wpAny_newFunctionEnv_cells S.kind (fun ⟨n, v⟩ hy => ?_) fun env he s1 x => ?_))
  · rcases S.par n (List.of_mem_zip hy).1 with q | q
    · exact .inl q
    · exact .inr ⟨q, PySem.W.cellsFrom_some _ _ _ (.inl q)⟩
  · subst he
    refine ⟨lim.keeps x.toInCall.keep, codeAny_func ?_⟩
    have hbd := hbody A outer s H vs Q E
    rw [ec] at hbd
    obtain ⟨t, ht, hq⟩ := hbd (hr.deeper _) hsp
    have I := inv_start (CX := CX0) (P := P) (w := w) (mg := mg) (E := E) S hr.hd e0 hl r x
    refine wpAny_mono (ht.run [] s1 _ H _ I hq) (fun fl s' hs => ?_) fun e s' hs => hs
    obtain ⟨u, v, σ', H', rfl, J, rv, g⟩ := hs
    exact ce_gives nd hB hall hjs J rv g
/-- .. never with an error -/
theorem HasX.plain {P : Program} {w : World} {K : PySem.W.Frag} {mg : Str → Option Value} {base : Heap} {k : Nat} {x : Str} {ps : List Str} {sp : Sp} (h : HasX (L2N.CX P w) P w K mg base k x ps sp) : Has P w K mg base k x ps (fun vs H Q _ => sp vs H Q E0) := by
  obtain ⟨f, fd, F, g, kp, b⟩ := h
  refine ⟨f, fd, ⟨fun vs H Q E q => F.len _ _ _ _ q, fun A outer s H args us vs Q E hr he hb hv hs => ?_⟩, g, kp, b⟩
  refine codeAny_mono (F.run A outer s H args us vs Q E0 hr he hb hv hs) fun r s' q => ?_
  cases r with
  | error e =>
    obtain ⟨_, _, _, _, _, _, _, _, _, _, _, _, z⟩ := (show L2N.CX P w outer H s E0 e s' from q)
    exact z.elim
  | ok fl =>
    cases fl with
    | ret u => exact q
    | next => exact q
    | brk => exact q
    | cont => exact q
end
/-! ### what stays when tables and things of other kinds change -/
/-- all but tables and ext stay -/
def Kc (H H' : Hp) : Prop := ∀ b o, H b = some o → (∀ φ, o ≠ .ext φ) → (∀ ps, o ≠ .tbl ps) → H' b = some o
section
open LamX NdefX
variable {K : PySem.W.Frag} {H H' : Hp}
theorem Kc.of (s : Same H H') : Kc H H' := fun b o e _ _ => s b o e
theorem Kc.tn (x : ExtN H H') : Kc H H' := fun b o e _ n => x b o e n
theorem Kc.trans {H1 : Hp} (a : Kc H H1) (b : Kc H1 H') : Kc H H' := fun c o e n m => b c o (a c o e n m) n m
theorem Kc.hide {cs : List Addr} (C : Celled cs H) : Kc H (hideC cs H) := fun b o e n _ => by
  rw [hide_ne fun z => ?_]
  · exact e
  · obtain ⟨v, hv⟩ := C b z
    rw [e] at hv
    exact n _ (Option.some.inj hv)
theorem Kc.sqT (x : Kc H H') {a : Addr} {xs : List V} (h : SqT K H a xs) : SqT K H' a xs := by
  rcases h with (h | ⟨o, h⟩) | h
  · exact .inl (.inl (x _ _ h (fun _ z => nomatch z) (fun _ z => nomatch z)))
  · exact .inl (.inr ⟨o, x _ _ h (fun _ z => nomatch z) (fun _ z => nomatch z)⟩)
  · exact .inr h
theorem Kc.sqL (x : Kc H H') {a : Addr} {xs : List V} (h : SqL K H a xs) : SqL K H' a xs := by
  rcases h with (h | ⟨o, h⟩) | h
  · exact .inl (.inl (x _ _ h (fun _ z => nomatch z) (fun _ z => nomatch z)))
  · exact .inl (.inr ⟨o, x _ _ h (fun _ z => nomatch z) (fun _ z => nomatch z)⟩)
  · exact .inr h
theorem Kc.tup (x : Kc H H') {a : Addr} {xs : List V} (h : H a = some (.tup xs)) : H' a = some (.tup xs) := x _ _ h (fun _ z => nomatch z) (fun _ z => nomatch z)
theorem Kc.lst (x : Kc H H') {a : Addr} {xs : List V} (h : H a = some (.lst xs)) : H' a = some (.lst xs) := x _ _ h (fun _ z => nomatch z) (fun _ z => nomatch z)
theorem Kc.ins (x : Kc H H') {a c dx : Addr} {fs : List (Str × V)} (h : H a = some (.ins c dx fs)) : H' a = some (.ins c dx fs) := x _ _ h (fun _ z => nomatch z) (fun _ z => nomatch z)
mutual
theorem Kc.dp (x : Kc H H') : ∀ {v : V} {t : PyData}, Dp K H v t → Dp K H' v t
  | _, _, .non => .non
  | _, _, .bl b => .bl b
  | _, _, .int i => .int i
  | _, _, .str s => .str s
  | _, _, .lst h t => .lst (x.sqL h) (Kc.dps x t)
  | _, _, .tup h t => .tup (x.sqT h) (Kc.dps x t)
theorem Kc.dps (x : Kc H H') : ∀ {vs : List V} {ts : List PyData}, DpAll K H vs ts → DpAll K H' vs ts
  | _, _, .nil => .nil
  | _, _, .cons h t => .cons (Kc.dp x h) (Kc.dps x t)
end
end
/-! ### drawn relations; relations moved on -/
def nmB (z : Str) : Bool := decide (1 ≤ z.length) && decide (z.length ≤ 12) && (z.cps.toList[0]?).all (fun c => decide (c ∈ lets.cps.toList)) && !inV (.str z) resv && z.cps.toList.all (fun c => decide (c ∈ both.cps.toList))
theorem nm_of {z : Str} (h : nmB z = true) : Nm z := by
  unfold nmB at h
  simp only [Bool.and_eq_true, decide_eq_true_eq, Bool.not_eq_true', List.all_eq_true] at h
  obtain ⟨⟨⟨⟨h1, h2⟩, h3⟩, h4⟩, h5⟩ := h
  refine ⟨h1, h2, fun c hc => ?_, h4, h5⟩
  rw [hc] at h3
  simpa using h3
theorem gN_i {i : Nat} {v : V} {σ : L2.St} {H : Hp} {Q : L2.St → Hp → Prop} (h : Q (σ.set i (some v)) H) : gName i v σ H Q := h
theorem sq_i {a b : TS} {D} {σ : L2.St} {H : Hp} (h : a { D with nx := b D } σ H) : tSeq a b D σ H := h
theorem cb_i {r : List V → Hp → VK → Prop} {t : TA} {σ : L2.St} {H : Hp} {Q : VK} (h : t σ H fun vs H1 => r vs H1 Q) : tCB r t σ H Q := h
theorem co_i {t : TE} {u : TA} {σ : L2.St} {H : Hp} {Q : List V → Hp → Prop} (h : t σ H fun v H1 => u σ H1 fun vs H2 => Q (v :: vs) H2) : tCons t u σ H Q := h
theorem as_i {te : TE} {g : TG} {D} {σ : L2.St} {H : Hp} (h : te σ H fun x H1 => g x σ H1 D.nx) : tAsg te g D σ H := h
theorem RowsT.perm {H : Hp} {xs ys : List V} (p : ys.Perm xs) : ∀ {R : List (List Nat)}, RowsT H xs R → ∃ S, RowsT H ys S ∧ S.Perm R := by
  induction p with
  | nil => intro R h; cases h; exact ⟨[], .nil, List.Perm.refl _⟩
  | cons x p ih =>
    intro R h
    cases h with
    | cons e r =>
      obtain ⟨m, h1, h2⟩ := ih r
      exact ⟨_ :: m, .cons e h1, h2.cons _⟩
  | swap x y l0 =>
    intro R h
    cases h with
    | cons e1 r1 =>
      cases r1 with
      | cons e2 r2 => exact ⟨_, .cons e2 (.cons e1 r2), List.Perm.swap ..⟩
  | trans p q ih1 ih2 =>
    intro R h
    obtain ⟨m, h1, h2⟩ := ih2 h
    obtain ⟨k, h3, h4⟩ := ih1 h1
    exact ⟨k, h3, h4.trans h2⟩
theorem pow9 {n k : Nat} (hn : n ≤ 3) (hk : k ≤ 2) : n ^ k ≤ 9 := Nat.le_trans (Nat.pow_le_pow_left hn k) (Nat.le_trans (Nat.pow_le_pow_right (by decide) hk) (by decide))
theorem pow_le2 {n k : Nat} (hn : n ≤ 3) (hk : k ≤ 2) : ∀ i, i ≤ k → n ^ i ≤ 4096 := fun i hi => Nat.le_trans (pow9 hn (Nat.le_trans hi hk)) (by decide)
/-- a relation with few rows -/
structure Rl3 (n : Nat) (z : Wrl) : Prop where
  rows : RowsOk n z.1.2 z.2
  few : z.2.length ≤ 9
  one : z.1.2 = 0 → z.2.length ≤ 1
theorem lc_rels {K : PySem.W.Frag} {H : Hp} {d l S : Addr} {xs : List V} {sg : List (Str × Nat)} {a1 a2 n j : Nat} {y4 y5 y6 y7 y8 y9 y10 y11 : Option V} {Q : VK} (hj : (j = 1 ∧ n = a1) ∨ (j = 2 ∧ n = a2)) (hS : H S = some (.lst xs)) (ti : TIs H xs sg) (ls : sg.length ≤ 3) (ar : ∀ s, s ∈ sg → s.2 ≤ 2) (dr : DrA H d l) (nSd : S ≠ d) (n3 : n ≤ 3)
    (q : ∀ (H' : Hp) (M : Addr) (ys : List V) (L : List Wrl), DrA H' d l → Kp d H H' → H M = none → H' M = some (.lst ys) → RelL K H' ys L → L.map (·.1) = sg → (∀ z, z ∈ L → Rl3 n z) → Q (.ref M) H') :
    tLc (iList K (tVar 3)) (gTup K 2 (gCons (gName 7) (gCons (gName 8) gNil))) tYes (tTup (tCons (tVar 7) (tCons (tVar 8) (tCons (tCB (rTupO K) (tCons (tCall (spSubset K) [] E0 (tCons (tVar 0) (tCons (tCall (spTups K) [] E0 (tCons (tVar j) (tCons (tVar 8) tNil))) tNil))) tNil)) tNil)))) [7, 8]
      [some (.ref d), some (.int (a1 : Nat)), some (.int (a2 : Nat)), some (.ref S), y4, y5, y6, y7, y8, y9, y10, y11] H Q := by
  refine ⟨_, rfl, S, rfl, ⟨_, SqL.of hS⟩, fun M nM => ?_⟩
  obtain ⟨nMd, nMl⟩ := dr.ne nM
  have lxs := ti.len
  refine lc_it (walk_list (K := K) (a := S) (xs := xs)) (fun i H3 => ∃ (acc : List V) (L : List Wrl), DrA H3 d l ∧ Kp d H H3 ∧ H3 M = some (.lst acc) ∧ RelL K H3 acc L ∧ L.map (·.1) = sg.take i ∧ ∀ z, z ∈ L → Rl3 n z)
    ⟨[], [], dr.same (same_upd nM), .of (same_upd nM), upd_same, .nil, rfl, (fun z hz => nomatch hz)⟩ (fun i H3 _ ⟨_, _, _, k3, _⟩ => SqL.of (k3 _ _ hS nSd)) ?_ ?_
  · rintro i v H3 H4 hi ⟨acc, L, dr3, k3, hM, dL, mL, okL⟩ ⟨rfl, hv⟩
    obtain ⟨t, p, rfl, hp, ht⟩ := TIs.get ti hv
    have kl3 := Kl.dr k3 dr
    have ht3 := kl3 _ _ ht fun _ z => nomatch z
    have ap := ar p (List.mem_of_getElem? hp)
    have ly : L.length ≤ 3 := by
      have := congrArg List.length mL
      rw [List.length_map, List.length_take] at this
      omega
    have la := dL.length
    have hn : ∃ c, [some (.ref d), some (V.int (a1 : Nat)), some (V.int (a2 : Nat)), some (.ref S), y4, y5, y6, some (V.str p.1), some (V.int (p.2 : Nat)), y9, y10, y11][j]? = some (some (V.int (c : Nat))) ∧ c = n := by
      rcases hj with ⟨rfl, rfl⟩ | ⟨rfl, rfl⟩
      · exact ⟨_, rfl, rfl⟩
      · exact ⟨_, rfl, rfl⟩
    obtain ⟨c, hc, rfl⟩ := hn
    refine ⟨t, _, rfl, SqT.of ht3, rfl, _, _, rfl, _, _, rfl, rfl, rfl, _, rfl, _, rfl, ?_⟩
    refine ⟨_, rfl, _, hc, _, rfl, c, p.2, rfl, by omega, by omega, pow_le2 n3 ap, fun H5 r xr s5 nr hr5 dR => ?_⟩
    have drr := dr3.same s5
    have nrd : r ≠ d := (dr3.ne nr).1
    refine ⟨d, l, r, xr, _, rfl, drr, hr5, dR, by rw [tups_len]; exact pow_le2 n3 ap _ (Nat.le_refl _), nrd, fun H6 b ys J dr6 k6 nb hb dJ lJ sJ => ?_⟩
    refine ⟨b, ys, rfl, .inl ⟨SqL.of hb, fun u nu => ⟨(by show 3 ≤ sizeLine; decide), fun w nw => ?_⟩⟩⟩
    have su := same_upd (o := .tup ys) nu
    have sw := same_upd (o := .tup [.str p.1, .int (p.2 : Nat), .ref u]) nw
    have k36 : Kp d H4 _ := ((Kp.of s5).trans k6).trans (.of (su.trans sw))
    have hM6 := k36 _ _ hM nMd
    have kl6 := Kl.dr k36 dr3
    refine ⟨acc, hM6, small1000 (by omega), acc ++ [.ref w], L ++ [(p, J)], ((dr6.same su).same sw).kp Kp.upd ⟨nMd, nMl⟩, kp_own (k3.trans k36) nM, upd_same, ?_, ?_, fun z hz => ?_⟩
    · refine RelL.kl (Kl.upd hM6) (RelL.append (dL.kl kl6) (.cons ⟨w, u, ys, rfl, SqT.of upd_same, SqT.of (sw _ _ upd_same), RowsT.same (su.trans sw) dJ⟩ .nil))
    · rw [List.map_append, mL, List.take_add_one, hp]; rfl
    · rcases List.mem_append.mp hz with hz | hz
      · exact okL z hz
      · rw [List.mem_singleton.mp hz]
        rw [tups_len] at lJ
        refine ⟨fun r hr => ?_, Nat.le_trans lJ (pow9 n3 ap), fun e0 => ?_⟩
        · exact tups_mem.mp (sJ r hr)
        · have e0 : p.2 = 0 := e0
          rw [e0] at lJ
          exact lJ
  · rintro H3 ⟨acc, L, dr3, k3, hM, dL, mL, okL⟩
    rw [lxs, List.take_length] at mL
    exact q H3 M acc L dr3 k3 nM hM dL mL okL
/-- a row moved on -/
def mvR (n t : Nat) (r : List Nat) : List Nat := r.map fun x => (x + t) % n
theorem lc_moved {K : PySem.W.Frag} {H : Hp} {b : Addr} {xs : List V} {R : List (List Nat)} {n k t : Nat} {y0 y2 y3 y4 y5 y7 y8 y10 y11 : Option V} {Q : VK} (n1 : 1 ≤ n) (n3 : n ≤ 3) (lt : t < n) (hB : SqT K H b xs) (dx : RowsT H xs R) (rok : RowsOk n k R) (k2 : k ≤ 2) (lR : R.length ≤ 9)
    (q : ∀ (H' : Hp) (M : Addr) (ys : List V), Same H H' → H' M = some (.lst ys) → RowsT H' ys (R.map (mvR n t)) → Q (.ref M) H') :
    tLc (iTup K (tVar 9)) (gName 10) tYes (tCB (rTupO K) (tCons (tLc (iTup K (tVar 10)) (gName 11) tYes (tOp (rI (fun _ j => 0 < j) fun i j => V.int (i % j)) (tOp (rI0 fun i j => V.int (i + j)) (tVar 11) (tVar 6)) (tVar 1)) [11]) tNil)) [10]
      [y0, some (.int (n : Nat)), y2, y3, y4, y5, some (.int (t : Nat)), y7, y8, some (.ref b), y10, y11] H Q := by
  refine ⟨_, rfl, b, rfl, ⟨_, hB⟩, fun M nM => ?_⟩
  have lx := RowsT.length dx
  refine lc_it (walk_tup (K := K) (a := b) (xs := xs)) (fun i H3 => ∃ acc : List V, Same H H3 ∧ H3 M = some (.lst acc) ∧ RowsT H3 acc ((R.take i).map (mvR n t))) ⟨[], same_upd nM, upd_same, .nil⟩ (fun i H3 _ ⟨_, s3, _⟩ => Same.sqt s3 hB) ?_ ?_
  · rintro i v H3 H4 hi ⟨acc, s3, hM, dA⟩ ⟨rfl, hv⟩
    obtain ⟨u, r, rfl, hr, hu⟩ := RowsT.get' dx hv
    obtain ⟨rl, rb⟩ := rok r (List.mem_of_getElem? hr)
    have hu3 := s3 _ _ hu
    refine ⟨rfl, _, rfl, u, rfl, ⟨_, SqT.of hu3⟩, fun N nN => ?_⟩
    have lv : (rowV r).length = r.length := by rw [rowV, List.length_map]
    refine lc_it (walk_tup (K := K) (a := u) (xs := rowV r)) (fun i H5 => Same H4 H5 ∧ H5 N = some (.lst (rowV (mvR n t (r.take i))))) ⟨same_upd nN, upd_same⟩ (fun i H5 _ ⟨s5, _⟩ => SqT.of (s5 _ _ hu3)) ?_ ?_
    · rintro j y H5 H6 hj ⟨s5, hN⟩ ⟨rfl, hy⟩
      obtain ⟨x, hx, rfl⟩ := get_map hy
      refine ⟨rfl, _, rfl, _, rfl, _, _, rfl, rfl, _, rfl, _, _, rfl, rfl, (by show (0 : Int) < (n : Nat); omega), _, hN, small1000 (by rw [rowV, mvR, List.length_map, List.length_map]; have := List.length_take_le' j r; omega), same_own s5 nN, ?_⟩
      rw [upd_same, List.take_add_one, hx]
      have e : ((x : Int) + (t : Nat)) % (n : Nat) = (((x + t) % n : Nat) : Int) := by rw [Int.natCast_emod]; rfl
      show some (HO.lst (rowV (mvR n t (r.take j)) ++ [V.int (((x : Int) + (t : Nat)) % (n : Nat))])) = _
      rw [e, mvR, mvR, List.map_append, rowV, rowV, List.map_append]; rfl
    · rintro H5 ⟨s5, hN⟩
      rw [lv, List.take_length] at hN
      refine ⟨N, _, rfl, .inl ⟨SqL.of hN, fun w nw => ?_⟩⟩
      have sw := same_upd (o := .tup (rowV (mvR n t r))) nw
      have s45 := s5.trans sw
      have la := RowsT.length dA
      rw [List.length_map] at la
      have ll := List.length_take_le' i R
      refine ⟨acc, s45 _ _ hM, small1000 (by omega), acc ++ [.ref w], same_own (s3.trans s45) nM, upd_same, ?_⟩
      rw [List.take_add_one, hr, List.map_append]
      exact RowsT.kl (Kl.upd (s45 _ _ hM)) (RowsT.append (RowsT.same s45 dA) (.cons upd_same .nil))
  · rintro H3 ⟨acc, s3, hM, dA⟩
    rw [lx, List.take_length] at dA
    exact q H3 M acc s3 hM dA
theorem cut_signs {H : Hp} {a b c : V} (h : TIs H [a, b, c] [("e", 2), ("p", 1), ("q", 0)]) {lo hi : Int} (l0 : 0 ≤ lo) (l1 : lo < 2) (h0 : 1 ≤ hi) (h1 : hi ≤ 3) : ∃ sg : List (Str × Nat), TIs H (cutV [a, b, c] (some lo) (some hi)) sg ∧ (∀ s, s ∈ sg → s ∈ ([("e", 2), ("p", 1), ("q", 0)] : List (Str × Nat))) ∧ (sg.map (·.1)).Nodup ∧ sg.length ≤ 3 := by
  cases h with
  | cons e1 h =>
    cases h with
    | cons e2 h =>
      cases h with
      | cons e3 h =>
        have hl : lo = 0 ∨ lo = 1 := by omega
        have hh : hi = 1 ∨ hi = 2 ∨ hi = 3 := by omega
        rcases hl with rfl | rfl <;> rcases hh with rfl | rfl | rfl
        · exact ⟨[("e", 2)], .cons e1 .nil, by decide, by decide, by decide⟩
        · exact ⟨[("e", 2), ("p", 1)], .cons e1 (.cons e2 .nil), by decide, by decide, by decide⟩
        · exact ⟨[("e", 2), ("p", 1), ("q", 0)], .cons e1 (.cons e2 (.cons e3 .nil)), by decide, by decide, by decide⟩
        · exact ⟨[], .nil, by decide, by decide, by decide⟩
        · exact ⟨[("p", 1)], .cons e2 .nil, by decide, by decide, by decide⟩
        · exact ⟨[("p", 1), ("q", 0)], .cons e2 (.cons e3 .nil), by decide, by decide, by decide⟩
/-! ### the law's two structures -/
section
variable {P : Program} {w : World} {K : PySem.W.Frag} {mg : Str → Option Value} {base : Heap}
def three : List (Str × Nat) := [("e", 2), ("p", 1), ("q", 0)]
def spLPair (K : PySem.W.Frag) : Sp := fun vs H Q _ => ∃ (d l : Addr), vs = [.ref d] ∧ DrA H d l ∧
  ∀ (H' : Hp) (p r1 r2 : Addr) (n m : Nat) (ys1 ys2 : List V) (L1 L2 : List Wrl), DrA H' d l → Kp d H H' → p ≠ d → r1 ≠ d → r2 ≠ d → H' p = some (.lst [.int (n : Nat), .ref r1, .int (m : Nat), .ref r2]) → H' r1 = some (.lst ys1) → RelL K H' ys1 L1 → H' r2 = some (.lst ys2) → RelL K H' ys2 L2 →
    n ≤ 3 → m ≤ 3 → RelsOk n L1 → RelsOk m L2 → L1.map (·.1) = L2.map (·.1) → (∀ s, s ∈ L1.map (·.1) → s ∈ three) → Q (.ref p) H'
def midSc : Scope := { kind := .function, names := [(".0", .local), ("row", .local), ("tuple", .globalImplicit), ("first", .cell), ("turn", .cell)], isGenerator := false, isCoroutine := false }
theorem sc_lpair : FnScope ["draws", "first", "second", "signs", "one", "other", "turn", "name", "arity", "rows", "row", "x"] ["draws"] (defScope (top 47)) := ⟨rfl, rfl, rfl, by decide +kernel, rfl, by decide +kernel, by decide +kernel⟩
theorem has_lpair (D : Def K mg "_law_pair" ["draws"] (top 47)) (T : Txt mg) (C1 : Has P w K mg base 2 "_law_draw" ["draws"] spDraw) (C2 : Has P w K mg base 1 "_law_tuples" ["n", "width"] (spTups K)) (C3 : Has P w K mg base 3 "_law_subset" ["draws", "rows"] (spSubset K)) : Has P w K mg base 4 "_law_pair" ["draws"] (spLPair K) := D.has fun f fd F => by
  obtain ⟨f1, fd1, G_law_draw, g_law_draw, k_law_draw, b_law_draw⟩ := C1
  obtain ⟨f2, fd2, G_law_tuples, g_law_tuples, k_law_tuples, b_law_tuples⟩ := C2
  obtain ⟨f3, fd3, G_law_subset, g_law_subset, k_law_subset, b_law_subset⟩ := C3
  refine F.ok sc_lpair (fun vs H Q E h => ?_) (fun cdv A outer s H vs Q E hr h => ?_)
  · obtain ⟨d, l, rfl, _⟩ := h; rfl
  · obtain ⟨d, l, rfl, dr, q⟩ := h
    have R_law_draw : Room 2 _ := hr.mono (by decide)
    have R_law_tuples : Room 1 _ := hr.mono (by decide)
    have R_law_subset : Room 3 _ := hr
    refine ⟨_, PSs.nox (pss_cons (ps_set (i := 1) sc_lpair.nd rfl (Or.inr rfl) (pe_op op_add pe_int (pe_op op_mod (pe_call G_law_draw R_law_draw (by rfl) g_law_draw k_law_draw b_law_draw .nil pass0 (pa_cons (pv 0) pa_nil)) pe_int))) (pss_cons (ps_set (i := 2) sc_lpair.nd rfl (Or.inr rfl) (pe_op op_add pe_int (pe_op op_mod (pe_call G_law_draw R_law_draw (by rfl) g_law_draw k_law_draw b_law_draw .nil pass0 (pa_cons (pv 0) pa_nil)) pe_int))) (pss_cons (ps_set (i := 3) sc_lpair.nd rfl (Or.inl rfl) (pe_slice sl_list (pe_lst (pa_cons (pe_tup (pa_cons pe_str (pa_cons pe_int pa_nil))) (pa_cons (pe_tup (pa_cons pe_str (pa_cons pe_int pa_nil))) (pa_cons (pe_tup (pa_cons pe_str (pa_cons pe_int pa_nil))) pa_nil)))) (po_some (pe_op op_mod (pe_call G_law_draw R_law_draw (by rfl) g_law_draw k_law_draw b_law_draw .nil pass0 (pa_cons (pv 0) pa_nil)) pe_int)) (po_some (pe_op op_add pe_int (pe_op op_mod (pe_call G_law_draw R_law_draw (by rfl) g_law_draw k_law_draw b_law_draw .nil pass0 (pa_cons (pv 0) pa_nil)) pe_int))))) (pss_cons (ps_setLc (i := 4) (own := [("name", 7), ("arity", 8)]) rfl sc_lpair.nd rfl rfl (sw_true rfl rfl rfl (by decide +kernel)) (pi_list (pv 3)) (blkOk_by (N := ["draws", "first", "second", "signs", "one", "other", "turn", "name", "arity", "rows", "row", "x"]) (sc := defScope (top 47)) (by decide +kernel)) (fun _ _ _ _ _ => (pg_names2 (K := K) rfl rfl sc_lpair.nd (i := 7) rfl (Or.inl rfl) (j := 8) rfl (Or.inl rfl))) (fun _ _ _ _ _ => pts_nil) (fun _ _ _ _ _ => (pe_tup (pa_cons (pv 7) (pa_cons (pv 8) (pa_cons (pe_callTy (T := "tuple") (call_tuple_ofK (K := K) rfl) (by rfl) T.n_tuple (by decide +kernel) (pa_cons (pe_call G_law_subset R_law_subset (by rfl) g_law_subset k_law_subset b_law_subset .nil pass0 (pa_cons (pv 0) (pa_cons (pe_call G_law_tuples R_law_tuples (by rfl) g_law_tuples k_law_tuples b_law_tuples .nil pass0 (pa_cons (pv 1) (pa_cons (pv 8) pa_nil))) pa_nil))) pa_nil)) pa_nil)))))) (pss_cons (ps_setLc (i := 5) (own := [("name", 7), ("arity", 8)]) rfl sc_lpair.nd rfl rfl (sw_true rfl rfl rfl (by decide +kernel)) (pi_list (pv 3)) (blkOk_by (N := ["draws", "first", "second", "signs", "one", "other", "turn", "name", "arity", "rows", "row", "x"]) (sc := defScope (top 47)) (by decide +kernel)) (fun _ _ _ _ _ => (pg_names2 (K := K) rfl rfl sc_lpair.nd (i := 7) rfl (Or.inl rfl) (j := 8) rfl (Or.inl rfl))) (fun _ _ _ _ _ => pts_nil) (fun _ _ _ _ _ => (pe_tup (pa_cons (pv 7) (pa_cons (pv 8) (pa_cons (pe_callTy (T := "tuple") (call_tuple_ofK (K := K) rfl) (by rfl) T.n_tuple (by decide +kernel) (pa_cons (pe_call G_law_subset R_law_subset (by rfl) g_law_subset k_law_subset b_law_subset .nil pass0 (pa_cons (pv 0) (pa_cons (pe_call G_law_tuples R_law_tuples (by rfl) g_law_tuples k_law_tuples b_law_tuples .nil pass0 (pa_cons (pv 2) (pa_cons (pv 8) pa_nil))) pa_nil))) pa_nil)) pa_nil)))))) (pss_cons (ps_if (PW.pt (pw_and (pt_cmpR op_eq (pv 1) (pv 2) (nomark _)) (pw_and1 (pt_cmpR op_eq (pe_op op_mod (pe_call G_law_draw R_law_draw (by rfl) g_law_draw k_law_draw b_law_draw .nil pass0 (pa_cons (pv 0) pa_nil)) pe_int) pe_int (nomark _))))) (pss_cons (ps_set (i := 6) sc_lpair.nd rfl (Or.inr rfl) (pe_op op_mod (pe_call G_law_draw R_law_draw (by rfl) g_law_draw k_law_draw b_law_draw .nil pass0 (pa_cons (pv 0) pa_nil)) (pv 1))) (pss_cons (ps_set (i := 5) sc_lpair.nd rfl (Or.inl rfl) (pe_lst pa_nil)) (pss_one (ps_for PassesOwn.never rfl (pi_list (pv 4)) (pg_tup rfl (pgs_cons (pg_name (i := 7) sc_lpair.nd rfl (Or.inl rfl)) (pgs_cons (pg_name (i := 8) sc_lpair.nd rfl (Or.inl rfl)) (pgs_cons (pg_name (i := 9) sc_lpair.nd rfl (Or.inl rfl)) pgs_nil)))) (pss_one (ps_expr (pe_bm PySem.F.plainAttrs_list PySem.F.slot_list_append PySem.F.type_list_append mt_append (pv 5) (pa_cons (pe_tup (pa_cons (pv 7) (pa_cons (pv 8) (pa_cons (pe_callTy call_tuple_of (by rfl) T.n_tuple (by decide +kernel) (pa_cons (pe_callB cr_sortM (by rfl) T.n_sorted (by decide +kernel) (pa_cons (pe_lc (own := [("row", 10)]) rfl sc_lpair.nd (pi_tup (pv 9)) (blkOk_by (N := ["draws", "first", "second", "signs", "one", "other", "turn", "name", "arity", "rows", "row", "x"]) (sc := defScope (top 47)) (by decide +kernel)) (fun _ _ _ _ _ => (pg_name (i := 10) sc_lpair.nd rfl (Or.inl rfl))) (fun _ _ _ _ _ => pts_nil) (fun _ _ _ _ _ => (pe_callTy (T := "tuple") (call_tuple_ofK (K := K) rfl) (by rfl) T.n_tuple (by decide +kernel) (pa_cons (by exact pe_lc (own := [("x", 11)]) rfl sc_lpair.nd (pi_tupK (K := K) rfl (pv 10)) (blkOk_by (N := ["draws", "first", "second", "signs", "one", "other", "turn", "name", "arity", "rows", "row", "x"]) (sc := midSc) (by decide +kernel)) (fun _ _ _ _ _ => (pg_name (i := 11) sc_lpair.nd rfl (Or.inl rfl))) (fun _ _ _ _ _ => pts_nil) (fun _ _ _ _ _ => (pe_op op_mod (pe_op op_add (pv 11) (pv 6)) (pv 1))) (hs := fun _ => rfl)) pa_nil)))) pa_nil)) pa_nil)) pa_nil)))) pa_nil)))))))) pss_nil) (pss_one (ps_ret (pe_lst (pa_cons (pv 1) (pa_cons (pv 4) (pa_cons (pv 2) (pa_cons (pv 5) pa_nil))))))))))))), ?_⟩
    have one3 : ∀ z : Int, ∃ n : Nat, (1 : Int) + z % 3 = (n : Nat) ∧ 1 ≤ n ∧ n ≤ 3 := fun z => ⟨(1 + z % 3).toNat, by omega, by omega, by omega⟩
    refine ⟨_, rfl, d, l, rfl, dr, fun z1 H1 _ _ dr1 k1 => ?_⟩
    refine ⟨_, _, rfl, rfl, (by show (0 : Int) < 3; decide), _, _, rfl, rfl, ?_⟩
    obtain ⟨n, hn, n1, n3⟩ := one3 z1
    show gName 1 (V.int (1 + z1 % 3)) _ _ _
    rw [hn]
    refine ⟨_, rfl, d, l, rfl, dr1, fun z2 H2 _ _ dr2 k2 => ?_⟩
    refine ⟨_, _, rfl, rfl, (by show (0 : Int) < 3; decide), _, _, rfl, rfl, ?_⟩
    obtain ⟨m, hm, m1, m3⟩ := one3 z2
    show gName 2 (V.int (1 + z2 % 3)) _ _ _
    rw [hm]
    refine ⟨(by show 2 ≤ sizeLine; decide), fun t1 nt1 => ⟨(by show 2 ≤ sizeLine; decide), fun t2 nt2 => ⟨(by show 2 ≤ sizeLine; decide), fun t3 nt3 => ⟨(by show 3 ≤ sizeLine; decide), fun c nc => ?_⟩⟩⟩⟩
    have s1 := same_upd (o := .tup [V.str "e", V.int 2]) nt1
    have s2 := same_upd (o := .tup [V.str "p", V.int 1]) nt2
    have s3 := same_upd (o := .tup [V.str "q", V.int 0]) nt3
    have s4 := same_upd (o := .lst [V.ref t1, V.ref t2, V.ref t3]) nc
    have sA := ((s1.trans s2).trans s3).trans s4
    have dr3 := dr2.same sA
    have ti3 : TIs _ [V.ref t1, V.ref t2, V.ref t3] [("e", 2), ("p", 1), ("q", 0)] := .cons (((s2.trans s3).trans s4) _ _ upd_same) (.cons ((s3.trans s4) _ _ upd_same) (.cons (s4 _ _ upd_same) .nil))
    have hc := upd_same (H := upd (upd (upd H2 t1 (.tup [V.str "e", V.int 2])) t2 (.tup [V.str "p", V.int 1])) t3 (.tup [V.str "q", V.int 0])) (a := c) (o := .lst [V.ref t1, V.ref t2, V.ref t3])
    have ncd : c ≠ d := (dr2.same ((s1.trans s2).trans s3)).ne nc |>.1
    have kA := (k1.trans k2).trans (.of sA)
    generalize upd (upd (upd (upd H2 t1 (.tup [V.str "e", V.int 2])) t2 (.tup [V.str "p", V.int 1])) t3 (.tup [V.str "q", V.int 0])) c (.lst [V.ref t1, V.ref t2, V.ref t3]) = H3 at *
    refine ⟨_, rfl, d, l, rfl, dr3, fun z3 H4 _ _ dr4 k4 => ⟨_, _, rfl, rfl, (by show (0 : Int) < 2; decide), ?_⟩⟩
    refine ⟨_, rfl, _, rfl, d, l, rfl, dr4, fun z4 H5 _ _ dr5 k5 => ⟨_, _, rfl, rfl, (by show (0 : Int) < 3; decide), _, _, rfl, rfl, _, rfl, c, _, rfl, SqL.of ((k4.trans k5) _ _ hc ncd), fun p np => ?_⟩⟩
    have k45 := k4.trans k5
    obtain ⟨sg, tS, mS, ndS, lS⟩ := cut_signs (lo := z3 % 2) (hi := 1 + z4 % 3) (TIs.kl (Kl.dr k45 dr3) ti3) (by omega) (by omega) (by omega) (by omega)
    have s6 := same_upd (o := .lst (cutV [V.ref t1, V.ref t2, V.ref t3] (some (z3 % 2)) (some (1 + z4 % 3)))) np
    have hp := upd_same (H := H5) (a := p) (o := .lst (cutV [V.ref t1, V.ref t2, V.ref t3] (some (z3 % 2)) (some (1 + z4 % 3))))
    have npd := (dr5.ne np).1
    have kB := (kA.trans k45).trans (.of s6)
    have dr6 := dr5.same s6
    have tS6 := TIs.kl (Kl.of s6) tS
    generalize cutV [V.ref t1, V.ref t2, V.ref t3] (some (z3 % 2)) (some (1 + z4 % 3)) = xs at *
    have ar : ∀ s, s ∈ sg → s.2 ≤ 2 := fun s hs => by
      have h1 := mS s hs
      have a3 : ∀ s ∈ ([("e", 2), ("p", 1), ("q", 0)] : List (Str × Nat)), s.2 ≤ 2 := by decide
      exact a3 s h1
    refine gN_i ?_
    dsimp only
    refine sq_i (as_i ?_)
    refine lc_rels (K := K) (n := n) (.inl ⟨rfl, rfl⟩) hp tS6 lS ar dr6 npd n3 fun H7 M ys1 L1 dr7 k7 nM hM1 dL1 mL1 ok1 => ?_
    have tS7 := TIs.kl (Kl.dr k7 dr6) tS6
    have hp7 := k7 _ _ hp npd
    have nMd := (dr6.ne nM).1
    refine gN_i ?_
    dsimp only
    refine sq_i (as_i ?_)
    refine lc_rels (K := K) (n := m) (.inr ⟨rfl, rfl⟩) hp7 tS7 lS ar dr7 npd m3 fun H8 M2 ys2 L2 dr8 k8 nM2 hM2 dL2 mL2 ok2 => ?_
    have nM2d := (dr7.ne nM2).1
    have kl8 := Kl.dr k8 dr7
    have hM8 := k8 _ _ hM1 nMd
    have dL18 := dL1.kl kl8
    have kC := (kB.trans k7).trans k8
    refine gN_i ?_
    dsimp only
    refine sq_i ?_
    refine ⟨_, rfl, _, rfl, rfl, _, rfl, ?_⟩
    have rels : ∀ {n : Nat} {L : List Wrl}, 1 ≤ n → n ≤ 3 → L.map (·.1) = sg → (∀ z, z ∈ L → Rl3 n z) → RelsOk n L := fun {n L} n1 n3 mL ok => by
      refine ⟨n1, by omega, ?_, ?_, fun z hz => ?_⟩
      · have := congrArg List.length mL
        rw [List.length_map] at this
        omega
      · have e : (L.map fun z => z.1.1) = sg.map (·.1) := by rw [← mL, List.map_map]; rfl
        rw [e]; exact ndS
      · have h1 : z.1 ∈ sg := by rw [← mL]; exact List.mem_map.mpr ⟨z, hz, rfl⟩
        have h2 := mS _ h1
        have nm3 : ∀ s ∈ ([("e", 2), ("p", 1), ("q", 0)] : List (Str × Nat)), nmB s.1 = true := by decide +kernel
        have r3 := ok z hz
        exact ⟨r3.rows, by have := r3.few; omega, nm_of (nm3 _ h2), by have := ar _ h1; omega, pow_le2 n3 (ar _ h1) _ (Nat.le_refl _)⟩
    have fin : ∀ (H9 : Hp) (M' : Addr) (ys' : List V) (L' : List Wrl), DrA H9 d l → Kp d H H9 → H9 M = some (.lst ys1) → RelL K H9 ys1 L1 → H9 M' = some (.lst ys') → RelL K H9 ys' L' → M' ≠ d → L'.map (·.1) = sg → (∀ z, z ∈ L' → Rl3 m z) → ∀ p, H9 p = none → Q (.ref p) (upd H9 p (.lst [.int (n : Nat), .ref M, .int (m : Nat), .ref M'])) := fun H9 M' ys' L' dr9 k9 hM dL hM' dL' nM'd mL' ok' p np => by
      have sp := same_upd (o := .lst [.int (n : Nat), .ref M, .int (m : Nat), .ref M']) np
      refine q _ p M M' n m ys1 ys' L1 L' (dr9.same sp) (k9.trans (.of sp)) (dr9.ne np).1 nMd nM'd upd_same (sp _ _ hM) (RelL.same sp dL) (sp _ _ hM') (RelL.same sp dL') n3 m3 (rels n1 n3 mL1 ok1) (rels m1 m3 mL' ok') (mL1.trans mL'.symm) fun s hs => ?_
      rw [mL1] at hs
      exact mS s hs
    by_cases e : n = m
    · refine cT (k := decide (V.int (n : Nat) = V.int (m : Nat))) (by rw [vint_dec]; exact decide_eq_true e) ?_
      subst e
      refine ⟨_, rfl, d, l, rfl, dr8, fun z5 H9 _ _ dr9 k9 => ⟨_, _, rfl, rfl, (by show (0 : Int) < 3; decide), rfl, _, rfl, ite2 (fun _ => ?_) (fun _ => ?_)⟩⟩
      · refine ⟨_, rfl, d, l, rfl, dr9, fun z6 H10 _ _ dr10 k10 => ⟨_, rfl, _, _, rfl, rfl, (by show (0 : Int) < (n : Nat); omega), ?_⟩⟩
        have xt : ∃ t : Nat, z6 % (n : Nat) = (t : Nat) ∧ t < n := ⟨(z6 % (n : Nat)).toNat, by have := Int.emod_nonneg z6 (b := (n : Nat)) (by omega); omega, by have := Int.emod_lt_of_pos z6 (b := (n : Nat)) (by omega); have := Int.emod_nonneg z6 (b := (n : Nat)) (by omega); omega⟩
        obtain ⟨t, ht, lt⟩ := xt
        show gName 6 (V.int (z6 % (n : Nat))) _ _ _
        rw [ht]
        refine gN_i ?_
        dsimp only
        refine sq_i (as_i ?_)
        refine ⟨Nat.zero_le _, fun c1 nc1 => ?_⟩
        have sc := same_upd (o := .lst []) nc1
        obtain ⟨nc1d, nc1l⟩ := dr10.ne nc1
        have k8c : Kp d H8 (upd H10 c1 (.lst [])) := (k9.trans k10).trans (.of sc)
        have drc := dr10.same sc
        have hMc := k8c _ _ hM8 nMd
        have dLc := dL18.kl (Kl.dr k8c dr8)
        have hcc := upd_same (H := H10) (a := c1) (o := .lst [])
        have nMc1 : M ≠ c1 := fun z => by
          have h1 := (k9.trans k10) _ _ hM8 nMd
          rw [z, nc1] at h1; cases h1
        refine gN_i ?_
        dsimp only
        generalize upd H10 c1 (.lst []) = Hc at *
        have lys := dLc.length
        refine ⟨_, rfl, M, rfl, ⟨_, SqL.of hMc⟩, for_list (K := K) (a := M) (xs := ys1) (fun i σ H2 => ∃ (y7 y8 y9 : Option V) (acc : List V) (L' : List Wrl), σ = [some (.ref d), some (.int (n : Nat)), some (.int (n : Nat)), some (.ref p), some (.ref M), some (.ref c1), some (.int (t : Nat)), y7, y8, y9, none, none] ∧
          Kp c1 Hc H2 ∧ H2 c1 = some (.lst acc) ∧ RelL K H2 acc L' ∧ L'.map (·.1) = (L1.take i).map (·.1) ∧ ∀ z, z ∈ L' → Rl3 n z) ⟨none, none, none, [], [], rfl, .refl _ _, hcc, .nil, rfl, fun z hz => nomatch hz⟩ (fun i σ H2 _ ⟨_, _, _, _, _, _, k2, _⟩ => SqL.of (k2 _ _ hMc nMc1)) ?_ ?_⟩
        · rintro i y σ H2 hi ⟨y7, y8, y9, acc, L', rfl, k2, hc2, dA, mA, okA⟩
          have kl2 := Kl.kp k2 hcc
          obtain ⟨z, hz, u, b, xs, rfl, hu, hb, hR⟩ := RelL.get' (dLc.kl kl2) hi
          have mz := List.mem_of_getElem? hz
          have r3 := ok1 z mz
          have az : z.1.2 ≤ 2 := ar _ (by rw [← mL1]; exact List.mem_map.mpr ⟨z, mz, rfl⟩)
          have la := dA.length
          have lL : L'.length ≤ 3 := by
            have h1 := congrArg List.length mA
            have h2 := congrArg List.length mL1
            rw [List.length_map, List.length_map, List.length_take] at h1
            rw [List.length_map] at h2
            omega
          refine ⟨u, _, rfl, hu, rfl, _, _, rfl, _, _, rfl, _, _, rfl, rfl, ?_⟩
          refine ⟨_, rfl, .inl ⟨rfl, _, SqL.of hc2⟩, _, rfl, _, rfl, ?_⟩
          refine co_i (cb_i ?_)
          refine co_i ?_
          refine cb_i ?_
          refine co_i ?_
          refine lc_moved (K := K) (k := z.1.2) n1 n3 lt hb hR r3.rows az r3.few fun H4 N zs s4 hN dz => ?_
          have lz := RowsT.length dz
          rw [List.length_map] at lz
          have f9 := r3.few
          have ro := r3.one
          have mvok : ∀ r, r ∈ z.2.map (mvR n t) → r.length = z.1.2 ∧ ∀ x, x ∈ r → x < n := fun r hr => by
            obtain ⟨r0, hr0, rfl⟩ := List.mem_map.mp hr
            refine ⟨by rw [mvR, List.length_map]; exact (r3.rows r0 hr0).1, fun x hx => ?_⟩
            obtain ⟨x0, _, rfl⟩ := List.mem_map.mp hx
            exact Nat.mod_lt _ (by omega)
          refine ⟨N, zs, z.1.2, 64, rfl, SqL.of hN, by omega, by omega, fun x hx => ?_, fun ws p' pm _ np' => ?_⟩
          · obtain ⟨i', hi'⟩ := List.mem_iff_getElem?.mp hx
            obtain ⟨u', r', rfl, hr', hu'⟩ := RowsT.get' dz hi'
            obtain ⟨q1, q2⟩ := mvok r' (List.mem_of_getElem? hr')
            refine ⟨intR r', ⟨u', rfl, ?_⟩, by unfold intR; rw [List.length_map]; exact q1, fun y hy => ?_⟩
            · rw [← rowV_int]; exact SqT.of hu'
            · obtain ⟨x0, hx0, rfl⟩ := List.mem_map.mp hy
              have := q2 x0 hx0
              omega
          · obtain ⟨R', dR', pR⟩ := RowsT.perm pm dz
            have sp' := same_upd (o := .lst ws) np'
            refine ⟨p', ws, rfl, .inl ⟨SqL.of upd_same, fun l' nl' => ⟨(by show 3 ≤ sizeLine; decide), fun w' nw' => ?_⟩⟩⟩
            have sl' := same_upd (o := .tup ws) nl'
            have sw' := same_upd (o := .tup [.str z.1.1, .int (z.1.2 : Nat), .ref l']) nw'
            have s4w := ((s4.trans sp').trans sl').trans sw'
            refine ⟨c1, acc, _, rfl, rfl, s4w _ _ hc2, small1000 (by omega), ?_⟩
            have kl5 := Kl.upd (o := .lst (acc ++ [.ref w'])) (s4w _ _ hc2)
            refine ⟨_, _, _, acc ++ [.ref w'], L' ++ [(z.1, R')], rfl, fun b o e nb => (upd_ne nb).trans (s4w _ _ (k2 _ _ e nb)), upd_same, ?_, ?_, fun z' hz' => ?_⟩
            · exact RelL.kl kl5 (RelL.append (RelL.same s4w dA) (.cons ⟨w', l', ws, rfl, SqT.of upd_same, SqT.of (sw' _ _ upd_same), RowsT.same ((sp'.trans sl').trans sw') dR'⟩ .nil))
            · rw [List.map_append, mA, List.take_add_one, hz, List.map_append]; rfl
            · rcases List.mem_append.mp hz' with hz' | hz'
              · exact okA z' hz'
              · rw [List.mem_singleton.mp hz']
                have lp := pR.length_eq
                rw [List.length_map] at lp
                refine ⟨fun r hr => mvok r (pR.mem_iff.mp hr), ?_, fun e0 => ?_⟩
                · show R'.length ≤ 9
                  omega
                · have := ro e0
                  show R'.length ≤ 1
                  omega
        · rintro σ H2 ⟨y7, y8, y9, acc, L', rfl, k2, hc2, dA, mA, okA⟩
          rw [lys, List.take_length, mL1] at mA
          have kl2 := Kl.kp k2 hcc
          exact ⟨_, rfl, _, rfl, _, rfl, _, rfl, (by show 4 ≤ sizeLine; decide), fin H2 c1 acc L' (drc.kp k2 ⟨nc1d, nc1l⟩) (fun b o e nb => by
            have h1 := (kC.trans k8c) b o e nb
            refine k2 b o h1 fun z => ?_
            have h2 := (kC.trans (k9.trans k10)) b o e nb
            rw [z, nc1] at h2
            cases h2) (k2 _ _ hMc nMc1) (dLc.kl kl2) hc2 dA nc1d mA okA⟩
      · have kl9 := Kl.dr k9 dr8
        exact ⟨_, rfl, _, rfl, _, rfl, _, rfl, (by show 4 ≤ sizeLine; decide), fin H9 M2 ys2 L2 dr9 (kC.trans k9) (k9 _ _ hM8 nMd) (dL18.kl kl9) (k9 _ _ hM2 nM2d) (dL2.kl kl9) nM2d mL2 ok2⟩
    · refine cF (k := decide (V.int (n : Nat) = V.int (m : Nat))) (by rw [vint_dec]; exact decide_eq_false e) ?_
      refine cF (k := false) rfl ?_
      exact ⟨_, rfl, _, rfl, _, rfl, _, rfl, (by show 4 ≤ sizeLine; decide), fin H8 M2 ys2 L2 dr8 kC hM8 dL18 hM2 dL2 nM2d mL2 ok2⟩
end
/-! ### a row in a tuple of rows -/
theorem eqv_rowI : ∀ r s : List Nat, PyData.eqvAll (r.map fun x => PyData.int (x : Nat)) (s.map fun x => PyData.int (x : Nat)) = decide (r = s)
  | [], [] => by rw [List.map_nil, PyData.eqvAll]; rfl
  | [], y :: s => by rw [List.map_nil, List.map_cons, PyData.eqvAll]; · rfl
                     all_goals (intros; contradiction)
  | x :: r, [] => by rw [List.map_nil, List.map_cons, PyData.eqvAll]; · rfl
                     all_goals (intros; contradiction)
  | x :: r, y :: s => by
    rw [List.map_cons, List.map_cons, PyData.eqvAll, eqv_rowI r s, PyData.eqv]
    by_cases e : x = y
    · subst e; simp
    · have e2 : ¬ ((x : Int) = y) := fun z => e (by omega)
      simp [e, e2]
theorem eqv_row (r s : List Nat) : PyData.eqv (rowD r) (rowD s) = decide (r = s) := by
  unfold rowD
  rw [PyData.eqv]
  exact eqv_rowI r s
theorem any_row (l : List (List Nat)) (r : List Nat) : ((l.map rowD).any fun z => PyData.eqv z (rowD r)) = decide (r ∈ l) := by
  rw [List.any_map]
  by_cases h : r ∈ l
  · rw [decide_eq_true h]
    exact List.any_eq_true.mpr ⟨r, h, by rw [Function.comp, eqv_row]; exact decide_eq_true rfl⟩
  · rw [decide_eq_false h]
    refine List.any_eq_false.mpr fun q hq z => h ?_
    rw [Function.comp, eqv_row] at z
    rw [← of_decide_eq_true z]
    exact hq
theorem lay_ints : ∀ r : List Nat, PyData.canLayAll0 (r.map fun x => PyData.int (x : Nat)) = true
  | [] => by rw [List.map_nil, PyData.canLayAll0]
  | x :: r => by rw [List.map_cons, PyData.canLayAll0, PyData.canLay0, lay_ints r]; rfl
theorem dep_ints : ∀ r : List Nat, PyData.depthAll (r.map fun x => PyData.int (x : Nat)) = 0
  | [] => by rw [List.map_nil, PyData.depthAll]
  | x :: r => by rw [List.map_cons, PyData.depthAll, dep_ints r, PyData.depth]; all_goals first | rfl | (intros; contradiction)
theorem dep_row (r : List Nat) : (rowD r).depth = 1 := by
  unfold rowD
  rw [PyData.depth, dep_ints]
theorem lay_row (r : List Nat) : (rowD r).canLay0 = true := by
  unfold rowD
  rw [PyData.canLay0, lay_ints]
theorem shaped_row (r : List Nat) : SeqAt.shaped (rowD r) = true := by
  unfold SeqAt.shaped
  rw [lay_row, dep_row]; rfl
theorem lay_rows : ∀ l : List (List Nat), PyData.canLayAll0 (l.map rowD) = true
  | [] => by rw [List.map_nil, PyData.canLayAll0]
  | r :: l => by rw [List.map_cons, PyData.canLayAll0, lay_row, lay_rows l]; rfl
def rInT (K : PySem.W.Frag) : R2 := fun x y H Q => ∃ d ds, Dp K H x d ∧ Dp K H y (.tuple ds) ∧ SeqAt.shaped d = true ∧ PyData.canLayAll0 ds = true ∧ Q (.bl (ds.any fun z => PyData.eqv z d)) H
theorem op_inT {X : Cx} (hu : X.A.units + 65 < cLine) : OpR X (compareOp .In) (rInT X.K) := by
  intro pins s σ H x y v u Q I rx ry h
  obtain ⟨d, ds, hd, he, sd, se, q⟩ := h
  obtain ⟨as, r1⟩ := Dp.reads I d x v hd rx
  obtain ⟨bs, r2⟩ := Dp.reads I (.tuple ds) y u he ry
  exact SeqAt.in_tuple_reads r2 r1 se (SeqAt.canLay_of_shaped sd) (room_in_shaped sd hu) ⟨.bl _, H, I, rfl, q⟩
/-! ### the law: what is sound -/
section
variable {P : Program} {w : World} {K : PySem.W.Frag} {mg : Str → Option Value} {base : Heap}
def heldOf (es : List (Option (Nat × Nat))) : List (Nat × Nat) := es.filterMap id
theorem ps_noL (l : List (Nat × Nat)) : noLs (l.map pD) = true := noLs_all fun t ht => by
  obtain ⟨x, _, rfl⟩ := List.mem_map.mp ht
  exact noL_eD (some x)
theorem pair_at {H : Hp} {vs : List V} {ps : List (Nat × Nat)} {i : Nat} {v : V} (h : DpAll K H vs (ps.map pD)) (e : vs[i]? = some v) : ∃ (u : Addr) (p : Nat × Nat), v = .ref u ∧ ps[i]? = some p ∧ SqT K H u [.int (p.1 : Nat), .int (p.2 : Nat)] := by
  obtain ⟨dd, hd, dpy⟩ := DpAll.get' h e
  obtain ⟨p, hp, rfl⟩ := get_map hd
  obtain ⟨u, zs, e, hu, hz⟩ := Dp.tup_inv dpy
  obtain ⟨v1, w1, rfl, g1, hz⟩ := DpAll.cons_inv hz
  obtain ⟨v2, w2, rfl, g2, hz⟩ := DpAll.cons_inv hz
  obtain rfl := DpAll.nil_inv hz
  obtain rfl := Dp.int_inv g1
  obtain rfl := Dp.int_inv g2
  exact ⟨u, p, e, hp, hu⟩
theorem lc_held {c : Int} {g : Nat × Nat → Nat} (hg : ∀ p : Nat × Nat, atI [V.int (p.1 : Nat), V.int (p.2 : Nat)] c = some (V.int (g p : Nat))) {y0 y1 y3 y4 y5 y7 y8 y9 y10 y11 y12 : Option V} {H : Hp} {M t0 : Addr} {hs : List V} {held r : List (Nat × Nat)} {pl : List Nat} {Q : VK}
    (hM : H M = some (.lst hs)) (ent : ∀ i : Nat, i < hs.length → ∃ (u : Addr) (p : Nat × Nat), hs[i]? = some (.ref u) ∧ held[i]? = some p ∧ SqT K H u [.int (p.1 : Nat), .int (p.2 : Nat)]) (h0 : H t0 = some (.tup (rowV pl))) (er : r.map some = pl.map fun x => held[x]?) (lt : ∀ x, x ∈ pl → x < hs.length) (l : pl.length ≤ 6)
    (q : ∀ (H' : Hp) (N : Addr), Same H H' → H N = none → H' N = some (.lst (rowV (r.map g))) → Q (.ref N) H') :
    tLc (iTup K (tVar 6)) (gName 12) tYes (tOp (rIxT K) (tOp (rIxL K) (tVar 2) (tVar 12)) (tC (.int c))) [12] [y0, y1, some (.ref M), y3, y4, y5, some (.ref t0), y7, y8, y9, y10, y11, y12] H Q := by
  have lr : r.length = pl.length := by have := congrArg List.length er; rw [List.length_map, List.length_map] at this; exact this
  have lv : (rowV pl).length = pl.length := by rw [rowV, List.length_map]
  refine ⟨_, rfl, t0, rfl, ⟨_, SqT.of h0⟩, fun N nN => ?_⟩
  refine lc_it (walk_tup (K := K) (a := t0) (xs := rowV pl)) (fun i H2 => Same H H2 ∧ H2 N = some (.lst (rowV ((r.take i).map g)))) ⟨same_upd nN, upd_same⟩ (fun i H2 _ ⟨s2, _⟩ => SqT.of (s2 _ _ h0)) ?_ ?_
  · rintro i v H2 H3 hi ⟨s2, hN⟩ ⟨rfl, hv⟩
    obtain ⟨x, hx, rfl⟩ := get_map hv
    obtain ⟨u, p, eu, ep, hu⟩ := ent x (lt x (List.mem_of_getElem? hx))
    have hr : r[i]? = some p := by
      have e := congrArg (fun z => z[i]?) er
      simp only [List.getElem?_map, hx, Option.map_some] at e
      rw [ep] at e
      cases hri : r[i]? with
      | none => rw [hri] at e; cases e
      | some p' =>
        rw [hri] at e
        simp at e
        rw [e]
    refine ⟨rfl, _, rfl, _, rfl, M, hs, _, _, rfl, rfl, SqL.of (s2 _ _ hM), atI_nat eu, u, _, c, _, rfl, rfl, Same.sqt s2 hu, hg p, _, hN, small1000 (by rw [rowV, List.length_map, List.length_map]; have := List.length_take_le' i r; omega), fun b o e => (upd_ne (ne_of_none e nN)).trans (s2 _ _ e), ?_⟩
    rw [upd_same, List.take_add_one, hr, List.map_append, rowV, rowV, List.map_append]; rfl
  · rintro H2 ⟨s2, hN⟩
    rw [lv, ← lr, List.take_length] at hN
    exact q H2 N s2 nN hN
def spLSound (K : PySem.W.Frag) : Sp := fun vs H Q _ => ∃ (x : V) (a r1 r2 : Addr) (n m : Nat) (ys1 ys2 : List V) (L1 L2 : List Wrl) (es : List (Option (Nat × Nat))), vs = [.ref a, x] ∧ H a = some (.lst [.int (n : Nat), .ref r1, .int (m : Nat), .ref r2]) ∧ H r1 = some (.lst ys1) ∧ RelL K H ys1 L1 ∧ H r2 = some (.lst ys2) ∧ RelL K H ys2 L2 ∧
  L1.map (·.1) = L2.map (·.1) ∧ (L1.map fun z => z.1.1).Nodup ∧ (∀ z, z ∈ L1 → z.1.2 ≤ 2) ∧ L1.length ≤ 6 ∧ Dp K H x (.tuple (es.map eD)) ∧ es.length ≤ 3 ∧ ∀ (H' : Hp) (b : Bool), Same H H' → (b = true ↔ SoundP (heldOf es) L1 L2) → Q (.bl b) H'
theorem sc_ls : FnScope ["pair", "position", "held", "a", "b", "k", "row", "here", "there", "entry", "c", "d", "x"] ["pair", "position"] (defScope (top 49)) := ⟨rfl, rfl, rfl, by decide +kernel, rfl, by decide +kernel, by decide +kernel⟩
theorem has_lsound (D : Def K mg "_law_sound" ["pair", "position"] (top 49)) (T : Txt mg) (C1 : Has P w K mg base 1 "_law_tuples" ["n", "width"] (spTups K)) : Has P w K mg base 2 "_law_sound" ["pair", "position"] (spLSound K) := D.has fun f fd F => by
  obtain ⟨f1, fd1, G_law_tuples, g_law_tuples, k_law_tuples, b_law_tuples⟩ := C1
  refine F.ok sc_ls (fun vs H Q E h => ?_) (fun cdv A outer s H vs Q E hr h => ?_)
  · obtain ⟨x, a, r1, r2, n, m, ys1, ys2, L1, L2, es, rfl, _⟩ := h; rfl
  · obtain ⟨x, a, r1, r2, n, m, ys1, ys2, L1, L2, es, rfl, ha, h1, d1, h2, d2, sg, nd, ar, l6, hx, l3, q⟩ := h
    have R_law_tuples : Room 1 _ := hr
    refine ⟨_, PSs.nox (pss_cons (ps_set (i := 2) sc_ls.nd rfl (Or.inr rfl) (pe_lc (own := [("entry", 9)]) rfl sc_ls.nd (pi_tup (pv 1)) (blkOk_by (N := ["pair", "position", "held", "a", "b", "k", "row", "here", "there", "entry", "c", "d", "x"]) (sc := defScope (top 49)) (by decide +kernel)) (fun _ _ _ _ _ => (pg_name (i := 9) sc_ls.nd rfl (Or.inl rfl))) (fun _ _ _ _ _ => (pts_one (pt_cmpR op_notN (pv 9) pe_non (nomark _)))) (fun _ _ _ _ _ => (pv 9)))) (pss_cons (ps_for PassesOwn.never rfl (pi_list (pv 2)) (pg_tup rfl (pgs_cons (pg_name (i := 3) sc_ls.nd rfl (Or.inr rfl)) (pgs_cons (pg_name (i := 4) sc_ls.nd rfl (Or.inr rfl)) pgs_nil))) (pss_one (ps_if (pt_cmpR op_gt (pe_callB call_len_seq (by rfl) T.n_len PySem.boot_len (pa_cons (pe_lc (own := [("c", 10), ("d", 11)]) rfl sc_ls.nd (pi_list (pv 2)) (blkOk_by (N := ["pair", "position", "held", "a", "b", "k", "row", "here", "there", "entry", "c", "d", "x"]) (sc := defScope (top 49)) (by decide +kernel)) (fun _ _ _ _ _ => (pg_names2 (K := K) rfl rfl sc_ls.nd (i := 10) rfl (Or.inl rfl) (j := 11) rfl (Or.inl rfl))) (fun _ _ _ _ _ => (pts_one (pt_cmpR op_ne (pe_cmpR op_eq (pv 3) (pv 10) (nomark _)) (pe_cmpR op_eq (pv 4) (pv 11) (nomark _)) (nomark _)))) (fun _ _ _ _ _ => pe_int)) pa_nil)) pe_int (nomark _)) (pss_one (ps_ret pe_bl)) pss_nil))) (pss_cons (ps_for PassesOwn.never rfl (pi_range1 (by rfl) T.n_range (pa_cons (pe_callB call_len_seq (by rfl) T.n_len PySem.boot_len (pa_cons (pe_ix ix_list (pv 0) pe_int (fun _ _ => rfl)) pa_nil)) pa_nil)) (pg_name (i := 5) sc_ls.nd rfl (Or.inl rfl)) (pss_one (ps_for PassesOwn.never rfl (pi_list (pe_call G_law_tuples R_law_tuples (by rfl) g_law_tuples k_law_tuples b_law_tuples .nil pass0 (pa_cons (pe_callB call_len_seq (by rfl) T.n_len PySem.boot_len (pa_cons (pv 2) pa_nil)) (pa_cons (pe_ix ix_tup (pe_ix ix_list (pe_ix ix_list (pv 0) pe_int (fun _ _ => rfl)) (pv 5) (fun _ _ => rfl)) pe_int (fun _ _ => rfl)) pa_nil)))) (pg_name (i := 6) sc_ls.nd rfl (Or.inl rfl)) (pss_cons (ps_set (i := 7) sc_ls.nd rfl (Or.inl rfl) (pe_callTy call_tuple_of (by rfl) T.n_tuple (by decide +kernel) (pa_cons (pe_lc (own := [("x", 12)]) rfl sc_ls.nd (pi_tup (pv 6)) (blkOk_by (N := ["pair", "position", "held", "a", "b", "k", "row", "here", "there", "entry", "c", "d", "x"]) (sc := defScope (top 49)) (by decide +kernel)) (fun _ _ _ _ _ => (pg_name (i := 12) sc_ls.nd rfl (Or.inl rfl))) (fun _ _ _ _ _ => pts_nil) (fun _ _ _ _ _ => (pe_ix (ix_tupK (K := K) rfl) (pe_ix (ix_listK (K := K) rfl) (pv 2) (pv 12) (fun _ _ => rfl)) pe_int (fun _ _ => rfl)))) pa_nil))) (pss_cons (ps_set (i := 8) sc_ls.nd rfl (Or.inl rfl) (pe_callTy call_tuple_of (by rfl) T.n_tuple (by decide +kernel) (pa_cons (pe_lc (own := [("x", 12)]) rfl sc_ls.nd (pi_tup (pv 6)) (blkOk_by (N := ["pair", "position", "held", "a", "b", "k", "row", "here", "there", "entry", "c", "d", "x"]) (sc := defScope (top 49)) (by decide +kernel)) (fun _ _ _ _ _ => (pg_name (i := 12) sc_ls.nd rfl (Or.inl rfl))) (fun _ _ _ _ _ => pts_nil) (fun _ _ _ _ _ => (pe_ix (ix_tupK (K := K) rfl) (pe_ix (ix_listK (K := K) rfl) (pv 2) (pv 12) (fun _ _ => rfl)) pe_int (fun _ _ => rfl)))) pa_nil))) (pss_one (ps_if (pt_cmpR op_ne (pe_cmpR (op_inT (hu65 hr)) (pv 7) (pe_ix ix_tup (pe_ix ix_list (pe_ix ix_list (pv 0) pe_int (fun _ _ => rfl)) (pv 5) (fun _ _ => rfl)) pe_int (fun _ _ => rfl)) (by rfl)) (pe_cmpR (op_inT (hu65 hr)) (pv 8) (pe_ix ix_tup (pe_ix ix_list (pe_ix ix_list (pv 0) pe_int (fun _ _ => rfl)) (pv 5) (fun _ _ => rfl)) pe_int (fun _ _ => rfl)) (by rfl)) (nomark _)) (pss_one (ps_ret pe_bl)) pss_nil))))))) (pss_one (ps_ret pe_bl))))), ?_⟩
    obtain ⟨t0, xs, rfl, hxs, dxs⟩ := Dp.tup_inv hx
    have lx := DpAll.length dxs
    rw [List.length_map] at lx
    refine ⟨_, rfl, t0, rfl, ⟨_, hxs⟩, fun M nM => ?_⟩
    refine lc_it (walk_tup (K := K) (a := t0) (xs := xs)) (fun i H2 => ∃ acc : List V, Same H H2 ∧ H2 M = some (.lst acc) ∧ DpAll K H2 acc ((heldOf (es.take i)).map pD)) ⟨[], same_upd nM, upd_same, .nil⟩ (fun i H2 _ ⟨_, s2, _⟩ => Same.sqt s2 hxs) ?_ ?_
    · rintro i z H2 H3 hi ⟨acc, s2, hM, dA⟩ ⟨rfl, hz⟩
      obtain ⟨dd, hdd, dpy⟩ := DpAll.get' dxs hz
      obtain ⟨e, he, rfl⟩ := get_map hdd
      have la := DpAll.length dA
      rw [List.length_map] at la
      have lh : (heldOf (es.take i)).length ≤ 3 := by
        have h1 := List.length_filterMap_le id (es.take i)
        have h2 := List.length_take_le' i es
        unfold heldOf
        omega
      cases e with
      | none =>
        obtain rfl : z = .non := by cases dpy; rfl
        refine ⟨rfl, _, rfl, rfl, _, rfl, ?_⟩
        refine iteF ⟨acc, s2, hM, ?_⟩
        rw [List.take_add_one, he]
        unfold heldOf at dA ⊢
        rw [List.filterMap_append]
        simpa using dA
      | some p =>
        obtain ⟨u0, zs, rfl, hu0, hzs⟩ := Dp.tup_inv dpy
        refine ⟨rfl, _, rfl, rfl, _, rfl, ?_⟩
        refine iteT ⟨_, rfl, acc, hM, small1000 (by omega), acc ++ [.ref u0], same_own s2 nM, upd_same, ?_⟩
        rw [List.take_add_one, he]
        have e2 : (heldOf (es.take i ++ (some (some p)).toList)).map pD = (heldOf (es.take i)).map pD ++ [pD p] := by
          unfold heldOf
          rw [List.filterMap_append, List.map_append]; rfl
        rw [e2]
        refine DpAll.kl (Kl.upd hM) (DpAll.append dA (.cons (Dp.same s2 dpy) .nil)) ?_
        rw [noLs_append, ps_noL]
        exact ps_noL [p]
    · rintro Hh ⟨hs, sh, hM, dH⟩
      rw [lx, List.take_length] at dH
      generalize hheld : heldOf es = held at *
      have lh : held.length ≤ 3 := by
        rw [← hheld]
        have h1 := List.length_filterMap_le id es
        unfold heldOf
        omega
      have ls := DpAll.length dH
      rw [List.length_map] at ls
      refine gN_i ?_
      dsimp only
      refine sq_i ?_
      refine ⟨_, rfl, M, rfl, ⟨_, SqL.of hM⟩, for_list (K := K) (a := M) (xs := hs) (fun i σ H2 => ∃ (y3 y4 : Option V), σ = [some (.ref a), some (.ref t0), some (.ref M), y3, y4, none, none, none, none, none, none, none, none] ∧ Same Hh H2 ∧
        ∀ (j : Nat) (p s : Nat × Nat), j < i → held[j]? = some p → s ∈ held → (p.1 = s.1 ↔ p.2 = s.2)) ⟨none, none, rfl, .refl _, fun j p s hj => absurd hj (Nat.not_lt_zero _)⟩ (fun i σ H2 _ ⟨_, _, _, s2, _⟩ => SqL.of (s2 _ _ hM)) ?_ ?_⟩
      · rintro i y σ H2 hi ⟨y3, y4, rfl, s2, al⟩
        obtain ⟨u, p, rfl, hp, hu⟩ := pair_at (DpAll.same s2 dH) hi
        refine ⟨u, _, rfl, hu, rfl, _, _, rfl, _, _, rfl, rfl, ?_⟩
        refine ⟨_, rfl, M, rfl, ⟨_, SqL.of (s2 _ _ hM)⟩, fun N nN => ?_⟩
        refine lc_it (walk_list (K := K) (a := M) (xs := hs)) (fun i2 H3 => ∃ acc : List V, Same H2 H3 ∧ H3 N = some (.lst acc) ∧ acc.length ≤ i2 ∧ (acc.length = 0 ↔ ∀ (j : Nat) (s : Nat × Nat), j < i2 → held[j]? = some s → (p.1 = s.1 ↔ p.2 = s.2))) ⟨[], same_upd nN, upd_same, Nat.le_refl _, ⟨fun _ j s hj => absurd hj (Nat.not_lt_zero _), fun _ => rfl⟩⟩ (fun i2 H3 _ ⟨_, s3, _⟩ => SqL.of (s3 _ _ (s2 _ _ hM))) ?_ ?_
        · rintro i2 y H3 H4 hi2 ⟨acc, s3, hN, lA, iA⟩ ⟨rfl, hy⟩
          obtain ⟨u2, s, rfl, hs2, hu2⟩ := pair_at (DpAll.same (s2.trans s3) dH) hy
          refine ⟨u2, _, rfl, hu2, rfl, _, _, rfl, _, _, rfl, rfl, rfl, ?_⟩
          refine ⟨_, rfl, _, rfl, rfl, _, rfl, _, rfl, rfl, rfl, _, rfl, ?_⟩
          by_cases e : (p.1 = s.1 ↔ p.2 = s.2)
          · refine cF (k := !decide (V.bl (decide (V.int (p.1 : Nat) = V.int (s.1 : Nat))) = V.bl (decide (V.int (p.2 : Nat) = V.int (s.2 : Nat))))) (nd_f ?_) ?_
            · rw [vint_dec, vint_dec, decide_eq_decide.mpr e]
            · refine ⟨acc, s3, hN, by omega, iA.trans ⟨fun al2 j s' hj hs' => ?_, fun al2 j s' hj hs' => al2 j s' (by omega) hs'⟩⟩
              by_cases ej : j = i2
              · subst ej
                rw [hs2] at hs'
                cases hs'
                exact e
              · exact al2 j s' (by omega) hs'
          · refine cT (k := !decide (V.bl (decide (V.int (p.1 : Nat) = V.int (s.1 : Nat))) = V.bl (decide (V.int (p.2 : Nat) = V.int (s.2 : Nat))))) (nd_t fun z => ?_) ?_
            · rw [vint_dec, vint_dec] at z
              exact e (decide_eq_decide.mp (V.bl.inj z))
            · refine ⟨acc, hN, small1000 (by omega), acc ++ [.int 1], same_own s3 nN, upd_same, by rw [List.length_append]; exact Nat.add_le_add lA (Nat.le_refl 1), ⟨fun z => by rw [List.length_append] at z; simp at z, fun al2 => absurd (al2 i2 s (Nat.lt_succ_self _) hs2) e⟩⟩
        · rintro H3 ⟨acc, s3, hN, lA, iA⟩
          rw [ls] at iA
          refine ⟨N, acc, rfl, .inl (SqL.of hN), _, _, rfl, rfl, _, rfl, ?_⟩
          by_cases e : acc.length = 0
          · refine cF (k := decide ((0 : Int) < (acc.length : Nat))) (decide_eq_false (by omega)) ?_
            refine ⟨_, _, rfl, s2.trans s3, fun j p' s' hj hp' hs' => ?_⟩
            by_cases ej : j = i
            · subst ej
              rw [hp] at hp'
              cases hp'
              obtain ⟨j', hj'⟩ := List.mem_iff_getElem?.mp hs'
              exact iA.mp e j' s' (List.getElem?_eq_some_iff.mp hj').1 hj'
            · exact al j p' s' (by omega) hp' hs'
          · refine cT (k := decide ((0 : Int) < (acc.length : Nat))) (decide_eq_true (by omega)) ?_
            refine q H3 false ((sh.trans s2).trans s3) ⟨fun z => (nomatch z), fun z => absurd (iA.mpr fun j s' _ hs' => ?_) e⟩
            exact z.1 p s' (List.mem_of_getElem? hp) (List.mem_of_getElem? hs')
      · rintro σ H2 ⟨y3, y4, rfl, s2, al⟩
        have allP : ∀ p s, p ∈ held → s ∈ held → (p.1 = s.1 ↔ p.2 = s.2) := fun p s hp hs' => by
          obtain ⟨j, hj⟩ := List.mem_iff_getElem?.mp hp
          exact al j p s (by rw [ls]; exact (List.getElem?_eq_some_iff.mp hj).1) hj hs'
        have lys1 := d1.length
        have lys2 := d2.length
        have lL : L1.length = L2.length := by
          have := congrArg List.length sg
          rwa [List.length_map, List.length_map] at this
        have sH := sh.trans s2
        dsimp only
        refine sq_i ?_
        refine ⟨_, rfl, a, _, 1, _, rfl, rfl, SqL.of (sH _ _ ha), rfl, r1, ys1, rfl, .inl (SqL.of (sH _ _ h1)), ys1.length, rfl, by omega, by omega, for_it walk_range (fun i σ H3 => ∃ (y3 y4 y5 y6 y7 y8 : Option V), σ = [some (.ref a), some (.ref t0), some (.ref M), y3, y4, y5, y6, y7, y8, none, none, none, none] ∧ Same H2 H3 ∧
          ∀ (k : Nat) (z y : Wrl), k < i → L1[k]? = some z → L2[k]? = some y → ∀ r : List (Nat × Nat), (∀ p, p ∈ r → p ∈ held) → r.length = z.1.2 → (r.map (·.1) ∈ z.2 ↔ r.map (·.2) ∈ y.2)) ⟨_, _, _, _, _, _, rfl, .refl _, fun k z y hk => absurd hk (Nat.not_lt_zero _)⟩ (fun _ _ _ _ _ => trivial) ?_ ?_⟩
        · rintro i y σ H3 H4 hi ⟨y3, y4, y5, y6, y7, y8, rfl, s3, al3⟩ ⟨rfl, rfl⟩
          have e0 : (0 : Int) + (i : Nat) = (i : Nat) := by omega
          show gName 5 (V.int (0 + (i : Nat))) _ _ _
          rw [e0]
          refine gN_i ?_
          dsimp only
          have s4 := sH.trans s3
          obtain ⟨z, hz, t1, b1, x1, ev1, g1, gb1, R1⟩ := RelL.get' (RelL.same s4 d1) (List.getElem?_eq_getElem hi)
          have hi2 : i < ys2.length := by omega
          obtain ⟨y', hy', t2, b2, x2, ev2, g2, gb2, R2⟩ := RelL.get' (RelL.same s4 d2) (List.getElem?_eq_getElem hi2)
          have av1 : ys1[i]? = some (.ref t1) := by rw [List.getElem?_eq_getElem hi, ev1]
          have av2 : ys2[i]? = some (.ref t2) := by rw [List.getElem?_eq_getElem hi2, ev2]
          have az := ar z (List.mem_of_getElem? hz)
          have hM4 := (s2.trans s3) _ _ hM
          refine ⟨_, rfl, M, hs, rfl, .inl (SqL.of hM4), _, rfl, a, _, 1, _, rfl, rfl, SqL.of (s4 _ _ ha), rfl, _, rfl, r1, ys1, (i : Nat), _, rfl, rfl, SqL.of (s4 _ _ h1), atI_nat av1, t1, _, 1, _, rfl, rfl, g1, rfl, hs.length, z.1.2, rfl, by omega, by omega, pow_le2 (show hs.length ≤ 3 by omega) az, fun H5 r0 rs s5 nr hr0 drr => ?_⟩
          refine ⟨r0, rfl, ⟨_, SqL.of hr0⟩, for_list (K := K) (a := r0) (xs := rs) (fun j σ H6 => ∃ (y6 y7 y8 : Option V), σ = [some (.ref a), some (.ref t0), some (.ref M), y3, y4, some (.int (i : Nat)), y6, y7, y8, none, none, none, none] ∧ Same H5 H6 ∧
            ∀ (j' : Nat) (pl : List Nat) (r : List (Nat × Nat)), j' < j → (tups hs.length z.1.2)[j']? = some pl → r.map some = pl.map (fun x => held[x]?) → (r.map (·.1) ∈ z.2 ↔ r.map (·.2) ∈ y'.2)) ⟨_, _, _, rfl, .refl _, fun j' pl r hj => absurd hj (Nat.not_lt_zero _)⟩ (fun j σ H6 _ ⟨_, _, _, _, s6, _⟩ => SqL.of (s6 _ _ hr0)) ?_ ?_⟩
          · rintro j v σ H6 hj ⟨y6, y7, y8, rfl, s6, al6⟩
            obtain ⟨tr, pl, rfl, hpl, htr⟩ := RowsT.get' (RowsT.same s6 drr) hj
            obtain ⟨pll, plb⟩ := tups_mem.mp (List.mem_of_getElem? hpl)
            obtain ⟨r, er⟩ := at_idx (ps := held) (pl := pl) (by rw [← ls]; exact plb)
            have s46 := s5.trans s6
            have ent : ∀ (H9 : Hp), Same H6 H9 → ∀ i : Nat, i < hs.length → ∃ (u : Addr) (p : Nat × Nat), hs[i]? = some (.ref u) ∧ held[i]? = some p ∧ SqT K H9 u [.int (p.1 : Nat), .int (p.2 : Nat)] := fun H9 s9 i hi => by
              obtain ⟨u, p, eu, ep, hu⟩ := pair_at (DpAll.same (((s2.trans s3).trans s46).trans s9) dH) (List.getElem?_eq_getElem hi)
              exact ⟨u, p, by rw [List.getElem?_eq_getElem hi, eu], ep, hu⟩
            refine gN_i ?_
            dsimp only
            refine sq_i (as_i ?_)
            refine cb_i ?_
            refine co_i ?_
            refine lc_held (K := K) (g := Prod.fst) (fun p => rfl) (s46 _ _ hM4) (ent H6 (.refl _)) htr er plb (by omega) fun H7 N s7 nN hN => ?_
            refine ⟨N, _, rfl, .inl ⟨SqL.of hN, fun w1 nw1 => ?_⟩⟩
            have sw1 := same_upd (o := .tup (rowV (r.map Prod.fst))) nw1
            have hw1 := upd_same (H := H7) (a := w1) (o := .tup (rowV (r.map Prod.fst)))
            generalize upd H7 w1 (.tup (rowV (r.map Prod.fst))) = H8 at *
            have s78 := s7.trans sw1
            refine gN_i ?_
            dsimp only
            refine sq_i (as_i ?_)
            refine cb_i ?_
            refine co_i ?_
            refine lc_held (K := K) (g := Prod.snd) (fun p => rfl) ((s46.trans s78) _ _ hM4) (ent H8 s78) (s78 _ _ htr) er plb (by omega) fun H9 N2 s9 nN2 hN2 => ?_
            refine ⟨N2, _, rfl, .inl ⟨SqL.of hN2, fun w2 nw2 => ?_⟩⟩
            have sw2 := same_upd (o := .tup (rowV (r.map Prod.snd))) nw2
            have hw2 := upd_same (H := H9) (a := w2) (o := .tup (rowV (r.map Prod.snd)))
            generalize upd H9 w2 (.tup (rowV (r.map Prod.snd))) = Hn at *
            have s8n := s9.trans sw2
            have s6n := s78.trans s8n
            have s4n := s46.trans s6n
            have sHn := s4.trans s4n
            refine gN_i ?_
            dsimp only
            refine ⟨_, rfl, _, rfl, a, _, 1, _, rfl, rfl, SqL.of (sHn _ _ ha), rfl, _, rfl, r1, ys1, (i : Nat), _, rfl, rfl, SqL.of (sHn _ _ h1), atI_nat av1, t1, _, 2, _, rfl, rfl, Same.sqt s4n g1, rfl, rowD (r.map Prod.fst), z.2.map rowD, row_of (SqT.of (s8n _ _ hw1)), .tup (Same.sqt s4n gb1) (RowsT.dp (RowsT.same s4n R1)), shaped_row _, lay_rows _, ?_⟩
            refine ⟨_, rfl, _, rfl, a, _, 3, _, rfl, rfl, SqL.of (sHn _ _ ha), rfl, _, rfl, r2, ys2, (i : Nat), _, rfl, rfl, SqL.of (sHn _ _ h2), atI_nat av2, t2, _, 2, _, rfl, rfl, Same.sqt s4n g2, rfl, rowD (r.map Prod.snd), y'.2.map rowD, row_of (SqT.of hw2), .tup (Same.sqt s4n gb2) (RowsT.dp (RowsT.same s4n R2)), shaped_row _, lay_rows _, rfl, _, rfl, ?_⟩
            have rin : ∀ p, p ∈ r → p ∈ held := fun p hp' => by
              have h1 : some p ∈ r.map some := List.mem_map.mpr ⟨p, hp', rfl⟩
              rw [er] at h1
              obtain ⟨x, _, hx'⟩ := List.mem_map.mp h1
              exact List.mem_of_getElem? hx'
            have rl : r.length = z.1.2 := by
              have := congrArg List.length er
              rw [List.length_map, List.length_map] at this
              omega
            by_cases e : (r.map (·.1) ∈ z.2 ↔ r.map (·.2) ∈ y'.2)
            · refine cF (k := !decide (V.bl ((z.2.map rowD).any fun t => PyData.eqv t (rowD (r.map Prod.fst))) = V.bl ((y'.2.map rowD).any fun t => PyData.eqv t (rowD (r.map Prod.snd))))) (nd_f ?_) ?_
              · rw [any_row, any_row]
                exact congrArg V.bl (decide_eq_decide.mpr e)
              · refine ⟨_, _, _, rfl, s6.trans s6n, fun j' pl' r' hj' hp' er' => ?_⟩
                by_cases ej : j' = j
                · subst ej
                  rw [hpl] at hp'
                  cases hp'
                  have e2 : r'.map some = r.map some := er'.trans er.symm
                  have e3 : r' = r := by
                    have := congrArg (List.filterMap id) e2
                    simpa using this
                  rw [e3]; exact e
                · exact al6 j' pl' r' (by omega) hp' er'
            · refine cT (k := !decide (V.bl ((z.2.map rowD).any fun t => PyData.eqv t (rowD (r.map Prod.fst))) = V.bl ((y'.2.map rowD).any fun t => PyData.eqv t (rowD (r.map Prod.snd))))) (nd_t fun e1 => ?_) ?_
              · rw [any_row, any_row] at e1
                exact e (decide_eq_decide.mp (V.bl.inj e1))
              · refine q Hn false sHn ⟨fun z => (nomatch z), fun so => absurd (((sound_at sg nd).mp so).2 i z y' hz hy' r rin rl) e⟩
          · rintro σ H6 ⟨y6, y7, y8, rfl, s6, al6⟩
            refine ⟨_, _, _, _, _, _, rfl, s3.trans (s5.trans s6), fun k z0 y0 hk hz0 hy0 r hr hrl => ?_⟩
            by_cases ek : k = i
            · subst ek
              rw [hz] at hz0
              rw [hy'] at hy0
              cases hz0
              cases hy0
              obtain ⟨pl, er, lt, ll⟩ := idx_of (ps := held) (r := r) hr
              have m : pl ∈ tups hs.length z.1.2 := tups_mem.mpr ⟨by rw [ll, hrl], by rw [ls]; exact lt⟩
              obtain ⟨j', hj'⟩ := List.mem_iff_getElem?.mp m
              have lj := (List.getElem?_eq_some_iff.mp hj').1
              exact al6 j' pl r (by rw [RowsT.length drr]; exact lj) hj' er
            · exact al3 k z0 y0 (by omega) hz0 hy0 r hr hrl
        · rintro σ H3 ⟨y3, y4, y5, y6, y7, y8, rfl, s3, al3⟩
          refine q H3 true (sH.trans s3) ⟨fun _ => (sound_at sg nd).mpr ⟨allP, fun k z y hz hy => al3 k z y ?_ hz hy⟩, fun _ => rfl⟩
          rw [lys1]
          exact (List.getElem?_eq_some_iff.mp hz).1
end
/-! ### dicts with nested keys: comprehensions, walks, get, setdefault -/
section
variable {X : Cx}
theorem d_dictSetN {pins : List (Addr × Obj)} {σ : L2.St} {H : Hp} {s : Shared} {E : Value → Shared → Prop} {D b : Addr} {kvs : List NEn} {k : NestedKey} {v : V} {r : Value} {Q : Unit → Shared → Prop} (hu : X.A.units + 9 < cLine) (I : Inv X pins σ H s) (hD : DnAt X.K X.prog X.w H D kvs) (l : kvs.length < sizeLine)
    (nk : NkV X.K H k (.ref b)) (dk : k.depth ≤ 8) (rv : RelV v r) (h : ∀ s', Inv X pins σ (upd H D (DnO X.prog X.w D (putN kvs k b v))) s' → Q () s') : wpAny (model X.prog X.w) X.A (dictSet D (.ref b) r) Q E s := by
  obtain ⟨z, hd, xs, rel, dd⟩ := dn_of I hD
  have hz : xs.length ≤ sizeLine := by rw [← Paired.length rel]; exact z
  have hl : (putN kvs k b v).length ≤ sizeLine := by have := putN_length kvs k b v; omega
  refine wpAny_dictSet_heap (hsz := hz) (show (nestedKind X.prog X.w).room X.A from (by show X.A.units + 8 < cLine; omega)) ⟨nk_is I _ _ _ nk rfl, dk⟩ dd fun h' dd' hs => h _ ?_
  obtain ⟨q, es, ep, hq, h2, h3, h4, _, h5⟩ := dd'
  exact d_write I (by rw [hD.at_]; exact True.intro) hs ⟨q, hq⟩ ⟨⟨hl, hd, _, rel.put k b rv, q, es, ep, hq, h2, h3, h4, h5⟩, ⟨q, hq⟩, fun h1 h2 ⟨x1, x2, x3, x4, x5, x6, x7, x8, x9⟩ st => ⟨x1, x2, x3, x4, x5, x6, x7, st _ x8, x9⟩⟩
def tDcN (K : PySem.W.Frag) (P : Program) (w : World) (wi : TI) (g : TG) (tt : TT) (tk tv : TE) (vs : List Nat) : TE := fun σ H Q => wi σ H fun J H1 => ∀ D, H1 D = none → ∃ W : Nat → Nat → Hp → Prop, (∃ m, W 0 m (upd H1 D (DnO P w D []))) ∧ ∀ i m H, W i m H →
  (J.stop i H ∧ Q (.ref D) H) ∨ (J.go i H ∧ ∃ Nx : Hp → Prop, (∀ H', Nx H' → ∃ m', m' < m ∧ W (i + 1) m' H') ∧ ∀ x H', J.yld i H x H' → g x (wipe σ vs) H' fun σ2 H2 => wipe σ2 vs = wipe σ vs ∧ tt σ2 H2 fun b H3 =>
    if b = true then tk σ2 H3 fun y H4 => tv σ2 H4 fun z H5 => ∃ kvs k b, y = .ref b ∧ DnAt K P w H5 D kvs ∧ NkV K H5 k (.ref b) ∧ k.depth ≤ 8 ∧ kvs.length < sizeLine ∧ Nx (upd H5 D (DnO P w D (putN kvs k b z))) else Nx H3)
theorem dcN_core {pins : List (Addr × Obj)} {s : Shared} {σ : L2.St} {H : Hp} {Q : VK} {kx vx tg iter : Expr} {ifs : List Expr} {scope : Scope} {own : List (PySem.Str × Nat)} {pos pos' : Pos} {wi : TI} {g : TG} {tt : TT} {tk tv : TE} {use : Option (Value → Sem Unit)} {Qf : Value → Shared → Prop}
    (hu : X.A.units + 9 < cLine) (hc : X.calm = true) (hN : X.N.Nodup) (I : Inv X pins σ H s) (hi : PI X tg iter wi) (ok : BlkOk X.N X.env.scope scope own)
    (hg : ∀ (s : Shared) (H : Hp) (C : Addr) (cl : List (PySem.Str × Addr)) (fp : List Addr), PG (X.blk s H scope (compEnvC scope cl C X.env) fp) tg g) (ht : ∀ (s : Shared) (H : Hp) (C : Addr) (cl : List (PySem.Str × Addr)) (fp : List Addr), PTs (X.blk s H scope (compEnvC scope cl C X.env) fp) ifs tt)
    (hk : ∀ (s : Shared) (H : Hp) (C : Addr) (cl : List (PySem.Str × Addr)) (fp : List Addr), PE (X.blk s H scope (compEnvC scope cl C X.env) fp) kx tk)
    (he : ∀ (s : Shared) (H : Hp) (C : Addr) (cl : List (PySem.Str × Addr)) (fp : List Addr), PE (X.blk s H scope (compEnvC scope cl C X.env) fp) vx tv) (hs : ∀ x, foldedSetIterable iter X.env x = pure x)
    (h : tDcN X.K X.prog X.w wi g tt tk tv (own.map (·.2)) σ H Q)
    (hRR : ∀ D C s' m H', Inv X pins σ H' s' → Q (.ref D) H' → s'.heap.Ns C m → FpOk X pins H' C → compPost (model X.prog X.w) X.A X.xe use Qf (.ref D) C (.ok .next) s') :
    wpAny (model X.prog X.w) X.A (comprehension (.DictComp kx vx [⟨tg, iter, ifs, 0⟩] scope pos) scope X.env pos' newDict false (eval iter X.env) use) Qf X.xe s := by
  have fr : ∀ y ∈ scope.names, y.2 = .free → ∃ c, X.env.cells.lookup y.1 = some c := fun y hy e => (ok.free y hy e).elim (fun k => I.ok.has _ (.inl k)) fun k => I.ok.has _ (.inr k)
  refine wpAny_comprehension_free (use := use) rfl hs (closure_ok fr) ok.kind (fun y hy e => by rw [ok.uniq y hy, e]) (thn (hi.run pins s σ H _ I h) fun xv s1 hx => thn hx fun itv s2 h2 => ?_)
  obtain ⟨it, fp, tn, J, H2, e, I2, T, st2, f2, q⟩ := h2
  subst e
  refine wpAny_newObj_type (newEnv_comp ?_)
  have low : ∀ b ∈ fp, b < s2.heap.objs.size := fun b hb => by
    obtain ⟨o, e, _⟩ := T.obj _ _ st2 b hb
    exact Heap.lt_size e
  generalize hD : s2.heap.objs.size = D
  obtain ⟨W, ⟨m0, w0⟩, turn⟩ := q D (I2.hok.fresh (Nat.le_of_eq hD))
  generalize hs3 : ({ s2 with heap := s2.heap.push { cls := .type "dict", data := .dict #[] } } : Shared) = s3
  have h3 : s3.heap = s2.heap.push { cls := .type "dict", data := .dict #[] } := by rw [← hs3]
  have I3 : Inv X pins σ (upd H2 D (DnO X.prog X.w D [])) s3 := by
    rw [← hs3]
    refine I2.laid (t' := s2.toks) (fun b o e => Heap.get?_push_of_some _ e) (Nat.le_of_eq hD) ?_
    rw [← hD]
    exact dn_empty s2.heap I2.big
  generalize hH3 : upd H2 D (DnO X.prog X.w D []) = H3 at I3 w0
  have f3 : ∀ b ∈ fp, FpOk X pins H3 b ∧ b < s3.heap.objs.size := fun b hb => by
    have lt := low b hb
    refine ⟨⟨?_, (f2 b hb).2⟩, by rw [h3, Heap.size_push]; exact Nat.lt_succ_of_lt lt⟩
    rw [← hH3, upd_ne (by rw [← hD]; exact Nat.ne_of_lt lt)]
    exact (f2 b hb).1
  have st3 : tn 0 s3.heap := T.keep _ _ _ st2 fun b _ o e => by rw [h3]; exact Heap.get?_push_of_some _ e
  have I4 := block_start I3 ok hN f3
  generalize hcl : cellsFrom (s3.heap.objs.size + 1) scope.names (cloFrom X.env.cells scope.names []) = cl at I4
  have pg := hg s3 H3 s3.heap.objs.size cl fp
  have pt := ht s3 H3 s3.heap.objs.size cl fp
  have pk := hk s3 H3 s3.heap.objs.size cl fp
  have pe := he s3 H3 s3.heap.objs.size cl fp
  show codeAny _ _ (.compStart (.DictComp kx vx [⟨tg, iter, ifs, 0⟩] scope pos) 0 (.ref it) (.ref D) (compEnvC scope cl s3.heap.objs.size X.env)) (compPost (model X.prog X.w) X.A X.xe use Qf (.ref D) s3.heap.objs.size) { s3 with heap := pushCells (s3.heap.push { cls := .type "dict", data := .dict #[] }) scope.names }
  generalize hce : compEnvC scope cl s3.heap.objs.size X.env = ce at I4 pg pt pk pe ⊢
  have cL : ce.locals = s3.heap.objs.size := by subst hce; rfl
  generalize hs4 : ({ s3 with heap := pushCells (s3.heap.push { cls := .type "dict", data := .dict #[] }) scope.names } : Shared) = s4 at I4 ⊢
  have st4 : tn 0 s4.heap := T.keep _ _ _ st3 fun b _ o e => by rw [← hs4]; exact pushCells_keeps _ _ _ _ (Heap.get?_push_of_some _ e)
  have own_ : ∀ {σ' : L2.St} {H' : Hp} {s' : Shared}, Inv (X.blk s3 H3 scope ce fp) [] σ' H' s' → (∀ b ∈ fp, H' b = none) → ∀ b ∈ fp, FpOk (X.blk s3 H3 scope ce fp) [] H' b := fun {σ' H' s'} I' hn b hb =>
    ⟨hn b hb, (I'.ok.exf b hb).1, I'.ok.exfs b hb, .inl hb, fun x c e => (I'.ok.exf b hb).2 x c e, fun p hp => absurd (show p ∈ ([] : List (Addr × Obj)) ++ [] from hp) (by simp)⟩
  suffices loop : codeAny (model X.prog X.w) X.A (.compLoop (.DictComp kx vx [⟨tg, iter, ifs, 0⟩] scope pos) 0 (.ref it) (.ref D) ce) (compPost (model X.prog X.w) X.A X.xe use Qf (.ref D) s3.heap.objs.size) s4 from codeAny_compStart_dict loop (T.self X.A 0 _ _ _ st4 loop)
  refine compLoop_anyD (fun n s' => ∃ i G, Inv (X.blk s3 H3 scope ce fp) [] (wipe σ (own.map (·.2))) G s' ∧ tn i s'.heap ∧ (∀ b ∈ fp, G b = none) ∧ W i n G) ?_ m0 ⟨0, H3, I4, st4, fun b hb => (f3 b hb).1.1, w0⟩
  rintro n s5 ⟨i, H5, I5, st5, n5, w5⟩
  rcases turn i n H5 w5 with ⟨stop, qq⟩ | ⟨go, Nx, hNx, step⟩
  · refine thnF (T.done (X.blk s3 H3 scope ce fp) rfl rfl rfl hc i [] s5 _ H5 (fun _ _ => False) I5 (own_ I5 n5) st5 stop) fun r s6 ⟨hr, I6⟩ => ?_
    subst hr
    have I7 : Inv X pins σ H5 s6 := I3.call' (ch := fp) I6.os I6.base I6.hok I6.bare fun b hb => ⟨(f3 b hb).1.2.2.2.1, (f3 b hb).1.2.1, (f3 b hb).1.2.2.2.2.1, (f3 b hb).1.2.2.2.2.2⟩
    have nC : H5 s3.heap.objs.size = none := cL ▸ (show H5 ce.locals = none from I6.free)
    obtain ⟨m, hn, _⟩ := I6.loc
    have hn : s6.heap.Ns ce.locals m := hn
    rw [cL] at hn
    exact hRR D s3.heap.objs.size s6 m H5 I7 qq hn (I3.fpOk (Nat.le_refl _) nC)
  · refine thnF (T.item (X.blk s3 H3 scope ce fp) rfl rfl rfl hc i [] s5 _ H5 (fun _ _ => False) I5 (own_ I5 n5) st5 go) fun r s6 ⟨u, hr, h6⟩ => ?_
    subst hr
    refine thnF h6 fun _ s7 ⟨x, H7, I7, r7, y7, st7, n7⟩ => ?_
    refine thnF (pg.run _ s7 _ H7 x u _ (I7.pinned (own_ I7 n7) (T.obj _ _ st7)) r7 (step x H7 y7)) fun _ s8 ⟨σ8, H8, I8, hw8, q8⟩ => ?_
    refine thnF (pt.run _ s8 σ8 H8 _ I8 q8) fun b s9 ⟨H9, I9, q9⟩ => ?_
    have fin : ∀ {s' : Shared} {G : Hp}, Inv (X.blk s3 H3 scope ce fp) ([] ++ pinsAt fp s7.heap) σ8 G s' → Nx G → ∃ m, m < n ∧ ∃ i G, Inv (X.blk s3 H3 scope ce fp) [] (wipe σ (own.map (·.2))) G s' ∧ tn i s'.heap ∧ (∀ b ∈ fp, G b = none) ∧ W i m G := fun {s' G} I' nx => by
      obtain ⟨m', hm, w'⟩ := hNx G nx
      have pin' : ∀ b ∈ fp, ∀ o, s7.heap.get? b = some o → s'.heap.get? b = some o ∧ G b = none := fun b hb o e =>
        let z := I'.pin (b, o) (List.mem_append_right _ (List.mem_append_right _ (mem_pinsAt hb e)))
        ⟨z.1, z.2.1⟩
      refine ⟨m', hm, i + 1, G, (I'.unpinned (pins := [])).weak (by rw [← hw8, wipe_length]) (fun j v e => ?_), T.keep _ _ _ st7 fun b hb o e => (pin' b hb o e).1, fun b hb => ?_, w'⟩
      · rw [← hw8] at e
        exact (wipe_some e).1
      · obtain ⟨o, e, _⟩ := T.obj _ _ st7 b hb
        exact (pin' b hb o e).2
    cases b with
    | false =>
      simp only [Bool.false_eq_true, if_false] at q9 ⊢
      exact fin I9 q9
    | true =>
      simp only [if_true] at q9 ⊢
      refine thnF (pk.run _ s9 σ8 H9 _ I9 q9) fun z s10 ⟨yk, H10, I10, r10, q10⟩ => ?_
      refine thnF (pe.run _ s10 σ8 H10 _ I10 q10) fun z2 s11 ⟨yv, H11, I11, r11, kvs, k, bb, ek, hD11, hb11, hk11, hz11, nx⟩ => ?_
      subst ek
      cases (show z = Value.ref bb from r10)
      exact d_dictSetN (X := X.blk s3 H3 scope ce fp) hu I11 hD11 hz11 hb11 hk11 r11 fun s12 I12 => fin I12 nx
theorem pe_dcN {kx vx tg iter : Expr} {ifs : List Expr} {scope : Scope} {own : List (PySem.Str × Nat)} {pos : Pos} {wi : TI} {g : TG} {tt : TT} {tk tv : TE} (hu : X.A.units + 9 < cLine) (hc : X.calm = true) (hN : X.N.Nodup) (hi : PI X tg iter wi) (ok : BlkOk X.N X.env.scope scope own)
    (hg : ∀ (s : Shared) (H : Hp) (C : Addr) (cl : List (PySem.Str × Addr)) (fp : List Addr), PG (X.blk s H scope (compEnvC scope cl C X.env) fp) tg g) (ht : ∀ (s : Shared) (H : Hp) (C : Addr) (cl : List (PySem.Str × Addr)) (fp : List Addr), PTs (X.blk s H scope (compEnvC scope cl C X.env) fp) ifs tt)
    (hk : ∀ (s : Shared) (H : Hp) (C : Addr) (cl : List (PySem.Str × Addr)) (fp : List Addr), PE (X.blk s H scope (compEnvC scope cl C X.env) fp) kx tk)
    (he : ∀ (s : Shared) (H : Hp) (C : Addr) (cl : List (PySem.Str × Addr)) (fp : List Addr), PE (X.blk s H scope (compEnvC scope cl C X.env) fp) vx tv) (hs : ∀ x, foldedSetIterable iter X.env x = pure x := by intro _; rfl) :
    PE X (.DictComp kx vx [⟨tg, iter, ifs, 0⟩] scope pos) (tDcN X.K X.prog X.w wi g tt tk tv (own.map (·.2))) := by
  refine ⟨fun pins s σ H Q I h => ?_⟩
  rw [arm_eval_DictComp]
  refine dcN_core hu hc hN I hi ok hg ht hk he hs h fun D C s' m H' I' q hn f => ⟨m, hn, fun h'' sb => ?_⟩
  obtain ⟨f0, f1, f2, f3, f4, f5⟩ := f
  exact ⟨.ref D, H', I'.turned (t' := s'.toks) (fun b o hb e => (sb.2 b hb).trans e) f0 f1 f3 f4 f5, rfl, q⟩
theorem pe_dcNn {kx vx tg iter : Expr} {ifs : List Expr} {scope : Scope} {own : List (PySem.Str × Nat)} {pos : Pos} {wi : TI} {g : TG} {tt : TT} {tk tv : TE} (hu : X.A.units + 9 < cLine) (hc : X.calm = true) (hN : X.N.Nodup) (hi : PI X tg iter wi) (ok : BlkOk X.N X.env.scope scope own)
    (hg : ∀ (s : Shared) (H : Hp) (C : Addr) (cl : List (PySem.Str × Addr)) (fp : List Addr), PG (X.blk s H scope (compEnvC scope cl C X.env) fp) tg g) (ht : ∀ (s : Shared) (H : Hp) (C : Addr) (cl : List (PySem.Str × Addr)) (fp : List Addr), PTs (X.blk s H scope (compEnvC scope cl C X.env) fp) ifs tt)
    (hk : ∀ (s : Shared) (H : Hp) (C : Addr) (cl : List (PySem.Str × Addr)) (fp : List Addr), PE (X.blk s H scope (compEnvC scope cl C X.env) fp) kx tk)
    (he : ∀ (s : Shared) (H : Hp) (C : Addr) (cl : List (PySem.Str × Addr)) (fp : List Addr), PE (X.blk s H scope (compEnvC scope cl C X.env) fp) vx tv) (hs : ∀ x, foldedSetIterable iter X.env x = pure x) :
    PE X (.DictComp kx vx [⟨tg, iter, ifs, 0⟩] scope pos) (tDcN X.K X.prog X.w wi g tt tk tv (own.map (·.2))) := by
  refine ⟨fun pins s σ H Q I h => ?_⟩
  rw [arm_eval_DictComp]
  refine dcN_core hu hc hN I hi ok hg ht hk he hs h fun D C s' m H' I' q hn f => ⟨m, hn, fun h'' sb => ?_⟩
  obtain ⟨f0, f1, f2, f3, f4, f5⟩ := f
  exact ⟨.ref D, H', I'.turned (t' := s'.toks) (fun b o hb e => (sb.2 b hb).trans e) f0 f1 f3 f4 f5, rfl, q⟩
theorem ps_setDcN {i : Nat} {y : Str} {py : Pos} {kx vx tg iter : Expr} {ifs : List Expr} {scope : Scope} {own : List (Str × Nat)} {pos spos : Pos} {wi : TI} {g : TG} {tt : TT} {tk tv : TE}
    (hu : X.A.units + 9 < cLine) (hc : X.calm = true) (hN : X.N.Nodup) (hy : X.N[i]? = some y) (hyl : X.env.scope.names.lookup y = some .local)
    (hsw : swapsWith (.DictComp kx vx [⟨tg, iter, ifs, 0⟩] scope pos) (some (.Name y py)) spos.line X.env = pure true)
    (hi : PI X tg iter wi) (ok : BlkOk X.N X.env.scope scope own)
    (hg : ∀ (s : Shared) (H : Hp) (C : Addr) (cl : List (Str × Addr)) (fp : List Addr),
      PG (X.blk s H scope (compEnvC scope cl C X.env) fp) tg g)
    (ht : ∀ (s : Shared) (H : Hp) (C : Addr) (cl : List (Str × Addr)) (fp : List Addr),
      PTs (X.blk s H scope (compEnvC scope cl C X.env) fp) ifs tt)
    (hk : ∀ (s : Shared) (H : Hp) (C : Addr) (cl : List (Str × Addr)) (fp : List Addr),
      PE (X.blk s H scope (compEnvC scope cl C X.env) fp) kx tk)
    (he : ∀ (s : Shared) (H : Hp) (C : Addr) (cl : List (Str × Addr)) (fp : List Addr),
      PE (X.blk s H scope (compEnvC scope cl C X.env) fp) vx tv)
    (hs : ∀ x, foldedSetIterable iter X.env x = pure x := by intro _; rfl) :
    PS X (.Assign [.Name y py] (.DictComp kx vx [⟨tg, iter, ifs, 0⟩] scope pos) spos) (tAsg (tDcN X.K X.prog X.w wi g tt tk tv (own.map (·.2))) (gName i)) := by
  refine ⟨fun pins s σ H D I hw => ?_⟩
  rw [exec_Assign_Name_used _ _ _ _ hsw]
  refine wpAny_bind (wpAny_standAt (wpAny_bind ?_))
  show wpAny _ X.A (do
    let _ ← comprehension (.DictComp kx vx [⟨tg, iter, ifs, 0⟩] scope pos) scope X.env (firstIterPos [⟨tg, iter, ifs, 0⟩] pos) newDict false (eval iter X.env) (some (assign (.Name y py) X.env))) _ _ s
  have hw : tDcN X.K X.prog X.w wi g tt tk tv (own.map (·.2)) σ H (fun x H1 => gName i x σ H1 D.nx) := hw
  refine wpAny_bind (thn (dcN_core (Qf := fun _ s' => SP X pins D .next s') hu hc hN I hi ok hg ht hk he hs hw fun L C s' m H' I' q hn f => ?_) fun _ s' z => wpAny_pure (wpAny_pure z))
  show wpAny _ _ (assign (.Name y py) X.env (.ref L)) _ _ _
  refine wpAny_assign_Name (store_ok2 (v := V.ref L) I' hN hy (.inl hyl) rfl (fun s2 I2 ⟨a, sb, ha⟩ => ?_) (.inr hyl))
  obtain ⟨g0, g1, g2, g3, g4, g5⟩ := f
  have cna : C ≠ a := by
    rcases ha with z | z
    · rw [z]
      exact g1
    · exact fun e => g4 y a z e.symm
  exact ⟨m, hn.sameBut sb cna, fun h3 sb3 => ⟨_, H', I2.turned (t' := s2.toks) (fun b o hb e => (sb3.2 b hb).trans e) g0 g1 g3 g4 g5, q⟩⟩
end
theorem dcn_it {K : PySem.W.Frag} {P : Program} {w : World} {J : It} {n : Nat} {G : Hp → Prop} {Y : Nat → Hp → V → Hp → Prop} (wk : Walk J n G Y) {g : TG} {tt : TT} {tk tv : TE} {vs : List Nat} {σ : L2.St} {H1 : Hp} {D : Addr} {Qd : Hp → Prop}
    (Pv : Nat → Hp → Prop) (h0 : Pv 0 (upd H1 D (DnO P w D []))) (hG : ∀ i H, i ≤ n → Pv i H → G H)
    (hs : ∀ i x H H', i < n → Pv i H → Y i H x H' → g x (wipe σ vs) H' fun a A => wipe a vs = wipe σ vs ∧ tt a A fun b B => if b = true then tk a B fun y C => tv a C fun z F => ∃ kvs k b, y = .ref b ∧ DnAt K P w F D kvs ∧ NkV K F k (.ref b) ∧ k.depth ≤ 8 ∧ kvs.length < sizeLine ∧ Pv (i + 1) (upd F D (DnO P w D (putN kvs k b z))) else Pv (i + 1) B) (hd : ∀ H, Pv n H → Qd H) :
    ∃ U : Nat → Nat → Hp → Prop, (∃ m, U 0 m (upd H1 D (DnO P w D []))) ∧ ∀ i m H, U i m H → (J.stop i H ∧ Qd H) ∨
      (J.go i H ∧ ∃ Nx : Hp → Prop, (∀ H', Nx H' → ∃ m', m' < m ∧ U (i + 1) m' H') ∧
        ∀ x H', J.yld i H x H' → g x (wipe σ vs) H' fun a A => wipe a vs = wipe σ vs ∧ tt a A fun b B => if b = true then tk a B fun y C => tv a C fun z F => ∃ kvs k b, y = .ref b ∧ DnAt K P w F D kvs ∧ NkV K F k (.ref b) ∧ k.depth ≤ 8 ∧ kvs.length < sizeLine ∧ Nx (upd F D (DnO P w D (putN kvs k b z))) else Nx B) := by
  refine ⟨fun i m H => m = n - i ∧ i ≤ n ∧ Pv i H, ⟨n, by simp, Nat.zero_le _, h0⟩, ?_⟩
  rintro i m H ⟨rfl, hi, p⟩
  have q := hG i H hi p
  by_cases lt : i < n
  · exact .inr ⟨wk.goes i H lt q, Pv (i + 1), fun H' p' => ⟨n - (i + 1), by omega, rfl, lt, p'⟩, fun x H' y => hs i x H H' lt p (wk.yields i H x H' lt q y)⟩
  · obtain rfl : i = n := by omega
    exact .inl ⟨wk.stops H q, hd H p⟩
/-! the keys, one after another: the dict is locked -/
def Itkn (K : PySem.W.Frag) (P : Program) (w : World) (d : Addr) (o : Obj) (kvs : List NEn) : It :=
  ⟨fun i H => H d = some (.frz o (DnO P w d kvs)) ∧ i < kvs.length, fun i H x H' => H' = H ∧ ∃ e : NEn, kvs[i]? = some e ∧ x = .ref e.2.1, fun i H => H d = some (.frz o (DnO P w d kvs)) ∧ kvs.length ≤ i⟩
section
variable {X : Cx} {pins : List (Addr × Obj)} {σ : L2.St} {H : Hp} {s : Shared} {d : Addr} {o : Obj} {es : Array DictEntry} {ep : Nat} {P : Program} {w : World} {K : PySem.W.Frag} {tg : Expr}
theorem inv_frzN {kvs : List NEn} (I : Inv X pins σ H s) (h : H d = some (.frz o (DnO X.prog X.w d kvs))) :
    (d == sysModules) = false ∧ s.heap.get? d = some o ∧ o.ExactDict ∧ ∃ (es : Array DictEntry) (ep : Nat), o.data = .dict es ep ∧ es.size = kvs.length ∧
      ∀ (i : Nat) (e : NEn), kvs[i]? = some e → ∃ en : DictEntry, es[i]? = some en ∧ en.key = .ref e.2.1 := by
  obtain ⟨hd, ⟨z, hs, xs, pr, o', es, ep, ho, hx, hdt, he, _⟩, _, _⟩ := (show s.heap.get? d = some o ∧ ObjOk X.prog X.w H s.heap d (DnO X.prog X.w d kvs) from I.hok d _ h)
  rw [hd] at ho
  cases ho
  refine ⟨hs, hd, hx, es, ep, hdt, ?_, fun i e ee => ?_⟩
  · have l1 : es.size = xs.length := size_of_entries he
    have l2 : kvs.length = xs.length := Paired.length pr
    omega
  · obtain ⟨b, hb, e1, e2, _⟩ := paired_get pr ee
    have q := entry_at he i
    rw [hb] at q
    exact ⟨_, q, congrArg Value.ref e2.symm⟩
theorem turn_keysN {kvs : List NEn} (it : Addr) (hod : o.data = .dict es ep) : Turn P w K tg (Itkn K P w d o kvs) [it] it (fun i h => h.IsKeyIter it d i kvs.length ep) where
  mem := by simp
  obj := fun i h st b hb => by
    have e : b = it := by simpa using hb
    subst e
    obtain ⟨oi, e, c, dd⟩ := st
    exact ⟨oi, e, fun v z => by rw [dd] at z; cases z⟩
  keep := fun i h h' st k => st.at fun oi e => k it (by simp) oi e
  item := by
    intro X hP hw hK hc i pins s σ H E I hf st hg
    subst hP hw hK
    obtain ⟨hd, hi⟩ := hg
    obtain ⟨f0, f1, f2, f3, f4, f5⟩ := hf it (by simp)
    obtain ⟨hs, hgd, hx, es', ep', hdt, hsz, ent⟩ := inv_frzN I hd
    obtain ⟨rfl, rfl⟩ := dict_ep hod hdt
    obtain ⟨e, he⟩ : ∃ p, kvs[i]? = some p := ⟨kvs[i], List.getElem?_eq_getElem hi⟩
    obtain ⟨en, hen, hkey⟩ := ent i e he
    refine next_key_item st hgd hdt hsz hen fun h' st' sb => ?_
    have I1 : Inv X pins σ H { s with heap := h' } := I.turned (t' := s.toks) (fun b ob hb e => (sb.2 b hb).trans e) f0 f1 f3 f4 f5
    obtain ⟨oi, e', c, dd⟩ := id st'
    exact ⟨en.key, rfl, go_of (s := { s with heap := h' }) e' c dd (by decide) ⟨.ref e.2.1, H, I1, hkey, ⟨rfl, e, he, rfl⟩, st', fun b hb => (hf b hb).1⟩⟩
  done := by
    intro X hP hw hK hc i pins s σ H E I hf st hg
    subst hP hw hK
    obtain ⟨hd, hi⟩ := hg
    obtain ⟨f0, f1, f2, f3, f4, f5⟩ := hf it (by simp)
    obtain ⟨hs, hgd, hx, es', ep', hdt, hsz, ent⟩ := inv_frzN I hd
    obtain ⟨rfl, rfl⟩ := dict_ep hod hdt
    exact next_key_end (I.ok.hd hc) st hgd hdt hsz hi fun h' eb => ⟨rfl, I.turned (t' := s.toks) (fun b ob hb e => eb b ob hb e) f0 f1 f3 f4 f5⟩
  self := fun A i s Q E st h => by
    refine wpAny_pyIter_slot st.typeIs F.slot_dict_keyiterator_iter (wpAny_call_entry F.slot_dict_keyiterator_iter st.typeIs F.entry_dict_keyiterator_iter ?_ (F.args_dict_keyiterator_iter_1 _))
    show wpAny _ _ (ret (.ref it)) _ _ s
    exact wpAny_pure ⟨_, rfl, "dict_keyiterator", _, st.typeIs, F.slot_dict_keyiterator_next.lookup, h⟩
/-- for k in d: d is locked from then on -/
def iKeysN (K : PySem.W.Frag) (P : Program) (w : World) (td : TE) : TI := fun σ H R => td σ H fun x H1 => ∃ d kvs, x = .ref d ∧ H1 d = some (DnO P w d kvs) ∧ ∀ o, R (Itkn K P w d o kvs) (upd H1 d (.frz o (DnO P w d kvs)))
theorem pi_keysN {e : Expr} {td : TE} (he : PE X e td) : PI X tg e (iKeysN X.K X.prog X.w td) := by
  refine ⟨fun pins s σ H R I h => ?_⟩
  refine thn (he.run pins s σ H _ I h) fun u s1 ⟨x, H1, I1, rx, d, kvs, ex, hd, q⟩ => ?_
  subst ex
  obtain rfl : u = Value.ref d := rx
  obtain ⟨od, I2⟩ := I1.lock hd (show Mut (some (DnO X.prog X.w d kvs)) from True.intro)
  obtain ⟨hs, hgd, hx, es, ep, hdt, hsz, ent⟩ := inv_frzN I2 upd_same
  refine iter_keys hs hgd hx hdt (pi_one (tk := s1.toks) I2 _ (turn_keysN _ hdt) ⟨_, Heap.get?_push_size _ rfl, rfl, ?_⟩ (q od))
  rw [hsz] <;> rfl
end
theorem walk_keysN {K : PySem.W.Frag} {P : Program} {w : World} {d : Addr} {o : Obj} {kvs : List NEn} : Walk (Itkn K P w d o kvs) kvs.length (fun H => H d = some (.frz o (DnO P w d kvs))) (fun i H x H' => H' = H ∧ ∃ e : NEn, kvs[i]? = some e ∧ x = .ref e.2.1) where
  goes := fun i H lt g => ⟨g, lt⟩
  yields := fun i H x H' lt g y => y
  stops := fun H g => ⟨g, Nat.le_refl _⟩
/-! ### d.get(k), d.get(k, x), d.setdefault(k, x) of dicts with nested keys -/
theorem dn_at {X : Cx} {pins : List (Addr × Obj)} {σ : L2.St} {H : Hp} {s : Shared} {a : Addr} {kvs : List NEn} (I : Inv X pins σ H s) (g : DnAt X.K X.prog X.w H a kvs) :
    s.TypeIs (.ref a) "dict" ∧ (∀ b, Value.ref a = .ref b → ∃ ob, s.heap.get? b = some ob ∧ ob.dict = none) := by
  obtain ⟨_, hd, xs, _, dd⟩ := dn_of I g
  refine ⟨dd.typeIs, fun b q => ?_⟩
  cases q
  obtain ⟨ob, _, _, h1, h2, _⟩ := dd
  exact ⟨ob, h1, h2.2.1⟩
theorem RelO.getDN {o : Option V} {u : Option Value} {d : V} {d' : Value} (r : RelO o u) (rd : RelV d d') : RelV (o.getD d) (u.getD d') := r.getD rd
def tNGet1 (K : PySem.W.Frag) (P : Program) (w : World) (td ty : TE) : TE := fun σ H Q => td σ H fun x H1 => ∃ a kvs, x = .ref a ∧ DnAt K P w H1 a kvs ∧ ty σ H1 fun y H2 => ∃ b k, y = .ref b ∧ DnAt K P w H2 a kvs ∧ NkV K H2 k (.ref b) ∧ k.depth ≤ 8 ∧ Q ((valN kvs k).getD .non) H2
def tNGet2 (K : PySem.W.Frag) (P : Program) (w : World) (td ty tx : TE) : TE := fun σ H Q => td σ H fun x H1 => ∃ a kvs, x = .ref a ∧ DnAt K P w H1 a kvs ∧ ty σ H1 fun y H2 => tx σ H2 fun z H3 => ∃ b k, y = .ref b ∧ DnAt K P w H3 a kvs ∧ NkV K H3 k (.ref b) ∧ k.depth ≤ 8 ∧ Q ((valN kvs k).getD z) H3
def tNSetd (K : PySem.W.Frag) (P : Program) (w : World) (td ty tx : TE) : TE := fun σ H Q => td σ H fun x H1 => ∃ a kvs, x = .ref a ∧ DnAt K P w H1 a kvs ∧ ty σ H1 fun y H2 => tx σ H2 fun z H3 => ∃ b k, y = .ref b ∧ DnAt K P w H3 a kvs ∧ NkV K H3 k (.ref b) ∧ k.depth ≤ 8 ∧ kvs.length < sizeLine ∧
  (∀ v, valN kvs k = some v → Q v H3) ∧ (valN kvs k = none → Q z (upd H3 a (DnO P w a (putN kvs k b z))))
section
variable {X : Cx} {o e f : Expr} {td ty tx : TE} {apos cpos : Pos}
theorem pe_nget1 (hu : X.A.units + 9 < cLine) (ho : PE X o td) (he : PE X e ty) (m : M1 X o "get" apos e cpos) : PE X (.Call (.Attribute o "get" apos) [e] [] cpos) (tNGet1 X.K X.prog X.w td ty) := by
  refine ⟨fun pins s σ H Q I h => ?_⟩
  refine wpAny_Call_method m.base m.few m.line PySem.F.plainAttrs_dict PySem.F.slot_dict_get PySem.F.type_dict_get (thn (ho.run pins s σ H _ I h) fun u s1 ⟨x, H1, I1, rx, a, kvs, ex, d, q1⟩ => ?_)
  subst ex
  obtain rfl : u = Value.ref a := rx
  obtain ⟨t1, t2⟩ := dn_at I1 d
  refine ⟨t1, t2, ?_⟩
  rw [m.trees]
  refine Calls.callWith_builtin rfl (Calls.evalArgs_plain (Calls.spliced_cons (thn (he.run pins s1 σ H1 _ I1 q1) fun iv s2 ⟨y, H2, I2, ry, b, k, ey, g, nk, dk, q2⟩ => Calls.spliced_nil ?_)))
  subst ey
  obtain rfl : iv = Value.ref b := ry
  obtain ⟨z, hd, xs, rel, dd⟩ := dn_of I2 g
  exact call_meetsIn PySem.F.slot_dict_get dd.typeIs PySem.F.entry_dict_get (PySem.F.args_dict_get_2 _ _) (meetsH_dict_get (nestedKind X.prog X.w) a b hd) ⟨room_n hu, k, xs, ⟨nk_is I2 _ _ _ nk rfl, dk⟩, dd, ⟨_, H2, I2.tok _, (rel.val k).getD (d := .non) rfl, q2⟩⟩
theorem pe_nget2 (hu : X.A.units + 9 < cLine) (ho : PE X o td) (he : PE X e ty) (hf : PE X f tx) (m : M2 X o "get" apos e f cpos) : PE X (.Call (.Attribute o "get" apos) [e, f] [] cpos) (tNGet2 X.K X.prog X.w td ty tx) := by
  refine ⟨fun pins s σ H Q I h => ?_⟩
  refine wpAny_Call_method m.base m.few m.line PySem.F.plainAttrs_dict PySem.F.slot_dict_get PySem.F.type_dict_get (thn (ho.run pins s σ H _ I h) fun u s1 ⟨x, H1, I1, rx, a, kvs, ex, d, q1⟩ => ?_)
  subst ex
  obtain rfl : u = Value.ref a := rx
  obtain ⟨t1, t2⟩ := dn_at I1 d
  refine ⟨t1, t2, ?_⟩
  rw [m.trees]
  refine Calls.callWith_builtin rfl (Calls.evalArgs_plain (Calls.spliced_cons (thn (he.run pins s1 σ H1 _ I1 q1) fun iv s2 ⟨y, H2, I2, ry, q2⟩ =>
    Calls.spliced_cons (thn (hf.run pins s2 σ H2 _ I2 q2) fun fv s3 ⟨z, H3, I3, rz, b, k, ey, g, nk, dk, q3⟩ => Calls.spliced_nil ?_))))
  subst ey
  obtain rfl : iv = Value.ref b := ry
  obtain ⟨z', hd, xs, rel, dd⟩ := dn_of I3 g
  exact call_meetsIn PySem.F.slot_dict_get dd.typeIs PySem.F.entry_dict_get (PySem.F.args_dict_get_3 _ _ _) (meetsH_dict_get_default (nestedKind X.prog X.w) a b hd fv) ⟨room_n hu, k, xs, ⟨nk_is I3 _ _ _ nk rfl, dk⟩, dd, ⟨_, H3, I3.tok _, (rel.val k).getD rz, q3⟩⟩
theorem pe_nsetd (hu : X.A.units + 9 < cLine) (ho : PE X o td) (he : PE X e ty) (hf : PE X f tx) (m : M2 X o "setdefault" apos e f cpos) : PE X (.Call (.Attribute o "setdefault" apos) [e, f] [] cpos) (tNSetd X.K X.prog X.w td ty tx) := by
  refine ⟨fun pins s σ H Q I h => ?_⟩
  refine wpAny_Call_method m.base m.few m.line PySem.F.plainAttrs_dict PySem.F.slot_dict_setdefault PySem.F.type_dict_setdefault (thn (ho.run pins s σ H _ I h) fun u s1 ⟨x, H1, I1, rx, a, kvs, ex, d, q1⟩ => ?_)
  subst ex
  obtain rfl : u = Value.ref a := rx
  obtain ⟨t1, t2⟩ := dn_at I1 d
  refine ⟨t1, t2, ?_⟩
  rw [m.trees]
  refine Calls.callWith_builtin rfl (Calls.evalArgs_plain (Calls.spliced_cons (thn (he.run pins s1 σ H1 _ I1 q1) fun iv s2 ⟨y, H2, I2, ry, q2⟩ =>
    Calls.spliced_cons (thn (hf.run pins s2 σ H2 _ I2 q2) fun fv s3 ⟨z, H3, I3, rz, b, k, ey, g, nk, dk, l, q3, q4⟩ => Calls.spliced_nil ?_))))
  subst ey
  obtain rfl : iv = Value.ref b := ry
  obtain ⟨z', hd, xs, rel, dd⟩ := dn_of I3 g
  have hz : xs.length ≤ sizeLine := by rw [← Paired.length rel]; exact z'
  refine call_setdefault_heap (hsz := hz) (room_n hu) ⟨nk_is I3 _ _ _ nk rfl, dk⟩ hd dd (fun p hp => ?_) fun hn h' dd' hs' => ?_
  · have q := rel.val k
    rw [hp] at q
    cases q0 : valN kvs k with
    | none => rw [q0] at q; exact (show False from q).elim
    | some v0 => rw [q0] at q; exact ⟨v0, H3, I3.tok _, q, q3 v0 q0⟩
  · have q := rel.val k
    rw [hn] at q
    cases q0 : valN kvs k with
    | some v0 => rw [q0] at q; exact (show False from q).elim
    | none =>
      obtain ⟨qo, es, ep, hq, h2, h3, h4, _, h5⟩ := dd'
      have hl : (putN kvs k b z).length ≤ sizeLine := by have := putN_length kvs k b z; omega
      have J := d_write (ob := DnO X.prog X.w a (putN kvs k b z)) (t' := s3.toks + (nestedKind X.prog X.w).draws k) I3 (by rw [g.at_]; exact True.intro) hs' ⟨qo, hq⟩ ⟨⟨hl, hd, _, rel.put k b rz, qo, es, ep, hq, h2, h3, h4, h5⟩, ⟨qo, hq⟩, fun h1 h2 ⟨x1, x2, x3, x4, x5, x6, x7, x8, x9⟩ st => ⟨x1, x2, x3, x4, x5, x6, x7, st _ x8, x9⟩⟩
      exact ⟨z, _, J, rz, q4 q0⟩
end
/-- put there -/
theorem DnAt.put {K : PySem.W.Frag} {P : Program} {w : World} {H : Hp} {a b : Addr} {kvs : List NEn} {k : NestedKey} {v : V} (g : DnAt K P w H a kvs) (nk : NkV K H k (.ref b)) (dk : k.depth ≤ 8) : DnAt K P w (upd H a (DnO P w a (putN kvs k b v))) a (putN kvs k b v) := by
  have kt : ∀ c ys, SqT K H c ys → SqT K (upd H a (DnO P w a (putN kvs k b v))) c ys := fun c ys ec => by
    rcases ec with (ec | ⟨o, ec⟩) | ec
    · exact .inl (.inl (by rw [upd_ne (ne_of ec g.at_ (fun z => nomatch z))]; exact ec))
    · exact .inl (.inr ⟨o, by rw [upd_ne (ne_of ec g.at_ (fun z => nomatch z))]; exact ec⟩)
    · exact .inr ec
  refine ⟨upd_same, fun e he => ?_⟩
  rcases putN_mem he with ⟨e1, e2⟩ | ⟨e', he', e1, e2⟩
  · rw [e1, e2]; exact ⟨NkV.keep kt _ _ nk, dk⟩
  · have z := g.keys e' he'
    rw [e1, e2] at z
    exact ⟨NkV.keep kt _ _ z.1, z.2⟩
section
variable {X : Cx} {K : PySem.W.Frag} {P : Program} {w : World}
theorem pe_fldK {e : Expr} {f : Str} {pos : Pos} {ta : TE} (h : X.K = K) (he : PE X e ta) (hb : attributeBase e f X.env (eval e X.env) = eval e X.env) : PE X (.Attribute e f pos) (tFld K ta f) := h ▸ pe_fld he hb
theorem sl_tupAK (h : X.K = K) : SlR X (rSlA K) := h ▸ sl_tupA
theorem pc_ninK {i o : Expr} {td ty : TE} (hK : X.K = K) (hP : X.prog = P) (hw : X.w = w) (hu : X.A.units + 9 < cLine) (hi : PE X i ty) (ho : PE X o td) : PC X .In i o (tNIn K P w ty td) := by
  subst hK hP hw
  exact pc_nin hu hi ho
theorem pc_nnotinK {i o : Expr} {td ty : TE} (hK : X.K = K) (hP : X.prog = P) (hw : X.w = w) (hu : X.A.units + 9 < cLine) (hi : PE X i ty) (ho : PE X o td) : PC X .NotIn i o (tNNotIn K P w ty td) := by
  subst hK hP hw
  exact pc_nnotin hu hi ho
end
/-! ### the test of positions -/
theorem hu9 {k : Nat} {A : Around} (r : Room k A) : A.units + 9 < cLine := by have := r.un; omega
def pI (p : Nat × Nat) : List Int := [(p.1 : Int), (p.2 : Int)]
theorem rows2 {ps : List (Nat × Nat)} {H : Hp} {K : PySem.W.Frag} : ∀ {L : List (Addr × List Int)}, L.map (·.2) = ps.map pI → (∀ p ∈ L, SqT K H p.1 (p.2.map V.int)) → DpAll K H (L.map fun q => V.ref q.1) (ps.map pD) ∧ NkVs K H (ps.map fun p => NestedKey.tup [.num (p.1 : Nat), .num (p.2 : Nat)]) (L.map fun q => V.ref q.1) := by
  induction ps with
  | nil =>
    intro L e _
    have : L = [] := by simpa using e
    subst this
    exact ⟨.nil, .nil⟩
  | cons p ps ih =>
    intro L e hk
    cases L with
    | nil => cases e
    | cons q L =>
      rw [List.map_cons, List.map_cons] at e
      injection e with e1 e2
      obtain ⟨h1, h2⟩ := ih e2 fun r hr => hk r (List.mem_cons_of_mem _ hr)
      have hq := hk q List.mem_cons_self
      rw [e1] at hq
      exact ⟨.cons (.tup hq (.cons (.int _) (.cons (.int _) .nil))) h1, .cons (.tup hq (.cons (.int _) (.cons (.int _) .nil))) h2⟩
theorem pairs_of : ∀ {L : List (Addr × List Int)}, (∀ q ∈ L, ∃ p : Nat × Nat, q.2 = pI p) → ∃ ps : List (Nat × Nat), L.map (·.2) = ps.map pI
  | [], _ => ⟨[], rfl⟩
  | q :: L, h => by
    obtain ⟨p, hp⟩ := h q List.mem_cons_self
    obtain ⟨ps, e⟩ := pairs_of (L := L) fun r hr => h r (List.mem_cons_of_mem _ hr)
    exact ⟨p :: ps, by rw [List.map_cons, List.map_cons, hp, e]⟩
theorem pI_inj {p s : Nat × Nat} (h : pI p = pI s) : p = s := by
  unfold pI at h
  injection h with h1 h2
  injection h2 with h2 _
  exact Prod.ext (by omega) (by omega)
theorem depth2 (ps : List (Nat × Nat)) : (NestedKey.tup (ps.map fun p => NestedKey.tup [.num (p.1 : Nat), .num (p.2 : Nat)])).depth ≤ 8 := by
  have a : ∀ l : List (Nat × Nat), NestedKey.depthAll (l.map fun p => NestedKey.tup [.num (p.1 : Nat), .num (p.2 : Nat)]) ≤ 1 := by
    intro l
    induction l with
    | nil => rw [List.map_nil, NestedKey.depthAll]; exact Nat.zero_le _
    | cons p l ih =>
      rw [List.map_cons, NestedKey.depthAll]
      refine Nat.max_le.mpr ⟨?_, ih⟩
      simp [NestedKey.depth, NestedKey.depthAll]
  have := a ps
  rw [NestedKey.depth]
  omega
section
open NdefX LamX
variable {P : Program} {w : World} {K : PySem.W.Frag} {mg : Str → Option Value} {base : Heap}
/-- structures that may be compared -/
def CompOk (I J : List Wrl) : Prop := ∀ ps : List (Nat × Nat), ps.length ≤ 3 → ToldOk ps I J
/-- what is known is right -/
def KnOk (kvs : List NEn) (I J : List Wrl) : Prop := ∀ (ps : List (Nat × Nat)) (v : V), valN kvs (.tup (ps.map fun p => NestedKey.tup [.num (p.1 : Nat), .num (p.2 : Nat)])) = some v → ∃ b : Bool, v = .bl b ∧ (b = true ↔ SoundP ps I J)
def spNow (K : PySem.W.Frag) (P : Program) (w : World) : List (Option V) → Sp := fun ws vs H Q _ => ∃ (d : Addr) (u v x : V) (n m : Nat) (I J : List Wrl) (es : List (Option (Nat × Nat))) (kvs : List NEn), ws = [some u, some v, some (.ref d)] ∧ vs = [x] ∧ DnAt K P w H d kvs ∧ kvs.length ≤ 10000 ∧ KnOk kvs I J ∧ StR K H u n I ∧ StR K H v m J ∧
  Dp K H x (.tuple (es.map eD)) ∧ es.length ≤ 3 ∧ (∀ p, some p ∈ es → p.1 < 64 ∧ p.2 < 64) ∧ CompOk I J ∧ ∀ (H' : Hp) (b : Bool) (ps : List (Nat × Nat)) (kvs' : List NEn), Kii d H H' → DnAt K P w H' d kvs' → kvs'.length ≤ kvs.length + 1 → KnOk kvs' I J → (∀ p, p ∈ ps ↔ some p ∈ es) → (b = true ↔ SoundP ps I J) → Q (.bl b) H'
theorem kps_inj {ps qs : List (Nat × Nat)} (h : NestedKey.tup (ps.map fun p => NestedKey.tup [.num (p.1 : Nat), .num (p.2 : Nat)]) = .tup (qs.map fun p => NestedKey.tup [.num (p.1 : Nat), .num (p.2 : Nat)])) : ps = qs := by
  injection h with h
  refine List.map_inj_right (f := fun p : Nat × Nat => NestedKey.tup [.num (p.1 : Nat), .num (p.2 : Nat)]) (fun a b e => ?_) |>.mp h
  injection e with e
  injection e with e1 e
  injection e with e2 _
  injection e1 with e1
  injection e2 with e2
  exact Prod.ext (by omega) (by omega)
theorem sc_now : NScope ["position", "first", "second", "known", "pairs", "entry"] ["position"] ["first", "second", "known"] (C8.fnScope (inDef (top 32) 1)) := nscope_by (by decide +kernel)
theorem ok_now (T : Txt mg) (C1 : Has P w K mg base 2 "told_apart" ["first", "second", "pairs"] (spTold K)) (f c' : Addr) (cl : List (Str × Addr)) : NOk P w K mg base CX0 3 f (NF.of (inDef (top 32) 1) "is_sound_now" "sound_test.<locals>.is_sound_now" cl c') ["position"] ["first", "second", "known"] (spNow K P w) := by
  obtain ⟨f1, fd1, G_told_apart, g_told_apart, k_told_apart, b_told_apart⟩ := C1
  refine nok_of sc_now (fun doc pm ctv us hl => match us, hl with | [_], _ => rfl) (fun ws vs H Q E h => ?_) (fun A outer s H vs ws Q E hr hf hc lw h => ?_)
  · obtain ⟨d, u, v, x, n, m, I, J, es, kvs, rfl, rfl, _⟩ := h; rfl
  · obtain ⟨d, u, v, x, n, m, I, J, es, kvs, rfl, rfl, hd, lkv, kn, hu, hv, hx, l3, b64, ok, q⟩ := h
    have R_told_apart : Room 2 _ := hr
    refine ⟨_, PSs.nox (pss_cons (ps_set (i := 4) sc_now.nd rfl (Or.inl rfl) (pe_callTy call_tuple_of (by rfl) T.n_tuple (by decide +kernel) (pa_cons (pe_callB (cr_sortedN rfl) (by rfl) T.n_sorted (by decide +kernel) (pa_cons (pe_callTy (cr_setOfT rfl (hu65' hr)) (by rfl) T.n_set (by decide +kernel) (pa_cons (pe_lc (own := [("entry", 5)]) rfl sc_now.nd (pi_tup (pv 0)) (blkOk_by (N := ["position", "first", "second", "known", "pairs", "entry"]) (sc := defScope (inDef (top 32) 1)) (by decide +kernel)) (fun _ _ _ _ _ => (pg_name (i := 5) sc_now.nd rfl (Or.inl rfl))) (fun _ _ _ _ _ => (pts_one (pt_cmpR op_notN (pv 5) pe_non (nomark _)))) (fun _ _ _ _ _ => (pv 5))) pa_nil)) pa_nil)) pa_nil))) (pss_cons (ps_if (pt_cmp (pc_nnotin (hu9 hr) (pv 4) (pv 3))) (pss_one (ps_nput (hu9 hr) (pv 3) (pv 4) (pe_cmpR op_isN (pe_call G_told_apart R_told_apart (by rfl) g_told_apart k_told_apart b_told_apart .nil pass0 (pa_cons (pv 1) (pa_cons (pv 2) (pa_cons (pv 4) pa_nil)))) pe_non (nomark _)) rfl)) pss_nil) (pss_one (ps_ret (pe_nget (hu9 hr) (pv 3) (pv 4) (fun _ _ => rfl)))))), ?_⟩
    obtain ⟨a, xs, rfl, hxs, dxs⟩ := Dp.tup_inv hx
    refine ⟨_, rfl, a, rfl, ⟨_, hxs⟩, fun M nM => ?_⟩
    have lx := DpAll.length dxs
    rw [List.length_map] at lx
    refine lc_it (walk_tup (K := K) (a := a) (xs := xs)) (fun i H2 => ∃ ks : List (Addr × List Int), Same H H2 ∧ H2 M = some (.lst (ks.map fun p => V.ref p.1)) ∧ ks.length ≤ i ∧ (∀ p ∈ ks, SqT K H2 p.1 (p.2.map V.int)) ∧ (∀ p ∈ ks, ∃ s : Nat × Nat, p.2 = pI s ∧ some s ∈ es) ∧ ∀ s : Nat × Nat, some s ∈ es.take i → pI s ∈ ks.map (·.2))
      ⟨[], same_upd nM, upd_same, Nat.le_refl _, (fun p hp => nomatch hp), (fun p hp => nomatch hp), (fun s hs => nomatch hs)⟩ (fun i H2 _ ⟨_, s2, _⟩ => Same.sqt s2 hxs) ?_ ?_
    · rintro i z H2 H3 hi ⟨ks, s2, hM, lk, sk, m1, m2⟩ ⟨rfl, hz⟩
      obtain ⟨dd, hdd, dpy⟩ := DpAll.get' dxs hz
      obtain ⟨e, he, rfl⟩ := get_map hdd
      cases e with
      | none =>
        obtain rfl : z = .non := by cases dpy; rfl
        refine ⟨rfl, _, rfl, rfl, _, rfl, ?_⟩
        refine iteF ⟨ks, s2, hM, by omega, sk, m1, fun s hs => m2 s ?_⟩
        rw [List.take_add_one, he] at hs
        rcases List.mem_append.mp hs with hs | hs
        · exact hs
        · cases List.mem_singleton.mp hs
      | some p =>
        obtain ⟨u0, zs, rfl, hu0, hzs⟩ := Dp.tup_inv (Dp.same s2 dpy)
        obtain ⟨v1, w1, rfl, g1, hzs⟩ := DpAll.cons_inv hzs
        obtain ⟨v2, w2, rfl, g2, hzs⟩ := DpAll.cons_inv hzs
        obtain rfl := DpAll.nil_inv hzs
        obtain rfl := Dp.int_inv g1
        obtain rfl := Dp.int_inv g2
        refine ⟨rfl, _, rfl, rfl, _, rfl, ?_⟩
        refine iteT ⟨_, rfl, _, hM, small1000 (by rw [List.length_map]; omega), ks ++ [(u0, pI p)], same_own s2 nM, by rw [upd_same, List.map_append]; rfl, by rw [List.length_append]; exact Nat.add_le_add lk (Nat.le_refl 1), fun r hr => ?_, fun r hr => ?_, fun s hs => ?_⟩
        · have kp : SqT K H3 r.1 (r.2.map V.int) := by
            rcases List.mem_append.mp hr with hr | hr
            · exact sk r hr
            · rw [List.mem_singleton.mp hr]; exact hu0
          exact Kl.sqT (Kl.upd hM) kp
        · rcases List.mem_append.mp hr with hr | hr
          · exact m1 r hr
          · rw [List.mem_singleton.mp hr]; exact ⟨p, rfl, List.mem_of_getElem? he⟩
        · rw [List.take_add_one, he] at hs
          rw [List.map_append]
          rcases List.mem_append.mp hs with hs | hs
          · exact List.mem_append_left _ (m2 s hs)
          · cases List.mem_singleton.mp hs
            exact List.mem_append_right _ List.mem_cons_self
    · rintro H2 ⟨ks, s2, hM, lk, sk, m1, m2⟩
      rw [lx, List.take_length] at m2
      refine ⟨M, ks, rfl, SqL.of hM, sk, by omega, fun a1 L na z1 z2 => ?_⟩
      have sa := same_upd (o := SetTO P w a1 L) na
      refine ⟨a1, L, 2, 64, rfl, upd_same, fun p hp => Same.sqt sa (sk p (z1 p hp)), fun p hp => ?_, fun L' p pm nd few pw np => ?_⟩
      · obtain ⟨s, e, hs⟩ := m1 p (z1 p hp)
        rw [e]
        refine ⟨rfl, fun y hy => ?_⟩
        have := b64 s hs
        unfold pI at hy
        rcases List.mem_cons.mp hy with rfl | hy
        · omega
        · rw [List.mem_singleton.mp hy]; omega
      have sp := same_upd (o := .lst (L'.map fun q => V.ref q.1)) np
      refine ⟨p, _, rfl, .inl ⟨SqL.of upd_same, fun l nl => ?_⟩⟩
      have sl := same_upd (o := .tup (L'.map fun q => V.ref q.1)) nl
      have s24 := (sa.trans sp).trans sl
      have s04 := s2.trans s24
      have hl := upd_same (H := upd (upd H2 a1 (SetTO P w a1 L)) p (.lst (L'.map fun q => V.ref q.1))) (a := l) (o := .tup (L'.map fun q => V.ref q.1))
      obtain ⟨ps, eps⟩ := pairs_of (L := L') fun r hr => by
        obtain ⟨s, e, _⟩ := m1 r (z1 r (pm.mem_iff.mp hr))
        exact ⟨s, e⟩
      have mem : ∀ s : Nat × Nat, s ∈ ps ↔ some s ∈ es := fun s => by
        refine ⟨fun hs => ?_, fun hs => ?_⟩
        · have h1 : pI s ∈ L'.map (·.2) := by rw [eps]; exact List.mem_map.mpr ⟨s, hs, rfl⟩
          obtain ⟨r, hr, e⟩ := List.mem_map.mp h1
          obtain ⟨s', e', hs'⟩ := m1 r (z1 r (pm.mem_iff.mp hr))
          rw [pI_inj (e.symm.trans e')]; exact hs'
        · obtain ⟨r, hr, e⟩ := List.mem_map.mp (m2 s hs)
          have h2 := z2 r hr
          have e : r.2 = pI s := e
          rw [e] at h2
          have h3 : pI s ∈ L'.map (·.2) := by
            obtain ⟨r2, hr2, e2⟩ := List.mem_map.mp h2
            exact List.mem_map.mpr ⟨r2, pm.mem_iff.mpr hr2, e2⟩
          rw [eps] at h3
          obtain ⟨s', hs', e3⟩ := List.mem_map.mp h3
          rw [← pI_inj e3]; exact hs'
      have lps : ps.length ≤ 3 := by
        have h1 : (L'.map (·.2)).length ≤ (ks.map (·.2)).length := sub_len _ _ nd fun x hx => by
          obtain ⟨r, hr, rfl⟩ := List.mem_map.mp hx
          exact List.mem_map.mpr ⟨r, z1 r (pm.mem_iff.mp hr), rfl⟩
        rw [eps, List.length_map, List.length_map] at h1
        omega
      obtain ⟨dps, nks⟩ := rows2 (K := K) eps fun r hr => Same.sqt s24 (sk r (z1 r (pm.mem_iff.mp hr)))
      have nk : NkV K _ (.tup (ps.map fun p => NestedKey.tup [.num (p.1 : Nat), .num (p.2 : Nat)])) (.ref l) := .tup (SqT.of hl) nks
      refine ⟨_, rfl, _, rfl, d, l, kvs, _, rfl, rfl, hd.same s04, nk, depth2 ps, _, rfl, ?_⟩
      cases hval : valN kvs (.tup (ps.map fun p => NestedKey.tup [.num (p.1 : Nat), .num (p.2 : Nat)])) with
      | some v0 =>
        obtain ⟨b, rfl, hb⟩ := kn ps v0 hval
        refine cF (k := !(some (V.bl b)).isSome) rfl ?_
        exact ⟨_, rfl, _, rfl, d, l, kvs, _, _, rfl, rfl, hd.same s04, nk, depth2 ps, hval, q _ b ps kvs (fun c o e _ => s04 _ _ e) (hd.same s04) (Nat.le_succ _) kn mem hb⟩
      | none =>
        refine cT (k := !(none : Option V).isSome) rfl ?_
        refine ⟨_, rfl, _, rfl, _, rfl, u, v, l, _, ps, n, m, I, J, rfl, StR.same s04 hu, StR.same s04 hv, SqT.of hl, dps, ok ps lps, fun H5 y s5 hy => ?_⟩
        have s05 := s04.trans s5
        have nk5 := NkV.keep (fun a xs e => Same.sqt s5 e) _ _ nk
        refine ⟨rfl, _, rfl, _, rfl, d, l, kvs, _, rfl, rfl, hd.same s05, nk5, depth2 ps, Nat.lt_of_le_of_lt lkv (by decide), fun H6 e6 hd6 => ?_⟩
        have k6 : Kii d H H6 := fun b o e nb => by
          rw [e6, upd_ne nb]
          exact s05 _ _ e
        have nk6 : NkV K H6 (.tup (ps.map fun p => NestedKey.tup [.num (p.1 : Nat), .num (p.2 : Nat)])) (.ref l) := by
          refine NkV.keep (fun c ys ec => ?_) _ _ nk5
          have hd5 := (hd.same s05).at_
          rw [e6]
          rcases ec with (ec | ⟨o, ec⟩) | ec
          · exact .inl (.inl (by rw [upd_ne (ne_of ec hd5 (fun z => nomatch z))]; exact ec))
          · exact .inl (.inr ⟨o, by rw [upd_ne (ne_of ec hd5 (fun z => nomatch z))]; exact ec⟩)
          · exact .inr ec
        have hyb : decide (y = V.non) = true ↔ SoundP ps I J := by rw [decide_eq_true_iff]; exact hy
        refine ⟨_, rfl, _, rfl, d, l, _, _, _, rfl, rfl, hd6, nk6, depth2 ps, (by rw [valN_put, if_pos rfl]), q H6 _ ps _ k6 hd6 (putN_length _ _ _ _) (fun qs v' hv' => ?_) mem hyb⟩
        rw [valN_put] at hv'
        by_cases e : NestedKey.tup (ps.map fun p => NestedKey.tup [.num (p.1 : Nat), .num (p.2 : Nat)]) = NestedKey.tup (qs.map fun p => NestedKey.tup [.num (p.1 : Nat), .num (p.2 : Nat)])
        · rw [if_pos e] at hv'
          cases hv'
          rw [← kps_inj e]
          exact ⟨_, rfl, hyb⟩
        · rw [if_neg e] at hv'
          exact kn qs v' hv'
end
/-! ### the maker of the test -/
theorem StR.kc {K : PySem.W.Frag} {H H' : Hp} {v : V} {n : Nat} {J : List Wrl} (x : Kc H H') (h : StR K H v n J) : StR K H' v n J := by
  obtain ⟨s, dx, p, ys, rfl, h1, h2, h3⟩ := h
  exact ⟨s, dx, p, ys, rfl, x.ins h1, x.lst h2, h3.keep (fun _ _ q => x.sqT q) fun _ _ q => x.tup q⟩
theorem Kii.back {cs : List Addr} {H G : Hp} {d : Addr} (k : Kii d (hideC cs H) G) : Kii d H (backC cs H G) := fun b o e nb => by
  by_cases hb : b ∈ cs
  · rw [back_in hb]; exact e
  · rw [back_ne hb]; exact k b o (by rw [hide_ne hb]; exact e) nb
section
open NdefX LamX
variable {P : Program} {w : World} {K : PySem.W.Frag} {mg : Str → Option Value} {base : Heap}
abbrev nowT (K : PySem.W.Frag) : List NTab := [((He.cT K ("sound_test", none)).2, fun _ _ => "sound_test.<locals>.is_sound_now")]
abbrev nowF (cl : List (Str × Addr)) (c' : Addr) : NF := NF.of (inDef (top 32) 1) "is_sound_now" "sound_test.<locals>.is_sound_now" cl c'
def spSTest (K : PySem.W.Frag) (P : Program) (w : World) : Sp := fun vs H Q _ => ∃ u v : V, vs = [u, v] ∧ TabsN (nowT K) H ∧ ∀ (G : Hp) (f d c' : Addr) (cl : List (Str × Addr)), ExtN H G → TabsN (nowT K) G → H d = none →
  CloAt G f (nowF cl c') (FnO f (nowF cl c')) ["first", "second", "known"] [u, v, .ref d] → d ∉ cl.map (·.2) → f ≠ d → DnAt K P w G d [] → Q (.ref f) G
theorem sc_stest : FnScope ["first", "second", "known", "is_sound_now"] ["first", "second"] (defScope (top 32)) := ⟨rfl, rfl, rfl, by decide +kernel, rfl, by decide +kernel, by decide +kernel⟩
theorem ok_stest {fd : FuncData} (F : FunD K "sound_test" "sound_test" (defArgs (top 32)) (defBody (top 32)) (defScope (top 32)) [] [] (He.fAd K ("sound_test", none)) fd) (TB : TabB base mg (He.cT K ("sound_test", none)).1 (He.cT K ("sound_test", none)).2) :
    FnOk P w K mg base CX0 1 (He.fAd K ("sound_test", none)) fd ["first", "second"] (spSTest K P w) := by
  have hB : ndefB (defScope (top 32)) (C8.fnScope (inDef (top 32) 1)) ["first", "second", "known"] = true := by decide +kernel
  refine fnd_okT (q := ("sound_test", none)) F sc_stest (C8.fnScope (inDef (top 32) 1)) ["first", "second", "known"] [0, 1, 2] (by decide) hB sc_now.free rfl (fun vs H Q E h => ?_) (fun A outer s H vs Q E hr h => ?_)
  · obtain ⟨u, v, rfl, _⟩ := h; rfl
  · obtain ⟨u, v, rfl, hT, q⟩ := h
    refine ⟨_, pr_cons (ps_set (i := 2) sc_stest.nd rfl (Or.inr rfl) pe_dnewN) (pr_cons (ps_ndefS (st := (inDef (top 32) 1)) (T := nowT K) (i := 3) rfl TB rfl (List.mem_singleton.mpr rfl) rfl (fun p hp _ => by rw [List.mem_singleton.mp hp]) (ndef_free hB) rfl rfl rfl sc_stest.nd rfl (Or.inl rfl) (Or.inl rfl)) (pr_ret (pv 3))), ?_⟩
    refine fun d nd => ⟨hT.ext (same_upd nd), fun f c' H1 xN T1 f0 f1 c1 => ⟨_, rfl, [u, v, .ref d], rfl, fun G pg => ?_⟩⟩
    have sm := pg.same
    have hd1 : H1 d = some (DnO P w d []) := xN d _ upd_same (fun ps z => by unfold DnO at z; cases z)
    refine q G f d c' _ (fun b o e n => sm _ _ (xN b o (same_upd nd _ _ e) n)) (T1.ext sm) nd ⟨sm _ _ f1, sm _ _ c1, fun z => ?_, fun z => ?_, pg.cls⟩ (fun z => ?_) (fun z => by rw [z, upd_same] at f0; cases f0) ⟨sm _ _ hd1, fun e he => nomatch he⟩
    · have := pg.new _ z
      rw [f1] at this; cases this
    · have := pg.new _ z
      have c1' : H1 c' = _ := c1
      rw [show (nowF _ c').c = c' from rfl, c1'] at this; cases this
    · have := pg.new _ z
      rw [hd1] at this; cases this
theorem codeO_dn {c : Addr} {q : Str} {kvs : List NEn} : CodeO c q ≠ DnO P w c kvs := fun e => by
  unfold CodeO DnO at e
  injection e with e
  have hc : (⟨Array.replicate (c + 1) ⟨.none, none, .fields #[.none, .str q default], #[]⟩, {}⟩ : Heap).get? c = some (⟨.none, none, .fields #[.none, .str q default], #[]⟩ : Obj) := by
    unfold Heap.get?
    rw [show (⟨Array.replicate (c + 1) ⟨.none, none, .fields #[.none, .str q default], #[]⟩, {}⟩ : Heap).objs[c]? = some (⟨.none, none, .fields #[.none, .str q default], #[]⟩ : Obj) from by simp]
  have z := (congrFun e (⟨Array.replicate (c + 1) ⟨.none, none, .fields #[.none, .str q default], #[]⟩, {}⟩ : Heap)).mp ⟨_, _, default, hc, rfl, rfl⟩
  obtain ⟨_, _, xs, _, o, es, ep, h1, _, h3, _⟩ := z
  rw [hc] at h1
  rw [← Option.some.inj h1] at h3
  cases h3
theorem tabs_kii {d : Addr} {G H : Hp} (t : TabsN (nowT K) G) (k : Kii d G H) (e : G d = some (DnO P w d [])) : TabsN (nowT K) H := fun p hp => by
  obtain ⟨ps, h1, h2, h3⟩ := t p hp
  refine ⟨ps, k _ _ h1 fun z => ?_, h2, fun pos cv hc => ?_⟩
  · rw [z, e] at h1
    unfold DnO at h1
    cases h1
  · obtain ⟨c, e1, e2⟩ := h3 pos cv hc
    refine ⟨c, e1, k _ _ e2 fun z => ?_⟩
    rw [z, e] at e2
    rw [z] at *
    exact codeO_dn (Option.some.inj e2).symm
end
/-! ### calls of closures: what is new lies outside their cells -/
section
open NdefX LamX
variable {P : Program} {w : World} {K : PySem.W.Frag} {mg : Str → Option Value} {base : Heap} {H H' : Hp} {h h' : Heap} {cs : List Addr} {k : Nat}
theorem ce_backN {outer : List Env} {s s' : Shared} {Q : VK} {u : Value} (C : Celled cs H) (hok0 : HOk P w H s.heap) (frf : ∀ b ∈ frs outer, H b = none) (x : CE outer P w (hideC cs H) s (fun v G => (∀ c, c ∈ cs → G c = none) → Q v (backC cs H G)) u s') : CE outer P w H s Q u s' := by
  obtain ⟨v, G, os, bare, un, hok, rv, q⟩ := x
  have q' : (fun v G => Q v (backC cs H G)) v G := q fun c hc => by
    obtain ⟨v, hv⟩ := C c hc
    obtain ⟨_, o, ho⟩ := cellO_ok (hok0 c _ hv)
    exact un.free c o ho (hide_in hc) (by simp)
  exact ce_back C hok0 frf ⟨v, G, os, bare, un, hok, rv, q'⟩
variable {f : Addr} {F : NF} {obj : HO} {fr : List Str} {vals vs : List V} {sp : List (Option V) → List V → Hp → VK → Prop} {Q : VK}
theorem runs_ofN (R : Rn P w K mg base k f F obj fr sp) (C : CloAt H f F obj fr vals) (q : sp (vals.map some) vs (hideC (F.cl.map (·.2)) H) (fun v G => (∀ c, c ∈ F.cl.map (·.2) → G c = none) → Q v (backC (F.cl.map (·.2)) H G))) : Runs P w K mg base k f vs H Q := fun A outer s us hr e0 r => by
  have e1 := env0_hide e0 C.cls.all
  have ca : CellsAt F.cl fr (vals.map some) s.heap (hideC (F.cl.map (·.2)) H) := by
    have mem : ∀ {y : Str} {c : Addr}, F.cl.lookup y = some c → c ∈ F.cl.map (·.2) := fun e => List.mem_map.mpr ⟨_, PySem.mem_of_lookup e, rfl⟩
    refine ⟨by rw [List.length_map]; exact C.cls.len, fun y c e => ⟨hide_in (mem e), ?_⟩, C.cls.inj, fun i y e => ?_⟩
    · obtain ⟨v, hv⟩ := C.cls.all c (mem e)
      obtain ⟨⟨u, _, hu⟩, _⟩ := cellO_ok (e0.hok c _ hv)
      exact ⟨_, hu⟩
    · obtain ⟨c, hc, hv⟩ := C.cls.has i y e
      refine ⟨c, hc, fun v ev => ?_⟩
      rw [List.getElem?_map] at ev
      cases e2 : vals[i]? with
      | none => rw [e2] at ev; cases ev
      | some v2 =>
        rw [e2] at ev
        cases ev
        exact (cellO_ok (e0.hok c _ (hv _ e2))).1
  refine codeAny_mono (R A outer s _ us vs _ _ hr e1 (by rw [hide_ne C.nf]; exact C.fn) (by rw [hide_ne C.nc]; exact C.code) ca r q) fun x s' hx => ?_
  cases x with
  | error e => exact hx
  | ok fl =>
    cases fl with
    | ret u => exact ce_backN C.cls.all e0.hok e0.frf hx
    | next => exact hx
    | brk => exact hx
    | cont => exact hx
theorem CloAt.kii {d : Addr} (C : CloAt H f F obj fr vals) (k : Kii d H H') (fd : f ≠ d) (cd : F.c ≠ d) (nd : d ∉ F.cl.map (·.2)) : CloAt H' f F obj fr vals := by
  have cl : ∀ c v, c ∈ F.cl.map (·.2) → H c = some (CellO c v) → H' c = some (CellO c v) := fun c v hc e => k _ _ e fun z => nd (z ▸ hc)
  refine ⟨k _ _ C.fn fd, k _ _ C.code cd, C.nf, C.nc, C.cls.len, C.cls.inj, fun c hc => ?_, fun i y e => ?_⟩
  · obtain ⟨v, hv⟩ := C.cls.all c hc
    exact ⟨v, cl c v hc hv⟩
  · obtain ⟨c, hc, hv⟩ := C.cls.has i y e
    exact ⟨c, hc, fun v ev => cl c v (List.mem_map.mpr ⟨_, PySem.mem_of_lookup hc, rfl⟩) (hv v ev)⟩
theorem DnAt.back {G : Hp} {d : Addr} {kvs : List NEn} (g : DnAt K P w G d kvs) (fr : ∀ c, c ∈ cs → G c = none) (nd : d ∉ cs) : DnAt K P w (backC cs H G) d kvs := by
  refine g.keep (back_ne nd) fun a xs ec => ?_
  have out : ∀ {o : HO}, G a = some o → a ∉ cs := fun e z => by rw [fr a z] at e; cases e
  rcases ec with (ec | ⟨o, ec⟩) | ec
  · exact .inl (.inl (by rw [back_ne (out ec)]; exact ec))
  · exact .inl (.inr ⟨o, by rw [back_ne (out ec)]; exact ec⟩)
  · exact .inr ec
theorem DnAt.other {d D : Addr} {kvs kvD kvx : List NEn} (g : DnAt K P w H d kvs) (gD : H D = some (DnO P w D kvD)) (ne : d ≠ D) : DnAt K P w (upd H D (DnO P w D kvx)) d kvs := by
  refine g.keep (upd_ne ne) fun a xs ec => ?_
  rcases ec with (ec | ⟨o, ec⟩) | ec
  · exact .inl (.inl (by rw [upd_ne (ne_of ec gD (fun z => nomatch z))]; exact ec))
  · exact .inl (.inr ⟨o, by rw [upd_ne (ne_of ec gD (fun z => nomatch z))]; exact ec⟩)
  · exact .inr ec
theorem DnAt.kii {d D : Addr} {kvs kvD : List NEn} (g : DnAt K P w H D kvs) (gd : H d = some (DnO P w d kvD)) (k : Kii d H H') (ne : D ≠ d) : DnAt K P w H' D kvs :=
  g.keep ((k _ _ g.at_ ne).trans g.at_.symm) fun a xs ec => by
    rcases ec with (ec | ⟨o, ec⟩) | ec
    · exact .inl (.inl (k _ _ ec (ne_of ec gd (fun z => nomatch z))))
    · exact .inl (.inr ⟨o, k _ _ ec (ne_of ec gd (fun z => nomatch z))⟩)
    · exact .inr ec
/-- tables and the code that they name -/
theorem TabsN.keep {T : List NTab} (t : TabsN T H) (k : ∀ b o, H b = some o → ((∃ ps, o = .tbl ps) ∨ ∃ q, o = CodeO b q) → H' b = some o) : TabsN T H' := fun p hp => by
  obtain ⟨ps, h1, h2, h3⟩ := t p hp
  refine ⟨ps, k _ _ h1 (.inl ⟨_, rfl⟩), h2, fun pos cv hc => ?_⟩
  obtain ⟨c, e1, e2⟩ := h3 pos cv hc
  exact ⟨c, e1, k _ _ e2 (.inr ⟨_, rfl⟩)⟩
end
/-! ### the game: positions, and how long the challenger takes -/
abbrev Pn := List (Option (Nat × Nat))
def entsG (n m : Nat) : Pn := none :: (List.range n).flatMap fun a => (List.range m).map fun b => some (a, b)
def posG (n m : Nat) : Nat → List Pn
  | 0 => [[]]
  | k + 1 => (posG n m k).flatMap fun p => (entsG n m).map fun e => p ++ [e]
theorem entsG_mem {n m : Nat} {e : Option (Nat × Nat)} : e ∈ entsG n m ↔ ∀ p, e = some p → p.1 < n ∧ p.2 < m := by
  unfold entsG
  cases e with
  | none => simp
  | some p =>
    obtain ⟨a, b⟩ := p
    simp only [List.mem_cons, List.mem_flatMap, List.mem_map, List.mem_range, Option.some.injEq, Prod.mk.injEq, reduceCtorEq, false_or]
    refine ⟨fun ⟨x, hx, y, hy, e1, e2⟩ q hq => ?_, fun h => ?_⟩
    · rw [← hq, ← e1, ← e2]; exact ⟨hx, hy⟩
    · obtain ⟨h1, h2⟩ := h (a, b) rfl
      exact ⟨a, h1, b, h2, rfl, rfl⟩
theorem flat_len {α β : Type} (f : α → List β) (c : Nat) : ∀ l : List α, (∀ x, x ∈ l → (f x).length = c) → (l.flatMap f).length = l.length * c
  | [], _ => by simp
  | x :: l, h => by
    rw [List.flatMap_cons, List.length_append, h x List.mem_cons_self, flat_len f c l fun y hy => h y (List.mem_cons_of_mem _ hy), List.length_cons, Nat.add_mul, Nat.one_mul, Nat.add_comm]
theorem entsG_len (n m : Nat) : (entsG n m).length = 1 + n * m := by
  unfold entsG
  rw [List.length_cons, flat_len _ m _ (fun x _ => by rw [List.length_map, List.length_range]), List.length_range, Nat.add_comm]
theorem posG_len (n m : Nat) : ∀ k, (posG n m k).length = (1 + n * m) ^ k
  | 0 => rfl
  | k + 1 => by
    rw [posG, flat_len _ (1 + n * m) _ (fun x _ => by rw [List.length_map, entsG_len]), posG_len n m k, Nat.pow_succ]
theorem posG_mem {n m : Nat} : ∀ {k : Nat} {p : Pn}, p ∈ posG n m k ↔ p.length = k ∧ ∀ e, e ∈ p → e ∈ entsG n m
  | 0, p => by
    rw [posG, List.mem_singleton]
    refine ⟨fun h => by rw [h]; exact ⟨rfl, fun e he => nomatch he⟩, fun ⟨h, _⟩ => List.length_eq_zero_iff.mp h⟩
  | k + 1, p => by
    rw [posG, List.mem_flatMap]
    refine ⟨fun ⟨q, hq, hp⟩ => ?_, fun ⟨h1, h2⟩ => ?_⟩
    · obtain ⟨e, he, rfl⟩ := List.mem_map.mp hp
      obtain ⟨h1, h2⟩ := posG_mem.mp hq
      refine ⟨by rw [List.length_append, h1]; rfl, fun x hx => ?_⟩
      rcases List.mem_append.mp hx with hx | hx
      · exact h2 x hx
      · rw [List.mem_singleton.mp hx]; exact he
    · have ne : p ≠ [] := fun e => by rw [e] at h1; cases h1
      refine ⟨p.dropLast, posG_mem.mpr ⟨by rw [List.length_dropLast, h1]; rfl, fun x hx => h2 x ((List.dropLast_sublist p).subset hx)⟩, List.mem_map.mpr ⟨p.getLast ne, h2 _ (List.getLast_mem ne), List.dropLast_concat_getLast ne⟩⟩
def insG (rest : Pn) (i : Nat) (e : Option (Nat × Nat)) : Pn := rest.take i ++ [e] ++ rest.drop i
def delG (p : Pn) (i : Nat) : Pn := p.take i ++ p.drop (i + 1)
theorem ins_del {p : Pn} {i : Nat} {e : Option (Nat × Nat)} (h : p[i]? = some e) : insG (delG p i) i e = p := by
  have lt := (List.getElem?_eq_some_iff.mp h).1
  have l1 : (p.take i).length = i := by rw [List.length_take]; omega
  unfold insG delG
  rw [List.take_append_of_le_length (by omega), List.take_take, Nat.min_self, List.drop_append_of_le_length (by omega), List.drop_of_length_le (Nat.le_of_eq l1), List.nil_append]
  conv => rhs; rw [← List.take_append_drop i p, List.drop_eq_getElem_cons lt]
  rw [(List.getElem?_eq_some_iff.mp h).2]
  simp
theorem del_ins {rest : Pn} {i : Nat} (e : Option (Nat × Nat)) (h : i ≤ rest.length) : delG (insG rest i e) i = rest := by
  have l1 : (rest.take i).length = i := by rw [List.length_take]; omega
  unfold insG delG
  rw [List.append_assoc, List.take_append_of_le_length (by omega), List.take_of_length_le (Nat.le_of_eq l1), List.drop_append, List.drop_of_length_le (by omega), l1]
  have : i + 1 - i = 1 := by omega
  rw [this]
  simp
theorem ins_mem {n m k : Nat} {rest : Pn} {i : Nat} {e : Option (Nat × Nat)} (h : rest ∈ posG n m k) (hi : i ≤ k) (he : e ∈ entsG n m) : insG rest i e ∈ posG n m (k + 1) := by
  obtain ⟨h1, h2⟩ := posG_mem.mp h
  refine posG_mem.mpr ⟨?_, fun x hx => ?_⟩
  · unfold insG
    simp only [List.length_append, List.length_take, List.length_drop, List.length_singleton]
    omega
  · unfold insG at hx
    rcases List.mem_append.mp hx with hx | hx
    · rcases List.mem_append.mp hx with hx | hx
      · exact h2 x (List.mem_of_mem_take hx)
      · rw [List.mem_singleton.mp hx]; exact he
    · exact h2 x (List.mem_of_mem_drop hx)
theorem del_mem {n m k : Nat} {p : Pn} {i : Nat} (h : p ∈ posG n m (k + 1)) (hi : i < k + 1) : delG p i ∈ posG n m k := by
  obtain ⟨h1, h2⟩ := posG_mem.mp h
  refine posG_mem.mpr ⟨?_, fun x hx => ?_⟩
  · unfold delG
    simp only [List.length_append, List.length_take, List.length_drop]
    omega
  · unfold delG at hx
    rcases List.mem_append.mp hx with hx | hx
    · exact h2 x (List.mem_of_mem_take hx)
    · exact h2 x (List.mem_of_mem_drop hx)
def winG (n m : Nat) (S : Pn → Prop) (rest : Pn) (i : Nat) : Prop := (∃ a, a < n ∧ ∀ b, b < m → S (insG rest i (some (a, b)))) ∨ ∃ b, b < m ∧ ∀ a, a < n → S (insG rest i (some (a, b)))
theorem winG_cong {n m k : Nat} {S S' : Pn → Prop} (h : ∀ p, p ∈ posG n m (k + 1) → (S p ↔ S' p)) {rest : Pn} {i : Nat} (hr : rest ∈ posG n m k) (hi : i ≤ k) : winG n m S rest i ↔ winG n m S' rest i := by
  have c : ∀ a b, a < n → b < m → (S (insG rest i (some (a, b))) ↔ S' (insG rest i (some (a, b)))) := fun a b ha hb => h _ (ins_mem hr hi (entsG_mem.mpr fun p e => by cases e; exact ⟨ha, hb⟩))
  unfold winG
  refine or_congr ⟨fun ⟨a, ha, q⟩ => ⟨a, ha, fun b hb => (c a b ha hb).mp (q b hb)⟩, fun ⟨a, ha, q⟩ => ⟨a, ha, fun b hb => (c a b ha hb).mpr (q b hb)⟩⟩ ⟨fun ⟨b, hb, q⟩ => ⟨b, hb, fun a ha => (c a b ha hb).mp (q a ha)⟩, fun ⟨b, hb, q⟩ => ⟨b, hb, fun a ha => (c a b ha hb).mpr (q a ha)⟩⟩
/-- lost within r rounds; k + 1 pebbles -/
def lostG (n m k : Nat) (U : Pn → Prop) : Nat → Pn → Prop
  | 0, p => U p
  | r + 1, p => lostG n m k U r p ∨ ∃ i, i < k + 1 ∧ winG n m (lostG n m k U r) (delG p i) i
section
variable {n m k : Nat} {U : Pn → Prop}
theorem lost_mono {r j : Nat} {p : Pn} (h : lostG n m k U r p) (l : r ≤ j) : lostG n m k U j p := by
  induction l with
  | refl => exact h
  | step _ ih => exact .inl ih
def IsLen (n m k : Nat) (U : Pn → Prop) (f : Pn → Option Nat) : Prop := ∀ p, p ∈ posG n m (k + 1) → ∀ r, f p = some r ↔ lostG n m k U r p ∧ ∀ j, j < r → ¬ lostG n m k U j p
def Upto (n m k : Nat) (U : Pn → Prop) (r : Nat) (f : Pn → Option Nat) : Prop := ∀ p, p ∈ posG n m (k + 1) → ∀ j, f p = some j ↔ j ≤ r ∧ lostG n m k U j p ∧ ∀ i, i < j → ¬ lostG n m k U i p
theorem len_uniq {f g : Pn → Option Nat} (hf : IsLen n m k U f) (hg : IsLen n m k U g) {p : Pn} (h : p ∈ posG n m (k + 1)) : f p = g p := by
  cases e : f p with
  | some r => exact ((hg p h r).mpr ((hf p h r).mp e)).symm
  | none =>
    cases e2 : g p with
    | none => rfl
    | some r =>
      have := (hf p h r).mpr ((hg p h r).mp e2)
      rw [e] at this; cases this
theorem least {S : Nat → Prop} : ∀ r, S r → ∃ j, j ≤ r ∧ S j ∧ ∀ i, i < j → ¬ S i
  | 0, h => ⟨0, Nat.le_refl _, h, fun i hi => absurd hi (Nat.not_lt_zero _)⟩
  | r + 1, h => by
    by_cases e : ∃ i, i ≤ r ∧ S i
    · obtain ⟨i, hi, hs⟩ := e
      obtain ⟨j, h1, h2, h3⟩ := least i hs
      exact ⟨j, by omega, h2, h3⟩
    · exact ⟨r + 1, Nat.le_refl _, h, fun i hi hs => e ⟨i, by omega, hs⟩⟩
termination_by r => r
decreasing_by omega
theorem upto_dom {r : Nat} {f : Pn → Option Nat} (u : Upto n m k U r f) {p : Pn} (h : p ∈ posG n m (k + 1)) : f p ≠ none ↔ lostG n m k U r p := by
  refine ⟨fun e => ?_, fun l e => ?_⟩
  · cases q : f p with
    | none => exact absurd q e
    | some j =>
      obtain ⟨h1, h2, _⟩ := (u p h j).mp q
      exact lost_mono h2 h1
  · obtain ⟨j, h1, h2, h3⟩ := least (S := fun i => lostG n m k U i p) r l
    rw [(u p h j).mpr ⟨h1, h2, h3⟩] at e
    cases e
/-- p is lost in the next round -/
def newG (n m k : Nat) (f : Pn → Option Nat) (p : Pn) : Prop := ∃ i, i < k + 1 ∧ winG n m (fun q => f q ≠ none) (delG p i) i
theorem new_iff {r : Nat} {f : Pn → Option Nat} (u : Upto n m k U r f) {p : Pn} (h : p ∈ posG n m (k + 1)) : newG n m k f p ↔ ∃ i, i < k + 1 ∧ winG n m (lostG n m k U r) (delG p i) i := by
  refine ⟨fun ⟨i, hi, q⟩ => ⟨i, hi, ?_⟩, fun ⟨i, hi, q⟩ => ⟨i, hi, ?_⟩⟩
  · exact (winG_cong (fun p hp => upto_dom u hp) (del_mem h hi) (by omega)).mp q
  · exact (winG_cong (fun p hp => upto_dom u hp) (del_mem h hi) (by omega)).mpr q
theorem upto_zero {f : Pn → Option Nat} (h : ∀ p, p ∈ posG n m (k + 1) → ((U p → f p = some 0) ∧ (¬ U p → f p = none))) : Upto n m k U 0 f := fun p hp j => by
  obtain ⟨h1, h2⟩ := h p hp
  by_cases e : U p
  · rw [h1 e]
    refine ⟨fun z => by cases z; exact ⟨Nat.le_refl _, e, fun i hi => absurd hi (Nat.not_lt_zero _)⟩, fun ⟨z, _⟩ => by rw [Nat.le_zero.mp z]⟩
  · rw [h2 e]
    refine ⟨(fun z => by cases z), fun ⟨z, l, _⟩ => ?_⟩
    rw [Nat.le_zero.mp z] at l
    exact absurd l e
theorem upto_next {r : Nat} {f g : Pn → Option Nat} (u : Upto n m k U r f) (h : ∀ p, p ∈ posG n m (k + 1) → (f p ≠ none → g p = f p) ∧ (f p = none → newG n m k f p → g p = some (r + 1)) ∧ (f p = none → ¬ newG n m k f p → g p = none)) : Upto n m k U (r + 1) g := fun p hp j => by
  obtain ⟨h1, h2, h3⟩ := h p hp
  by_cases e : f p = none
  · have nl : ¬ lostG n m k U r p := fun l => (upto_dom u hp).mpr l e
    have nl' : ∀ i, i ≤ r → ¬ lostG n m k U i p := fun i hi l => nl (lost_mono l hi)
    by_cases w : newG n m k f p
    · rw [h2 e w]
      have l1 : lostG n m k U (r + 1) p := .inr ((new_iff u hp).mp w)
      refine ⟨fun z => by cases z; exact ⟨Nat.le_refl _, l1, fun i hi => nl' i (by omega)⟩, fun ⟨z, l, _⟩ => ?_⟩
      by_cases ej : j ≤ r
      · exact absurd l (nl' j ej)
      · have : j = r + 1 := by omega
        rw [this]
    · rw [h3 e w]
      refine ⟨(fun z => by cases z), fun ⟨z, l, _⟩ => ?_⟩
      have l1 := lost_mono l z
      rcases l1 with l1 | l1
      · exact absurd l1 nl
      · exact absurd ((new_iff u hp).mpr l1) w
  · rw [h1 e]
    refine (u p hp j).trans ⟨fun ⟨a, b, c⟩ => ⟨by omega, b, c⟩, fun ⟨a, b, c⟩ => ⟨?_, b, c⟩⟩
    have l := (upto_dom u hp).mp e
    by_cases ej : j ≤ r
    · exact ej
    · exact absurd l (c r (by omega))
theorem upto_end {r : Nat} {f : Pn → Option Nat} (u : Upto n m k U r f) (h : ∀ p, p ∈ posG n m (k + 1) → f p = none → ¬ newG n m k f p) : IsLen n m k U f := by
  have st : ∀ i, ∀ p, p ∈ posG n m (k + 1) → lostG n m k U (r + i) p → lostG n m k U r p := fun i => by
    induction i with
    | zero => exact fun p _ l => l
    | succ i ih =>
      intro p hp l
      rcases l with l | ⟨j, hj, l⟩
      · exact ih p hp l
      · by_cases e : f p = none
        · refine absurd ((new_iff u hp).mpr ⟨j, hj, ?_⟩) (h p hp e)
          refine (winG_cong (fun q hq => ⟨ih q hq, fun l => lost_mono l (Nat.le_add_right _ _)⟩) (del_mem hp hj) (by omega)).mp l
        · exact (upto_dom u hp).mp e
  intro p hp j
  refine (u p hp j).trans ⟨fun ⟨_, b, c⟩ => ⟨b, c⟩, fun ⟨b, c⟩ => ⟨?_, b, c⟩⟩
  by_cases ej : j ≤ r
  · exact ej
  · have e : j = r + (j - r) := by omega
    rw [e] at b
    exact absurd (st _ p hp b) (c r (by omega))
/-- pairs that wait: each other one has all its positions lost -/
def Settle (n m k : Nat) (W : List (Pn × Nat)) (f : Pn → Option Nat) : Prop := (∀ x, x ∈ W → x.1 ∈ posG n m k ∧ x.2 < k + 1) ∧ ∀ rest, rest ∈ posG n m k → ∀ i, i < k + 1 → (rest, i) ∈ W ∨ ∀ e, e ∈ entsG n m → f (insG rest i e) ≠ none
theorem won_new {W won : List (Pn × Nat)} {f : Pn → Option Nat} (s : Settle n m k W f) (hw : ∀ x, x ∈ won ↔ x ∈ W ∧ winG n m (fun q => f q ≠ none) x.1 x.2) {p : Pn} (hp : p ∈ posG n m (k + 1)) (e : f p = none) :
    newG n m k f p ↔ ∃ x, x ∈ won ∧ ∃ e, e ∈ entsG n m ∧ p = insG x.1 x.2 e := by
  refine ⟨fun ⟨i, hi, q⟩ => ?_, fun ⟨x, hx, e', he, ep⟩ => ?_⟩
  · obtain ⟨h1, h2⟩ := posG_mem.mp hp
    have lt : i < p.length := by rw [h1]; exact hi
    have hpi := List.getElem?_eq_getElem lt
    have hent := h2 _ (List.getElem_mem lt)
    rcases s.2 (delG p i) (del_mem hp hi) i hi with hin | al
    · exact ⟨(delG p i, i), (hw _).mpr ⟨hin, q⟩, p[i], hent, (ins_del hpi).symm⟩
    · have := al _ hent
      rw [ins_del hpi] at this
      exact absurd e this
  · obtain ⟨hW, q⟩ := (hw x).mp hx
    obtain ⟨h1, h2⟩ := s.1 x hW
    refine ⟨x.2, h2, ?_⟩
    rw [ep, del_ins e' (by rw [(posG_mem.mp h1).1]; omega)]
    exact q
end
/-! counting -/
theorem countP_lt {α : Type} {p q : α → Bool} : ∀ {l : List α}, (∀ x, x ∈ l → p x = true → q x = true) → (∃ x, x ∈ l ∧ p x = false ∧ q x = true) → l.countP p < l.countP q
  | [], _, ⟨x, hx, _⟩ => nomatch hx
  | y :: l, h, ⟨x, hx, h1, h2⟩ => by
    have mono : l.countP p ≤ l.countP q := List.countP_mono_left fun z hz e => h z (List.mem_cons_of_mem _ hz) e
    rw [List.countP_cons, List.countP_cons]
    rcases List.mem_cons.mp hx with rfl | hx
    · rw [h1, h2]
      simp only [Bool.false_eq_true, if_false, if_true]
      omega
    · have ih := countP_lt (l := l) (fun z hz e => h z (List.mem_cons_of_mem _ hz) e) ⟨x, hx, h1, h2⟩
      have hy := h y List.mem_cons_self
      by_cases e : p y = true
      · rw [e, hy e]; simp only [if_true]; omega
      · have : (if p y = true then 1 else 0) = 0 := if_neg e
        omega
/-! ### positions in the heap, and dicts that tell their lengths -/
def kE : Option (Nat × Nat) → NestedKey
  | none => .none
  | some p => .tup [.num (p.1 : Nat), .num (p.2 : Nat)]
def kP (p : Pn) : NestedKey := .tup (p.map kE)
theorem kE_inj : ∀ {a b : Option (Nat × Nat)}, kE a = kE b → a = b
  | none, none, _ => rfl
  | none, some _, h => by cases h
  | some _, none, h => by cases h
  | some p, some q, h => by
    injection h with h
    injection h with h1 h
    injection h with h2 _
    injection h1 with h1
    injection h2 with h2
    exact congrArg some (Prod.ext (by omega) (by omega))
theorem kP_inj {p q : Pn} (h : kP p = kP q) : p = q := by
  injection h with h
  exact (List.map_inj_right (f := kE) fun a b e => kE_inj e).mp h
theorem kE_depth (e : Option (Nat × Nat)) : (kE e).depth ≤ 1 := by
  cases e with
  | none => simp [kE, NestedKey.depth]
  | some p => simp [kE, NestedKey.depth, NestedKey.depthAll]
theorem kEs_depth : ∀ p : Pn, NestedKey.depthAll (p.map kE) ≤ 1
  | [] => by rw [List.map_nil, NestedKey.depthAll]; exact Nat.zero_le _
  | e :: p => by
    rw [List.map_cons, NestedKey.depthAll]
    exact Nat.max_le.mpr ⟨kE_depth e, kEs_depth p⟩
theorem kP_depth (p : Pn) : (kP p).depth ≤ 8 := by
  have := kEs_depth p
  rw [kP, NestedKey.depth]
  omega
section
variable {K : PySem.W.Frag} {H H' : Hp}
theorem NkVs.length' : ∀ {ks : List NestedKey} {vs : List V}, NkVs K H ks vs → vs.length = ks.length
  | [], _, h => by cases h; rfl
  | k :: ks, _, h => by
    cases h with
    | cons _ t => exact congrArg Nat.succ (NkVs.length' t)
theorem NkVs.append' : ∀ {ks ls : List NestedKey} {vs us : List V}, NkVs K H ks vs → NkVs K H ls us → NkVs K H (ks ++ ls) (vs ++ us)
  | [], _, _, _, h, g => by cases h; exact g
  | k :: ks, _, _, _, h, g => by
    cases h with
    | cons e t => exact .cons e (NkVs.append' t g)
theorem NkVs.take' : ∀ {i : Nat} {ks : List NestedKey} {vs : List V}, NkVs K H ks vs → NkVs K H (ks.take i) (vs.take i)
  | 0, _, _, _ => .nil
  | i + 1, [], _, h => by cases h; exact .nil
  | i + 1, k :: ks, _, h => by
    cases h with
    | cons e t => exact .cons e (NkVs.take' (i := i) t)
theorem NkVs.drop' : ∀ {i : Nat} {ks : List NestedKey} {vs : List V}, NkVs K H ks vs → NkVs K H (ks.drop i) (vs.drop i)
  | 0, _, _, h => h
  | i + 1, [], _, h => by cases h; exact .nil
  | i + 1, k :: ks, _, h => by
    cases h with
    | cons e t => exact NkVs.drop' (i := i) t
theorem NkVs.same (s : Same H H') {ks : List NestedKey} {vs : List V} (h : NkVs K H ks vs) : NkVs K H' ks vs := NkVs.keep (fun a xs e => Same.sqt s e) _ _ h
theorem NkV.same (s : Same H H') {k : NestedKey} {v : V} (h : NkV K H k v) : NkV K H' k v := NkV.keep (fun a xs e => Same.sqt s e) _ _ h
theorem NkV.kc (x : Kc H H') {k : NestedKey} {v : V} (h : NkV K H k v) : NkV K H' k v := NkV.keep (fun a xs e => x.sqT e) _ _ h
theorem NkV.kl (x : Kl H H') {k : NestedKey} {v : V} (h : NkV K H k v) : NkV K H' k v := NkV.keep (fun a xs e => Kl.sqT x e) _ _ h
theorem nk_eD {e : Option (Nat × Nat)} {v : V} (h : Dp K H v (eD e)) : NkV K H (kE e) v := by
  cases e with
  | none =>
    obtain rfl : v = .non := by cases h; rfl
    exact .non
  | some p =>
    obtain ⟨a, xs, rfl, h1, h2⟩ := Dp.tup_inv h
    obtain ⟨v1, w1, rfl, g1, h2⟩ := DpAll.cons_inv h2
    obtain ⟨v2, w2, rfl, g2, h2⟩ := DpAll.cons_inv h2
    obtain rfl := DpAll.nil_inv h2
    obtain rfl := Dp.int_inv g1
    obtain rfl := Dp.int_inv g2
    exact .tup h1 (.cons (.int _) (.cons (.int _) .nil))
theorem nk_eDs : ∀ {p : Pn} {vs : List V}, DpAll K H vs (p.map eD) → NkVs K H (p.map kE) vs
  | [], _, h => by obtain rfl := DpAll.nil_inv h; exact .nil
  | e :: p, _, h => by
    obtain ⟨v, ws, rfl, h1, h2⟩ := DpAll.cons_inv h
    exact .cons (nk_eD h1) (nk_eDs h2)
theorem nk_pos {p : Pn} {v : V} (h : Dp K H v (.tuple (p.map eD))) : ∃ a, v = .ref a ∧ NkV K H (kP p) (.ref a) := by
  obtain ⟨a, xs, rfl, h1, h2⟩ := Dp.tup_inv h
  exact ⟨a, rfl, .tup h1 (nk_eDs h2)⟩
theorem nk_inv {p : Pn} {v : V} (h : NkV K H (kP p) v) : ∃ a xs, v = .ref a ∧ SqT K H a xs ∧ NkVs K H (p.map kE) xs := by
  unfold kP at h
  cases h with
  | tup h1 h2 => exact ⟨_, _, rfl, h1, h2⟩
end
/-- at d lies a dict that tells f -/
def LenD (K : PySem.W.Frag) (P : Program) (w : World) (H : Hp) (d : Addr) (all : List Pn) (f : Pn → Option Nat) : Prop := ∃ kvs : List NEn, DnAt K P w H d kvs ∧ (kvs.map (·.1)).Nodup ∧ (∀ e, e ∈ kvs → ∃ p, p ∈ all ∧ e.1 = kP p) ∧ ∀ p, p ∈ all → valN kvs (kP p) = (f p).map fun r => V.int (r : Nat)
section
variable {K : PySem.W.Frag} {P : Program} {w : World} {H H' : Hp} {d : Addr} {all : List Pn} {f : Pn → Option Nat}
theorem kvs_fit {kvs : List NEn} (nd : (kvs.map (·.1)).Nodup) (sub : ∀ e, e ∈ kvs → ∃ p, p ∈ all ∧ e.1 = kP p) : kvs.length ≤ all.length := by
  have h := sub_len (kvs.map (·.1)) (all.map kP) nd fun x hx => by
    obtain ⟨e, he, rfl⟩ := List.mem_map.mp hx
    obtain ⟨p, hp, e2⟩ := sub e he
    rw [e2]; exact List.mem_map.mpr ⟨p, hp, rfl⟩
  rwa [List.length_map, List.length_map] at h
theorem LenD.same (s : Same H H') (h : LenD K P w H d all f) : LenD K P w H' d all f := by
  obtain ⟨kvs, h1, h2⟩ := h
  exact ⟨kvs, h1.same s, h2⟩
theorem LenD.kl (s : Kl H H') (h : LenD K P w H d all f) : LenD K P w H' d all f := by
  obtain ⟨kvs, h1, h2⟩ := h
  exact ⟨kvs, ⟨s _ _ h1.at_ (fun ys z => by unfold DnO at z; cases z), fun e he => ⟨NkV.kl s (h1.keys e he).1, (h1.keys e he).2⟩⟩, h2⟩
theorem putN_keys {kvs : List NEn} {k : NestedKey} {b : Addr} {v : V} (nd : (kvs.map (·.1)).Nodup) : ((putN kvs k b v).map (·.1)).Nodup := by
  unfold putN
  split
  · rw [List.map_map]
    have e : ((fun x : NEn => x.1) ∘ fun x => if x.1 = k then (x.1, x.2.1, v) else x) = fun x : NEn => x.1 := by
      funext x
      show (if x.1 = k then (x.1, x.2.1, v) else x).1 = x.1
      split <;> rfl
    rw [e]; exact nd
  · rename_i h
    rw [List.map_append, List.nodup_append]
    refine ⟨nd, by simp, fun x hx y hy e => ?_⟩
    rw [List.map_cons, List.map_nil] at hy
    have hy := List.mem_singleton.mp hy
    obtain ⟨z, hz, rfl⟩ := List.mem_map.mp hx
    have e1 : z.1 = k := e.trans hy
    refine h ?_
    unfold valN
    rw [Option.isSome_map]
    exact List.find?_isSome.mpr ⟨z, hz, decide_eq_true e1⟩
theorem LenD.put {kvs : List NEn} {p : Pn} {b : Addr} {r : Nat} (h1 : DnAt K P w H d kvs) (h2 : (kvs.map (·.1)).Nodup) (h3 : ∀ e, e ∈ kvs → ∃ p, p ∈ all ∧ e.1 = kP p) (h4 : ∀ p, p ∈ all → valN kvs (kP p) = (f p).map fun r => V.int (r : Nat)) (hp : p ∈ all) (nk : NkV K H (kP p) (.ref b)) :
    LenD K P w (upd H d (DnO P w d (putN kvs (kP p) b (.int (r : Nat))))) d all (fun q => if q = p then some r else f q) := by
  refine ⟨_, h1.put nk (kP_depth p), putN_keys h2, fun e he => ?_, fun q hq => ?_⟩
  · rcases putN_mem he with ⟨e1, _⟩ | ⟨e', he', e1, _⟩
    · exact ⟨p, hp, e1⟩
    · rw [← e1]; exact h3 e' he'
  · rw [valN_put]
    by_cases e : q = p
    · subst e
      show (if kP q = kP q then _ else _) = (if q = q then some r else f q).map _
      rw [if_pos rfl, if_pos rfl]; rfl
    · have e2 : ¬ kP p = kP q := fun z => e (kP_inj z).symm
      show (if kP p = kP q then _ else _) = (if q = p then some r else f q).map _
      rw [if_neg e2, if_neg e]
      exact h4 q hq
end
/-! ### tuples put together of parts of a position -/
theorem yes_i {σ : L2.St} {H : Hp} {Q : Bool → Hp → Prop} (h : Q true H) : tYes σ H Q := h
theorem no_i {σ : L2.St} {H : Hp} {Q : Option Int → Hp → Prop} (h : Q none H) : tNoPart σ H Q := h
theorem nin_i {K : PySem.W.Frag} {P : Program} {w : World} {ty td : TE} {σ : L2.St} {H : Hp} {Q : VK} (h : ty σ H fun y H1 => td σ H1 fun x H2 => ∃ a b kvs k, x = .ref a ∧ y = .ref b ∧ DnAt K P w H2 a kvs ∧ NkV K H2 k (.ref b) ∧ k.depth ≤ 8 ∧ Q (.bl (valN kvs k).isSome) H2) : tNIn K P w ty td σ H Q := h
theorem cut_take {xs : List V} {i : Nat} : cutV xs none (some (i : Nat)) = xs.take i := by
  unfold cutV
  have e : HT.sIx xs.length xs.length (some ((i : Nat) : Int)) = min i xs.length := HT.sIx_nat ..
  rw [e]
  show (xs.drop 0).take (min i xs.length - 0) = _
  rw [List.drop_zero, Nat.sub_zero]
  by_cases h : i ≤ xs.length
  · rw [Nat.min_eq_left h]
  · rw [Nat.min_eq_right (by omega), List.take_length, List.take_of_length_le (by omega)]
theorem cut_drop {xs : List V} {i : Nat} : cutV xs (some (i : Nat)) none = xs.drop i := by
  unfold cutV
  have e : HT.sIx xs.length 0 (some ((i : Nat) : Int)) = min i xs.length := HT.sIx_nat ..
  rw [e]
  show (xs.drop (min i xs.length)).take (xs.length - min i xs.length) = _
  by_cases h : i ≤ xs.length
  · rw [Nat.min_eq_left h]
    exact List.take_of_length_le (by rw [List.length_drop]; exact Nat.le_refl _)
  · rw [Nat.min_eq_right (by omega), Nat.sub_self, List.drop_of_length_le (Nat.le_refl _), List.drop_of_length_le (by omega)]
    rfl
theorem cut_all' {xs : List V} {lo hi : Option Int} (h : HT.sIx xs.length 0 lo = 0 ∧ HT.sIx xs.length xs.length hi = xs.length) : cutV xs lo hi = xs := by
  unfold cutV
  rw [h.1, h.2, List.drop_zero, Nat.sub_zero]
  exact List.take_length
theorem sl_use {K : PySem.W.Frag} {H : Hp} {a : Addr} {xs : List V} {lo hi : Option Int} {Q : VK} (hx : SqT K H a xs) (q : ∀ (H' : Hp) (r : Addr), Same H H' → SqT K H' r (cutV xs lo hi) → Q (.ref r) H') : rSlA K (.ref a) lo hi H Q :=
  ⟨a, xs, rfl, hx, fun e => q H a (.refl H) (by rw [cut_all' e]; exact hx), fun _ p np => q _ p (same_upd np) (SqT.of upd_same)⟩
section
variable {K : PySem.W.Frag} {H : Hp} {σ : L2.St}
theorem te_cat3 {ri : Nat} {ra : Addr} {p : Pn} {i j : Nat} {e : Option (Nat × Nat)} {te : TE} {t1 t2 : TO} {Q : VK} (h0 : σ[ri]? = some (some (.ref ra))) (h1 : ∀ (H1 : Hp) (Q : Option Int → Hp → Prop), Q (some (i : Nat)) H1 → t1 σ H1 Q) (h2 : ∀ (H1 : Hp) (Q : Option Int → Hp → Prop), Q (some (j : Nat)) H1 → t2 σ H1 Q)
    (nk : NkV K H (kP p) (.ref ra)) (l : p.length ≤ 100) (hte : ∀ H1, Same H H1 → ∀ Q : VK, (∀ (H2 : Hp) (v : V), Same H1 H2 → NkV K H2 (kE e) v → Q v H2) → te σ H1 Q) (q : ∀ (H' : Hp) (t : Addr), Same H H' → NkV K H' (kP (p.take i ++ [e] ++ p.drop j)) (.ref t) → Q (.ref t) H') :
    tOp (rCatA K) (tOp (rCatA K) (tSl (rSlA K) (tVar ri) tNoPart t1) (tTup (tCons te tNil))) (tSl (rSlA K) (tVar ri) t2 tNoPart) σ H Q := by
  obtain ⟨_, xs, e0, hT, hx⟩ := nk_inv nk
  cases e0
  have lx := NkVs.length' hx
  rw [List.length_map] at lx
  refine ⟨_, h0, h1 _ _ (sl_use hT fun H1 a1 s1 g1 => ?_)⟩
  refine hte H1 s1 _ fun H2 v s2 nv => ⟨(by show 1 ≤ sizeLine; decide), fun b nb => ?_⟩
  have sb := same_upd (o := .tup [v]) nb
  have s12 := s2.trans sb
  rw [cut_take] at g1
  refine catA (Same.sqt s12 g1) (SqT.of upd_same) (by rw [List.length_take]; show _ + 1 ≤ 1000; omega) fun H3 c s3 g3 => ?_
  have s03 := (s1.trans s12).trans s3
  refine ⟨_, h0, h2 _ _ ?_⟩
  refine no_i ?_
  refine sl_use (Same.sqt s03 hT) fun H4 a4 s4 g4 => ?_
  rw [cut_drop] at g4
  refine catA (Same.sqt s4 g3) g4 (by rw [List.length_append, List.length_take, List.length_drop]; show _ + 1 + _ ≤ 1000; omega) fun H5 t s5 g5 => ?_
  have s05 := (s03.trans s4).trans s5
  refine q H5 t s05 (.tup g5 ?_)
  rw [List.map_append, List.map_append, List.map_take, List.map_drop]
  exact NkVs.append' (NkVs.append' (NkVs.take' (NkVs.same s05 hx)) (.cons (NkV.same ((sb.trans s3).trans (s4.trans s5)) nv) .nil)) (NkVs.drop' (NkVs.same s05 hx))
theorem part_var {ii i : Nat} (h : σ[ii]? = some (some (.int (i : Nat)))) : ∀ (H1 : Hp) (Q : Option Int → Hp → Prop), Q (some (i : Nat)) H1 → tPart (tVar ii) σ H1 Q := fun H1 Q q => ⟨_, h, _, rfl, q⟩
/-- rest[:at] + (e,) + rest[at:], e the name at ei -/
theorem te_ins {ri ii ei : Nat} {ra : Addr} {rest : Pn} {i : Nat} {e : Option (Nat × Nat)} {v : V} {Q : VK} (h0 : σ[ri]? = some (some (.ref ra))) (h1 : σ[ii]? = some (some (.int (i : Nat)))) (h2 : σ[ei]? = some (some v)) (nk : NkV K H (kP rest) (.ref ra)) (l : rest.length ≤ 100) (nv : NkV K H (kE e) v)
    (q : ∀ (H' : Hp) (t : Addr), Same H H' → NkV K H' (kP (insG rest i e)) (.ref t) → Q (.ref t) H') :
    tOp (rCatA K) (tOp (rCatA K) (tSl (rSlA K) (tVar ri) tNoPart (tPart (tVar ii))) (tTup (tCons (tVar ei) tNil))) (tSl (rSlA K) (tVar ri) (tPart (tVar ii)) tNoPart) σ H Q :=
  te_cat3 h0 (part_var h1) (part_var h1) nk l (fun H1 s1 Q q => ⟨v, h2, q H1 v (.refl H1) (NkV.same s1 nv)⟩) q
end
/-! ### the class Game -/
structure GmC (K : PySem.W.Frag) : Prop where
  cls : L2.Cls K (He.ga K "Game")
  nf : NoAttr K (He.ga K "Game") "first"
  ns : NoAttr K (He.ga K "Game") "second"
  nc : NoAttr K (He.ga K "Game") "choices"
  ne : NoAttr K (He.ga K "Game") "entries"
  np : NoAttr K (He.ga K "Game") "positions"
  nl : NoAttr K (He.ga K "Game") "lengths"
def gmF (u v : V) (c e p l : Addr) : List (Str × V) := [("first", u), ("second", v), ("choices", .ref c), ("entries", .ref e), ("positions", .ref p), ("lengths", .ref l)]
def chG (n m : Nat) : List (List (Nat × Nat)) := ((List.range n).map fun a => (List.range m).map fun b => (a, b)) ++ (List.range m).map fun b => (List.range n).map fun a => (a, b)
theorem chG_win {n m : Nat} {S : Pn → Prop} {rest : Pn} {i : Nat} : winG n m S rest i ↔ ∃ c, c ∈ chG n m ∧ ∀ p, p ∈ c → S (insG rest i (some p)) := by
  unfold winG chG
  refine ⟨fun h => ?_, fun ⟨c, hc, h⟩ => ?_⟩
  · rcases h with ⟨a, ha, q⟩ | ⟨b, hb, q⟩
    · refine ⟨_, List.mem_append_left _ (List.mem_map.mpr ⟨a, List.mem_range.mpr ha, rfl⟩), fun p hp => ?_⟩
      obtain ⟨b, hb, rfl⟩ := List.mem_map.mp hp
      exact q b (List.mem_range.mp hb)
    · refine ⟨_, List.mem_append_right _ (List.mem_map.mpr ⟨b, List.mem_range.mpr hb, rfl⟩), fun p hp => ?_⟩
      obtain ⟨a, ha, rfl⟩ := List.mem_map.mp hp
      exact q a (List.mem_range.mp ha)
  · rcases List.mem_append.mp hc with hc | hc
    · obtain ⟨a, ha, rfl⟩ := List.mem_map.mp hc
      exact .inl ⟨a, List.mem_range.mp ha, fun b hb => h _ (List.mem_map.mpr ⟨b, List.mem_range.mpr hb, rfl⟩)⟩
    · obtain ⟨b, hb, rfl⟩ := List.mem_map.mp hc
      exact .inr ⟨b, List.mem_range.mp hb, fun a ha => h _ (List.mem_map.mpr ⟨a, List.mem_range.mpr ha, rfl⟩)⟩
/-- one choice: whose it is, and the pairs that may come of it -/
def ChV (K : PySem.W.Frag) (H : Hp) (v : V) (c : List (Nat × Nat)) : Prop := ∃ (t l : Addr) (b : Bool) (vs : List V), v = .ref t ∧ SqT K H t [.bl b, .ref l] ∧ SqL K H l vs ∧ DpAll K H vs (c.map pD)
def ChL (K : PySem.W.Frag) (H : Hp) (vs : List V) (cs : List (List (Nat × Nat))) : Prop := vs.length = cs.length ∧ ∀ (i : Nat) (v : V) (c : List (Nat × Nat)), vs[i]? = some v → cs[i]? = some c → ChV K H v c
theorem ChV.kc {K : PySem.W.Frag} {H H' : Hp} (x : Kc H H') {v : V} {c : List (Nat × Nat)} (h : ChV K H v c) : ChV K H' v c := by
  obtain ⟨t, l, b, vs, rfl, h1, h2, h3⟩ := h
  exact ⟨t, l, b, vs, rfl, x.sqT h1, x.sqL h2, x.dps h3⟩
theorem ChL.kc {K : PySem.W.Frag} {H H' : Hp} (x : Kc H H') {vs : List V} {cs : List (List (Nat × Nat))} (h : ChL K H vs cs) : ChL K H' vs cs := ⟨h.1, fun i v c h1 h2 => (h.2 i v c h1 h2).kc x⟩
theorem nk_pD {K : PySem.W.Frag} {H : Hp} {p : Nat × Nat} {v : V} (h : Dp K H v (pD p)) : NkV K H (kE (some p)) v := nk_eD (e := some p) h
section
variable {P : Program} {w : World} {K : PySem.W.Frag} {mg : Str → Option Value} {base : Heap}
def spWins (K : PySem.W.Frag) (P : Program) (w : World) : Sp := fun vs H Q _ => ∃ (s dx : Addr) (u v : V) (c e p l : Addr) (cs : List V) (n m k : Nat) (f : Pn → Option Nat) (ra : Addr) (rest : Pn) (i : Nat), vs = [.ref s, .ref ra, .int (i : Nat)] ∧ H s = some (.ins (He.ga K "Game") dx (gmF u v c e p l)) ∧ H c = some (.lst cs) ∧ ChL K H cs (chG n m) ∧
  LenD K P w H l (posG n m (k + 1)) f ∧ NkV K H (kP rest) (.ref ra) ∧ rest ∈ posG n m k ∧ i < k + 1 ∧ k + 1 ≤ 3 ∧ n ≤ 16 ∧ m ≤ 16 ∧ ∀ (H' : Hp) (b : Bool), Same H H' → (b = true ↔ winG n m (fun q => f q ≠ none) rest i) → Q (.bl b) H'
theorem sc_wins : FnScope ["self", "rest", "at", "_", "pairs", "pair"] ["self", "rest", "at"] (defScope (inClass (top 33) 2)) := ⟨rfl, rfl, rfl, by decide +kernel, rfl, by decide +kernel, by decide +kernel⟩
theorem chG_len {n m : Nat} {c : List (Nat × Nat)} (h : c ∈ chG n m) : c.length ≤ n + m ∧ ∀ p, p ∈ c → p.1 < n ∧ p.2 < m := by
  unfold chG at h
  rcases List.mem_append.mp h with h | h
  · obtain ⟨a, ha, rfl⟩ := List.mem_map.mp h
    refine ⟨by rw [List.length_map, List.length_range]; omega, fun p hp => ?_⟩
    obtain ⟨b, hb, rfl⟩ := List.mem_map.mp hp
    exact ⟨List.mem_range.mp ha, List.mem_range.mp hb⟩
  · obtain ⟨b, hb, rfl⟩ := List.mem_map.mp h
    refine ⟨by rw [List.length_map, List.length_range]; omega, fun p hp => ?_⟩
    obtain ⟨a, ha, rfl⟩ := List.mem_map.mp hp
    exact ⟨List.mem_range.mp ha, List.mem_range.mp hb⟩
theorem has_wins (D : DefM K "Game" "_wins_by" "Game._wins_by" ["self", "rest", "at"] (inClass (top 33) 2)) (GC : GmC K) (T : Txt mg) : HasM P w K mg base 1 "Game" "_wins_by" ["self", "rest", "at"] (spWins K P w) := D.has fun f fd F => by
  refine F.ok sc_wins (fun vs H Q E h => ?_) (fun cdv A outer s H vs Q E hr h => ?_)
  · obtain ⟨s, dx, u, v, c, e, p, l, cs, n, m, k, f, ra, rest, i, rfl, _⟩ := h; rfl
  · obtain ⟨s0, dx, u, v, c, e, p, l, cs, n, m, k, fl, ra, rest, i, rfl, hs, hc, hcs, hl, nk, hrest, ik, k3, n16, m16, q⟩ := h
    refine ⟨_, PSs.nox (pss_cons (ps_for PassesOwn.never rfl (pi_list (pe_fld (pv 0) rfl)) (pg_tup rfl (pgs_cons (pg_name (i := 3) sc_wins.nd rfl (Or.inl rfl)) (pgs_cons (pg_name (i := 4) sc_wins.nd rfl (Or.inl rfl)) pgs_nil))) (pss_one (ps_if (pt_val (pe_callB (cr_all rfl) (by rfl) T.n_all (by decide +kernel) (pa_cons (pe_lc (own := [("pair", 5)]) rfl sc_wins.nd (pi_list (pv 4)) (blkOk_by (N := ["self", "rest", "at", "_", "pairs", "pair"]) (sc := defScope (inClass (top 33) 2)) (by decide +kernel)) (fun _ _ _ _ _ => (pg_name (i := 5) sc_wins.nd rfl (Or.inl rfl))) (fun _ _ _ _ _ => pts_nil) (fun _ _ _ _ _ => (pe_cmp (pc_ninK (K := K) (P := P) (w := w) rfl rfl rfl (hu9 hr) (pe_op (op_catAK (K := K) rfl) (pe_op (op_catAK (K := K) rfl) (pe_slice (sl_tupAK (K := K) rfl) (pv 1) po_none (po_some (pv 2))) (pe_tup (pa_cons (pv 5) pa_nil))) (pe_slice (sl_tupAK (K := K) rfl) (pv 1) (po_some (pv 2)) po_none)) (pe_fldK (K := K) rfl (pv 0) rfl))))) pa_nil))) (pss_one (ps_ret pe_bl)) pss_nil))) (pss_one (ps_ret pe_bl))), ?_⟩
    obtain ⟨lr, _⟩ := posG_mem.mp hrest
    obtain ⟨kvs, dn, nd, sub, val⟩ := id hl
    refine ⟨_, rfl, s0, _, dx, _, _, rfl, hs, GC.cls, GC.nc, rfl, c, rfl, ⟨_, SqL.of hc⟩, for_list (K := K) (a := c) (xs := cs) (fun j σ H2 => ∃ (y3 y4 : Option V), σ = [some (.ref s0), some (.ref ra), some (.int (i : Nat)), y3, y4, none] ∧ Same H H2 ∧ ∀ (j' : Nat) (ch : List (Nat × Nat)), j' < j → (chG n m)[j']? = some ch → ¬ ∀ p, p ∈ ch → fl (insG rest i (some p)) ≠ none)
      ⟨none, none, rfl, .refl H, fun j' ch hj => absurd hj (Nat.not_lt_zero _)⟩ (fun j σ H2 _ ⟨_, _, _, s2, _⟩ => SqL.of (s2 _ _ hc)) ?_ ?_⟩
    · rintro j y σ H2 hj ⟨y3, y4, rfl, s2, al⟩
      have ljc : j < (chG n m).length := by rw [← hcs.1]; exact (List.getElem?_eq_some_iff.mp hj).1
      have hch := List.getElem?_eq_getElem ljc
      obtain ⟨t, lp, bb, vs, rfl, g1, g2, g3⟩ := (hcs.2 j y _ hj hch).kc (Kc.of s2)
      generalize hgen : (chG n m)[j] = ch at *
      obtain ⟨lch, bch⟩ := chG_len (List.mem_of_getElem? hch)
      have lv := DpAll.length g3
      rw [List.length_map] at lv
      refine ⟨t, _, rfl, g1, rfl, _, _, rfl, _, _, rfl, rfl, ?_⟩
      refine ⟨_, rfl, lp, rfl, ⟨_, g2⟩, fun M nM => ?_⟩
      refine lc_it (walk_list (K := K) (a := lp) (xs := vs)) (fun z H3 => Same H2 H3 ∧ H3 M = some (.lst (((ch.take z).map fun p => (fl (insG rest i (some p))).isSome).map V.bl))) ⟨same_upd nM, upd_same⟩ (fun z H3 _ ⟨s3, _⟩ => s3.seq g2) ?_ ?_
      · rintro z x H3 H4 hz ⟨s3, hM⟩ ⟨rfl, hx⟩
        obtain ⟨dd, hdd, dpx⟩ := DpAll.get' (DpAll.same s3 g3) hx
        obtain ⟨p0, hp0, rfl⟩ := get_map hdd
        have s03 := s2.trans s3
        obtain ⟨b1, b2⟩ := bch p0 (List.mem_of_getElem? hp0)
        have hin : insG rest i (some p0) ∈ posG n m (k + 1) := ins_mem hrest (by omega) (entsG_mem.mpr fun q e => by cases e; exact ⟨b1, b2⟩)
        refine ⟨rfl, yes_i (iteT (nin_i ?_))⟩
        refine te_ins (K := K) (ri := 1) (ii := 2) (ei := 5) rfl rfl rfl (NkV.same s03 nk) (by omega) (nk_pD dpx) fun H5 t5 s5 nt => ?_
        have s05 := s03.trans s5
        have e5 : (valN kvs (kP (insG rest i (some p0)))).isSome = (fl (insG rest i (some p0))).isSome := by
          rw [val _ hin, Option.isSome_map]
        refine ⟨_, rfl, s0, _, dx, _, _, rfl, s05 _ _ hs, GC.cls, GC.nl, rfl, l, t5, kvs, _, rfl, rfl, dn.same s05, nt, kP_depth _, _, s5 _ _ hM, small1000 (by rw [List.length_map, List.length_map]; have := List.length_take_le' z ch; omega), fun a o ea => (upd_ne (ne_of_none ea nM)).trans (s5 _ _ (s3 _ _ ea)), ?_⟩
        rw [upd_same, List.take_add_one, hp0, List.map_append, List.map_append, e5]; rfl
      · rintro H3 ⟨s3, hM⟩
        rw [lv, List.take_length] at hM
        refine ⟨M, _, rfl, SqL.of hM, _, rfl, ?_⟩
        have key : (ch.map fun p => (fl (insG rest i (some p))).isSome).all id = true ↔ ∀ p, p ∈ ch → fl (insG rest i (some p)) ≠ none := by
          rw [List.all_map, List.all_eq_true]
          refine ⟨fun h p hp e => ?_, fun h p hp => ?_⟩
          · have := h p hp
            rw [Function.comp, e] at this
            cases this
          · have := h p hp
            show (fl (insG rest i (some p))).isSome = true
            cases q : fl (insG rest i (some p)) with
            | none => exact absurd q this
            | some _ => rfl
        by_cases e1 : (ch.map fun p => (fl (insG rest i (some p))).isSome).all id = true
        · refine cT (k := (ch.map fun p => (fl (insG rest i (some p))).isSome).all id) e1 ?_
          exact q H3 true (s2.trans s3) ⟨fun _ => chG_win.mpr ⟨ch, List.mem_of_getElem? hch, key.mp e1⟩, fun _ => rfl⟩
        · refine cF (k := (ch.map fun p => (fl (insG rest i (some p))).isSome).all id) (by simpa using e1) ?_
          refine ⟨_, _, rfl, s2.trans s3, fun j' ch' hj' hc' => ?_⟩
          by_cases ej : j' = j
          · subst ej
            rw [hch] at hc'
            cases hc'
            exact fun h => e1 (key.mpr h)
          · exact al j' ch' (by omega) hc'
    · rintro σ H2 ⟨y3, y4, rfl, s2, al⟩
      refine q H2 false s2 ⟨fun z => (nomatch z), fun z => ?_⟩
      obtain ⟨ch, hch, h⟩ := chG_win.mp z
      obtain ⟨j, hj⟩ := List.mem_iff_getElem?.mp hch
      exact absurd h (al j ch (by rw [hcs.1]; exact (List.getElem?_eq_some_iff.mp hj).1) hj)
end
/-! ### comprehensions with two clauses, over any walks -/
theorem lc2_out {J : It} {n : Nat} {G : Hp → Prop} {Y : Nat → Hp → V → Hp → Prop} (wk : Walk J n G Y) {g : TG} {tt : TT} {wi1 : TI} {g1 : TG} {tt1 : TT} {te : TE} {vs vs1 : List Nat} {σ : L2.St} {H1 : Hp} {D : Addr} {Q : Hp → Prop}
    (Pv : Nat → Hp → Prop) (h0 : Pv 0 (upd H1 D (.lst []))) (hG : ∀ i H, i ≤ n → Pv i H → G H)
    (hs : ∀ i x H H', i < n → Pv i H → Y i H x H' → g x (wipe σ vs) H' fun σ2 H2 => wipe σ2 vs = wipe σ vs ∧ tt σ2 H2 fun b H3 =>
      if b = true then wi1 σ2 H3 fun J1 H4 => ∃ W1 : Nat → Nat → Hp → Prop, (∃ m, W1 0 m H4) ∧ ∀ j k H, W1 j k H →
        (J1.stop j H ∧ Pv (i + 1) H) ∨ (J1.go j H ∧ ∃ Nx1 : Hp → Prop, (∀ H', Nx1 H' → ∃ k', k' < k ∧ W1 (j + 1) k' H') ∧ ∀ x H', J1.yld j H x H' → g1 x (wipe σ2 vs1) H' fun σ3 H5 => wipe σ3 vs1 = wipe σ2 vs1 ∧ tt1 σ3 H5 fun b H6 =>
          if b = true then te σ3 H6 fun y H7 => ∃ acc, H7 D = some (.lst acc) ∧ acc.length < sizeLine ∧ Nx1 (upd H7 D (.lst (acc ++ [y]))) else Nx1 H6)
      else Pv (i + 1) H3) (hd : ∀ H, Pv n H → Q H) :
    ∃ W : Nat → Nat → Hp → Prop, (∃ m, W 0 m (upd H1 D (.lst []))) ∧ ∀ i m H, W i m H →
      (J.stop i H ∧ Q H) ∨ (J.go i H ∧ ∃ Nx : Hp → Prop, (∀ H', Nx H' → ∃ m', m' < m ∧ W (i + 1) m' H') ∧ ∀ x H', J.yld i H x H' → g x (wipe σ vs) H' fun σ2 H2 => wipe σ2 vs = wipe σ vs ∧ tt σ2 H2 fun b H3 =>
        if b = true then wi1 σ2 H3 fun J1 H4 => ∃ W1 : Nat → Nat → Hp → Prop, (∃ m, W1 0 m H4) ∧ ∀ j k H, W1 j k H →
          (J1.stop j H ∧ Nx H) ∨ (J1.go j H ∧ ∃ Nx1 : Hp → Prop, (∀ H', Nx1 H' → ∃ k', k' < k ∧ W1 (j + 1) k' H') ∧ ∀ x H', J1.yld j H x H' → g1 x (wipe σ2 vs1) H' fun σ3 H5 => wipe σ3 vs1 = wipe σ2 vs1 ∧ tt1 σ3 H5 fun b H6 =>
            if b = true then te σ3 H6 fun y H7 => ∃ acc, H7 D = some (.lst acc) ∧ acc.length < sizeLine ∧ Nx1 (upd H7 D (.lst (acc ++ [y]))) else Nx1 H6)
        else Nx H3) := by
  refine ⟨fun i m H => m = n - i ∧ i ≤ n ∧ Pv i H, ⟨n, by simp, Nat.zero_le _, h0⟩, ?_⟩
  rintro i m H ⟨rfl, hi, p⟩
  have q := hG i H hi p
  by_cases lt : i < n
  · exact .inr ⟨wk.goes i H lt q, Pv (i + 1), fun H' p' => ⟨n - (i + 1), by omega, rfl, lt, p'⟩, fun x H' y => hs i x H H' lt p (wk.yields i H x H' lt q y)⟩
  · obtain rfl : i = n := by omega
    exact .inl ⟨wk.stops H q, hd H p⟩
theorem lc2_in {J1 : It} {n1 : Nat} {G1 : Hp → Prop} {Y1 : Nat → Hp → V → Hp → Prop} (wk : Walk J1 n1 G1 Y1) {g1 : TG} {tt1 : TT} {te : TE} {vs1 : List Nat} {σ2 : L2.St} {H4 : Hp} {D : Addr} {Nx : Hp → Prop}
    (Pw : Nat → Hp → Prop) (h0 : Pw 0 H4) (hG : ∀ j H, j ≤ n1 → Pw j H → G1 H)
    (hs : ∀ j x H H', j < n1 → Pw j H → Y1 j H x H' → g1 x (wipe σ2 vs1) H' fun σ3 H5 => wipe σ3 vs1 = wipe σ2 vs1 ∧ tt1 σ3 H5 fun b H6 =>
      if b = true then te σ3 H6 fun y H7 => ∃ acc, H7 D = some (.lst acc) ∧ acc.length < sizeLine ∧ Pw (j + 1) (upd H7 D (.lst (acc ++ [y]))) else Pw (j + 1) H6) (hd : ∀ H, Pw n1 H → Nx H) :
    ∃ W1 : Nat → Nat → Hp → Prop, (∃ m, W1 0 m H4) ∧ ∀ j k H, W1 j k H →
      (J1.stop j H ∧ Nx H) ∨ (J1.go j H ∧ ∃ Nx1 : Hp → Prop, (∀ H', Nx1 H' → ∃ k', k' < k ∧ W1 (j + 1) k' H') ∧ ∀ x H', J1.yld j H x H' → g1 x (wipe σ2 vs1) H' fun σ3 H5 => wipe σ3 vs1 = wipe σ2 vs1 ∧ tt1 σ3 H5 fun b H6 =>
        if b = true then te σ3 H6 fun y H7 => ∃ acc, H7 D = some (.lst acc) ∧ acc.length < sizeLine ∧ Nx1 (upd H7 D (.lst (acc ++ [y]))) else Nx1 H6) := by
  refine ⟨fun i m H => m = n1 - i ∧ i ≤ n1 ∧ Pw i H, ⟨n1, by simp, Nat.zero_le _, h0⟩, ?_⟩
  rintro i m H ⟨rfl, hi, p⟩
  have q := hG i H hi p
  by_cases lt : i < n1
  · exact .inr ⟨wk.goes i H lt q, Pw (i + 1), fun H' p' => ⟨n1 - (i + 1), by omega, rfl, lt, p'⟩, fun x H' y => hs i x H H' lt p (wk.yields i H x H' lt q y)⟩
  · obtain rfl : i = n1 := by omega
    exact .inl ⟨wk.stops H q, hd H p⟩
/-! ### pairs that wait -/
def kW (x : Pn × Nat) : NestedKey := .tup [kP x.1, .num (x.2 : Nat)]
theorem kW_inj {x y : Pn × Nat} (h : kW x = kW y) : x = y := by
  unfold kW at h
  injection h with h
  injection h with h1 h
  injection h with h2 _
  injection h2 with h2
  exact Prod.ext (kP_inj h1) (by omega)
theorem kW_depth (x : Pn × Nat) : (kW x).depth ≤ 8 := by
  have := kEs_depth x.1
  simp only [kW, kP, NestedKey.depth, NestedKey.depthAll]
  omega
def WtV (K : PySem.W.Frag) (H : Hp) (v : V) (x : Pn × Nat) : Prop := ∃ t a : Addr, v = .ref t ∧ SqT K H t [.ref a, .int (x.2 : Nat)] ∧ NkV K H (kP x.1) (.ref a)
inductive WtL (K : PySem.W.Frag) (H : Hp) : List V → List (Pn × Nat) → Prop
  | nil : WtL K H [] []
  | cons {v : V} {x : Pn × Nat} {vs : List V} {xs : List (Pn × Nat)} : WtV K H v x → WtL K H vs xs → WtL K H (v :: vs) (x :: xs)
section
variable {K : PySem.W.Frag} {H H' : Hp}
theorem WtV.kc (k : Kc H H') {v : V} {x : Pn × Nat} (h : WtV K H v x) : WtV K H' v x := by
  obtain ⟨t, a, rfl, h1, h2⟩ := h
  exact ⟨t, a, rfl, k.sqT h1, NkV.kc k h2⟩
theorem WtV.kl (k : Kl H H') {v : V} {x : Pn × Nat} (h : WtV K H v x) : WtV K H' v x := by
  obtain ⟨t, a, rfl, h1, h2⟩ := h
  exact ⟨t, a, rfl, Kl.sqT k h1, NkV.kl k h2⟩
theorem WtV.key {v : V} {x : Pn × Nat} (h : WtV K H v x) : ∃ t, v = .ref t ∧ NkV K H (kW x) (.ref t) := by
  obtain ⟨t, a, rfl, h1, h2⟩ := h
  exact ⟨t, rfl, .tup h1 (.cons h2 (.cons (.int _) .nil))⟩
theorem WtL.kc (k : Kc H H') : ∀ {vs : List V} {xs : List (Pn × Nat)}, WtL K H vs xs → WtL K H' vs xs
  | _, _, .nil => .nil
  | _, _, .cons e r => .cons (e.kc k) (WtL.kc k r)
theorem WtL.kl (k : Kl H H') : ∀ {vs : List V} {xs : List (Pn × Nat)}, WtL K H vs xs → WtL K H' vs xs
  | _, _, .nil => .nil
  | _, _, .cons e r => .cons (e.kl k) (WtL.kl k r)
theorem WtL.length : ∀ {vs : List V} {xs : List (Pn × Nat)}, WtL K H vs xs → vs.length = xs.length
  | _, _, .nil => rfl
  | _, _, .cons _ r => congrArg Nat.succ (WtL.length r)
theorem WtL.snoc {v : V} {x : Pn × Nat} (e : WtV K H v x) : ∀ {vs : List V} {xs : List (Pn × Nat)}, WtL K H vs xs → WtL K H (vs ++ [v]) (xs ++ [x])
  | _, _, .nil => .cons e .nil
  | _, _, .cons a r => .cons a (WtL.snoc e r)
theorem WtL.get : ∀ {vs : List V} {xs : List (Pn × Nat)} {i : Nat} {v : V}, WtL K H vs xs → vs[i]? = some v → ∃ x, xs[i]? = some x ∧ WtV K H v x
  | _, _, i, v, .nil, h => by simp at h
  | _, _, 0, v, .cons e r, h => by
    have z := Option.some.inj h
    subst z
    exact ⟨_, rfl, e⟩
  | _, _, i + 1, v, .cons e r, h => WtL.get (i := i) r h
theorem kii_kc {P : Program} {w : World} {l : Addr} {kvs : List NEn} (k : Kii l H H') (e : H l = some (DnO P w l kvs)) : Kc H H' := fun b o eb n _ => k b o eb fun z => by
  rw [z, e] at eb
  exact n _ (Option.some.inj eb).symm
end
/-! what setdefault fills in -/
def Filled (n m k r : Nat) (f g : Pn → Option Nat) (T : Pn → Prop) : Prop := ∀ p, p ∈ posG n m (k + 1) → (f p ≠ none → g p = f p) ∧ (f p = none → T p → g p = some r) ∧ (f p = none → ¬ T p → g p = none)
theorem fill_same {n m k r : Nat} {f g : Pn → Option Nat} {T T' : Pn → Prop} (h : Filled n m k r f g T) (e : ∀ p, p ∈ posG n m (k + 1) → (T' p ↔ T p)) : Filled n m k r f g T' := fun p hp => by
  have e1 : T' p ↔ T p := e p hp
  obtain ⟨h1, h2, h3⟩ := h p hp
  exact ⟨h1, fun a b => h2 a (e1.mp b), fun a b => h3 a fun z => b (e1.mpr z)⟩
theorem fill_there {n m k r : Nat} {f g : Pn → Option Nat} {T T' : Pn → Prop} {p0 : Pn} (h : Filled n m k r f g T) (hp : p0 ∈ posG n m (k + 1)) (e : ∀ p, T' p ↔ T p ∨ p = p0) (s : g p0 ≠ none) : Filled n m k r f g T' := fun p hp' => by
  obtain ⟨h1, h2, h3⟩ := h p hp'
  refine ⟨h1, fun a b => ?_, fun a b => h3 a fun z => b ((e p).mpr (.inl z))⟩
  by_cases t : T p
  · exact h2 a t
  · rcases (e p).mp b with z | z
    · exact h2 a z
    · rw [z] at a t h3
      exact absurd (h3 a t) s
theorem fill_new {n m k r : Nat} {f g : Pn → Option Nat} {T T' : Pn → Prop} {p0 : Pn} (h : Filled n m k r f g T) (hp : p0 ∈ posG n m (k + 1)) (e : ∀ p, T' p ↔ T p ∨ p = p0) (s : g p0 = none) : Filled n m k r f (fun q => if q = p0 then some r else g q) T' := fun p hp' => by
  obtain ⟨h1, h2, h3⟩ := h p hp'
  by_cases ep : p = p0
  · subst ep
    refine ⟨fun a => ?_, fun _ _ => if_pos rfl, fun _ b => absurd ((e p).mpr (.inr rfl)) b⟩
    exact absurd ((h1 a).symm.trans s) a
  · have e1 : (if p = p0 then some r else g p) = g p := if_neg ep
    have e2 : T' p ↔ T p := (e p).trans ⟨fun z => z.elim id fun z => absurd z ep, .inl⟩
    refine ⟨fun a => e1.trans (h1 a), fun a b => e1.trans (h2 a (e2.mp b)), fun a b => e1.trans (h3 a fun z => b (e2.mpr z))⟩
/-! ### the lengths are found -/
section
variable {P : Program} {w : World} {K : PySem.W.Frag} {mg : Str → Option Value} {base : Heap}
theorem valN_mem {kvs : List NEn} {k : NestedKey} (h : (valN kvs k).isSome = true) : ∃ x, x ∈ kvs ∧ x.1 = k := by
  unfold valN at h
  rw [Option.isSome_map, List.find?_isSome] at h
  obtain ⟨x, hx, e⟩ := h
  exact ⟨x, hx, of_decide_eq_true e⟩
theorem valN_has {kvs : List NEn} {x : NEn} (h : x ∈ kvs) : (valN kvs x.1).isSome = true := by
  unfold valN
  rw [Option.isSome_map]
  exact List.find?_isSome.mpr ⟨x, h, decide_eq_true rfl⟩
theorem small10000 {n : Nat} (h : n ≤ 10000) : n < sizeLine := Nat.lt_of_le_of_lt h (by show 10000 < sizeLine; decide)
def spFind (K : PySem.W.Frag) (P : Program) (w : World) : Sp := fun vs H Q _ => ∃ (s dx : Addr) (u v : V) (c e p l : Addr) (cs es ps : List V) (n m k : Nat) (U : Pn → Prop) (f0 : Pn → Option Nat), vs = [.ref s, .int ((k + 1 : Nat) : Int)] ∧ H s = some (.ins (He.ga K "Game") dx (gmF u v c e p l)) ∧ H c = some (.lst cs) ∧ ChL K H cs (chG n m) ∧
  H e = some (.lst es) ∧ DpAll K H es ((entsG n m).map eD) ∧ H p = some (.lst ps) ∧ DpAll K H ps ((posG n m (k + 1)).map fun q => .tuple (q.map eD)) ∧ LenD K P w H l (posG n m (k + 1)) f0 ∧ Upto n m k U 0 f0 ∧ k + 1 ≤ 3 ∧ n ≤ 16 ∧ m ≤ 16 ∧ (1 + n * m) ^ (k + 1) ≤ 1000 ∧
  ∀ (H' : Hp) (f : Pn → Option Nat), Kii l H H' → LenD K P w H' l (posG n m (k + 1)) f → IsLen n m k U f → Q .non H'
/-- what holds whenever the loop begins anew -/
def FindW (K : PySem.W.Frag) (P : Program) (w : World) (H : Hp) (s0 l : Addr) (n m k : Nat) (U : Pn → Prop) : Nat → L2.St → Hp → Prop := fun mm σ Hc => ∃ (wA oA : Addr) (ws os : List V) (Wl won : List (Pn × Nat)) (r : Nat) (fl : Pn → Option Nat) (y5 y6 y7 y8 : Option V),
  σ = [some (.ref s0), some (.int ((k + 1 : Nat) : Int)), some (.ref wA), some (.int (r : Nat)), some (.ref oA), y5, y6, y7, y8, none, none] ∧ Kii l H Hc ∧ Hc wA = some (.lst ws) ∧ WtL K Hc ws Wl ∧ Hc oA = some (.lst os) ∧ os.length = won.length ∧ LenD K P w Hc l (posG n m (k + 1)) fl ∧ Upto n m k U r fl ∧ Settle n m k Wl fl ∧ Wl.length ≤ 3000 ∧
  (won = [] → ∀ p, p ∈ posG n m (k + 1) → fl p = none → ¬ newG n m k fl p) ∧ mm = 2 * Wl.length + won.length.min 1
theorem sc_find : FnScope ["self", "pebbles", "waiting", "rounds", "won", "settled", "rest", "at", "entry", "position", "pair"] ["self", "pebbles"] (defScope (inClass (top 33) 1)) := ⟨rfl, rfl, rfl, by decide +kernel, rfl, by decide +kernel, by decide +kernel⟩
theorem has_find (D : DefM K "Game" "_find_lengths" "Game._find_lengths" ["self", "pebbles"] (inClass (top 33) 1)) (GC : GmC K) (T : Txt mg) (C1 : HasM P w K mg base 1 "Game" "_wins_by" ["self", "rest", "at"] (spWins K P w)) : HasM P w K mg base 2 "Game" "_find_lengths" ["self", "pebbles"] (spFind K P w) := D.has fun f fd F => by
  obtain ⟨f1, fd1, M__wins_by, hm__wins_by, bm__wins_by⟩ := C1
  refine F.ok sc_find (fun vs H Q E h => ?_) (fun cdv A outer s H vs Q E hr h => ?_)
  · obtain ⟨s, dx, u, v, c, e, p, l, cs, es, ps, n, m, k, U, f0, rfl, _⟩ := h; rfl
  · obtain ⟨s0, dx, u, v, c, e, p, l, cs, es, ps, n, m, k, U, f0, rfl, hs, hc, hcs, he, des, hp, dps, hl, up0, k3, n16, m16, big, q⟩ := h
    have RM__wins_by : Room 1 _ := hr
    refine ⟨_, PSs.nox (pss_cons (ps_setLc2 (i := 2) (own := [("rest", 6), ("at", 7)]) (vs1 := [7]) rfl sc_find.nd rfl rfl (sw_true rfl rfl rfl (by decide +kernel)) (pi_keysN (pe_dcN (hu9 hr) rfl sc_find.nd (pi_list (pe_fld (pv 0) rfl)) (own := [("position", 9)]) (blkOk_by (N := ["self", "pebbles", "waiting", "rounds", "won", "settled", "rest", "at", "entry", "position", "pair"]) (sc := defScope (inClass (top 33) 1)) (by decide +kernel)) (fun _ _ _ _ _ => (pg_name (i := 9) sc_find.nd rfl (Or.inl rfl))) (fun _ _ _ _ _ => pts_nil) (fun _ _ _ _ _ => (pe_slice (sl_tupAK (K := K) rfl) (pv 9) (po_some pe_int) po_none)) (fun _ _ _ _ _ => pe_bl))) (blkOk_by (N := ["self", "pebbles", "waiting", "rounds", "won", "settled", "rest", "at", "entry", "position", "pair"]) (sc := defScope (inClass (top 33) 1)) (by decide +kernel)) (by decide) (fun _ _ _ _ _ => (pg_name (i := 6) sc_find.nd rfl (Or.inl rfl))) (fun _ _ _ _ _ => pts_nil) (fun _ _ _ _ _ => (pi_range1 (by rfl) T.n_range (pa_cons (pv 1) pa_nil))) (fun _ _ _ _ _ => (pg_name (i := 7) sc_find.nd rfl (Or.inl rfl))) (fun _ _ _ _ _ => pts_nil) (fun _ _ _ _ _ => (pe_tup (pa_cons (pv 6) (pa_cons (pv 7) pa_nil))))) (pss_cons (ps_set (i := 3) sc_find.nd rfl (Or.inl rfl) pe_int) (pss_cons (ps_set (i := 4) sc_find.nd rfl (Or.inl rfl) (pv 2)) (pss_one (ps_while PassesOwn.never (pt_truth (pv 4) (by intro _; rfl)) (pss_cons (ps_aug (i := 3) sc_find.nd rfl (Or.inl rfl) pe_int ip_add) (pss_cons (ps_setLc (i := 4) (own := [("rest", 6), ("at", 7)]) rfl sc_find.nd rfl rfl (sw_true rfl rfl rfl (by decide +kernel)) (pi_list (pv 2)) (blkOk_by (N := ["self", "pebbles", "waiting", "rounds", "won", "settled", "rest", "at", "entry", "position", "pair"]) (sc := defScope (inClass (top 33) 1)) (by decide +kernel)) (fun _ _ _ _ _ => (pg_names2 (K := K) rfl rfl sc_find.nd (i := 6) rfl (Or.inl rfl) (j := 7) rfl (Or.inl rfl))) (fun _ _ _ _ _ => (pts_one (pt_val (pe_meth (pv 0) GC.cls hm__wins_by M__wins_by RM__wins_by bm__wins_by .nil pass0 (pa_cons (pv 6) (pa_cons (pv 7) pa_nil)))))) (fun _ _ _ _ _ => (pe_tup (pa_cons (pv 6) (pa_cons (pv 7) pa_nil))))) (pss_cons (ps_set (i := 5) sc_find.nd rfl (Or.inr rfl) (pe_dcN (hu9 hr) rfl sc_find.nd (pi_list (pv 4)) (own := [("pair", 10)]) (blkOk_by (N := ["self", "pebbles", "waiting", "rounds", "won", "settled", "rest", "at", "entry", "position", "pair"]) (sc := defScope (inClass (top 33) 1)) (by decide +kernel)) (fun _ _ _ _ _ => (pg_name (i := 10) sc_find.nd rfl (Or.inl rfl))) (fun _ _ _ _ _ => pts_nil) (fun _ _ _ _ _ => (pv 10)) (fun _ _ _ _ _ => pe_bl))) (pss_cons (ps_setLc (i := 2) (own := [("pair", 10)]) rfl sc_find.nd rfl rfl (sw_true rfl rfl rfl (by decide +kernel)) (pi_list (pv 2)) (blkOk_by (N := ["self", "pebbles", "waiting", "rounds", "won", "settled", "rest", "at", "entry", "position", "pair"]) (sc := defScope (inClass (top 33) 1)) (by decide +kernel)) (fun _ _ _ _ _ => (pg_name (i := 10) sc_find.nd rfl (Or.inl rfl))) (fun _ _ _ _ _ => (pts_one (pt_cmp (pc_nnotinK (K := K) (P := P) (w := w) rfl rfl rfl (hu9 hr) (pv 10) (pv 5))))) (fun _ _ _ _ _ => (pv 10))) (pss_one (ps_for PassesOwn.never rfl (pi_list (pv 4)) (pg_tup rfl (pgs_cons (pg_name (i := 6) sc_find.nd rfl (Or.inl rfl)) (pgs_cons (pg_name (i := 7) sc_find.nd rfl (Or.inl rfl)) pgs_nil))) (pss_one (ps_for PassesOwn.never rfl (pi_list (pe_fld (pv 0) rfl)) (pg_name (i := 8) sc_find.nd rfl (Or.inl rfl)) (pss_one (ps_expr (pe_nsetd (hu9 hr) (pe_fld (pv 0) rfl) (pe_op op_catA (pe_op op_catA (pe_slice sl_tupA (pv 6) po_none (po_some (pv 7))) (pe_tup (pa_cons (pv 8) pa_nil))) (pe_slice sl_tupA (pv 6) (po_some (pv 7)) po_none)) (pv 3) ⟨rfl, rfl, rfl, rfl⟩)))))))))))))))), ?_⟩
    have lps := DpAll.length dps
    rw [List.length_map, posG_len] at lps
    have lpk : (posG n m k).length ≤ 1000 := by
      rw [posG_len]
      exact Nat.le_trans (Nat.pow_le_pow_right (by omega) (Nat.le_succ k)) big
    -- the rests, each once
    refine ⟨_, rfl, s0, _, dx, _, _, rfl, hs, GC.cls, GC.np, rfl, p, rfl, ⟨_, SqL.of hp⟩, fun D nD => ?_⟩
    refine dcn_it (K := K) (P := P) (w := w) (walk_list (K := K) (a := p) (xs := ps)) (fun i H2 => ∃ kvs, Kii D H H2 ∧ DnAt K P w H2 D kvs ∧ kvs.length ≤ i ∧ (∀ x, x ∈ kvs → ∃ rest, rest ∈ posG n m k ∧ x.1 = kP rest) ∧ ∀ j q, j < i → (posG n m (k + 1))[j]? = some q → ∃ x, x ∈ kvs ∧ x.1 = kP (q.drop 1))
      ⟨[], fun b o eb nb => (upd_ne nb).trans eb, ⟨upd_same, fun x hx => nomatch hx⟩, Nat.le_refl _, (fun x hx => nomatch hx), fun j q hj => absurd hj (Nat.not_lt_zero _)⟩ (fun i H2 _ ⟨_, k2, _⟩ => SqL.of (k2 _ _ hp (ne_of_none hp nD))) ?_ ?_
    · rintro i z H2 H3 hi ⟨kvs, k2, dn, lk, sub, al⟩ ⟨rfl, hz⟩
      obtain ⟨dd, hdd, dpz⟩ := DpAll.get' dps hz
      obtain ⟨q0, hq0, rfl⟩ := get_map hdd
      obtain ⟨ql, qe⟩ := posG_mem.mp (List.mem_of_getElem? hq0)
      have mem1 : q0.drop 1 ∈ posG n m k := posG_mem.mpr ⟨by rw [List.length_drop, ql]; rfl, fun x hx => qe x (List.mem_of_mem_drop hx)⟩
      have kc2 : Kc H H3 := fun b o eb nx nt => k2 b o eb (ne_of_none eb nD)
      obtain ⟨ta, xs, rfl, hT, hx⟩ := Dp.tup_inv (Kc.dp kc2 dpz)
      refine ⟨rfl, yes_i (iteT ?_)⟩
      refine ⟨_, rfl, 1, rfl, no_i (sl_use hT fun H4 r4 s4 g4 => ?_)⟩
      have ed : cutV xs (some (1 : Int)) none = xs.drop 1 := cut_drop (i := 1)
      rw [ed] at g4
      have nk4 : NkV K H4 (kP (q0.drop 1)) (.ref r4) := .tup g4 (by rw [List.map_drop]; exact NkVs.drop' (NkVs.same s4 (nk_eDs hx)))
      have dn4 := dn.same s4
      refine ⟨kvs, kP (q0.drop 1), r4, rfl, dn4, nk4, kP_depth _, Nat.lt_of_le_of_lt lk (small1000 (by omega)), putN kvs (kP (q0.drop 1)) r4 (.bl true), fun b o eb nb => (upd_ne nb).trans (s4 _ _ (k2 _ _ eb nb)), dn4.put nk4 (kP_depth _), Nat.le_trans (putN_length _ _ _ _) (Nat.succ_le_succ lk), fun x hx' => ?_, fun j q' hj hq' => ?_⟩
      · rcases putN_mem hx' with ⟨e1, _⟩ | ⟨x', hx'', e1, _⟩
        · exact ⟨_, mem1, e1⟩
        · rw [← e1]; exact sub x' hx''
      · have there : ∀ k0, (valN (putN kvs (kP (q0.drop 1)) r4 (.bl true)) k0).isSome = true → ∃ x, x ∈ putN kvs (kP (q0.drop 1)) r4 (.bl true) ∧ x.1 = k0 := fun k0 h0 => valN_mem h0
        by_cases ej : j = i
        · subst ej
          rw [hq0] at hq'
          cases hq'
          exact there _ (by rw [valN_put, if_pos rfl]; rfl)
        · obtain ⟨x, hx1, hx2⟩ := al j q' (by omega) hq'
          refine there _ ?_
          rw [valN_put]
          by_cases e2 : kP (q0.drop 1) = kP (q'.drop 1)
          · rw [if_pos e2]; rfl
          · rw [if_neg e2, ← hx2]
            exact valN_has hx1
    · rintro H2 ⟨kvs, k2, dn, lk, sub, al⟩
      refine ⟨D, kvs, rfl, dn.at_, fun o M nM => ?_⟩
      have kcF : Kc H2 (upd H2 D (.frz o (DnO P w D kvs))) := fun b x eb nx nt => by
        rw [upd_ne fun z => by rw [z, dn.at_] at eb; exact nx _ (Option.some.inj eb).symm]
        exact eb
      have kiF : Kii D H (upd H2 D (.frz o (DnO P w D kvs))) := fun b x eb nb => (upd_ne nb).trans (k2 b x eb nb)
      have hF := upd_same (H := H2) (a := D) (o := .frz o (DnO P w D kvs))
      have keysF : ∀ x, x ∈ kvs → NkV K (upd H2 D (.frz o (DnO P w D kvs))) x.1 (.ref x.2.1) := fun x hx => NkV.kc kcF (dn.keys x hx).1
      change (upd H2 D (.frz o (DnO P w D kvs))) M = none at nM
      refine lc2_out (walk_keysN (K := K) (P := P) (w := w) (d := D) (o := o) (kvs := kvs)) (fun i H3 => ∃ (acc : List V) (xs : List (Pn × Nat)), Same (upd H2 D (.frz o (DnO P w D kvs))) H3 ∧ H3 M = some (.lst acc) ∧ WtL K H3 acc xs ∧ xs.length ≤ 3 * i ∧ (∀ x, x ∈ xs → x.1 ∈ posG n m k ∧ x.2 < k + 1) ∧ ∀ j x rest, j < i → kvs[j]? = some x → x.1 = kP rest → ∀ a, a < k + 1 → (rest, a) ∈ xs)
        ⟨[], [], same_upd nM, upd_same, .nil, Nat.le_refl _, (fun x hx => nomatch hx), fun j x rest hj => absurd hj (Nat.not_lt_zero _)⟩ (fun i H3 _ ⟨_, _, s3, _⟩ => s3 _ _ hF) ?_ ?_
      · rintro i x H3 H4 hi ⟨acc, xs, s3, hM, dA, lA, okA, al3⟩ ⟨rfl, x0, hx0, rfl⟩
        obtain ⟨rest, hrest, ek⟩ := sub x0 (List.mem_of_getElem? hx0)
        have nk0 := keysF x0 (List.mem_of_getElem? hx0)
        rw [ek] at nk0
        refine ⟨rfl, yes_i (iteT ?_)⟩
        refine ⟨_, rfl, k + 1, rfl, by omega, by omega, lc2_in walk_range (fun j H5 => ∃ (acc : List V) (xs : List (Pn × Nat)), Same (upd H2 D (.frz o (DnO P w D kvs))) H5 ∧ H5 M = some (.lst acc) ∧ WtL K H5 acc xs ∧ xs.length ≤ 3 * i + j ∧ (∀ x, x ∈ xs → x.1 ∈ posG n m k ∧ x.2 < k + 1) ∧ (∀ j x rest, j < i → kvs[j]? = some x → x.1 = kP rest → ∀ a, a < k + 1 → (rest, a) ∈ xs) ∧ ∀ a, a < j → (rest, a) ∈ xs)
          ⟨acc, xs, s3, hM, dA, lA, okA, al3, fun a ha => absurd ha (Nat.not_lt_zero _)⟩ (fun _ _ _ _ => trivial) ?_ ?_⟩
        · rintro j y H5 H6 hj ⟨acc', xs', s5, hM5, dA5, lA5, okA5, al5, al6⟩ ⟨rfl, rfl⟩
          refine ⟨rfl, yes_i (iteT ?_)⟩
          have lw := WtL.length dA5
          have lki : i < 1000 := by
            have := (List.getElem?_eq_some_iff.mp hx0).1
            omega
          refine ⟨_, rfl, _, rfl, (by show 2 ≤ sizeLine; decide), fun t nt => ?_⟩
          have st := same_upd (o := .tup [.ref x0.2.1, .int (0 + (j : Nat))]) nt
          have hM6 := st _ _ hM5
          have kl6 := Kl.upd (o := .lst (acc' ++ [.ref t])) hM6
          refine ⟨acc', hM6, small10000 (by omega), acc' ++ [.ref t], xs' ++ [(rest, j)], fun b z eb => (upd_ne (ne_of_none eb nM)).trans (st _ _ (s5 _ _ eb)), upd_same, ?_, by rw [List.length_append]; show xs'.length + 1 ≤ _; omega, fun x hx => ?_, fun j' x rest' hj' hx' er a ha => List.mem_append_left _ (al5 j' x rest' hj' hx' er a ha), fun a ha => ?_⟩
          · refine WtL.kl kl6 (WtL.snoc ⟨t, x0.2.1, rfl, SqT.of ?_, NkV.same (s5.trans st) nk0⟩ (WtL.kc (Kc.of st) dA5))
            rw [upd_same, Int.zero_add]
          · rcases List.mem_append.mp hx with hx | hx
            · exact okA5 x hx
            · rw [List.mem_singleton.mp hx]; exact ⟨hrest, hj⟩
          · by_cases ea : a = j
            · subst ea; exact List.mem_append_right _ (List.mem_singleton.mpr rfl)
            · exact List.mem_append_left _ (al6 a (by omega))
        · rintro H5 ⟨acc', xs', s5, hM5, dA5, lA5, okA5, al5, al6⟩
          refine ⟨acc', xs', s5, hM5, dA5, by omega, okA5, fun j' x rest' hj' hx' er a ha => ?_⟩
          by_cases ej : j' = i
          · subst ej
            rw [hx0] at hx'
            cases hx'
            rw [ek] at er
            rw [← kP_inj er]
            exact al6 a ha
          · exact al5 j' x rest' (by omega) hx' er a ha
      · rintro H3 ⟨acc, xs, s3, hM, dA, lA, okA, al3⟩
        have sH3 : Same H H3 := fun b z eb => s3 _ _ (kiF b z eb (ne_of_none eb nD))
        have allW : ∀ rest, rest ∈ posG n m k → ∀ a, a < k + 1 → (rest, a) ∈ xs := fun rest hrest a ha => by
          have hp0 : (none :: rest : Pn) ∈ posG n m (k + 1) := by
            obtain ⟨h1, h2⟩ := posG_mem.mp hrest
            refine posG_mem.mpr ⟨by rw [List.length_cons, h1], fun x hx => ?_⟩
            rcases List.mem_cons.mp hx with rfl | hx
            · exact List.mem_cons_self
            · exact h2 x hx
          obtain ⟨j, hj⟩ := List.mem_iff_getElem?.mp hp0
          have lj := (List.getElem?_eq_some_iff.mp hj).1
          rw [posG_len] at lj
          obtain ⟨x, hx1, hx2⟩ := al j _ (by omega) hj
          obtain ⟨i', hi'⟩ := List.mem_iff_getElem?.mp hx1
          exact al3 i' x rest (List.getElem?_eq_some_iff.mp hi').1 hi' hx2 a ha
        have xne : xs ≠ [] := fun e => by
          have : (List.replicate k none : Pn) ∈ posG n m k := posG_mem.mpr ⟨List.length_replicate, fun x hx => by rw [(List.mem_replicate.mp hx).2]; exact List.mem_cons_self⟩
          have := allW _ this 0 (by omega)
          rw [e] at this; cases this
        have lxs : xs.length ≤ 3000 := by omega
        have lacc := WtL.length dA
        refine gN_i ?_
        dsimp only
        refine sq_i (as_i ?_)
        refine gN_i ?_
        dsimp only
        refine sq_i (as_i ?_)
        refine ⟨_, rfl, ?_⟩
        refine gN_i ?_
        dsimp only
        refine ⟨FindW K P w H s0 l n m k U, ⟨_, M, M, acc, acc, xs, xs, 0, f0, _, _, _, _, rfl, fun b z eb _ => sH3 b z eb, hM, dA, hM, lacc, hl.same sH3, up0, ⟨okA, fun rest hr a ha => .inl (allW rest hr a ha)⟩, lxs, fun e => absurd e xne, rfl⟩, ?_⟩
        clear hM dA lA okA al3 allW xne lxs lacc sH3 s3 nM keysF hF kiF kcF al sub lk dn k2
        rintro mm σ Hc ⟨wA, oA, ws, os, Wl, won, r, fl, y5, y6, y7, y8, rfl, kc0, hw, dW, ho, lo, hlc, up, se, lWl, stop, emm⟩
        refine ⟨_, rfl, (!os.isEmpty), .inl ⟨os, SqL.of ho, rfl⟩, ?_⟩
        obtain ⟨kvl, dnl, ndl, subl, vall⟩ := id hlc
        obtain ⟨kv0, dn0, _⟩ := id hl
        have kcc : Kc H Hc := kii_kc kc0 dn0.at_
        have hsc := kcc.ins hs
        by_cases e0 : won = []
        · have eo : os = [] := List.length_eq_zero_iff.mp (by rw [lo, e0]; rfl)
          refine cF (k := !os.isEmpty) (by rw [eo]; rfl) ?_
          exact q Hc fl kc0 hlc (upto_end up (stop e0))
        · have eo : os ≠ [] := fun e => e0 (List.length_eq_zero_iff.mp (by rw [← lo, e]; rfl))
          have ewon : won.length.min 1 = 1 := by
            have : 0 < won.length := List.length_pos_iff.mpr e0
            show min won.length 1 = 1
            omega
          rw [ewon] at emm
          refine cT (k := !os.isEmpty) (by cases os with | nil => exact absurd rfl eo | cons _ _ => rfl) ?_
          refine ⟨fun σ' H' => ∃ m', m' < mm ∧ FindW K P w H s0 l n m k U m' σ' H', fun _ _ h => h, ?_⟩
          refine sq_i ?_
          refine ⟨_, rfl, _, _, rfl, rfl, ?_⟩
          dsimp only
          have er : ((r : Int) + 1) = ((r + 1 : Nat) : Int) := by omega
          rw [er]
          refine sq_i (as_i ?_)
          -- what is won now
          have lws := WtL.length dW
          refine ⟨_, rfl, wA, rfl, ⟨_, SqL.of hw⟩, fun M1 nM1 => ?_⟩
          refine lc_it (walk_list (K := K) (a := wA) (xs := ws)) (fun i H2 => ∃ (acc : List V) (xs : List (Pn × Nat)), Same Hc H2 ∧ H2 M1 = some (.lst acc) ∧ WtL K H2 acc xs ∧ xs.length ≤ i ∧ ∀ x, x ∈ xs ↔ x ∈ Wl.take i ∧ winG n m (fun q => fl q ≠ none) x.1 x.2)
            ⟨[], [], same_upd nM1, upd_same, .nil, Nat.le_refl _, fun x => ⟨fun h => (nomatch h), fun h => (nomatch h.1)⟩⟩ (fun i H2 _ ⟨_, _, s2, _⟩ => SqL.of (s2 _ _ hw)) ?_ ?_
          · rintro i z H2 H3 hi ⟨acc, xs, s2, hM, dA, lA, iA⟩ ⟨rfl, hz⟩
            obtain ⟨x, hx, t, ra, rfl, hT, nk⟩ := WtL.get (WtL.kc (Kc.of s2) dW) hz
            obtain ⟨okx1, okx2⟩ := se.1 x (List.mem_of_getElem? hx)
            have kc2 := kcc.trans (Kc.of s2)
            refine ⟨t, _, rfl, hT, rfl, _, _, rfl, _, _, rfl, rfl, rfl, ?_⟩
            refine ⟨_, rfl, s0, dx, _, rfl, s2 _ _ hsc, rfl, _, rfl, _, rfl, s0, dx, u, v, c, e, p, l, cs, n, m, k, fl, ra, x.1, x.2, rfl, s2 _ _ hsc, kc2.lst hc, hcs.kc kc2, hlc.same s2, nk, okx1, okx2, k3, n16, m16, fun H4 b s4 eb => ?_⟩
            refine ⟨_, rfl, ?_⟩
            have hM4 := s4 _ _ hM
            have lw := WtL.length dA
            have lti : i < 3000 := by
              have := (List.getElem?_eq_some_iff.mp hx).1
              omega
            cases b with
            | false =>
              refine iteF ⟨acc, xs, s2.trans s4, hM4, WtL.kc (Kc.of s4) dA, by omega, fun y => (iA y).trans ⟨fun ⟨a, b⟩ => ⟨?_, b⟩, fun ⟨a, b⟩ => ⟨?_, b⟩⟩⟩
              · rw [List.take_add_one]; exact List.mem_append_left _ a
              · rw [List.take_add_one, hx] at a
                rcases List.mem_append.mp a with a | a
                · exact a
                · have ey : y = x := List.mem_singleton.mp a
                  rw [ey] at b
                  exact absurd (eb.mpr b) (by simp)
            | true =>
              refine iteT ⟨_, rfl, _, rfl, (by show 2 ≤ sizeLine; decide), fun t2 nt2 => ?_⟩
              have st := same_upd (o := .tup [.ref ra, .int (x.2 : Nat)]) nt2
              have s24 := s4.trans st
              refine ⟨acc, s24 _ _ hM, small10000 (by omega), acc ++ [.ref t2], xs ++ [x], fun b z eb => (upd_ne (ne_of_none eb nM1)).trans (s24 _ _ (s2 _ _ eb)), upd_same, ?_, by rw [List.length_append]; exact Nat.add_le_add lA (Nat.le_refl 1), fun y => ?_⟩
              · exact WtL.kl (Kl.upd (s24 _ _ hM)) (WtL.snoc ⟨t2, ra, rfl, SqT.of upd_same, NkV.same s24 nk⟩ (WtL.kc (Kc.of s24) dA))
              · rw [List.mem_append, List.take_add_one, hx, List.mem_append]
                refine ⟨fun h => ?_, fun ⟨h, hw⟩ => ?_⟩
                · rcases h with h | h
                  · exact ⟨.inl ((iA y).mp h).1, ((iA y).mp h).2⟩
                  · rw [List.mem_singleton.mp h]; exact ⟨.inr (List.mem_singleton.mpr rfl), eb.mp rfl⟩
                · rcases h with h | h
                  · exact .inl ((iA y).mpr ⟨h, hw⟩)
                  · exact .inr h
          · rintro H3 ⟨acc, won2, s3, hM1, dA, lA, iA⟩
            rw [lws, List.take_length] at iA
            rw [lws] at lA
            refine gN_i ?_
            dsimp only
            refine sq_i (as_i ?_)
            have lac := WtL.length dA
            -- settled
            refine ⟨_, rfl, M1, rfl, ⟨_, SqL.of hM1⟩, fun D1 nD1 => ?_⟩
            refine dcn_it (K := K) (P := P) (w := w) (walk_list (K := K) (a := M1) (xs := acc)) (fun i H4 => ∃ kvs, Kii D1 H3 H4 ∧ DnAt K P w H4 D1 kvs ∧ kvs.length ≤ i ∧ ∀ x, (valN kvs (kW x)).isSome = true ↔ x ∈ won2.take i)
              ⟨[], fun b o eb nb => (upd_ne nb).trans eb, ⟨upd_same, fun x hx => nomatch hx⟩, Nat.le_refl _, fun x => ⟨fun h => (nomatch h), fun h => (nomatch h)⟩⟩ (fun i H4 _ ⟨_, k4, _⟩ => SqL.of (k4 _ _ hM1 (ne_of_none hM1 nD1))) ?_ ?_
            · rintro i z H4 H5 hi ⟨kvs, k4, dn4, lk4, al4⟩ ⟨rfl, hz⟩
              have kc4 : Kc H3 H5 := fun b o eb _ _ => k4 b o eb (ne_of_none eb nD1)
              obtain ⟨x, hx, wx⟩ := WtL.get (WtL.kc kc4 dA) hz
              obtain ⟨t, rfl, nkx⟩ := wx.key
              have lti := (List.getElem?_eq_some_iff.mp hx).1
              refine ⟨rfl, yes_i (iteT ⟨_, rfl, kvs, kW x, t, rfl, dn4, nkx, kW_depth x, small10000 (by omega), putN kvs (kW x) t (.bl true), fun b o eb nb => (upd_ne nb).trans (k4 _ _ eb nb), dn4.put nkx (kW_depth x), Nat.le_trans (putN_length _ _ _ _) (Nat.succ_le_succ lk4), fun y => ?_⟩)⟩
              rw [valN_put, List.take_add_one, hx, List.mem_append]
              by_cases ey : x = y
              · subst ey
                rw [if_pos rfl]
                exact ⟨fun _ => .inr (List.mem_singleton.mpr rfl), fun _ => rfl⟩
              · rw [if_neg fun z => ey (kW_inj z)]
                refine (al4 y).trans ⟨.inl, fun h => h.elim id fun h => absurd (List.mem_singleton.mp h).symm ey⟩
            · rintro H4 ⟨kvd, k4, dn4, lk4, al4⟩
              rw [lac, List.take_length] at al4
              have s34 : Same H3 H4 := fun b o eb => k4 b o eb (ne_of_none eb nD1)
              have scc : Same Hc H4 := s3.trans s34
              refine gN_i ?_
              dsimp only
              refine sq_i (as_i ?_)
              -- the others wait on
              refine ⟨_, rfl, wA, rfl, ⟨_, SqL.of (scc _ _ hw)⟩, fun M2 nM2 => ?_⟩
              refine lc_it (walk_list (K := K) (a := wA) (xs := ws)) (fun i H5 => ∃ (acc : List V), Same H4 H5 ∧ H5 M2 = some (.lst acc) ∧ WtL K H5 acc ((Wl.take i).filter fun x => decide (x ∉ won2)))
                ⟨[], same_upd nM2, upd_same, .nil⟩ (fun i H5 _ ⟨_, s5, _⟩ => SqL.of (s5 _ _ (scc _ _ hw))) ?_ ?_
              · rintro i z H5 H6 hi ⟨acc5, s5, hM5, dA5⟩ ⟨rfl, hz⟩
                obtain ⟨x, hx, wx⟩ := WtL.get (WtL.kc (Kc.of (scc.trans s5)) dW) hz
                obtain ⟨t, rfl, nkx⟩ := wx.key
                have l5 := WtL.length dA5
                have lf := List.length_filter_le (fun x => decide (x ∉ won2)) (Wl.take i)
                have lt5 := List.length_take_le' i Wl
                have l5' : acc5.length ≤ 3000 := by
                  have : (Wl.take i).length ≤ Wl.length := by rw [List.length_take]; omega
                  omega
                refine ⟨rfl, _, rfl, _, rfl, D1, t, kvd, kW x, rfl, rfl, dn4.same s5, nkx, kW_depth x, _, rfl, ?_⟩
                by_cases ex : x ∈ won2
                · have e1 : (!(valN kvd (kW x)).isSome) = false := by rw [(al4 x).mpr ex]; rfl
                  refine cF (k := !(valN kvd (kW x)).isSome) e1 ⟨acc5, s5, hM5, ?_⟩
                  rw [List.take_add_one, hx, List.filter_append]
                  have e2 : (some x).toList.filter (fun x => decide (x ∉ won2)) = [] := by simp [ex]
                  rw [e2, List.append_nil]
                  exact dA5
                · have e1 : (!(valN kvd (kW x)).isSome) = true := by
                    cases q5 : (valN kvd (kW x)).isSome with
                    | true => exact absurd ((al4 x).mp q5) ex
                    | false => rfl
                  refine cT (k := !(valN kvd (kW x)).isSome) e1 ⟨_, rfl, acc5, hM5, small10000 (by omega), acc5 ++ [.ref t], fun b o eb => (upd_ne (ne_of_none eb nM2)).trans (s5 _ _ eb), upd_same, ?_⟩
                  rw [List.take_add_one, hx, List.filter_append]
                  have e2 : (some x).toList.filter (fun x => decide (x ∉ won2)) = [x] := by simp [ex]
                  rw [e2]
                  exact WtL.kl (Kl.upd hM5) (WtL.snoc wx dA5)
              · rintro H5 ⟨acc5, s5, hM5, dA5⟩
                rw [lws, List.take_length] at dA5
                have l5 := WtL.length dA5
                refine gN_i ?_
                dsimp only
                have s45 := s34.trans s5
                have sc5 := scc.trans s5
                have hM1' := s45 _ _ hM1
                have dA1 := WtL.kc (Kc.of s45) dA
                have hl5 := hlc.same sc5
                obtain ⟨kv5, dn5, _⟩ := id hl5
                have kc5 := kcc.trans (Kc.of sc5)
                have lal : (posG n m (k + 1)).length ≤ 1000 := by rw [posG_len]; exact big
                have n1l : M1 ≠ l := fun z => by rw [z, dn5.at_] at hM1'; unfold DnO at hM1'; cases hM1'
                -- all that is lost now
                refine ⟨_, rfl, M1, rfl, ⟨_, SqL.of hM1'⟩, for_list (K := K) (a := M1) (xs := acc) (fun i σ H6 => ∃ (y6 y7 y8 : Option V) (g : Pn → Option Nat), σ = [some (.ref s0), some (.int ((k + 1 : Nat) : Int)), some (.ref M2), some (.int ((r + 1 : Nat) : Int)), some (.ref M1), some (.ref D1), y6, y7, y8, none, none] ∧ Kii l H5 H6 ∧ LenD K P w H6 l (posG n m (k + 1)) g ∧
                  Filled n m k (r + 1) fl g (fun p => ∃ x, x ∈ won2.take i ∧ ∃ e, e ∈ entsG n m ∧ p = insG x.1 x.2 e)) ⟨_, _, _, fl, rfl, fun _ _ e _ => e, hl5, fun p hp => ⟨fun _ => rfl, fun _ ⟨x, hx, _⟩ => (nomatch hx), fun e _ => e⟩⟩ (fun i σ H6 _ ⟨_, _, _, _, _, k6, _⟩ => SqL.of (k6 _ _ hM1' n1l)) ?_ ?_⟩
                · rintro i z σ H6 hi ⟨y6, y7, y8, g, rfl, k6, hl6, fg⟩
                  have kc6 := kii_kc k6 dn5.at_
                  obtain ⟨x, hx, t, ra, rfl, hT, nk⟩ := WtL.get (WtL.kc kc6 dA1) hi
                  obtain ⟨okx1, okx2⟩ := se.1 x ((iA x).mp (List.mem_of_getElem? hx)).1
                  have lx := (posG_mem.mp okx1).1
                  refine ⟨t, _, rfl, hT, rfl, _, _, rfl, _, _, rfl, rfl, ?_⟩
                  have kc06 := kc5.trans kc6
                  have he6 := kc06.lst he
                  have nel : e ≠ l := fun z => by rw [z, dn0.at_] at he; unfold DnO at he; cases he
                  obtain ⟨kv6, dn6, _⟩ := id hl6
                  refine ⟨_, rfl, s0, _, dx, _, _, rfl, kc06.ins hs, GC.cls, GC.ne, rfl, e, rfl, ⟨_, SqL.of he6⟩, for_list (K := K) (a := e) (xs := es) (fun j σ H7 => ∃ (y8 : Option V) (g : Pn → Option Nat), σ = [some (.ref s0), some (.int ((k + 1 : Nat) : Int)), some (.ref M2), some (.int ((r + 1 : Nat) : Int)), some (.ref M1), some (.ref D1), some (.ref ra), some (.int (x.2 : Nat)), y8, none, none] ∧ Kii l H6 H7 ∧ LenD K P w H7 l (posG n m (k + 1)) g ∧
                    Filled n m k (r + 1) fl g (fun p => (∃ x, x ∈ won2.take i ∧ ∃ e, e ∈ entsG n m ∧ p = insG x.1 x.2 e) ∨ ∃ e, e ∈ (entsG n m).take j ∧ p = insG x.1 x.2 e)) ⟨_, g, rfl, fun _ _ e _ => e, hl6, fill_same fg fun p _ => ⟨fun h => h.elim id fun ⟨_, h, _⟩ => (nomatch h), .inl⟩⟩ (fun j σ H7 _ ⟨_, _, _, k7, _⟩ => SqL.of (k7 _ _ he6 nel)) ?_ ?_⟩
                  · rintro j y σ H7 hj ⟨y8', g7, rfl, k7, hl7, fg7⟩
                    obtain ⟨kv7, dn7, nd7, sub7, val7⟩ := id hl7
                    have kc7 := kii_kc k7 dn6.at_
                    obtain ⟨dd, hdd, dpe⟩ := DpAll.get' (Kc.dps (kc06.trans kc7) des) hj
                    obtain ⟨ent, hent, rfl⟩ := get_map hdd
                    have ement := List.mem_of_getElem? hent
                    have hin : insG x.1 x.2 ent ∈ posG n m (k + 1) := ins_mem okx1 (by omega) ement
                    refine ⟨_, rfl, s0, _, dx, _, _, rfl, (kc06.trans kc7).ins hs, GC.cls, GC.nl, rfl, l, kv7, rfl, dn7, ?_⟩
                    refine te_ins (K := K) (ri := 6) (ii := 7) (ei := 8) rfl rfl rfl (NkV.kc kc7 nk) (by omega) (nk_eD dpe) fun H8 t8 s8 nt => ?_
                    have ll7 := kvs_fit nd7 sub7
                    have eT : ∀ p, ((∃ x, x ∈ won2.take i ∧ ∃ e, e ∈ entsG n m ∧ p = insG x.1 x.2 e) ∨ ∃ e, e ∈ (entsG n m).take (j + 1) ∧ p = insG x.1 x.2 e) ↔ ((∃ x, x ∈ won2.take i ∧ ∃ e, e ∈ entsG n m ∧ p = insG x.1 x.2 e) ∨ ∃ e, e ∈ (entsG n m).take j ∧ p = insG x.1 x.2 e) ∨ p = insG x.1 x.2 ent := fun p => by
                      rw [List.take_add_one, hent]
                      refine ⟨fun h => ?_, fun h => ?_⟩
                      · rcases h with h | ⟨e', h1, h2⟩
                        · exact .inl (.inl h)
                        · rcases List.mem_append.mp h1 with h1 | h1
                          · exact .inl (.inr ⟨e', h1, h2⟩)
                          · rw [List.mem_singleton.mp h1] at h2; exact .inr h2
                      · rcases h with (h | ⟨e', h1, h2⟩) | h
                        · exact .inl h
                        · exact .inr ⟨e', List.mem_append_left _ h1, h2⟩
                        · exact .inr ⟨ent, List.mem_append_right _ (List.mem_singleton.mpr rfl), h⟩
                    refine ⟨_, rfl, t8, _, rfl, dn7.same s8, nt, kP_depth _, small10000 (by omega), fun v' hv' => ?_, fun hn => ?_⟩
                    · rw [val7 _ hin] at hv'
                      refine ⟨_, g7, rfl, fun b o eb nb => s8 _ _ (k7 _ _ eb nb), hl7.same s8, fill_there fg7 hin eT fun z => ?_⟩
                      rw [z] at hv'; cases hv'
                    · rw [val7 _ hin] at hn
                      have gn : g7 (insG x.1 x.2 ent) = none := Option.map_eq_none_iff.mp hn
                      exact ⟨_, _, rfl, fun b o eb nb => (upd_ne nb).trans (s8 _ _ (k7 _ _ eb nb)), LenD.put (r := r + 1) (dn7.same s8) nd7 sub7 val7 hin nt, fill_new fg7 hin eT gn⟩
                  · rintro σ H7 ⟨y8', g7, rfl, k7, hl7, fg7⟩
                    have les := DpAll.length des
                    rw [List.length_map] at les
                    rw [les, List.take_length] at fg7
                    refine ⟨_, _, _, g7, rfl, fun b o eb nb => k7 _ _ (k6 _ _ eb nb) nb, hl7, fill_same fg7 fun p _ => ?_⟩
                    rw [List.take_add_one, hx]
                    refine ⟨fun ⟨x', h1, h2⟩ => ?_, fun h => ?_⟩
                    · rcases List.mem_append.mp h1 with h1 | h1
                      · exact .inl ⟨x', h1, h2⟩
                      · rw [List.mem_singleton.mp h1] at h2; exact .inr h2
                    · rcases h with ⟨x', h1, h2⟩ | h
                      · exact ⟨x', List.mem_append_left _ h1, h2⟩
                      · exact ⟨x, List.mem_append_right _ (List.mem_singleton.mpr rfl), h⟩
                · rintro σ H6 ⟨y6, y7, y8, g, rfl, k6, hl6, fg⟩
                  rw [lac, List.take_length] at fg
                  have kc6 := kii_kc k6 dn5.at_
                  have n2l : M2 ≠ l := fun z => by rw [z, dn5.at_] at hM5; unfold DnO at hM5; cases hM5
                  have up2 : Upto n m k U (r + 1) g := upto_next up fun p hp => by
                    obtain ⟨a1, a2, a3⟩ := fg p hp
                    exact ⟨a1, fun e nw => a2 e ((won_new se iA hp e).mp nw), fun e nn => a3 e fun h => nn ((won_new se iA hp e).mpr h)⟩
                  have gf : ∀ p, p ∈ posG n m (k + 1) → fl p ≠ none → g p ≠ none := fun p hp h e => by
                    rw [(fg p hp).1 h] at e
                    exact h e
                  have lfil := List.length_filter_le (fun x => decide (x ∉ won2)) Wl
                  refine ⟨_, ?_, M2, M1, acc5, acc, _, won2, r + 1, g, _, _, _, _, rfl, fun b o eb nb => k6 _ _ (sc5 _ _ (kc0 _ _ eb nb)) nb, k6 _ _ hM5 n2l, WtL.kc kc6 dA5, k6 _ _ hM1' n1l, lac, hl6, up2, ⟨fun x hx => se.1 x (List.mem_filter.mp hx).1, fun rest hr a ha => ?_⟩, by omega, fun e2 p hp hg nw => ?_, rfl⟩
                  · by_cases e2 : won2 = []
                    · rw [e2]
                      have : (Wl.filter fun x => decide (x ∉ ([] : List (Pn × Nat)))).length ≤ Wl.length := List.length_filter_le _ _
                      show 2 * (Wl.filter fun x => decide (x ∉ ([] : List (Pn × Nat)))).length + min 0 1 < mm
                      omega
                    · obtain ⟨x, hx⟩ := List.exists_mem_of_ne_nil _ e2
                      have h1 : (Wl.filter fun x => decide (x ∉ won2)).length < Wl.length := List.length_filter_lt_length_iff_exists.mpr ⟨x, ((iA x).mp hx).1, by simp [hx]⟩
                      show 2 * (Wl.filter fun x => decide (x ∉ won2)).length + min won2.length 1 < mm
                      omega
                  · rcases se.2 rest hr a ha with h | h
                    · by_cases h2 : (rest, a) ∈ won2
                      · refine .inr fun e' he' => ?_
                        have hin := ins_mem hr (by omega : a ≤ k) he'
                        by_cases h3 : fl (insG rest a e') = none
                        · intro z
                          rw [(fg _ hin).2.1 h3 ⟨(rest, a), h2, e', he', rfl⟩] at z
                          cases z
                        · exact gf _ hin h3
                      · exact .inl (List.mem_filter.mpr ⟨h, decide_eq_true h2⟩)
                    · exact .inr fun e' he' => gf _ (ins_mem hr (by omega : a ≤ k) he') (h e' he')
                  · have same : ∀ p, p ∈ posG n m (k + 1) → g p = fl p := fun p hp => by
                      by_cases h3 : fl p = none
                      · rw [h3, (fg p hp).2.2 h3 fun ⟨x, hx, _⟩ => by rw [e2] at hx; cases hx]
                      · exact (fg p hp).1 h3
                    have nw2 : newG n m k fl p := by
                      obtain ⟨i, hi, q⟩ := nw
                      refine ⟨i, hi, (winG_cong (fun p hp => ?_) (del_mem hp hi) (by omega)).mp q⟩
                      rw [same p hp]
                    obtain ⟨x, hx, _⟩ := (won_new se iA hp ((same p hp).symm.trans hg)).mp nw2
                    rw [e2] at hx
                    cases hx
end
/-! ### what a game is made of -/
theorem ChL.snoc {K : PySem.W.Frag} {H : Hp} {vs : List V} {cs : List (List (Nat × Nat))} {v : V} {c : List (Nat × Nat)} (h : ChL K H vs cs) (hv : ChV K H v c) : ChL K H (vs ++ [v]) (cs ++ [c]) := by
  obtain ⟨l, al⟩ := h
  refine ⟨by rw [List.length_append, List.length_append, l]; rfl, fun i u y hu hy => ?_⟩
  by_cases lt : i < vs.length
  · rw [List.getElem?_append_left lt] at hu
    rw [List.getElem?_append_left (by omega)] at hy
    exact al i u y hu hy
  · have e : i = vs.length := by
      have := (List.getElem?_eq_some_iff.mp hu).1
      rw [List.length_append] at this
      simp at this
      omega
    subst e
    rw [List.getElem?_append_right (Nat.le_refl _)] at hu
    rw [List.getElem?_append_right (by omega), ← l] at hy
    simp at hu hy
    rw [← hu, ← hy]
    exact hv
theorem ChL.append {K : PySem.W.Frag} {H : Hp} {vs us : List V} {cs ds : List (List (Nat × Nat))} (h : ChL K H vs cs) (g : ChL K H us ds) : ChL K H (vs ++ us) (cs ++ ds) := by
  obtain ⟨l, al⟩ := h
  obtain ⟨l2, al2⟩ := g
  refine ⟨by rw [List.length_append, List.length_append, l, l2], fun i u y hu hy => ?_⟩
  by_cases lt : i < vs.length
  · rw [List.getElem?_append_left lt] at hu
    rw [List.getElem?_append_left (by omega)] at hy
    exact al i u y hu hy
  · rw [List.getElem?_append_right (by omega)] at hu
    rw [List.getElem?_append_right (by omega), ← l] at hy
    exact al2 _ u y hu hy
theorem lc_chosen {K : PySem.W.Frag} {H : Hp} {teN teM : TE} {n m : Nat} {s0 s1 s2 y3 y4 y5 y6 y7 y8 y9 y10 y11 y12 y13 : Option V} {bb : Bool} {Q : VK} (n16 : n ≤ 16) (m16 : m ≤ 16)
    (hN : ∀ Q : VK, Q (.int (n : Nat)) H → teN [s0, s1, s2, y3, y4, y5, y6, y7, y8, y9, y10, y11, y12, y13] H Q) (hM : ∀ (H1 : Hp) (z8 z9 : Option V) (Q : VK), Same H H1 → Q (.int (m : Nat)) H1 → teM [s0, s1, s2, y3, y4, y5, y6, y7, z8, z9, y10, y11, y12, y13] H1 Q)
    (q : ∀ (H' : Hp) (M : Addr) (acc : List V), Same H H' → H M = none → H' M = some (.lst acc) → ChL K H' acc ((List.range n).map fun a => (List.range m).map fun b => (a, b)) → Q (.ref M) H') :
    tLc (iRng1 (tCons teN tNil)) (gName 8) tYes (tTup (tCons (tC (.bl bb)) (tCons (tLc (iRng1 (tCons teM tNil)) (gName 9) tYes (tTup (tCons (tVar 8) (tCons (tVar 9) tNil))) [9]) tNil))) [8] [s0, s1, s2, y3, y4, y5, y6, y7, y8, y9, y10, y11, y12, y13] H Q := by
  refine hN _ ⟨n, rfl, by omega, by omega, fun M nM => ?_⟩
  refine lc_it walk_range (fun i H2 => ∃ acc : List V, Same H H2 ∧ H2 M = some (.lst acc) ∧ ChL K (noM M H2) acc ((List.range i).map fun a => (List.range m).map fun b => (a, b))) ⟨[], same_upd nM, upd_same, ⟨rfl, fun i v c h => by simp at h⟩⟩ (fun _ _ _ _ => trivial) ?_ ?_
  · rintro i x H2 H3 hi ⟨acc, s2', hA, dA⟩ ⟨rfl, rfl⟩
    refine ⟨rfl, yes_i (iteT ?_)⟩
    refine hM H3 _ _ _ s2' ⟨m, rfl, by omega, by omega, fun N nN => ?_⟩
    refine lc_it walk_range (fun j H4 => ∃ ac2 : List V, Same H3 H4 ∧ H4 N = some (.lst ac2) ∧ DpAll K H4 ac2 (((List.range j).map fun b => (fun a b => (a, b)) i b).map pD)) ⟨[], same_upd nN, upd_same, .nil⟩ (fun _ _ _ _ => trivial) ?_ ?_
    · rintro j x H4 H5 hj ⟨ac2, s4, hN4, dN⟩ ⟨rfl, rfl⟩
      have l2 := DpAll.length dN
      rw [List.length_map, List.length_map, List.length_range] at l2
      refine ⟨rfl, yes_i (iteT ⟨_, rfl, _, rfl, (by show 2 ≤ sizeLine; decide), fun t nt => ?_⟩)⟩
      have st := same_upd (o := .tup [.int (0 + (i : Nat)), .int (0 + (j : Nat))]) nt
      refine ⟨ac2, st _ _ hN4, small1000 (by omega), ac2 ++ [.ref t], fun b z eb => (upd_ne (ne_of_none eb nN)).trans (st _ _ (s4 _ _ eb)), upd_same, ?_⟩
      rw [List.range_succ, List.map_append, List.map_append]
      refine DpAll.kl (Kl.upd (st _ _ hN4)) (DpAll.append (DpAll.same st dN) (.cons ?_ .nil)) ?_
      · refine .tup (SqT.of upd_same) ?_
        rw [Int.zero_add, Int.zero_add]
        exact .cons (.int _) (.cons (.int _) .nil)
      · rw [← List.map_append]; exact ps_noL _
    · rintro H4 ⟨ac2, s4, hN4, dN⟩
      refine ⟨(by show 2 ≤ sizeLine; decide), fun t nt => ?_⟩
      have st := same_upd (o := .tup [.bl bb, .ref N]) nt
      have s4t := s4.trans st
      have la := dA.1
      rw [List.length_map, List.length_range] at la
      have hA4 := s4t _ _ hA
      have hNM : N ≠ M := fun z => by rw [z, hA] at nN; cases nN
      refine ⟨acc, hA4, small1000 (by omega), acc ++ [.ref t], fun b z eb => (upd_ne (ne_of_none eb nM)).trans (s4t _ _ (s2' _ _ eb)), upd_same, ?_⟩
      rw [List.range_succ, List.map_append]
      rw [noM_upd]
      have knm : Kl (upd H4 t (.tup [.bl bb, .ref N])) (noM M (upd H4 t (.tup [.bl bb, .ref N]))) := fun b o e n => by
        by_cases hb : b = M
        · rw [hb, hA4] at e
          exact absurd (Option.some.inj e).symm (n _)
        · exact (if_neg hb).trans e
      refine ChL.snoc (dA.kc (Kc.of (noM_same s4t))) ⟨t, N, bb, ac2, rfl, SqT.of (knm _ _ upd_same (fun _ z => nomatch z)), SqL.of ((if_neg hNM).trans (st _ _ hN4)), DpAll.kl knm (DpAll.same st dN) (ps_noL _)⟩
  · rintro H2 ⟨acc, s2', hA, dA⟩
    exact q H2 M acc s2' nM hA (dA.kc (Kc.of noM_sub))
theorem lc_answered {K : PySem.W.Frag} {H : Hp} {teN teM : TE} {n m : Nat} {s0 s1 s2 y3 y4 y5 y6 y7 y8 y9 y10 y11 y12 y13 : Option V} {bb : Bool} {Q : VK} (n16 : n ≤ 16) (m16 : m ≤ 16)
    (hN : ∀ Q : VK, Q (.int (n : Nat)) H → teN [s0, s1, s2, y3, y4, y5, y6, y7, y8, y9, y10, y11, y12, y13] H Q) (hM : ∀ (H1 : Hp) (z8 z9 : Option V) (Q : VK), Same H H1 → Q (.int (m : Nat)) H1 → teM [s0, s1, s2, y3, y4, y5, y6, y7, z8, z9, y10, y11, y12, y13] H1 Q)
    (q : ∀ (H' : Hp) (M : Addr) (acc : List V), Same H H' → H M = none → H' M = some (.lst acc) → ChL K H' acc ((List.range n).map fun a => (List.range m).map fun b => (b, a)) → Q (.ref M) H') :
    tLc (iRng1 (tCons teN tNil)) (gName 9) tYes (tTup (tCons (tC (.bl bb)) (tCons (tLc (iRng1 (tCons teM tNil)) (gName 8) tYes (tTup (tCons (tVar 8) (tCons (tVar 9) tNil))) [8]) tNil))) [9] [s0, s1, s2, y3, y4, y5, y6, y7, y8, y9, y10, y11, y12, y13] H Q := by
  refine hN _ ⟨n, rfl, by omega, by omega, fun M nM => ?_⟩
  refine lc_it walk_range (fun i H2 => ∃ acc : List V, Same H H2 ∧ H2 M = some (.lst acc) ∧ ChL K (noM M H2) acc ((List.range i).map fun a => (List.range m).map fun b => (b, a))) ⟨[], same_upd nM, upd_same, ⟨rfl, fun i v c h => by simp at h⟩⟩ (fun _ _ _ _ => trivial) ?_ ?_
  · rintro i x H2 H3 hi ⟨acc, s2', hA, dA⟩ ⟨rfl, rfl⟩
    refine ⟨rfl, yes_i (iteT ?_)⟩
    refine hM H3 _ _ _ s2' ⟨m, rfl, by omega, by omega, fun N nN => ?_⟩
    refine lc_it walk_range (fun j H4 => ∃ ac2 : List V, Same H3 H4 ∧ H4 N = some (.lst ac2) ∧ DpAll K H4 ac2 (((List.range j).map fun b => (fun a b => (b, a)) i b).map pD)) ⟨[], same_upd nN, upd_same, .nil⟩ (fun _ _ _ _ => trivial) ?_ ?_
    · rintro j x H4 H5 hj ⟨ac2, s4, hN4, dN⟩ ⟨rfl, rfl⟩
      have l2 := DpAll.length dN
      rw [List.length_map, List.length_map, List.length_range] at l2
      refine ⟨rfl, yes_i (iteT ⟨_, rfl, _, rfl, (by show 2 ≤ sizeLine; decide), fun t nt => ?_⟩)⟩
      have st := same_upd (o := .tup [.int (0 + (j : Nat)), .int (0 + (i : Nat))]) nt
      refine ⟨ac2, st _ _ hN4, small1000 (by omega), ac2 ++ [.ref t], fun b z eb => (upd_ne (ne_of_none eb nN)).trans (st _ _ (s4 _ _ eb)), upd_same, ?_⟩
      rw [List.range_succ, List.map_append, List.map_append]
      refine DpAll.kl (Kl.upd (st _ _ hN4)) (DpAll.append (DpAll.same st dN) (.cons ?_ .nil)) ?_
      · refine .tup (SqT.of upd_same) ?_
        rw [Int.zero_add, Int.zero_add]
        exact .cons (.int _) (.cons (.int _) .nil)
      · rw [← List.map_append]; exact ps_noL _
    · rintro H4 ⟨ac2, s4, hN4, dN⟩
      refine ⟨(by show 2 ≤ sizeLine; decide), fun t nt => ?_⟩
      have st := same_upd (o := .tup [.bl bb, .ref N]) nt
      have s4t := s4.trans st
      have la := dA.1
      rw [List.length_map, List.length_range] at la
      have hA4 := s4t _ _ hA
      have hNM : N ≠ M := fun z => by rw [z, hA] at nN; cases nN
      refine ⟨acc, hA4, small1000 (by omega), acc ++ [.ref t], fun b z eb => (upd_ne (ne_of_none eb nM)).trans (s4t _ _ (s2' _ _ eb)), upd_same, ?_⟩
      rw [List.range_succ, List.map_append]
      rw [noM_upd]
      have knm : Kl (upd H4 t (.tup [.bl bb, .ref N])) (noM M (upd H4 t (.tup [.bl bb, .ref N]))) := fun b o e n => by
        by_cases hb : b = M
        · rw [hb, hA4] at e
          exact absurd (Option.some.inj e).symm (n _)
        · exact (if_neg hb).trans e
      refine ChL.snoc (dA.kc (Kc.of (noM_same s4t))) ⟨t, N, bb, ac2, rfl, SqT.of (knm _ _ upd_same (fun _ z => nomatch z)), SqL.of ((if_neg hNM).trans (st _ _ hN4)), DpAll.kl knm (DpAll.same st dN) (ps_noL _)⟩
  · rintro H2 ⟨acc, s2', hA, dA⟩
    exact q H2 M acc s2' nM hA (dA.kc (Kc.of noM_sub))
/-! ### a game is set up: helpers -/
section
open NdefX LamX
variable {P : Program} {w : World} {K : PySem.W.Frag} {mg : Str → Option Value} {base : Heap} {H H' : Hp}
def tD (p : Pn) : PyData := .tuple (p.map eD)
theorem eDs_noL (p : Pn) : noLs (p.map eD) = true := noLs_all fun t ht => by
  obtain ⟨x, _, rfl⟩ := List.mem_map.mp ht
  exact noL_eD x
theorem tD_noL (p : Pn) : noL (tD p) = true := eDs_noL p
theorem tDs_noL (l : List Pn) : noLs (l.map tD) = true := noLs_all fun t ht => by
  obtain ⟨x, _, rfl⟩ := List.mem_map.mp ht
  exact tD_noL x
theorem fld_size (SC : StC K) {σ : L2.St} {i : Nat} {u : V} {n : Nat} {I : List Wrl} {Q : VK} (h : σ[i]? = some (some u)) (hu : StR K H u n I) (q : Q (.int (n : Nat)) H) : tFld K (tVar i) "size" σ H Q := by
  obtain ⟨a, dx, p, ys, rfl, h1, _⟩ := hu
  exact ⟨_, h, a, _, dx, _, _, rfl, h1, SC.cls, SC.ns, rfl, q⟩
theorem StR.kii {s dx gm : Addr} {v : V} {n : Nat} {J : List Wrl} (h : StR K H v n J) (e : H s = some (.ins gm dx [])) (k : Kii s H H') : StR K H' v n J := by
  obtain ⟨a, da, p, ys, rfl, h1, h2, h3⟩ := h
  refine ⟨a, da, p, ys, rfl, k _ _ h1 fun z => ?_, k _ _ h2 fun z => ?_, h3.keep (fun _ _ q => k.sqT e q) (k.tup e)⟩
  · rw [z, e] at h1
    injection h1 with h1
    injection h1 with _ _ h1
    cases h1
  · rw [z, e] at h2; cases h2
theorem TabsN.kii {T : List NTab} {s dx gm : Addr} {fs : List (Str × V)} (t : TabsN T H) (e : H s = some (.ins gm dx fs)) (k : Kii s H H') : TabsN T H' := TabsN.keep t fun b o eb ho => k _ _ eb fun z => by
  rw [z, e] at eb
  rcases ho with ⟨ps, ho⟩ | ⟨q, ho⟩
  · rw [ho] at eb; cases eb
  · rw [ho] at eb; unfold CodeO at eb; cases eb
theorem TabsN.kiid {T : List NTab} {d : Addr} {kvs : List NEn} (t : TabsN T H) (e : H d = some (DnO P w d kvs)) (k : Kii d H H') : TabsN T H' := TabsN.keep t fun b o eb ho => k _ _ eb fun z => by
  rw [z, e] at eb
  rcases ho with ⟨ps, ho⟩ | ⟨q, ho⟩
  · rw [ho] at eb; unfold DnO at eb; cases eb
  · rw [ho, z] at eb; exact codeO_dn (Option.some.inj eb).symm
/-- all but s and tables stay -/
def Kg (s : Addr) (H H' : Hp) : Prop := ∀ b o, H b = some o → b ≠ s → (∀ ps, o ≠ .tbl ps) → H' b = some o
/-- the positions, longer by one entry -/
theorem pos_next {n m j : Nat} : posG n m (j + 1) = (posG n m j).flatMap fun p => (entsG n m).map fun e => p ++ [e] := rfl
theorem tab_of_len {kvs : List NEn} {d : Addr} {all : List Pn} {f : Pn → Option Nat} (h : LenD K P w H d all f) : ∃ kvs, DnAt K P w H d kvs := by
  obtain ⟨kvs, h1, _⟩ := h
  exact ⟨kvs, h1⟩
theorem LenD.kii {d D : Addr} {kvd : List NEn} {all : List Pn} {f : Pn → Option Nat} (h : LenD K P w H D all f) (gd : H d = some (DnO P w d kvd)) (k : Kii d H H') (ne : D ≠ d) : LenD K P w H' D all f := by
  obtain ⟨kvs, h1, h2⟩ := h
  exact ⟨kvs, h1.kii gd k ne, h2⟩
/-- lists and tuples stay -/
def Kx (H H' : Hp) : Prop := ∀ b o, H b = some o → (∀ φ, o ≠ .ext φ) → (∀ ps, o ≠ .tbl ps) → (∀ c d fs, o ≠ .ins c d fs) → H' b = some o
theorem Kx.kc (x : Kc H H') : Kx H H' := fun b o e n m _ => x b o e n m
theorem Kx.of (s : Same H H') : Kx H H' := fun b o e _ _ _ => s b o e
theorem Kx.trans {H1 : Hp} (a : Kx H H1) (b : Kx H1 H') : Kx H H' := fun c o e n m i => b c o (a c o e n m i) n m i
theorem Kx.kg {s dx gm : Addr} {fs : List (Str × V)} (e : H s = some (.ins gm dx fs)) (k : Kg s H H') : Kx H H' := fun b o eb _ m i => k b o eb (fun z => by rw [z, e] at eb; exact i _ _ _ (Option.some.inj eb).symm) m
theorem Kx.kii {s dx gm : Addr} {fs : List (Str × V)} (e : H s = some (.ins gm dx fs)) (k : Kii s H H') : Kx H H' := fun b o eb _ _ i => k b o eb (fun z => by rw [z, e] at eb; exact i _ _ _ (Option.some.inj eb).symm)
theorem Kx.sqT (x : Kx H H') {a : Addr} {xs : List V} (h : SqT K H a xs) : SqT K H' a xs := by
  rcases h with (h | ⟨o, h⟩) | h
  · exact .inl (.inl (x _ _ h (fun _ z => nomatch z) (fun _ z => nomatch z) (fun _ _ _ z => nomatch z)))
  · exact .inl (.inr ⟨o, x _ _ h (fun _ z => nomatch z) (fun _ z => nomatch z) (fun _ _ _ z => nomatch z)⟩)
  · exact .inr h
theorem Kx.sqL (x : Kx H H') {a : Addr} {xs : List V} (h : SqL K H a xs) : SqL K H' a xs := by
  rcases h with (h | ⟨o, h⟩) | h
  · exact .inl (.inl (x _ _ h (fun _ z => nomatch z) (fun _ z => nomatch z) (fun _ _ _ z => nomatch z)))
  · exact .inl (.inr ⟨o, x _ _ h (fun _ z => nomatch z) (fun _ z => nomatch z) (fun _ _ _ z => nomatch z)⟩)
  · exact .inr h
theorem Kx.lst (x : Kx H H') {a : Addr} {xs : List V} (h : H a = some (.lst xs)) : H' a = some (.lst xs) := x _ _ h (fun _ z => nomatch z) (fun _ z => nomatch z) (fun _ _ _ z => nomatch z)
mutual
theorem Kx.dp (x : Kx H H') : ∀ {v : V} {t : PyData}, Dp K H v t → Dp K H' v t
  | _, _, .non => .non
  | _, _, .bl b => .bl b
  | _, _, .int i => .int i
  | _, _, .str s => .str s
  | _, _, .lst h t => .lst (x.sqL h) (Kx.dps x t)
  | _, _, .tup h t => .tup (x.sqT h) (Kx.dps x t)
theorem Kx.dps (x : Kx H H') : ∀ {vs : List V} {ts : List PyData}, DpAll K H vs ts → DpAll K H' vs ts
  | _, _, .nil => .nil
  | _, _, .cons h t => .cons (Kx.dp x h) (Kx.dps x t)
end
theorem ChL.kx (x : Kx H H') {vs : List V} {cs : List (List (Nat × Nat))} (h : ChL K H vs cs) : ChL K H' vs cs := ⟨h.1, fun i v c h1 h2 => by
  obtain ⟨t, l, b, us, rfl, g1, g2, g3⟩ := h.2 i v c h1 h2
  exact ⟨t, l, b, us, rfl, x.sqT g1, x.sqL g2, x.dps g3⟩⟩
theorem held_mem {p : Pn} (q : Nat × Nat) : q ∈ heldOf p ↔ some q ∈ p := by
  unfold heldOf
  rw [List.mem_filterMap]
  refine ⟨fun ⟨x, hx, e⟩ => ?_, fun h => ⟨_, h, rfl⟩⟩
  have e : x = some q := e
  rw [← e]; exact hx
theorem sound_mem {ps qs : List (Nat × Nat)} {I J : List Wrl} (m : ∀ p, p ∈ ps ↔ p ∈ qs) : SoundP ps I J ↔ SoundP qs I J :=
  ⟨fun ⟨a, b⟩ => ⟨fun p q hp hq => a p q ((m p).mpr hp) ((m q).mpr hq), fun z hz y hy e r hr => b z hz y hy e r fun p hp => (m p).mpr (hr p hp)⟩, fun ⟨a, b⟩ => ⟨fun p q hp hq => a p q ((m p).mp hp) ((m q).mp hq), fun z hz y hy e r hr => b z hz y hy e r fun p hp => (m p).mp (hr p hp)⟩⟩
/-- the entries of chosen, one after another -/
theorem lc_entries {H : Hp} {σ0 σ1 σ2 σ3 σ4 σ5 σ6 σ7 σ8 σ9 σ10 σ11 σ12 σ13 : Option V} {Q : VK} {n m : Nat} {cA : Addr} {aA : List V} (n16 : n ≤ 16) (m16 : m ≤ 16) (hc : H cA = some (.lst aA)) (dA : ChL K H aA ((List.range n).map fun a => (List.range m).map fun b => (a, b)))
    (h4 : σ4 = some (.ref cA)) (q : ∀ (H' : Hp) (M : Addr) (acc : List V), Same H H' → H M = none → H' M = some (.lst acc) → DpAll K H' acc (((List.range n).flatMap fun a => (List.range m).map fun b => (a, b)).map pD) → Q (.ref M) H') :
    tLc2 (iList K (tVar 4)) (gTup K 2 (gCons (gName 6) (gCons (gName 10) gNil))) tYes (iList K (tVar 10)) (gName 11) tYes (tVar 11) [6, 10, 11] [11] [σ0, σ1, σ2, σ3, σ4, σ5, σ6, σ7, σ8, σ9, σ10, σ11, σ12, σ13] H Q := by
  subst h4
  have lA : aA.length = n := by rw [dA.1, List.length_map, List.length_range]
  refine ⟨_, rfl, cA, rfl, ⟨_, SqL.of hc⟩, fun M nM => ?_⟩
  refine lc2_out (walk_list (K := K) (a := cA) (xs := aA)) (fun i H2 => ∃ acc : List V, Same H H2 ∧ H2 M = some (.lst acc) ∧ acc.length = i * m ∧ DpAll K H acc (((List.range i).flatMap fun a => (List.range m).map fun b => (a, b)).map pD))
    ⟨[], same_upd nM, upd_same, by simp, .nil⟩ (fun i H2 _ ⟨_, s2, _⟩ => SqL.of (s2 _ _ hc)) ?_ ?_
  · rintro i y H2 H3 hi ⟨acc, s2, hM, lacc, dacc⟩ ⟨rfl, hy⟩
    have lin : i < n := by rw [← lA]; exact (List.getElem?_eq_some_iff.mp hy).1
    have hch : ((List.range n).map fun a => (List.range m).map fun b => (a, b))[i]? = some ((List.range m).map fun b => (i, b)) := by
      rw [List.getElem?_map, List.getElem?_range lin]; rfl
    obtain ⟨t, lp, bb, vs, rfl, g1, g2, g3⟩ := dA.2 i y _ hy hch
    have lv := DpAll.length g3
    rw [List.length_map, List.length_map, List.length_range] at lv
    refine ⟨t, _, rfl, Same.sqt s2 g1, rfl, _, _, rfl, _, _, rfl, rfl, rfl, yes_i (iteT ?_)⟩
    refine ⟨_, rfl, lp, rfl, ⟨_, s2.seq g2⟩, lc2_in (walk_list (K := K) (a := lp) (xs := vs)) (fun j H4 => ∃ acc : List V, Same H H4 ∧ H4 M = some (.lst acc) ∧ acc.length = i * m + j ∧ DpAll K H acc (((List.range i).flatMap fun a => (List.range m).map fun b => (a, b)).map pD ++ ((List.range j).map fun b => (i, b)).map pD)) ⟨acc, s2, hM, lacc, by simpa using dacc⟩ (fun j H4 _ ⟨_, s4, _⟩ => s4.seq g2) ?_ ?_⟩
    · rintro j z H4 H5 hj ⟨ac2, s4, hM4, lac, dac⟩ ⟨rfl, hz⟩
      obtain ⟨dd, hdd, dpz⟩ := DpAll.get' g3 hz
      obtain ⟨p0, hp0, rfl⟩ := get_map hdd
      have ljm : j < m := by rw [← lv]; exact hj
      have e0 : p0 = (i, j) := by
        rw [List.getElem?_map, List.getElem?_range ljm] at hp0
        exact (Option.some.inj hp0).symm
      subst e0
      have lb : i * m + j ≤ 1000 := by
        have : i * m ≤ 16 * 16 := Nat.mul_le_mul (by omega) m16
        omega
      refine ⟨rfl, yes_i (iteT ⟨_, rfl, ac2, hM4, small10000 (by omega), ac2 ++ [z], fun b o eb => (upd_ne (ne_of_none eb nM)).trans (s4 _ _ eb), upd_same, by rw [List.length_append, lac]; rfl, ?_⟩)⟩
      rw [List.range_succ, List.map_append, List.map_append, ← List.append_assoc]
      exact DpAll.append dac (.cons dpz .nil)
    · rintro H4 ⟨ac2, s4, hM4, lac, dac⟩
      rw [lv] at lac dac
      refine ⟨ac2, s4, hM4, by rw [lac, Nat.add_mul, Nat.one_mul], ?_⟩
      rw [List.range_succ, List.flatMap_append, List.map_append]
      simpa using dac
  · rintro H2 ⟨acc, s2, hM, lacc, dacc⟩
    rw [lA] at dacc
    exact q H2 M acc s2 nM hM (DpAll.same s2 dacc)
/-- one entry more -/
theorem lc_longer (GC : GmC K) {H : Hp} {σ1 σ2 σ3 σ4 σ5 σ6 σ7 σ8 σ9 σ10 σ11 σ12 σ13 : Option V} {Q : VK} {n m j : Nat} {s0 dx pA eA : Addr} {fs : List (Str × V)} {ps es : List V} (big : (1 + n * m) ^ (j + 1) ≤ 1000) (j3 : j ≤ 3) (hs : H s0 = some (.ins (He.ga K "Game") dx fs)) (fp : fs.lookup ("positions" : Str) = some (V.ref pA)) (fe : fs.lookup ("entries" : Str) = some (V.ref eA))
    (hp : H pA = some (.lst ps)) (dps : DpAll K H ps ((posG n m j).map tD)) (he : H eA = some (.lst es)) (des : DpAll K H es ((entsG n m).map eD))
    (q : ∀ (H' : Hp) (M : Addr) (acc : List V), Same H H' → H M = none → H' M = some (.lst acc) → DpAll K H' acc ((posG n m (j + 1)).map tD) → Q (.ref M) H') :
    tLc2 (iList K (tFld K (tVar 0) "positions")) (gName 12) tYes (iList K (tFld K (tVar 0) "entries")) (gName 13) tYes (tOp (rCatA K) (tVar 12) (tTup (tCons (tVar 13) tNil))) [12, 13] [13] [some (.ref s0), σ1, σ2, σ3, σ4, σ5, σ6, σ7, σ8, σ9, σ10, σ11, σ12, σ13] H Q := by
  have lps := DpAll.length dps
  rw [List.length_map, posG_len] at lps
  have les := DpAll.length des
  rw [List.length_map, entsG_len] at les
  refine ⟨_, rfl, s0, _, dx, _, _, rfl, hs, GC.cls, GC.np, fp, pA, rfl, ⟨_, SqL.of hp⟩, fun M nM => ?_⟩
  refine lc2_out (walk_list (K := K) (a := pA) (xs := ps)) (fun i H2 => ∃ acc : List V, Same H H2 ∧ H2 M = some (.lst acc) ∧ acc.length = i * (1 + n * m) ∧ DpAll K H2 acc ((((posG n m j).take i).flatMap fun p => (entsG n m).map fun e => p ++ [e]).map tD))
    ⟨[], same_upd nM, upd_same, by simp, .nil⟩ (fun i H2 _ ⟨_, s2, _⟩ => SqL.of (s2 _ _ hp)) ?_ ?_
  · rintro i y H2 H3 hi ⟨acc, s2, hM, lacc, dacc⟩ ⟨rfl, hy⟩
    obtain ⟨dd, hdd, dpy⟩ := DpAll.get' dps hy
    obtain ⟨p0, hp0, rfl⟩ := get_map hdd
    obtain ⟨pl, _⟩ := posG_mem.mp (List.mem_of_getElem? hp0)
    obtain ⟨ta, xs, rfl, hT, hx⟩ := Dp.tup_inv dpy
    have lx := DpAll.length hx
    rw [List.length_map] at lx
    refine ⟨rfl, yes_i (iteT ?_)⟩
    refine ⟨_, rfl, s0, _, dx, _, _, rfl, s2 _ _ hs, GC.cls, GC.ne, fe, eA, rfl, ⟨_, SqL.of (s2 _ _ he)⟩, lc2_in (walk_list (K := K) (a := eA) (xs := es)) (fun b H4 => ∃ acc : List V, Same H H4 ∧ H4 M = some (.lst acc) ∧ acc.length = i * (1 + n * m) + b ∧ DpAll K H4 acc ((((posG n m j).take i).flatMap fun p => (entsG n m).map fun e => p ++ [e]).map tD ++ (((entsG n m).take b).map fun e => p0 ++ [e]).map tD))
      ⟨acc, s2, hM, lacc, by simpa using dacc⟩ (fun b H4 _ ⟨_, s4, _⟩ => SqL.of (s4 _ _ he)) ?_ ?_⟩
    · rintro b z H4 H5 hb ⟨ac2, s4, hM4, lac, dac⟩ ⟨rfl, hz⟩
      obtain ⟨dd, hdd, dpz⟩ := DpAll.get' des hz
      obtain ⟨e0, he0, rfl⟩ := get_map hdd
      have lb : i * (1 + n * m) + b ≤ 1000 := by
        have h1 : (i + 1) * (1 + n * m) ≤ (1 + n * m) ^ (j + 1) := by rw [Nat.pow_succ]; exact Nat.mul_le_mul_right _ (by omega)
        rw [Nat.add_mul, Nat.one_mul] at h1
        omega
      refine ⟨rfl, yes_i (iteT ⟨_, rfl, _, rfl, (by show 1 ≤ sizeLine; decide), fun t nt => ?_⟩)⟩
      have st := same_upd (o := .tup [z]) nt
      refine catA (Same.sqt (s4.trans st) hT) (SqT.of upd_same) (by rw [lx, pl]; show j + 1 ≤ 1000; omega) fun H6 r s6 hr => ?_
      have s46 := st.trans s6
      have hM6 := s46 _ _ hM4
      refine ⟨ac2, hM6, small10000 (by omega), ac2 ++ [.ref r], fun b' o eb => (upd_ne (ne_of_none eb nM)).trans (s46 _ _ (s4 _ _ eb)), upd_same, by rw [List.length_append, lac]; rfl, ?_⟩
      rw [List.take_add_one, he0, List.map_append, List.map_append, ← List.append_assoc]
      refine DpAll.kl (Kl.upd hM6) (DpAll.append (DpAll.same s46 dac) (.cons ?_ .nil)) ?_
      · refine .tup hr ?_
        rw [List.map_append]
        exact DpAll.append (DpAll.same (s4.trans s46) hx) (.cons (Dp.same (s4.trans s46) dpz) .nil)
      · rw [noLs_append, noLs_append, tDs_noL, tDs_noL]; exact tDs_noL [p0 ++ [e0]]
    · rintro H4 ⟨ac2, s4, hM4, lac, dac⟩
      rw [les] at lac
      rw [les, show 1 + n * m = (entsG n m).length from (entsG_len n m).symm, List.take_length] at dac
      refine ⟨ac2, s4, hM4, by rw [lac, Nat.add_mul, Nat.one_mul], ?_⟩
      rw [List.take_add_one, hp0, List.flatMap_append, List.map_append]
      simpa using dac
  · rintro H2 ⟨acc, s2, hM, lacc, dacc⟩
    rw [lps, show (1 + n * m) ^ j = (posG n m j).length from (posG_len n m j).symm, List.take_length] at dacc
    exact q H2 M acc s2 nM hM dacc
end
/-! ### a game is set up -/
section
open NdefX LamX
variable {P : Program} {w : World} {K : PySem.W.Frag} {mg : Str → Option Value} {base : Heap}
def spGame (K : PySem.W.Frag) (P : Program) (w : World) : Sp := fun vs H Q _ => ∃ (s dx : Addr) (u v : V) (n m k : Nat) (I J : List Wrl), vs = [.ref s, u, v, .int ((k + 1 : Nat) : Int)] ∧ H s = some (.ins (He.ga K "Game") dx []) ∧ StR K H u n I ∧ StR K H v m J ∧ CompOk I J ∧ TabsN (nowT K) H ∧ k + 1 ≤ 3 ∧ n ≤ 16 ∧ m ≤ 16 ∧ (1 + n * m) ^ (k + 1) ≤ 1000 ∧
  ∀ (H' : Hp) (c e p l : Addr) (cs es ps : List V) (f : Pn → Option Nat), Kg s H H' → TabsN (nowT K) H' → H' s = some (.ins (He.ga K "Game") dx (gmF u v c e p l)) → H' c = some (.lst cs) → ChL K H' cs (chG n m) → H' e = some (.lst es) → DpAll K H' es ((entsG n m).map eD) →
    H' p = some (.lst ps) → DpAll K H' ps ((posG n m (k + 1)).map tD) → LenD K P w H' l (posG n m (k + 1)) f → IsLen n m k (fun p => ¬ SoundP (heldOf p) I J) f → Q .non H'
def midS1 : Scope := { kind := .function, names := [(".0", .local), ("one", .cell), ("range", .globalImplicit), ("second", .cell)], isGenerator := false, isCoroutine := false }
def midS2 : Scope := { kind := .function, names := [(".0", .local), ("other", .cell), ("range", .globalImplicit), ("first", .cell)], isGenerator := false, isCoroutine := false }
theorem sc_game : FnScope ["self", "first", "second", "pebbles", "chosen", "answered", "_", "is_sound_now", "one", "other", "pairs", "pair", "position", "entry"] ["self", "first", "second", "pebbles"] (defScope (inClass (top 33) 0)) := ⟨rfl, rfl, rfl, by decide +kernel, rfl, by decide +kernel, by decide +kernel⟩
theorem has_game (D : DefM K "Game" "__init__" "Game.__init__" ["self", "first", "second", "pebbles"] (inClass (top 33) 0)) (GC : GmC K) (SC : StC K) (T : Txt mg) (C1 : HasM P w K mg base 2 "Game" "_find_lengths" ["self", "pebbles"] (spFind K P w)) (C3 : Has P w K mg base 2 "told_apart" ["first", "second", "pairs"] (spTold K)) (C4 : Has P w K mg base 1 "sound_test" ["first", "second"] (spSTest K P w)) : HasM P w K mg base 4 "Game" "__init__" ["self", "first", "second", "pebbles"] (spGame K P w) := D.has fun f fd F => by
  obtain ⟨f1, fd1, M__find_lengths, hm__find_lengths, bm__find_lengths⟩ := C1
  obtain ⟨f4, fd4, G_sound_test, g_sound_test, k_sound_test, b_sound_test⟩ := C4
  refine F.ok sc_game (fun vs H Q E h => ?_) (fun cdv A outer s H vs Q E hr h => ?_)
  · obtain ⟨s, dx, u, v, n, m, k, I, J, rfl, _⟩ := h; rfl
  · obtain ⟨s0, dx, u, v, n, m, k, I, J, rfl, hs, hu, hv, ok, hT, k3, n16, m16, big, q⟩ := h
    have RM__find_lengths : Room 2 _ := hr.mono (by decide)
    have R_sound_test : Room 1 _ := hr.mono (by decide)
    have R_is_sound_now : Room 3 _ := hr
    refine ⟨_, PSs.nox (pss_cons (ps_fld (pv 0) (pv 1) rfl) (pss_cons (ps_fld (pv 0) (pv 2) rfl) (pss_cons (ps_setLc (i := 4) (own := [("one", 8)]) rfl sc_game.nd rfl rfl (sw_true rfl rfl rfl (by decide +kernel)) (pi_range1 (by rfl) T.n_range (pa_cons (pe_fld (pv 1) rfl) pa_nil)) (blkOk_by (N := ["self", "first", "second", "pebbles", "chosen", "answered", "_", "is_sound_now", "one", "other", "pairs", "pair", "position", "entry"]) (sc := defScope (inClass (top 33) 0)) (by decide +kernel)) (fun _ _ _ _ _ => (pg_name (i := 8) sc_game.nd rfl (by first | exact Or.inl rfl | exact Or.inr rfl))) (fun _ _ _ _ _ => pts_nil) (fun _ _ _ _ _ => (pe_tup (pa_cons pe_bl (pa_cons (by exact pe_lc (own := [("other", 9)]) rfl sc_game.nd (pi_range1 (by rfl) T.n_range (pa_cons (pe_fldK (K := K) rfl (pv 2) rfl) pa_nil)) (blkOk_by (N := ["self", "first", "second", "pebbles", "chosen", "answered", "_", "is_sound_now", "one", "other", "pairs", "pair", "position", "entry"]) (sc := midS1) (by decide +kernel)) (fun _ _ _ _ _ => (pg_name (i := 9) sc_game.nd rfl (by first | exact Or.inl rfl | exact Or.inr rfl))) (fun _ _ _ _ _ => pts_nil) (fun _ _ _ _ _ => (pe_tup (pa_cons (pv 8) (pa_cons (pv 9) pa_nil)))) (hs := fun _ => rfl)) pa_nil))))) (pss_cons (ps_setLc (i := 5) (own := [("other", 9)]) rfl sc_game.nd rfl rfl (sw_true rfl rfl rfl (by decide +kernel)) (pi_range1 (by rfl) T.n_range (pa_cons (pe_fld (pv 2) rfl) pa_nil)) (blkOk_by (N := ["self", "first", "second", "pebbles", "chosen", "answered", "_", "is_sound_now", "one", "other", "pairs", "pair", "position", "entry"]) (sc := defScope (inClass (top 33) 0)) (by decide +kernel)) (fun _ _ _ _ _ => (pg_name (i := 9) sc_game.nd rfl (by first | exact Or.inl rfl | exact Or.inr rfl))) (fun _ _ _ _ _ => pts_nil) (fun _ _ _ _ _ => (pe_tup (pa_cons pe_bl (pa_cons (by exact pe_lc (own := [("one", 8)]) rfl sc_game.nd (pi_range1 (by rfl) T.n_range (pa_cons (pe_fldK (K := K) rfl (pv 1) rfl) pa_nil)) (blkOk_by (N := ["self", "first", "second", "pebbles", "chosen", "answered", "_", "is_sound_now", "one", "other", "pairs", "pair", "position", "entry"]) (sc := midS2) (by decide +kernel)) (fun _ _ _ _ _ => (pg_name (i := 8) sc_game.nd rfl (by first | exact Or.inl rfl | exact Or.inr rfl))) (fun _ _ _ _ _ => pts_nil) (fun _ _ _ _ _ => (pe_tup (pa_cons (pv 8) (pa_cons (pv 9) pa_nil)))) (hs := fun _ => rfl)) pa_nil))))) (pss_cons (ps_fld (pv 0) (pe_op op_cat (pv 4) (pv 5)) rfl) (pss_cons (ps_fld (pv 0) (pe_op op_cat (pe_lst (pa_cons pe_non pa_nil)) (pe_lc2 (own := [("_", 6), ("pairs", 10), ("pair", 11)]) (vs1 := [11]) rfl sc_game.nd (pi_list (pv 4)) (blkOk_by (N := ["self", "first", "second", "pebbles", "chosen", "answered", "_", "is_sound_now", "one", "other", "pairs", "pair", "position", "entry"]) (sc := defScope (inClass (top 33) 0)) (by decide +kernel)) (by decide) (fun _ _ _ _ _ => (pg_names2 (K := K) rfl rfl sc_game.nd (i := 6) rfl (Or.inl rfl) (j := 10) rfl (Or.inl rfl))) (fun _ _ _ _ _ => pts_nil) (fun _ _ _ _ _ => (pi_listK (K := K) rfl (pv 10))) (fun _ _ _ _ _ => (pg_name (i := 11) sc_game.nd rfl (Or.inl rfl))) (fun _ _ _ _ _ => pts_nil) (fun _ _ _ _ _ => (pv 11)))) rfl) (pss_cons (ps_fld (pv 0) (pe_lst (pa_cons (pe_tup pa_nil) pa_nil)) rfl) (pss_cons (ps_for PassesOwn.never rfl (pi_range1 (by rfl) T.n_range (pa_cons (pv 3) pa_nil)) (pg_name (i := 6) sc_game.nd rfl (Or.inl rfl)) (pss_one (ps_fld (pv 0) (pe_lc2 (own := [("position", 12), ("entry", 13)]) (vs1 := [13]) rfl sc_game.nd (pi_list (pe_fld (pv 0) rfl)) (blkOk_by (N := ["self", "first", "second", "pebbles", "chosen", "answered", "_", "is_sound_now", "one", "other", "pairs", "pair", "position", "entry"]) (sc := defScope (inClass (top 33) 0)) (by decide +kernel)) (by decide) (fun _ _ _ _ _ => (pg_name (i := 12) sc_game.nd rfl (Or.inl rfl))) (fun _ _ _ _ _ => pts_nil) (fun _ _ _ _ _ => (pi_listK (K := K) rfl (pe_fldK (K := K) rfl (pv 0) rfl))) (fun _ _ _ _ _ => (pg_name (i := 13) sc_game.nd rfl (Or.inl rfl))) (fun _ _ _ _ _ => pts_nil) (fun _ _ _ _ _ => (pe_op (op_catAK (K := K) rfl) (pv 12) (pe_tup (pa_cons (pv 13) pa_nil))))) rfl))) (pss_cons (ps_set (i := 7) sc_game.nd rfl (Or.inr rfl) (pe_call G_sound_test R_sound_test (by rfl) g_sound_test k_sound_test b_sound_test .nil pass0 (pa_cons (pv 1) (pa_cons (pv 2) pa_nil)))) (pss_cons (ps_fld (pv 0) (pe_dcN (hu9 hr) rfl sc_game.nd (pi_list (pe_fld (pv 0) rfl)) (own := [("position", 12)]) (blkOk_by (N := ["self", "first", "second", "pebbles", "chosen", "answered", "_", "is_sound_now", "one", "other", "pairs", "pair", "position", "entry"]) (sc := defScope (inClass (top 33) 0)) (by decide +kernel)) (fun _ _ _ _ _ => (pg_name (i := 12) sc_game.nd rfl (Or.inl rfl))) (fun _ _ _ _ _ => (pts_one (pt_not (pt_val (pe_callRK (P := P) (w := w) (K := K) (mg := mg) (base := base) (i := 7) rfl rfl rfl rfl rfl R_is_sound_now rfl (by first | exact Or.inl rfl | exact Or.inr (Or.inl rfl) | exact Or.inr (Or.inr rfl)) (pa_cons (pv 12) pa_nil)))))) (fun _ _ _ _ _ => (pv 12)) (fun _ _ _ _ _ => pe_int)) rfl) (pss_one (ps_expr (pe_meth (pv 0) GC.cls hm__find_lengths M__find_lengths RM__find_lengths bm__find_lengths .nil pass0 (pa_cons (pv 3) pa_nil)))))))))))))), ?_⟩
    refine ⟨_, rfl, _, rfl, s0, _, dx, _, rfl, hs, GC.cls, GC.nf, (by show 0 < 1000; decide), ?_⟩
    refine ⟨_, rfl, _, rfl, s0, _, dx, _, rfl, upd_same, GC.cls, GC.ns, (by show 1 < 1000; decide), ?_⟩
    have k2 : Kii s0 H (upd (upd H s0 (.ins (He.ga K "Game") dx (putF "first" u []))) s0 (.ins (He.ga K "Game") dx (putF "second" v (putF "first" u [])))) := fun b o e nb => (upd_ne nb).trans ((upd_ne nb).trans e)
    generalize hH2 : upd (upd H s0 (.ins (He.ga K "Game") dx (putF "first" u []))) s0 (.ins (He.ga K "Game") dx (putF "second" v (putF "first" u []))) = H2 at k2 ⊢
    have h2s : H2 s0 = some (.ins (He.ga K "Game") dx [("first", u), ("second", v)]) := by rw [← hH2, upd_same]; rfl
    clear hH2
    have hu2 := hu.kii hs k2
    have hv2 := hv.kii hs k2
    dsimp only
    refine sq_i (as_i ?_)
    refine lc_chosen (K := K) (n := n) (m := m) n16 m16 (fun Q q => fld_size SC rfl hu2 q) (fun H1 z8 z9 Q s1 q => fld_size SC rfl (hv2.same s1) q) fun H3 cA ca s3 nA hA lA => ?_
    refine gN_i ?_
    dsimp only
    refine sq_i (as_i ?_)
    refine lc_answered (K := K) (n := m) (m := n) m16 n16 (fun Q q => fld_size SC rfl (hv2.same s3) q) (fun H1 z8 z9 Q s1 q => fld_size SC rfl (hu2.same (s3.trans s1)) q) fun H4 aA aa s4 nB hB lB => ?_
    refine gN_i ?_
    dsimp only
    have s24 := s3.trans s4
    have lca := lA.1
    have laa := lB.1
    rw [List.length_map, List.length_range] at lca laa
    refine ⟨_, rfl, _, rfl, cA, aA, ca, aa, rfl, rfl, s4 _ _ hA, hB, Nat.le_trans (show ca.length + aa.length ≤ 1000 by omega) (by decide), fun cc ncc => ?_⟩
    refine ⟨_, rfl, s0, _, dx, _, rfl, (same_upd ncc _ _ (s24 _ _ h2s)), GC.cls, GC.nc, (by show 2 < 1000; decide), ?_⟩
    have k5 : Kii s0 H4 (upd (upd H4 cc (.lst (ca ++ aa))) s0 (.ins (He.ga K "Game") dx (putF "choices" (.ref cc) [("first", u), ("second", v)]))) := fun b o e nb => (upd_ne nb).trans (same_upd ncc _ _ e)
    have h4s := s24 _ _ h2s
    have nc0 : cc ≠ s0 := fun z => by rw [z, h4s] at ncc; cases ncc
    have hcc : (upd (upd H4 cc (.lst (ca ++ aa))) s0 (.ins (He.ga K "Game") dx (putF "choices" (.ref cc) [("first", u), ("second", v)]))) cc = some (.lst (ca ++ aa)) := (upd_ne nc0).trans upd_same
    generalize hH5 : upd (upd H4 cc (.lst (ca ++ aa))) s0 (.ins (He.ga K "Game") dx (putF "choices" (.ref cc) [("first", u), ("second", v)])) = H5 at k5 hcc ⊢
    have h5s : H5 s0 = some (.ins (He.ga K "Game") dx [("first", u), ("second", v), ("choices", .ref cc)]) := by rw [← hH5, upd_same]; rfl
    clear hH5
    have x45 : Kx H4 H5 := Kx.kii h4s k5
    have lC : ChL K H5 (ca ++ aa) (chG n m) := (ChL.append (ChL.kx (Kx.of s4) lA) lB).kx x45
    have lA5 := (ChL.kx (Kx.of s4) lA).kx x45
    have hA5 := x45.lst (s4 _ _ hA)
    have k05 : Kii s0 H H5 := fun b o e nb => k5 _ _ (s24 _ _ (k2 _ _ e nb)) nb
    clear x45 k5 lA lB hA hB nc0 ncc h4s
    dsimp only
    -- entries
    refine ⟨(show 1 ≤ sizeLine by decide), fun p1 np1 => ?_⟩
    have sp1 := same_upd (o := .lst [V.non]) np1
    have hp1 := upd_same (H := H5) (a := p1) (o := .lst [V.non])
    generalize upd H5 p1 (.lst [V.non]) = H6 at sp1 hp1 ⊢
    refine lc_entries (K := K) n16 m16 (sp1 _ _ hA5) (lA5.kc (Kc.of sp1)) rfl fun H7 eP eps s7 nE hE dE => ?_
    have leps := DpAll.length dE
    rw [List.length_map, flat_len _ m _ (fun x _ => by rw [List.length_map, List.length_range]), List.length_range] at leps
    have nm256 : n * m ≤ 16 * 16 := Nat.mul_le_mul n16 m16
    refine ⟨p1, eP, _, eps, rfl, rfl, s7 _ _ hp1, hE, Nat.le_trans (show 1 + eps.length ≤ 1000 by omega) (by decide), fun ee nee => ?_⟩
    have s57 := sp1.trans s7
    refine ⟨_, rfl, s0, _, dx, _, rfl, (same_upd nee _ _ (s57 _ _ h5s)), GC.cls, GC.ne, (by show 3 < 1000; decide), ?_⟩
    have h7s := s57 _ _ h5s
    have k8 : Kii s0 H7 (upd (upd H7 ee (.lst ([V.non] ++ eps))) s0 (.ins (He.ga K "Game") dx (putF "entries" (.ref ee) [("first", u), ("second", v), ("choices", .ref cc)]))) := fun b o e nb => (upd_ne nb).trans (same_upd nee _ _ e)
    have ne0 : ee ≠ s0 := fun z => by rw [z, h7s] at nee; cases nee
    have hee : (upd (upd H7 ee (.lst ([V.non] ++ eps))) s0 (.ins (He.ga K "Game") dx (putF "entries" (.ref ee) [("first", u), ("second", v), ("choices", .ref cc)]))) ee = some (.lst ([V.non] ++ eps)) := (upd_ne ne0).trans upd_same
    generalize hH8 : upd (upd H7 ee (.lst ([V.non] ++ eps))) s0 (.ins (He.ga K "Game") dx (putF "entries" (.ref ee) [("first", u), ("second", v), ("choices", .ref cc)])) = H8 at k8 hee ⊢
    have h8s : H8 s0 = some (.ins (He.ga K "Game") dx [("first", u), ("second", v), ("choices", .ref cc), ("entries", .ref ee)]) := by rw [← hH8, upd_same]; rfl
    clear hH8
    have x78 : Kx H7 H8 := Kx.kii h7s k8
    have dE8 : DpAll K H8 ([V.non] ++ eps) ((entsG n m).map eD) := by
      refine .cons .non ?_
      have e : ((List.range n).flatMap fun a => (List.range m).map fun b => some (a, b)).map eD = ((List.range n).flatMap fun a => (List.range m).map fun b => (a, b)).map pD := by
        simp [List.map_flatMap]
        rfl
      rw [e]
      exact x78.dps dE
    have x58 : Kx H5 H8 := (Kx.of s57).trans x78
    have lC8 := lC.kx x58
    have hcc8 := x58.lst hcc
    have k08 : Kii s0 H H8 := fun b o e nb => k8 _ _ (s57 _ _ (k05 _ _ e nb)) nb
    clear x58 x78 dE hE nE lC hcc lA5 hA5 k8 ne0 nee h7s
    dsimp only
    refine ⟨(show 0 ≤ sizeLine by decide), fun p2 np2 => ⟨(show 1 ≤ sizeLine by decide), fun p3 np3 => ?_⟩⟩
    refine ⟨_, rfl, s0, _, dx, _, rfl, (same_upd np3 _ _ (same_upd np2 _ _ h8s)), GC.cls, GC.np, (by show 4 < 1000; decide), ?_⟩
    have k9 : Kii s0 H8 (upd (upd (upd H8 p2 (.tup [])) p3 (.lst [.ref p2])) s0 (.ins (He.ga K "Game") dx (putF "positions" (.ref p3) [("first", u), ("second", v), ("choices", .ref cc), ("entries", .ref ee)]))) := fun b o e nb => (upd_ne nb).trans (same_upd np3 _ _ (same_upd np2 _ _ e))
    have n20 : p2 ≠ s0 := fun z => by rw [z, h8s] at np2; cases np2
    have n30 : p3 ≠ s0 := fun z => by rw [z, same_upd np2 _ _ h8s] at np3; cases np3
    have h2p : (upd (upd (upd H8 p2 (.tup [])) p3 (.lst [.ref p2])) s0 (.ins (He.ga K "Game") dx (putF "positions" (.ref p3) [("first", u), ("second", v), ("choices", .ref cc), ("entries", .ref ee)]))) p2 = some (.tup []) := (upd_ne n20).trans (same_upd np3 _ _ upd_same)
    have h3p : (upd (upd (upd H8 p2 (.tup [])) p3 (.lst [.ref p2])) s0 (.ins (He.ga K "Game") dx (putF "positions" (.ref p3) [("first", u), ("second", v), ("choices", .ref cc), ("entries", .ref ee)]))) p3 = some (.lst [.ref p2]) := (upd_ne n30).trans upd_same
    generalize hH9 : upd (upd (upd H8 p2 (.tup [])) p3 (.lst [.ref p2])) s0 (.ins (He.ga K "Game") dx (putF "positions" (.ref p3) [("first", u), ("second", v), ("choices", .ref cc), ("entries", .ref ee)])) = H9 at k9 h2p h3p ⊢
    have h9s : H9 s0 = some (.ins (He.ga K "Game") dx [("first", u), ("second", v), ("choices", .ref cc), ("entries", .ref ee), ("positions", .ref p3)]) := by rw [← hH9, upd_same]; rfl
    clear hH9
    have x89 : Kx H8 H9 := Kx.kii h8s k9
    have k09 : Kii s0 H H9 := fun b o e nb => k9 _ _ (k08 _ _ e nb) nb
    have hcc9 := x89.lst hcc8
    have lC9 := lC8.kx x89
    have hee9 := x89.lst hee
    have dE9 := x89.dps dE8
    generalize [V.non] ++ eps = es at *
    generalize ca ++ aa = cs at *
    dsimp only
    refine sq_i ?_
    refine ⟨_, rfl, k + 1, rfl, by omega, by omega, for_it walk_range (fun j σ G => ∃ (y6 : Option V) (pA : Addr) (ps : List V), σ = [some (.ref s0), some u, some v, some (.int ((k + 1 : Nat) : Int)), some (.ref cA), some (.ref aA), y6, none, none, none, none, none, none, none] ∧ Kii s0 H9 G ∧ G s0 = some (.ins (He.ga K "Game") dx [("first", u), ("second", v), ("choices", .ref cc), ("entries", .ref ee), ("positions", .ref pA)]) ∧ G pA = some (.lst ps) ∧ DpAll K G ps ((posG n m j).map tD))
      ⟨none, p3, [.ref p2], rfl, fun _ _ e _ => e, h9s, h3p, .cons (.tup (SqT.of h2p) .nil) .nil⟩ (fun _ _ _ _ _ => trivial) ?_ ?_⟩
    · rintro j y σ Gx G hj ⟨y6, pA, ps, rfl, kG, hGs, hGp, dG⟩ ⟨rfl, rfl⟩
      refine gN_i ?_
      dsimp only
      have xG : Kx H9 G := Kx.kii h9s kG
      refine lc_longer GC (j := j) (Nat.le_trans (Nat.pow_le_pow_right (by omega) (by omega)) big) (by omega) hGs rfl rfl hGp dG (xG.lst hee9) (xG.dps dE9) fun G2 M acc s2 nM hM dM => ⟨_, rfl, s0, _, dx, _, rfl, s2 _ _ hGs, GC.cls, GC.np, (by show 5 < 1000; decide), ?_⟩
      have kM : Kii s0 G2 (upd G2 s0 (.ins (He.ga K "Game") dx (putF "positions" (.ref M) [("first", u), ("second", v), ("choices", .ref cc), ("entries", .ref ee), ("positions", .ref pA)]))) := fun b o e nb => (upd_ne nb).trans e
      have nM0 : M ≠ s0 := fun z => by rw [z, hGs] at nM; cases nM
      exact ⟨_, M, acc, rfl, fun b o e nb => kM _ _ (s2 _ _ (kG _ _ e nb)) nb, upd_same, (upd_ne nM0).trans hM, (Kx.kii (s2 _ _ hGs) kM).dps dM⟩
    · rintro σ G ⟨y6, pA, ps, rfl, kG, hGs, hGp, dG⟩
      have dG : DpAll K G ps ((posG n m (k + 1)).map tD) := dG
      dsimp only
      have xG : Kx H9 G := Kx.kii h9s kG
      have k0G : Kii s0 H G := fun b o e nb => kG _ _ (k09 _ _ e nb) nb
      have huG := hu.kii hs k0G
      have hvG := hv.kii hs k0G
      have hTG := TabsN.kii hT hs k0G
      have hccG := xG.lst hcc9
      have lCG := lC9.kx xG
      have heeG := xG.lst hee9
      have dEG := xG.dps dE9
      clear xG kG dE9 hee9 lC9 hcc9 k09 x89 h9s h3p h2p k9 k08 k05
      refine sq_i (as_i ?_)
      refine ⟨_, rfl, _, rfl, u, v, rfl, hTG, fun G1 f0 d c' cl xN T1 nd clo ndc nfd dn => ?_⟩
      refine gN_i ?_
      dsimp only
      have kc1 : Kc G G1 := Kc.tn xN
      have hu1 := huG.kc kc1
      have hv1 := hvG.kc kc1
      have h1s := kc1.ins hGs
      have h1p := kc1.lst hGp
      have d1 := kc1.dps dG
      have lps := DpAll.length d1
      rw [List.length_map, posG_len] at lps
      refine ⟨_, rfl, s0, _, dx, _, _, rfl, h1s, GC.cls, GC.np, rfl, pA, rfl, ⟨_, SqL.of h1p⟩, fun D nD => ?_⟩
      have nDd : d ≠ D := fun z => by rw [← z, dn.at_] at nD; cases nD
      have ncd : c' ≠ d := fun z => by
        have h1 : G1 c' = some (CodeO c' _) := clo.code
        rw [z, dn.at_] at h1
        exact codeO_dn (Option.some.inj h1).symm
      have np1' : pA ≠ d := fun z => by rw [z, dn.at_] at h1p; unfold DnO at h1p; cases h1p
      refine dcn_it (K := K) (P := P) (w := w) (walk_list (K := K) (a := pA) (xs := ps)) (fun i G2 => ∃ (kvs : List NEn) (g : Pn → Option Nat), Kii d G1 G2 ∧ DnAt K P w G2 d kvs ∧ kvs.length ≤ i ∧ KnOk kvs I J ∧ LenD K P w G2 D (posG n m (k + 1)) g ∧ ∀ p, p ∈ posG n m (k + 1) → ((p ∈ (posG n m (k + 1)).take i ∧ ¬ SoundP (heldOf p) I J) → g p = some 0) ∧ (¬ (p ∈ (posG n m (k + 1)).take i ∧ ¬ SoundP (heldOf p) I J) → g p = none))
        ⟨[], fun _ => none, fun b o e nb => same_upd nD _ _ e, dn.same (same_upd nD), Nat.le_refl _, (fun ps v e => nomatch e), ⟨[], ⟨upd_same, (fun e he => nomatch he)⟩, List.nodup_nil, (fun e he => nomatch he), fun p hp => rfl⟩, fun p hp => ⟨(fun h => nomatch h.1), fun _ => rfl⟩⟩ (fun i G2 _ ⟨_, _, k2, _⟩ => SqL.of (k2 _ _ h1p np1')) ?_ ?_
      · rintro i z G2 G3 hi ⟨kvs, g, k2, dn2, lk, kn, hl, al⟩ ⟨rfl, hz⟩
        obtain ⟨dd, hdd, dpz⟩ := DpAll.get' d1 hz
        obtain ⟨p0, hp0, rfl⟩ := get_map hdd
        obtain ⟨pl, pe⟩ := posG_mem.mp (List.mem_of_getElem? hp0)
        have bd : ∀ q, some q ∈ p0 → q.1 < n ∧ q.2 < m := fun q hq => entsG_mem.mp (pe _ hq) q rfl
        have kc2 : Kc G1 G3 := kii_kc k2 dn.at_
        have clo2 := clo.kii k2 nfd ncd ndc
        have kcH : Kc G1 (hideC ((nowF cl c').cl.map (·.2)) G3) := kc2.trans (Kc.hide clo2.cls.all)
        refine ⟨rfl, f0, nowF cl c', rfl, clo2.fn, _, rfl, clo2.fn, ?_⟩
        refine runs_ofN (rn_def (ok_now T C3 f0 c' cl)) clo2 ⟨d, u, v, _, n, m, I, J, p0, kvs, rfl, rfl, ⟨(hide_ne ndc).trans dn2.at_, fun e he => ⟨?_, (dn2.keys e he).2⟩⟩, by omega, kn, hu1.kc kcH, hv1.kc kcH, kcH.dp dpz, by omega, fun q hq => ?_, ok, fun G4 b qs kvs' k4 dn4 lk4 kn4 mem eb fr => ?_⟩
        · exact NkV.kc (Kc.hide clo2.cls.all) (dn2.keys e he).1
        · have := bd q hq
          omega
        · have kb := Kii.back k4
          have dnb := dn4.back (H := G3) fr ndc
          generalize backC ((nowF cl c').cl.map (·.2)) G3 G4 = Gn at kb dnb ⊢
          have k1n : Kii d G1 Gn := fun b o e nb => kb _ _ (k2 _ _ e nb) nb
          have hln := hl.kii dn2.at_ kb nDd.symm
          have hpm := List.mem_of_getElem? hp0
          have sQ : b = true ↔ SoundP (heldOf p0) I J := eb.trans (sound_mem fun q => (mem q).trans (held_mem q).symm)
          obtain ⟨kvD, dnD, ndD, subD, valD⟩ := id hln
          have inT : ∀ p, p ∈ (posG n m (k + 1)).take (i + 1) ↔ p ∈ (posG n m (k + 1)).take i ∨ p = p0 := fun p => by
            rw [List.take_add_one, hp0, List.mem_append]
            exact or_congr Iff.rfl List.mem_singleton
          refine ⟨_, rfl, ?_⟩
          cases b with
          | true =>
            refine iteF ⟨kvs', g, k1n, dnb, by omega, kn4, hln, fun p hp => ⟨fun h => (al p hp).1 ⟨((inT p).mp h.1).elim id fun e => ?_, h.2⟩, fun h => (al p hp).2 fun z => h ⟨(inT p).mpr (.inl z.1), z.2⟩⟩⟩
            exact absurd (e ▸ sQ.mp rfl) h.2
          | false =>
            obtain ⟨ta, ea, nk⟩ := nk_pos (((kii_kc k1n dn.at_).dp dpz))
            subst ea
            have lD := kvs_fit ndD subD
            rw [posG_len] at lD
            refine iteT ⟨_, rfl, kvD, kP p0, ta, rfl, dnD, nk, kP_depth p0, small10000 (by omega), kvs', fun q => if q = p0 then some 0 else g q, fun b o e nb => (upd_ne fun z => by rw [z, nD] at e; cases e).trans (k1n _ _ e nb), dnb.other dnD.at_ nDd, by omega, kn4, LenD.put (r := 0) dnD ndD subD valD hpm nk, fun p hp => ?_⟩
            have nsQ : ¬ SoundP (heldOf p0) I J := fun z => nomatch sQ.mpr z
            by_cases e : p = p0
            · subst e
              exact ⟨fun _ => if_pos rfl, fun h => absurd ⟨(inT p).mpr (.inr rfl), nsQ⟩ h⟩
            · have e1 : (if p = p0 then some 0 else g p) = g p := if_neg e
              refine ⟨fun h => e1.trans ((al p hp).1 ⟨((inT p).mp h.1).elim id fun z => absurd z e, h.2⟩), fun h => e1.trans ((al p hp).2 fun z => h ⟨(inT p).mpr (.inl z.1), z.2⟩)⟩
      · rintro G2 ⟨kvs, g, k2, dn2, lk, kn, hl, al⟩
        have s0d : s0 ≠ d := fun z => by rw [z, dn.at_] at h1s; unfold DnO at h1s; cases h1s
        have h2s := k2 _ _ h1s s0d
        rw [lps] at al
        rw [show (1 + n * m) ^ (k + 1) = (posG n m (k + 1)).length from (posG_len n m (k + 1)).symm, List.take_length] at al
        refine ⟨_, rfl, s0, _, dx, _, rfl, h2s, GC.cls, GC.nl, (by show 5 < 1000; decide), ?_⟩
        have k3' : Kii s0 G2 (upd G2 s0 (.ins (He.ga K "Game") dx (putF "lengths" (.ref D) [("first", u), ("second", v), ("choices", .ref cc), ("entries", .ref ee), ("positions", .ref pA)]))) := fun b o e nb => (upd_ne nb).trans e
        generalize hG3 : upd G2 s0 (.ins (He.ga K "Game") dx (putF "lengths" (.ref D) [("first", u), ("second", v), ("choices", .ref cc), ("entries", .ref ee), ("positions", .ref pA)])) = G3 at k3' ⊢
        have h3s : G3 s0 = some (.ins (He.ga K "Game") dx (gmF u v cc ee pA D)) := by rw [← hG3, upd_same]; rfl
        clear hG3
        have x23 : Kx G2 G3 := Kx.kii h2s k3'
        have x13 : Kx G1 G3 := (Kx.kc (kii_kc k2 dn.at_)).trans x23
        have xG3 : Kx G G3 := (Kx.kc kc1).trans x13
        obtain ⟨kvD, dnD, _⟩ := id hl
        have sD : D ≠ s0 := fun z => by rw [z, h1s] at nD; cases nD
        have hl3 : LenD K P w G3 D (posG n m (k + 1)) g := by
          obtain ⟨kvD, h1, h2⟩ := hl
          exact ⟨kvD, h1.keep ((k3' _ _ h1.at_ sD).trans h1.at_.symm) fun a xs e => x23.sqT e, h2⟩
        have T3 : TabsN (nowT K) G3 := TabsN.kii (TabsN.kiid T1 dn.at_ k2) h2s k3'
        have up0 : Upto n m k (fun p => ¬ SoundP (heldOf p) I J) 0 g := upto_zero fun p hp => ⟨fun h => (al p hp).1 ⟨hp, h⟩, fun h => (al p hp).2 fun z => h z.2⟩
        have hc3 := xG3.lst hccG
        have lC3 := lCG.kx xG3
        have he3 := xG3.lst heeG
        have dE3 := xG3.dps dEG
        have hp3 := x13.lst h1p
        have dP3 := x13.dps d1
        refine ⟨_, rfl, s0, dx, _, rfl, h3s, rfl, _, rfl, s0, dx, u, v, cc, ee, pA, D, cs, es, ps, n, m, k, (fun p => ¬ SoundP (heldOf p) I J), g, rfl, h3s, hc3, lC3, he3, dE3, hp3, dP3, hl3, up0, k3, n16, m16, big, fun H' fl k4 hl4 il => ?_⟩
        obtain ⟨kv3, dn3, _⟩ := id hl3
        have kc4 : Kc G3 H' := kii_kc k4 dn3.at_
        refine q H' cc ee pA D cs es ps fl (fun b o e nb nt => ?_) (TabsN.kiid T3 dn3.at_ k4) (kc4.ins h3s) (kc4.lst hc3) (lC3.kc kc4) (kc4.lst he3) (kc4.dps dE3) (kc4.lst hp3) (kc4.dps dP3) hl4 il
        have e1 := k0G _ _ e nb
        have e2 := xN _ _ e1 nt
        have nbd : b ≠ d := fun z => by rw [z, nd] at e1; cases e1
        have nbD : b ≠ D := fun z => by rw [z, nD] at e2; cases e2
        exact k4 _ _ (k3' _ _ (k2 _ _ e2 nbd) nb) nbD
end
/-! ### lengths of positions -/
section
open NdefX LamX
variable {P : Program} {w : World} {K : PySem.W.Frag} {mg : Str → Option Value} {base : Heap}
theorem mk_initG {P : Program} {w : World} {K : PySem.W.Frag} {mg : Str → Option Value} {base : Heap} {g : Addr} {ps : List Str} {sp : Sp} {k : Nat} (M : Mk K (He.ga K "Game") g) (h : HasM P w K mg base k "Game" "__init__" ps sp) : ∃ f fd, Mk K (He.ga K "Game") f ∧ FnOk P w K mg base CX0 k f fd ps sp ∧ Binds K fd ps [] := by
  obtain ⟨f, fd, F, m, b⟩ := h
  have e := m.at_.symm.trans M.init
  injection e with e
  injection e with e
  injection e with e
  subst e
  exact ⟨f, fd, M, F, b⟩
def spCount (K : PySem.W.Frag) : Sp := fun vs H Q _ => ∃ (u v : V) (n m k : Nat) (I J : List Wrl), vs = [u, v, .int (k : Nat)] ∧ StR K H u n I ∧ StR K H v m J ∧ n ≤ 16 ∧ m ≤ 16 ∧ k ≤ 3 ∧ (1 + n * m) ^ k ≤ 4000 ∧ Q .non H
theorem sc_count : FnScope ["first", "second", "k"] ["first", "second", "k"] (defScope (top 37)) := ⟨rfl, rfl, rfl, by decide +kernel, rfl, by decide +kernel, by decide +kernel⟩
theorem has_count (D : Def K mg "_check_count" ["first", "second", "k"] (top 37)) (T : Txt mg) (SC : StC K) (k1 : ∃ t, mg "MOST_POSITIONS" = some (.int 4000 t)) (C1 : Has P w K mg base 1 "power" ["base", "exponent"] spPower) : Has P w K mg base 2 "_check_count" ["first", "second", "k"] (spCount K) := D.has fun f fd F => by
  obtain ⟨f1, fd1, G_power, g_power, k_power, b_power⟩ := C1
  obtain ⟨t1, c_MOST_POSITIONS⟩ := k1
  refine F.ok sc_count (fun vs H Q E h => ?_) (fun cdv A outer s H vs Q E hr h => ?_)
  · obtain ⟨u, v, n, m, k, I, J, rfl, _⟩ := h; rfl
  · obtain ⟨u, v, n, m, k, I, J, rfl, hu, hv, n16, m16, k3, big, q⟩ := h
    have R_power : Room 1 _ := hr
    refine ⟨_, PSs.nox (pss_one (ps_if (pt_cmpR op_gt (pe_call G_power R_power (by rfl) g_power k_power b_power .nil pass0 (pa_cons (pe_op op_add pe_int (pe_op op_mul (pe_fld (pv 0) rfl) (pe_fld (pv 1) rfl))) (pa_cons (pv 2) pa_nil))) (pe_glob (v := .int 4000) (by rfl) c_MOST_POSITIONS ⟨_, rfl⟩) (nomark _)) pss_never pss_nil)), ?_⟩
    have nm : n * m ≤ 16 * 16 := Nat.mul_le_mul n16 m16
    obtain ⟨a, da, pa, ya, rfl, ha, _⟩ := hu
    obtain ⟨b, db, pb, yb, rfl, hb, _⟩ := hv
    refine ⟨_, rfl, a, _, da, _, _, rfl, ha, SC.cls, SC.ns, rfl, _, rfl, b, _, db, _, _, rfl, hb, SC.cls, SC.ns, rfl, n, m, rfl, rfl,  .inl ⟨by omega, by omega⟩, 1, n * m, rfl, rfl, _, rfl, 1 + n * m, k, ?_, by omega, Nat.lt_of_le_of_lt big (by decide), by omega, _, _, rfl, rfl, _, rfl, ?_⟩
    · rfl
    · exact cF (k := decide ((4000 : Int) < ((1 + n * m) ^ k : Nat))) (decide_eq_false (by omega)) q
def spLength (K : PySem.W.Frag) : Sp := fun vs H Q _ => ∃ (u v x : V) (n m k : Nat) (I J : List Wrl) (p : Pn), vs = [u, v, x] ∧ StR K H u n I ∧ StR K H v m J ∧ SgOk (I.map (·.1)) ∧ SgOk (J.map (·.1)) ∧ (∀ p, p ∈ I.map (·.1) ↔ p ∈ J.map (·.1)) ∧ Dp K H x (tD p) ∧ p ∈ posG n m (k + 1) ∧ CompOk I J ∧ TabsN (nowT K) H ∧ k + 1 ≤ 3 ∧ n ≤ 16 ∧ m ≤ 16 ∧ (1 + n * m) ^ (k + 1) ≤ 1000 ∧
  ∀ (H' : Hp) (f : Pn → Option Nat), ExtN H H' → TabsN (nowT K) H' → IsLen n m k (fun p => ¬ SoundP (heldOf p) I J) f → Q (((f p).map fun r => V.int (r : Nat)).getD .non) H'
theorem ent_ok {n m : Nat} {e : Option (Nat × Nat)} (h : e ∈ entsG n m) : entD n m (eD e) = true := by
  cases e with
  | none => rfl
  | some p =>
    obtain ⟨h1, h2⟩ := entsG_mem.mp h p rfl
    show (btwD (.int (p.1 : Nat)) 0 ((n : Nat) - 1) && btwD (.int (p.2 : Nat)) 0 ((m : Nat) - 1)) = true
    have e1 : btwD (.int (p.1 : Nat)) 0 ((n : Nat) - 1) = true := by
      show (decide ((0 : Int) ≤ (p.1 : Nat)) && decide (((p.1 : Nat) : Int) ≤ (n : Nat) - 1)) = true
      rw [decide_eq_true (by omega), decide_eq_true (by omega)]; rfl
    have e2 : btwD (.int (p.2 : Nat)) 0 ((m : Nat) - 1) = true := by
      show (decide ((0 : Int) ≤ (p.2 : Nat)) && decide (((p.2 : Nat) : Int) ≤ (m : Nat) - 1)) = true
      rw [decide_eq_true (by omega), decide_eq_true (by omega)]; rfl
    rw [e1, e2]; rfl
theorem pos_okG {n m k : Nat} {p : Pn} (h : p ∈ posG n m (k + 1)) (k3 : k + 1 ≤ 3) : posD n m (tD p) = true := by
  obtain ⟨h1, h2⟩ := posG_mem.mp h
  show (decide (1 ≤ (p.map eD).length) && decide ((p.map eD).length ≤ 3) && (p.map eD).all (entD n m)) = true
  rw [List.length_map, h1, decide_eq_true (by omega), decide_eq_true k3, List.all_map]
  show List.all p _ = true
  rw [List.all_eq_true]
  exact fun e he => ent_ok (h2 e he)
theorem sc_length : FnScope ["first", "second", "position"] ["first", "second", "position"] (defScope (top 38)) := ⟨rfl, rfl, rfl, by decide +kernel, rfl, by decide +kernel, by decide +kernel⟩
theorem has_length (D : Def K mg "length" ["first", "second", "position"] (top 38)) (T : Txt mg) (GC : GmC K) (C1 : HasX (L2N.CX P w) P w K mg base 2 "_check_comparable" ["first", "second"] (spComp K)) (C2 : Has P w K mg base 4 "is_position" ["first", "second", "value"] (spPos K)) (C3 : Has P w K mg base 2 "_check_count" ["first", "second", "k"] (spCount K)) (gC_Game : mg "Game" = some (.ref (He.ga K "Game"))) (I : ∃ f fd, Mk K (He.ga K "Game") f ∧ FnOk P w K mg base CX0 4 f fd ["self", "first", "second", "pebbles"] (spGame K P w) ∧ Binds K fd ["self", "first", "second", "pebbles"] []) : Has P w K mg base 6 "length" ["first", "second", "position"] (spLength K) := D.has fun f fd F => by
  obtain ⟨f1, fd1, G_check_comparable, g_check_comparable, k_check_comparable, b_check_comparable⟩ := C1.plain
  obtain ⟨f2, fd2, G_is_position, g_is_position, k_is_position, b_is_position⟩ := C2
  obtain ⟨f3, fd3, G_check_count, g_check_count, k_check_count, b_check_count⟩ := C3
  obtain ⟨f4, fd4, MK_Game, GI_Game, bI_Game⟩ := I
  refine F.ok sc_length (fun vs H Q E h => ?_) (fun cdv A outer s H vs Q E hr h => ?_)
  · obtain ⟨u, v, x, n, m, k, I, J, p, rfl, _⟩ := h; rfl
  · obtain ⟨u, v, x, n, m, k, I, J, p, rfl, hu, hv, oI, oJ, sg, hx, hp, ok, hT, k3, n16, m16, big, q⟩ := h
    have R_check_comparable : Room 2 _ := hr.mono (by decide)
    have R_is_position : Room 4 _ := hr.mono (by decide)
    have R_check_count : Room 2 _ := hr.mono (by decide)
    have RI_Game : Room (4 + 1) _ := hr
    refine ⟨_, PSs.nox (pss_cons (ps_if (pt_not (pt_val (pe_call G_is_position R_is_position (by rfl) g_is_position k_is_position b_is_position .nil pass0 (pa_cons (pv 0) (pa_cons (pv 1) (pa_cons (pv 2) pa_nil)))))) pss_never pss_nil) (pss_cons (ps_expr (pe_call G_check_comparable R_check_comparable (by rfl) g_check_comparable k_check_comparable b_check_comparable .nil pass0 (pa_cons (pv 0) (pa_cons (pv 1) pa_nil)))) (pss_cons (ps_expr (pe_call G_check_count R_check_count (by rfl) g_check_count k_check_count b_check_count .nil pass0 (pa_cons (pv 0) (pa_cons (pv 1) (pa_cons (pe_callB call_len_seq (by rfl) T.n_len PySem.boot_len (pa_cons (pv 2) pa_nil)) pa_nil))))) (pss_one (ps_ret (pe_nget1 (hu9 hr) (pe_fld (pe_make MK_Game GI_Game RI_Game (by rfl) gC_Game bI_Game .nil pass0 (pa_cons (pv 0) (pa_cons (pv 1) (pa_cons (pe_callB call_len_seq (by rfl) T.n_len PySem.boot_len (pa_cons (pv 2) pa_nil)) pa_nil)))) rfl) (pv 2) ⟨rfl, rfl, rfl, rfl⟩)))))), ?_⟩
    obtain ⟨a, xs, rfl, hT2, hxs⟩ := Dp.tup_inv hx
    obtain ⟨pl, pe⟩ := posG_mem.mp hp
    have lx := DpAll.length hxs
    rw [List.length_map, pl] at lx
    have lint : (V.int ((xs.length : Nat) : Int)) = V.int ((k + 1 : Nat) : Int) := by rw [lx]
    refine ⟨_, rfl, _, rfl, _, rfl, .ref a, u, v, tD p, n, m, I, J, rfl, hx, hu, hv, fun H1 s1 => ⟨_, rfl, cF (k := !posD n m (tD p)) (by rw [pos_okG hp k3]; rfl) ?_⟩⟩
    refine ⟨_, rfl, _, rfl, u, v, n, m, I, J, rfl, hu.same s1, hv.same s1, oI, oJ, fun _ H2 s2 => ?_, fun no => absurd sg no⟩
    have s12 := s1.trans s2
    refine ⟨_, rfl, _, rfl, _, rfl, a, xs, rfl, .inr (Same.sqt s12 hT2), u, v, n, m, k + 1, I, J, by rw [← lint]; rfl, hu.same s12, hv.same s12, n16, m16, k3, by omega, ?_⟩
    refine ⟨_, rfl, _, rfl, _, rfl, a, xs, rfl, .inr (Same.sqt s12 hT2), fun s0 dx ns nd ne => ?_⟩
    have sm : Same H2 (upd (upd H2 dx (.own s0)) s0 (.ins (He.ga K "Game") dx [])) := fun b o e => by
      rw [upd_ne (ne_of_none e ns), upd_ne (ne_of_none e nd)]
      exact e
    have s0m := s12.trans sm
    refine ⟨s0, dx, u, v, n, m, k, I, J, by rw [← lint]; rfl, upd_same, hu.same s0m, hv.same s0m, ok, hT.ext s0m, k3, n16, m16, big, fun H3 c e pp l cs es ps f kg T3 h3s _ _ _ _ _ _ hl il => ⟨rfl, ?_⟩⟩
    obtain ⟨kvs, dn, _, _, val⟩ := hl
    have xN : ExtN H H3 := fun b o eb nt => kg _ _ (s0m _ _ eb) (ne_of_none (s12 _ _ eb) ns) nt
    have nk : NkV K H3 (kP p) (.ref a) := NkV.kc (Kc.tn xN) (.tup hT2 (nk_eDs hxs))
    refine ⟨s0, _, dx, _, _, rfl, h3s, GC.cls, GC.nl, rfl, l, kvs, rfl, dn, _, rfl, a, kP p, rfl, dn, nk, kP_depth p, ?_⟩
    rw [val p hp]
    exact q H3 f xN T3 il
end
/-! ### the law: positions, what is answered -/
section
open NdefX LamX
variable {P : Program} {w : World} {K : PySem.W.Frag} {mg : Str → Option Value} {base : Heap}
def spLPosns (K : PySem.W.Frag) : Sp := fun vs H Q _ => ∃ (a r1 r2 : Addr) (n m k : Nat), vs = [.ref a, .int (k : Nat)] ∧ H a = some (.lst [.int (n : Nat), .ref r1, .int (m : Nat), .ref r2]) ∧ n ≤ 16 ∧ m ≤ 16 ∧ k ≤ 3 ∧ (1 + n * m) ^ k ≤ 1000 ∧
  ∀ (H' : Hp) (r : Addr) (xs : List V), Same H H' → H r = none → H' r = some (.lst xs) → DpAll K H' xs ((posG n m k).map tD) → Q (.ref r) H'
theorem sc_lposns : FnScope ["pair", "k", "entries", "a", "rows", "turn", "longer", "row", "b", "entry"] ["pair", "k"] (defScope (top 50)) := ⟨rfl, rfl, rfl, by decide +kernel, rfl, by decide +kernel, by decide +kernel⟩
theorem has_lposns (D : Def K mg "_law_positions" ["pair", "k"] (top 50)) (T : Txt mg) : Has P w K mg base 1 "_law_positions" ["pair", "k"] (spLPosns K) := D.has fun f fd F => by
  refine F.ok sc_lposns (fun vs H Q E h => ?_) (fun cdv A outer s H vs Q E hr h => ?_)
  · obtain ⟨a, r1, r2, n, m, k, rfl, _⟩ := h; rfl
  · obtain ⟨a, r1, r2, n, m, k, rfl, ha, n16, m16, k3, big, q⟩ := h
    refine ⟨_, PSs.nox (pss_cons (ps_set (i := 2) sc_lposns.nd rfl (Or.inl rfl) (pe_lst (pa_cons pe_non pa_nil))) (pss_cons (ps_for PassesOwn.never rfl (pi_range1 (by rfl) T.n_range (pa_cons (pe_ix ix_list (pv 0) pe_int (fun _ _ => rfl)) pa_nil)) (pg_name (i := 3) sc_lposns.nd rfl (Or.inr rfl)) (pss_one (ps_expr (pe_bm PySem.F.plainAttrs_list PySem.F.slot_list_extend PySem.F.type_list_extend mt_extend (pv 2) (pa_cons (pe_lc (own := [("b", 8)]) rfl sc_lposns.nd (pi_range1 (by rfl) T.n_range (pa_cons (pe_ix ix_list (pv 0) pe_int (fun _ _ => rfl)) pa_nil)) (blkOk_by (N := ["pair", "k", "entries", "a", "rows", "turn", "longer", "row", "b", "entry"]) (sc := defScope (top 50)) (by decide +kernel)) (fun _ _ _ _ _ => (pg_name (i := 8) sc_lposns.nd rfl (Or.inl rfl))) (fun _ _ _ _ _ => pts_nil) (fun _ _ _ _ _ => (pe_tup (pa_cons (pv 3) (pa_cons (pv 8) pa_nil))))) pa_nil))))) (pss_cons (ps_set (i := 4) sc_lposns.nd rfl (Or.inl rfl) (pe_lst (pa_cons (pe_tup pa_nil) pa_nil))) (pss_cons (ps_for PassesOwn.never rfl (pi_range1 (by rfl) T.n_range (pa_cons (pv 1) pa_nil)) (pg_name (i := 5) sc_lposns.nd rfl (Or.inl rfl)) (pss_cons (ps_set (i := 6) sc_lposns.nd rfl (Or.inl rfl) (pe_lst pa_nil)) (pss_cons (ps_for PassesOwn.never rfl (pi_list (pv 4)) (pg_name (i := 7) sc_lposns.nd rfl (Or.inr rfl)) (pss_one (ps_expr (pe_bm PySem.F.plainAttrs_list PySem.F.slot_list_extend PySem.F.type_list_extend mt_extend (pv 6) (pa_cons (pe_lc (own := [("entry", 9)]) rfl sc_lposns.nd (pi_list (pv 2)) (blkOk_by (N := ["pair", "k", "entries", "a", "rows", "turn", "longer", "row", "b", "entry"]) (sc := defScope (top 50)) (by decide +kernel)) (fun _ _ _ _ _ => (pg_name (i := 9) sc_lposns.nd rfl (Or.inl rfl))) (fun _ _ _ _ _ => pts_nil) (fun _ _ _ _ _ => (pe_op (op_catAK (K := K) rfl) (pv 7) (pe_tup (pa_cons (pv 9) pa_nil))))) pa_nil))))) (pss_one (ps_set (i := 4) sc_lposns.nd rfl (Or.inl rfl) (pv 6)))))) (pss_one (ps_ret (pv 4))))))), ?_⟩
    have nm : n * m ≤ 16 * 16 := Nat.mul_le_mul n16 m16
    refine ⟨(by show 1 ≤ sizeLine; decide), fun ea nea => ?_⟩
    have s1 := same_upd (o := .lst [V.non]) nea
    refine ⟨_, rfl, a, _, 0, _, rfl, rfl, SqL.of (s1 _ _ ha), rfl, n, rfl, by omega, by omega, for_it walk_range (fun i σ H2 => ∃ (y3 : Option V) (xl : List V), σ = [some (.ref a), some (.int (k : Nat)), some (.ref ea), y3, none, none, none, none, none, none] ∧ Same H H2 ∧ H2 ea = some (.lst xl) ∧ xl.length = 1 + i * m ∧ DpAll K H2 xl ((none :: (List.range i).flatMap fun a => (List.range m).map fun b => some (a, b)).map eD))
      ⟨none, [.non], rfl, s1, upd_same, by simp, .cons .non .nil⟩ (fun _ _ _ _ _ => trivial) ?_ ?_⟩
    · rintro i y σ Hx H2 hi ⟨y3, xl, rfl, s2, he, lxl, dxl⟩ ⟨rfl, rfl⟩
      refine ⟨_, rfl, .inl ⟨rfl, _, SqL.of he⟩, _, rfl, a, _, 2, _, rfl, rfl, SqL.of (s2 _ _ ha), rfl, m, rfl, by omega, by omega, fun M nM => ?_⟩
      refine lc_it walk_range (fun j H6 => ∃ acc, Same H2 H6 ∧ H6 M = some (.lst acc) ∧ acc.length = j ∧ DpAll K H6 acc (((List.range j).map fun b => some (i, b)).map eD)) ⟨[], same_upd nM, upd_same, rfl, .nil⟩ (fun _ _ _ _ => trivial) ?_ ?_
      · rintro j y H6 H7 hj ⟨acc, s6, hM, la, dacc⟩ ⟨rfl, rfl⟩
        refine ⟨rfl, yes_i (iteT ⟨_, rfl, _, rfl, (by show 2 ≤ sizeLine; decide), fun t nt => ?_⟩)⟩
        have st := same_upd (o := .tup [.int (0 + (i : Nat)), .int (0 + (j : Nat))]) nt
        have hM6 := st _ _ hM
        refine ⟨acc, hM6, small10000 (by omega), acc ++ [.ref t], fun b o eb => (upd_ne (ne_of_none eb nM)).trans (st _ _ (s6 _ _ eb)), upd_same, by rw [List.length_append, la]; rfl, ?_⟩
        rw [List.range_succ, List.map_append, List.map_append]
        refine DpAll.kl (Kl.upd hM6) (DpAll.append (DpAll.same st dacc) (.cons ?_ .nil)) ?_
        · refine .tup (SqT.of upd_same) ?_
          rw [Int.zero_add, Int.zero_add]
          exact .cons (.int _) (.cons (.int _) .nil)
        · rw [← List.map_append]; exact eDs_noL _
      · rintro H6 ⟨acc, s6, hM, la, dacc⟩
        have he6 := s6 _ _ he
        have lim : i * m ≤ 16 * 16 := Nat.mul_le_mul (by omega) m16
        refine ⟨ea, M, xl, acc, rfl, rfl, he6, hM, Nat.le_trans (show xl.length + acc.length ≤ 1000 by omega) (by decide), _, xl ++ acc, rfl, fun b o e => (upd_ne (ne_of_none e nea)).trans (s6 _ _ (s2 _ _ e)), upd_same, by rw [List.length_append, lxl, la, Nat.add_mul]; omega, ?_⟩
        rw [List.range_succ, List.flatMap_append]
        have e : (none :: (List.flatMap (fun a => (List.range m).map fun b => some (a, b)) (List.range i) ++ List.flatMap (fun a => (List.range m).map fun b => some (a, b)) [i])).map eD = (none :: List.flatMap (fun a => (List.range m).map fun b => some (a, b)) (List.range i)).map eD ++ ((List.range m).map fun b => some (i, b)).map eD := by simp
        rw [e]
        refine DpAll.kl (Kl.upd he6) (DpAll.append (DpAll.same s6 dxl) dacc) ?_
        rw [← List.map_append]; exact eDs_noL _
    · rintro σ H2 ⟨y3, es, rfl, s2, he, les, des⟩
      have des : DpAll K H2 es ((entsG n m).map eD) := des
      have les : es.length = 1 + n * m := les
      dsimp only
      refine ⟨(by show 0 ≤ sizeLine; exact Nat.zero_le _), fun t nt => ⟨(by show 1 ≤ sizeLine; decide), fun c nc => ?_⟩⟩
      have st := same_upd (o := .tup []) nt
      have sc := same_upd (o := .lst [.ref t]) nc
      have stc := st.trans sc
      have ncH : H c = none := by
        cases e : H c with
        | none => rfl
        | some o => rw [st _ _ (s2 _ _ e)] at nc; cases nc
      refine ⟨_, rfl, k, rfl, by omega, by omega, for_it walk_range (fun i σ H3 => ∃ (y5 y6 y7 : Option V) (p : Addr) (xs : List V), σ = [some (.ref a), some (.int (k : Nat)), some (.ref ea), y3, some (.ref p), y5, y6, y7, none, none] ∧ Same H2 H3 ∧ H p = none ∧ H3 p = some (.lst xs) ∧ DpAll K H3 xs ((posG n m i).map tD))
        ⟨none, none, none, c, [.ref t], rfl, stc, ncH, upd_same, .cons (.tup (SqT.of (sc _ _ upd_same)) .nil) .nil⟩ (fun _ _ _ _ _ => trivial) ?_ ?_⟩
      · rintro i y σ Hx H3 hi ⟨y5, y6, y7, p, xs, rfl, s3, np, hp, dx⟩ ⟨rfl, rfl⟩
        refine ⟨Nat.zero_le _, fun c1 nc1 => ?_⟩
        have sc1 := same_upd (o := .lst []) nc1
        have nc1H : H c1 = none := by
          cases e : H c1 with
          | none => rfl
          | some o => rw [s3 _ _ (s2 _ _ e)] at nc1; cases nc1
        have lx := DpAll.length dx
        rw [List.length_map, posG_len] at lx
        have bigi : (1 + n * m) ^ (i + 1) ≤ 1000 := Nat.le_trans (Nat.pow_le_pow_right (by omega) (by omega)) big
        have e2 : (1 + n * m) ^ (i + 1) = (1 + n * m) ^ i * (1 + n * m) := Nat.pow_succ ..
        refine ⟨_, rfl, p, rfl, ⟨_, SqL.of (sc1 _ _ hp)⟩, for_list (K := K) (a := p) (xs := xs) (fun j σ H4 => ∃ (y7 : Option V) (xl : List V), σ = [some (.ref a), some (.int (k : Nat)), some (.ref ea), y3, some (.ref p), some (.int (0 + (i : Nat))), some (.ref c1), y7, none, none] ∧ Same H3 H4 ∧ H4 c1 = some (.lst xl) ∧ xl.length = j * (1 + n * m) ∧ DpAll K H4 xl ((((posG n m i).take j).flatMap fun p => (entsG n m).map fun e => p ++ [e]).map tD))
          ⟨y7, [], rfl, sc1, upd_same, by simp, .nil⟩ (fun j σ H4 _ ⟨_, _, _, s4, _⟩ => SqL.of (s4 _ _ hp)) ?_ ?_⟩
        · rintro j y σ H4 hj ⟨y7', xl, rfl, s4, hc, lxl, dxl⟩
          obtain ⟨dd, hdd, dpy⟩ := DpAll.get' (DpAll.same s4 dx) hj
          obtain ⟨p0, hp0, rfl⟩ := get_map hdd
          obtain ⟨pl, _⟩ := posG_mem.mp (List.mem_of_getElem? hp0)
          obtain ⟨ta, zs, rfl, hT, hz⟩ := Dp.tup_inv dpy
          have lz := DpAll.length hz
          rw [List.length_map] at lz
          have s24 := s3.trans s4
          have he4 := s24 _ _ he
          have hj2 : j < xs.length := (List.getElem?_eq_some_iff.mp hj).1
          have lb : (j + 1) * (1 + n * m) ≤ 1000 := by
            refine Nat.le_trans ?_ bigi
            rw [e2]
            exact Nat.mul_le_mul_right _ (by omega)
          rw [Nat.add_mul, Nat.one_mul] at lb
          refine ⟨_, rfl, .inl ⟨rfl, _, SqL.of hc⟩, _, rfl, ea, rfl, ⟨_, SqL.of he4⟩, fun M nM => ?_⟩
          refine lc_it (walk_list (K := K) (a := ea) (xs := es)) (fun b H6 => ∃ acc, Same H4 H6 ∧ H6 M = some (.lst acc) ∧ acc.length = b ∧ DpAll K H6 acc ((((entsG n m).take b).map fun e => p0 ++ [e]).map tD)) ⟨[], same_upd nM, upd_same, rfl, .nil⟩ (fun b H6 _ ⟨_, s6, _⟩ => SqL.of (s6 _ _ he4)) ?_ ?_
          · rintro b z H6 H7 hb ⟨acc, s6, hM, la, dacc⟩ ⟨rfl, hz2⟩
            obtain ⟨dd, hdd, dpz⟩ := DpAll.get' (DpAll.same (s24.trans s6) des) hz2
            obtain ⟨e0, he0, rfl⟩ := get_map hdd
            refine ⟨rfl, yes_i (iteT ⟨_, rfl, _, rfl, (by show 1 ≤ sizeLine; decide), fun u nu => ?_⟩)⟩
            have su := same_upd (o := .tup [z]) nu
            refine catA (Same.sqt (s6.trans su) hT) (SqT.of upd_same) (by rw [lz, pl]; show i + 1 ≤ 1000; omega) fun H8 r s8 hr => ?_
            have s78 := su.trans s8
            have hM8 := s78 _ _ hM
            refine ⟨acc, hM8, small10000 (by omega), acc ++ [.ref r], fun b' o eb => (upd_ne (ne_of_none eb nM)).trans (s78 _ _ (s6 _ _ eb)), upd_same, by rw [List.length_append, la]; rfl, ?_⟩
            rw [List.take_add_one, he0, List.map_append, List.map_append]
            refine DpAll.kl (Kl.upd hM8) (DpAll.append (DpAll.same s78 dacc) (.cons ?_ .nil)) ?_
            · refine .tup hr ?_
              rw [List.map_append]
              exact DpAll.append (DpAll.same (s6.trans s78) hz) (.cons (Dp.same s78 dpz) .nil)
            · rw [← List.map_append]; exact tDs_noL _
          · rintro H6 ⟨acc, s6, hM, la, dacc⟩
            rw [les] at la
            rw [les, show 1 + n * m = (entsG n m).length from (entsG_len n m).symm, List.take_length] at dacc
            have hc6 := s6 _ _ hc
            refine ⟨c1, M, xl, acc, rfl, rfl, hc6, hM, Nat.le_trans (show xl.length + acc.length ≤ 1000 by omega) (by decide), _, xl ++ acc, rfl, fun b o e => (upd_ne (ne_of_none e nc1)).trans (s6 _ _ (s4 _ _ e)), upd_same, by rw [List.length_append, lxl, la, Nat.add_mul, Nat.one_mul], ?_⟩
            rw [List.take_add_one, hp0, List.flatMap_append, List.map_append]
            refine DpAll.kl (Kl.upd hc6) (DpAll.append (DpAll.same s6 dxl) (by simpa using dacc)) ?_
            rw [← List.map_append]; exact tDs_noL _
        · rintro σ H4 ⟨y7', xl, rfl, s4, hc, lxl, dxl⟩
          rw [lx, show (1 + n * m) ^ i = (posG n m i).length from (posG_len n m i).symm, List.take_length] at dxl
          exact ⟨_, rfl, _, _, _, c1, xl, rfl, s3.trans s4, nc1H, hc, dxl⟩
      · rintro σ H3 ⟨y5, y6, y7, p, xs, rfl, s3, np, hp, dx⟩
        exact ⟨_, rfl, q H3 p xs (s2.trans s3) np hp dx⟩
end
/-! ### the law: what is answered -/
section
open NdefX LamX
variable {P : Program} {w : World} {K : PySem.W.Frag} {mg : Str → Option Value} {base : Heap}
theorem set_pos {p : Pn} {i : Nat} (h : i < p.length) (e : Option (Nat × Nat)) : p.take i ++ [e] ++ p.drop (i + 1) = insG (delG p i) i e := by
  have l1 : (p.take i).length = i := by rw [List.length_take]; omega
  unfold insG delG
  rw [List.take_append_of_le_length (by omega), List.take_of_length_le (Nat.le_of_eq l1), List.drop_append_of_le_length (by omega), List.drop_of_length_le (Nat.le_of_eq l1), List.nil_append]
theorem nnb_i {ty td : TE} {σ : L2.St} {H : Hp} {Q : Bool → Hp → Prop} (h : ty σ H fun y H1 => td σ H1 fun x H2 => ∃ a b kvs k, x = .ref a ∧ y = .ref b ∧ DnAt K P w H2 a kvs ∧ NkV K H2 k (.ref b) ∧ k.depth ≤ 8 ∧ ∃ b', V.bl (!(valN kvs k).isSome) = .bl b' ∧ Q b' H2) : tB (tNNotIn K P w ty td) σ H Q := h
theorem te_seta {σ : L2.St} {H : Hp} {pa : Addr} {p : Pn} {i a0 b0 : Nat} {x4 x5 : Int} {Q : VK} (h2 : σ[2]? = some (some (.ref pa))) (h3 : σ[3]? = some (some (.int (i : Nat)))) (h4 : σ[4]? = some (some (.int x4))) (h5 : σ[5]? = some (some (.int x5))) (e4 : x4 = (a0 : Nat)) (e5 : x5 = (b0 : Nat)) (nk : NkV K H (kP p) (.ref pa)) (l : p.length ≤ 100) (hi : i < p.length)
    (q : ∀ (H' : Hp) (t : Addr), Same H H' → NkV K H' (kP (insG (delG p i) i (some (a0, b0)))) (.ref t) → Q (.ref t) H') :
    tOp (rCatA K) (tOp (rCatA K) (tSl (rSlA K) (tVar 2) tNoPart (tPart (tVar 3))) (tTup (tCons (tTup (tCons (tVar 4) (tCons (tVar 5) tNil))) tNil))) (tSl (rSlA K) (tVar 2) (tPart (tOp (rI0 fun i j => V.int (i + j)) (tVar 3) (tC (V.int 1)))) tNoPart) σ H Q := by
  subst e4 e5
  refine te_cat3 (i := i) (j := i + 1) (e := some (a0, b0)) h2 (part_var h3) (fun H1 Q q => ⟨_, h3, _, 1, rfl, rfl, _, rfl, q⟩) nk l (fun H1 s1 Q q => ⟨_, h4, _, h5, (by show 2 ≤ sizeLine; decide), fun t nt => q _ _ (same_upd nt) (.tup (SqT.of upd_same) (.cons (.int _) (.cons (.int _) .nil)))⟩) fun H' t s' nt => q H' t s' ?_
  rw [set_pos hi] at nt
  exact nt
def spLAns (K : PySem.W.Frag) (P : Program) (w : World) : Sp := fun vs H Q _ => ∃ (a r1 r2 d pa : Addr) (n m k i : Nat) (p : Pn) (f : Pn → Option Nat), vs = [.ref a, .ref d, .ref pa, .int (i : Nat)] ∧ H a = some (.lst [.int (n : Nat), .ref r1, .int (m : Nat), .ref r2]) ∧ LenD K P w H d (posG n m (k + 1)) f ∧ NkV K H (kP p) (.ref pa) ∧ p ∈ posG n m (k + 1) ∧ i < k + 1 ∧ k + 1 ≤ 3 ∧ n ≤ 16 ∧ m ≤ 16 ∧
  ∀ (H' : Hp) (b : Bool), Same H H' → (b = true ↔ ¬ winG n m (fun q => f q ≠ none) (delG p i) i) → Q (.bl b) H'
theorem sc_lans : FnScope ["pair", "lost", "position", "at", "a", "b"] ["pair", "lost", "position", "at"] (defScope (top 51)) := ⟨rfl, rfl, rfl, by decide +kernel, rfl, by decide +kernel, by decide +kernel⟩
theorem has_lans (D : Def K mg "_law_answered" ["pair", "lost", "position", "at"] (top 51)) (T : Txt mg) : Has P w K mg base 1 "_law_answered" ["pair", "lost", "position", "at"] (spLAns K P w) := D.has fun f fd F => by
  refine F.ok sc_lans (fun vs H Q E h => ?_) (fun cdv A outer s H vs Q E hr h => ?_)
  · obtain ⟨a, r1, r2, d, pa, n, m, k, i, p, f, rfl, _⟩ := h; rfl
  · obtain ⟨a, r1, r2, d, pa, n, m, k, i, p, fl, rfl, ha, hl, nk, hp, hi, k3, n16, m16, q⟩ := h
    refine ⟨_, PSs.nox (pss_cons (ps_for PassesOwn.never rfl (pi_range1 (by rfl) T.n_range (pa_cons (pe_ix ix_list (pv 0) pe_int (fun _ _ => rfl)) pa_nil)) (pg_name (i := 4) sc_lans.nd rfl (Or.inr rfl)) (pss_one (ps_if (pt_cmpR op_eq (pe_callB call_len_seq (by rfl) T.n_len PySem.boot_len (pa_cons (pe_lc (own := [("b", 5)]) rfl sc_lans.nd (pi_range1 (by rfl) T.n_range (pa_cons (pe_ix ix_list (pv 0) pe_int (fun _ _ => rfl)) pa_nil)) (blkOk_by (N := ["pair", "lost", "position", "at", "a", "b"]) (sc := defScope (top 51)) (by decide +kernel)) (fun _ _ _ _ _ => (pg_name (i := 5) sc_lans.nd rfl (Or.inl rfl))) (fun _ _ _ _ _ => (pts_one (pt_cmp (pc_nnotinK (K := K) (P := P) (w := w) rfl rfl rfl (hu9 hr) (pe_op (op_catAK (K := K) rfl) (pe_op (op_catAK (K := K) rfl) (pe_slice (sl_tupAK (K := K) rfl) (pv 2) po_none (po_some (pv 3))) (pe_tup (pa_cons (pe_tup (pa_cons (pv 4) (pa_cons (pv 5) pa_nil))) pa_nil))) (pe_slice (sl_tupAK (K := K) rfl) (pv 2) (po_some (pe_op op_add (pv 3) pe_int)) po_none)) (pv 1))))) (fun _ _ _ _ _ => pe_int)) pa_nil)) pe_int (nomark _)) (pss_one (ps_ret pe_bl)) pss_nil))) (pss_cons (ps_for PassesOwn.never rfl (pi_range1 (by rfl) T.n_range (pa_cons (pe_ix ix_list (pv 0) pe_int (fun _ _ => rfl)) pa_nil)) (pg_name (i := 5) sc_lans.nd rfl (Or.inr rfl)) (pss_one (ps_if (pt_cmpR op_eq (pe_callB call_len_seq (by rfl) T.n_len PySem.boot_len (pa_cons (pe_lc (own := [("a", 4)]) rfl sc_lans.nd (pi_range1 (by rfl) T.n_range (pa_cons (pe_ix ix_list (pv 0) pe_int (fun _ _ => rfl)) pa_nil)) (blkOk_by (N := ["pair", "lost", "position", "at", "a", "b"]) (sc := defScope (top 51)) (by decide +kernel)) (fun _ _ _ _ _ => (pg_name (i := 4) sc_lans.nd rfl (Or.inl rfl))) (fun _ _ _ _ _ => (pts_one (pt_cmp (pc_nnotinK (K := K) (P := P) (w := w) rfl rfl rfl (hu9 hr) (pe_op (op_catAK (K := K) rfl) (pe_op (op_catAK (K := K) rfl) (pe_slice (sl_tupAK (K := K) rfl) (pv 2) po_none (po_some (pv 3))) (pe_tup (pa_cons (pe_tup (pa_cons (pv 4) (pa_cons (pv 5) pa_nil))) pa_nil))) (pe_slice (sl_tupAK (K := K) rfl) (pv 2) (po_some (pe_op op_add (pv 3) pe_int)) po_none)) (pv 1))))) (fun _ _ _ _ _ => pe_int)) pa_nil)) pe_int (nomark _)) (pss_one (ps_ret pe_bl)) pss_nil))) (pss_one (ps_ret pe_bl)))), ?_⟩
    obtain ⟨pl, pe⟩ := posG_mem.mp hp
    obtain ⟨kvs, dn, nd, sub, val⟩ := id hl
    have inG : ∀ x y, x < n → y < m → insG (delG p i) i (some (x, y)) ∈ posG n m (k + 1) := fun x y hx hy => ins_mem (del_mem hp hi) (by omega) (entsG_mem.mpr fun q e => by cases e; exact ⟨hx, hy⟩)
    refine ⟨_, rfl, a, _, 0, _, rfl, rfl, SqL.of ha, rfl, n, rfl, by omega, by omega, for_it walk_range (fun x σ H2 => ∃ (y4 : Option V), σ = [some (.ref a), some (.ref d), some (.ref pa), some (.int (i : Nat)), y4, none] ∧ Same H H2 ∧ ∀ x', x' < x → ¬ ∀ b, b < m → fl (insG (delG p i) i (some (x', b))) ≠ none)
      ⟨none, rfl, .refl H, fun x' hx => absurd hx (Nat.not_lt_zero _)⟩ (fun _ _ _ _ _ => trivial) ?_ ?_⟩
    · rintro x y σ Hx H2 hx ⟨y4, rfl, s2, al⟩ ⟨rfl, rfl⟩
      refine gN_i ?_
      dsimp only
      refine ⟨_, rfl, a, _, 2, _, rfl, rfl, SqL.of (s2 _ _ ha), rfl, m, rfl, by omega, by omega, fun M nM => ?_⟩
      refine lc_it walk_range (fun j H6 => ∃ acc : List V, Same H2 H6 ∧ H6 M = some (.lst acc) ∧ acc.length ≤ j ∧ (acc.length = 0 ↔ ∀ b, b < j → fl (insG (delG p i) i (some (x, b))) ≠ none)) ⟨[], same_upd nM, upd_same, Nat.le_refl _, ⟨fun _ b hb => absurd hb (Nat.not_lt_zero _), fun _ => rfl⟩⟩ (fun _ _ _ _ => trivial) ?_ ?_
      · rintro j z H6 H7 hj ⟨acc, s6, hM, la, iA⟩ ⟨rfl, rfl⟩
        refine ⟨rfl, nnb_i ?_⟩
        refine te_seta (a0 := x) (b0 := j) rfl rfl rfl rfl (Int.zero_add _) (Int.zero_add _) (NkV.same (s2.trans s6) nk) (by omega) (by omega) fun H8 t s8 nt => ?_
        have s28 := (s2.trans s6).trans s8
        refine ⟨_, rfl, d, t, kvs, _, rfl, rfl, dn.same s28, nt, kP_depth _, _, rfl, ?_⟩
        rw [val _ (inG x j hx hj), Option.isSome_map]
        cases e : fl (insG (delG p i) i (some (x, j))) with
        | some r =>
          refine iteF ⟨acc, s6.trans s8, s8 _ _ hM, by omega, iA.trans ⟨fun h b hb => ?_, fun h b hb => h b (by omega)⟩⟩
          by_cases eb : b = j
          · subst eb
            rw [e]; exact fun z => nomatch z
          · exact h b (by omega)
        | none =>
          refine iteT ⟨acc, s8 _ _ hM, small1000 (by omega), acc ++ [.int 1], fun b' o eb => (upd_ne (ne_of_none eb nM)).trans (s8 _ _ (s6 _ _ eb)), upd_same, by rw [List.length_append]; exact Nat.add_le_add la (Nat.le_refl 1), ⟨fun z => by rw [List.length_append] at z; simp at z, fun h => absurd e (h j (Nat.lt_succ_self _))⟩⟩
      · rintro H6 ⟨acc, s6, hM, la, iA⟩
        refine ⟨M, acc, rfl, .inl (SqL.of hM), ?_⟩
        refine ⟨rfl, _, rfl, ?_⟩
        by_cases e : acc.length = 0
        · refine cT (k := decide (V.int (acc.length : Nat) = V.int 0)) (decide_eq_true (by rw [e]; rfl)) ?_
          exact q H6 false (s2.trans s6) ⟨fun z => (nomatch z), fun z => absurd (.inl ⟨x, hx, iA.mp e⟩) z⟩
        · refine cF (k := decide (V.int (acc.length : Nat) = V.int 0)) (decide_eq_false fun z => e (by injection z with z; omega)) ?_
          refine ⟨_, rfl, s2.trans s6, fun x' hx' => ?_⟩
          by_cases ex : x' = x
          · subst ex; exact fun h => e (iA.mpr h)
          · exact al x' (by omega)
    · rintro σ H2 ⟨y4, rfl, s2, al⟩
      dsimp only
      refine ⟨_, rfl, a, _, 2, _, rfl, rfl, SqL.of (s2 _ _ ha), rfl, m, rfl, by omega, by omega, for_it walk_range (fun x σ H3 => ∃ (y5 : Option V), σ = [some (.ref a), some (.ref d), some (.ref pa), some (.int (i : Nat)), y4, y5] ∧ Same H2 H3 ∧ ∀ x', x' < x → ¬ ∀ b, b < n → fl (insG (delG p i) i (some (b, x'))) ≠ none)
        ⟨none, rfl, .refl H2, fun x' hx => absurd hx (Nat.not_lt_zero _)⟩ (fun _ _ _ _ _ => trivial) ?_ ?_⟩
      · rintro x y σ Hx H3 hx ⟨y5, rfl, s3, al2⟩ ⟨rfl, rfl⟩
        refine gN_i ?_
        dsimp only
        have s23 := s2.trans s3
        refine ⟨_, rfl, a, _, 0, _, rfl, rfl, SqL.of (s23 _ _ ha), rfl, n, rfl, by omega, by omega, fun M nM => ?_⟩
        refine lc_it walk_range (fun j H6 => ∃ acc : List V, Same H3 H6 ∧ H6 M = some (.lst acc) ∧ acc.length ≤ j ∧ (acc.length = 0 ↔ ∀ b, b < j → fl (insG (delG p i) i (some (b, x))) ≠ none)) ⟨[], same_upd nM, upd_same, Nat.le_refl _, ⟨fun _ b hb => absurd hb (Nat.not_lt_zero _), fun _ => rfl⟩⟩ (fun _ _ _ _ => trivial) ?_ ?_
        · rintro j z H6 H7 hj ⟨acc, s6, hM, la, iA⟩ ⟨rfl, rfl⟩
          refine ⟨rfl, nnb_i ?_⟩
          refine te_seta (a0 := j) (b0 := x) rfl rfl rfl rfl (Int.zero_add _) (Int.zero_add _) (NkV.same (s23.trans s6) nk) (by omega) (by omega) fun H8 t s8 nt => ?_
          have s28 := (s23.trans s6).trans s8
          refine ⟨_, rfl, d, t, kvs, _, rfl, rfl, dn.same s28, nt, kP_depth _, _, rfl, ?_⟩
          rw [val _ (inG j x hj hx), Option.isSome_map]
          cases e : fl (insG (delG p i) i (some (j, x))) with
          | some r =>
            refine iteF ⟨acc, s6.trans s8, s8 _ _ hM, by omega, iA.trans ⟨fun h b hb => ?_, fun h b hb => h b (by omega)⟩⟩
            by_cases eb : b = j
            · subst eb
              rw [e]; exact fun z => nomatch z
            · exact h b (by omega)
          | none =>
            refine iteT ⟨acc, s8 _ _ hM, small1000 (by omega), acc ++ [.int 1], fun b' o eb => (upd_ne (ne_of_none eb nM)).trans (s8 _ _ (s6 _ _ eb)), upd_same, by rw [List.length_append]; exact Nat.add_le_add la (Nat.le_refl 1), ⟨fun z => by rw [List.length_append] at z; simp at z, fun h => absurd e (h j (Nat.lt_succ_self _))⟩⟩
        · rintro H6 ⟨acc, s6, hM, la, iA⟩
          refine ⟨M, acc, rfl, .inl (SqL.of hM), ?_⟩
          refine ⟨rfl, _, rfl, ?_⟩
          by_cases e : acc.length = 0
          · refine cT (k := decide (V.int (acc.length : Nat) = V.int 0)) (decide_eq_true (by rw [e]; rfl)) ?_
            exact q H6 false (s23.trans s6) ⟨fun z => (nomatch z), fun z => absurd (.inr ⟨x, hx, iA.mp e⟩) z⟩
          · refine cF (k := decide (V.int (acc.length : Nat) = V.int 0)) (decide_eq_false fun z => e (by injection z with z; omega)) ?_
            refine ⟨_, rfl, s3.trans s6, fun x' hx' => ?_⟩
            by_cases ex : x' = x
            · subst ex; exact fun h => e (iA.mpr h)
            · exact al2 x' (by omega)
      · rintro σ H3 ⟨y5, rfl, s3, al2⟩
        refine q H3 true (s2.trans s3) ⟨fun _ h => ?_, fun _ => rfl⟩
        rcases h with ⟨x, hx, h⟩ | ⟨x, hx, h⟩
        · exact al x hx h
        · exact al2 x hx h
end
/-! ### what the law keeps -/
section
open NdefX LamX
variable {K : PySem.W.Frag} {P : Program} {w : World}
theorem nd_rev {α : Type} {l : List α} (h : l.Nodup) : l.reverse.Nodup := List.pairwise_reverse.mpr (h.imp fun n e => n e.symm)
theorem kc_wo {d : Addr} {H H' : Hp} (k : Kc H H') : Kc (wo d H) (wo d H') := fun b o e n m => by
  by_cases h : b = d
  · rw [show wo d H b = none from if_pos h] at e; cases e
  · rw [wo_ne h] at e ⊢
    exact k b o e n m
theorem wo_some_ne {d b : Addr} {H : Hp} {o : HO} (h : wo d H b = some o) : b ≠ d ∧ H b = some o := by
  by_cases e : b = d
  · rw [show wo d H b = none from if_pos e] at h; cases h
  · rw [wo_ne e] at h; exact ⟨e, h⟩
theorem RelL.kc {H H' : Hp} (x : Kc H H') {ys : List V} {J : List Wrl} (h : RelL K H ys J) : RelL K H' ys J := h.keep (fun _ _ q => x.sqT q) fun _ _ q => x.tup q
theorem RelL.wod {d l : Addr} {H : Hp} (r : DrA H d l) {ys : List V} {J : List Wrl} (h : RelL K H ys J) : RelL K (wo d H) ys J := by
  obtain ⟨n, ms, h1, _⟩ := r
  exact h.keep (fun _ _ q => SqT.wo h1 q) fun a xs q => by
    rw [wo_ne fun z => by rw [z, h1] at q; cases q]
    exact q
theorem StR.wod {d l : Addr} {H : Hp} (r : DrA H d l) {v : V} {n : Nat} {J : List Wrl} (h : StR K H v n J) : StR K (wo d H) v n J := by
  obtain ⟨s, dx, p, ys, rfl, h1, h2, h3⟩ := h
  refine ⟨s, dx, p, ys, rfl, ?_, ?_, RelL.wod r h3⟩
  · obtain ⟨n, ms, e, _⟩ := r
    rw [wo_ne fun z => by rw [z, e] at h1; cases h1]
    exact h1
  · obtain ⟨n, ms, e, _⟩ := r
    rw [wo_ne fun z => by
      rw [z, e] at h2
      cases h2
      cases h3 with
      | cons a b =>
        cases b with
        | cons c _ =>
          obtain ⟨t, b, xs, e2, _⟩ := c
          cases e2]
    exact h2
theorem tabs_kp {d : Addr} {xs : List V} {H H' : Hp} (t : TabsN (nowT K) H) (k : Kp d H H') (e : H d = some (.lst xs)) : TabsN (nowT K) H' := fun p hp => by
  obtain ⟨ps, h1, h2, h3⟩ := t p hp
  refine ⟨ps, k _ _ h1 fun z => ?_, h2, fun pos cv hc => ?_⟩
  · rw [z, e] at h1; cases h1
  · obtain ⟨c, e1, e2⟩ := h3 pos cv hc
    refine ⟨c, e1, k _ _ e2 fun z => ?_⟩
    rw [z, e] at e2
    unfold CodeO at e2
    cases e2
theorem dr_en {d l : Addr} {H H' : Hp} (r : DrA H d l) (x : ExtN H H') : DrA H' d l := by
  obtain ⟨n, ms, h1, h2, h3⟩ := r
  exact ⟨n, ms, x _ _ h1 (fun _ z => nomatch z), x _ _ h2 (fun _ z => nomatch z), h3⟩
structure LSt (K : PySem.W.Frag) (H : Hp) (d l a r1 r2 bp : Addr) (u v : V) (n m : Nat) (ys1 ys2 : List V) (L1 L2 I J : List Wrl) : Prop where
  dr : DrA H d l
  tb : TabsN (nowT K) H
  ha : wo d H a = some (.lst [.int (n : Nat), .ref r1, .int (m : Nat), .ref r2])
  h1 : wo d H r1 = some (.lst ys1)
  d1 : RelL K (wo d H) ys1 L1
  h2 : wo d H r2 = some (.lst ys2)
  d2 : RelL K (wo d H) ys2 L2
  hb : wo d H bp = some (.lst [u, v])
  su : StR K (wo d H) u n I
  sv : StR K (wo d H) v m J
section
variable {H H' : Hp} {d l a r1 r2 bp : Addr} {u v : V} {n m : Nat} {ys1 ys2 : List V} {L1 L2 I J : List Wrl}
theorem LSt.kc (s : LSt K H d l a r1 r2 bp u v n m ys1 ys2 L1 L2 I J) (dr : DrA H' d l) (tb : TabsN (nowT K) H') (k : Kc (wo d H) (wo d H')) : LSt K H' d l a r1 r2 bp u v n m ys1 ys2 L1 L2 I J :=
  ⟨dr, tb, k.lst s.ha, k.lst s.h1, s.d1.kc k, k.lst s.h2, s.d2.kc k, k.lst s.hb, s.su.kc k, s.sv.kc k⟩
theorem LSt.kp (s : LSt K H d l a r1 r2 bp u v n m ys1 ys2 L1 L2 I J) (dr : DrA H' d l) (k : Kp d H H') : LSt K H' d l a r1 r2 bp u v n m ys1 ys2 L1 L2 I J := by
  obtain ⟨i, ms, h1, _⟩ := id s.dr
  exact s.kc dr (tabs_kp s.tb k h1) (Kc.of (wo_kp k))
theorem LSt.same (s : LSt K H d l a r1 r2 bp u v n m ys1 ys2 L1 L2 I J) (k : Same H H') : LSt K H' d l a r1 r2 bp u v n m ys1 ys2 L1 L2 I J := s.kp (s.dr.same k) (.of k)
theorem LSt.en (s : LSt K H d l a r1 r2 bp u v n m ys1 ys2 L1 L2 I J) (k : ExtN H H') (tb : TabsN (nowT K) H') : LSt K H' d l a r1 r2 bp u v n m ys1 ys2 L1 L2 I J := s.kc (dr_en s.dr k) tb (kc_wo (Kc.tn k))
end
/-! data that is made of numbers -/
section
variable {d l : Addr} {H0 : Hp} {σ : L2.St}
def Mk0 (K : PySem.W.Frag) (d l : Addr) (H0 : Hp) (σ : L2.St) (te : TE) (t : PyData) : Prop := ∀ H : Hp, DrA H d l → Same H0 H → ∀ Q : VK, (∀ (H' : Hp) (v : V), Same H H' → Dp K (wo d H') v t → Q v H') → te σ H Q
def MkA0 (K : PySem.W.Frag) (d l : Addr) (H0 : Hp) (σ : L2.St) (ta : TA) (ts : List PyData) : Prop := ∀ H : Hp, DrA H d l → Same H0 H → ∀ Q : List V → Hp → Prop, (∀ (H' : Hp) (vs : List V), Same H H' → DpAll K (wo d H') vs ts → Q vs H') → ta σ H Q
theorem m_int {i : Int} : Mk0 K d l H0 σ (tC (.int i)) (.int i) := fun H _ _ Q q => q H _ (.refl H) (.int _)
theorem m_non : Mk0 K d l H0 σ (tC .non) .none := fun H _ _ Q q => q H _ (.refl H) .non
theorem m_bl {b : Bool} : Mk0 K d l H0 σ (tC (.bl b)) (.bool b) := fun H _ _ Q q => q H _ (.refl H) (.bl _)
theorem m_neg {i j : Int} (h : j = -i) : Mk0 K d l H0 σ (tUn (fun x H Q => ∃ i, x = .int i ∧ Q (.int (-i)) H) (tC (.int i))) (.int j) := fun H _ _ Q q => ⟨i, rfl, by subst h; exact q H _ (.refl H) (.int _)⟩
theorem m_pix {j : Nat} {a : Addr} {xs : List V} {c k : Int} (e : σ[j]? = some (some (.ref a))) (h : H0 a = some (.lst xs)) (ix : atI xs c = some (.int k)) : Mk0 K d l H0 σ (tOp (rIxL K) (tVar j) (tC (.int c))) (.int k) := fun H _ s Q q =>
  ⟨_, e, a, xs, c, _, rfl, rfl, SqL.of (s _ _ h), ix, q H _ (.refl H) (.int _)⟩
theorem m_nil : MkA0 K d l H0 σ tNil [] := fun H _ _ Q q => q H [] (.refl H) .nil
theorem m_cons {te : TE} {ta : TA} {t : PyData} {ts : List PyData} (h1 : Mk0 K d l H0 σ te t) (h2 : MkA0 K d l H0 σ ta ts) : MkA0 K d l H0 σ (tCons te ta) (t :: ts) := fun H r s Q q =>
  h1 H r s _ fun H1 v s1 dv => h2 H1 (r.same s1) (s.trans s1) _ fun H2 vs s2 dvs => q H2 (v :: vs) (s1.trans s2) (.cons (Dp.same (wo_same s2) dv) dvs)
theorem m_tup {ta : TA} {ts : List PyData} (hn : ts.length ≤ 1000) (h : MkA0 K d l H0 σ ta ts) : Mk0 K d l H0 σ (tTup ta) (.tuple ts) := fun H r s Q q =>
  h H r s _ fun H1 vs s1 dvs => ⟨by rw [DpAll.length dvs]; exact Nat.le_trans hn (by decide), fun p np =>
    have sp := same_upd (o := .tup vs) np
    q _ (.ref p) (s1.trans sp) (.tup (SqT.of (wo_upd ((r.same s1).ne np).1)) (DpAll.same (wo_same sp) dvs))⟩
theorem m_lst {ta : TA} {ts : List PyData} (hn : ts.length ≤ 1000) (h : MkA0 K d l H0 σ ta ts) : Mk0 K d l H0 σ (tLst ta) (.list ts) := fun H r s Q q =>
  h H r s _ fun H1 vs s1 dvs => ⟨by rw [DpAll.length dvs]; exact Nat.le_trans hn (by decide), fun p np =>
    have sp := same_upd (o := .lst vs) np
    q _ (.ref p) (s1.trans sp) (.lst (SqL.of (wo_upd ((r.same s1).ne np).1)) (DpAll.same (wo_same sp) dvs))⟩
end
def badD (n m : Nat) : List PyData := [.tuple [], .tuple [.tuple [.int 0, .int (m : Nat)]], .tuple [.tuple [.int (n : Nat), .int 0]], .tuple [.tuple [.int 0, .int 0], .tuple [.int 0, .int 0], .tuple [.int 0, .int 0], .tuple [.int 0, .int 0]], .list [.tuple [.int 0, .int 0]], .tuple [.tuple [.int 0]],
  .tuple [.list [.int 0, .int 0]], .tuple [.tuple [.int 0, .bool true]], .none, .tuple [.tuple [.int (-1), .int 0]], .tuple [.none, .int 5]]
theorem bad_pos {n m : Nat} {t : PyData} (h : t ∈ badD n m) : posD n m t = false := by
  unfold badD at h
  have b1 : btwD (.int (m : Nat)) 0 ((m : Nat) - 1) = false := by
    show (decide ((0 : Int) ≤ (m : Nat)) && decide (((m : Nat) : Int) ≤ (m : Nat) - 1)) = false
    rw [decide_eq_false (show ¬ ((m : Nat) : Int) ≤ (m : Nat) - 1 by omega), Bool.and_false]
  have b2 : btwD (.int (n : Nat)) 0 ((n : Nat) - 1) = false := by
    show (decide ((0 : Int) ≤ (n : Nat)) && decide (((n : Nat) : Int) ≤ (n : Nat) - 1)) = false
    rw [decide_eq_false (show ¬ ((n : Nat) : Int) ≤ (n : Nat) - 1 by omega), Bool.and_false]
  have ev : ∀ x : PyData, posD n m (.tuple [x]) = entD n m x := fun x => by
    show (decide (1 ≤ 1) && decide (1 ≤ 3) && (entD n m x && true)) = entD n m x
    rw [Bool.and_true]; rfl
  simp only [List.mem_cons, List.not_mem_nil, or_false] at h
  rcases h with rfl | rfl | rfl | rfl | rfl | rfl | rfl | rfl | rfl | rfl | rfl
  · rfl
  · rw [ev]
    show (btwD _ _ _ && btwD (.int (m : Nat)) 0 ((m : Nat) - 1)) = false
    rw [b1, Bool.and_false]
  · rw [ev]
    show (btwD (.int (n : Nat)) 0 ((n : Nat) - 1) && btwD _ _ _) = false
    rw [b2, Bool.false_and]
  · rfl
  · rfl
  · rfl
  · rfl
  · rw [ev]
    show (btwD _ _ _ && btwD (.bool true) 0 ((m : Nat) - 1)) = false
    exact Bool.and_false _
  · rfl
  · rw [ev]; rfl
  · show (decide (1 ≤ 2) && decide (2 ≤ 3) && (entD n m .none && (entD n m (.int 5) && true))) = false
    rfl
theorem pos_ok {n m : Nat} {es : List (Option (Nat × Nat))} (l1 : 1 ≤ es.length) (l3 : es.length ≤ 3) (bd : ∀ p, some p ∈ es → p.1 < n ∧ p.2 < m) : posD n m (.tuple (es.map eD)) = true := by
  show (decide (1 ≤ (es.map eD).length) && decide ((es.map eD).length ≤ 3) && (es.map eD).all (entD n m)) = true
  rw [List.length_map, decide_eq_true l1, decide_eq_true l3]
  refine List.all_eq_true.mpr fun t ht => ?_
  obtain ⟨e, he, rfl⟩ := List.mem_map.mp ht
  cases e with
  | none => rfl
  | some p =>
    obtain ⟨h1, h2⟩ := bd p he
    show ((decide ((0 : Int) ≤ (p.1 : Nat)) && decide (((p.1 : Nat) : Int) ≤ (n : Nat) - 1)) && (decide ((0 : Int) ≤ (p.2 : Nat)) && decide (((p.2 : Nat) : Int) ≤ (m : Nat) - 1))) = true
    rw [decide_eq_true (by omega), decide_eq_true (by omega), decide_eq_true (by omega), decide_eq_true (by omega)]; rfl
/-- the two structures of the law may be compared -/
theorem law_comp {n m : Nat} {L1 L2 I J : List Wrl} (o1 : RelsOk n L1) (o2 : RelsOk m L2) (sg : L1.map (·.1) = L2.map (·.1)) (k1 : KeptL L1 I) (k2 : KeptL L2.reverse J) : CompOk I J := fun ps l3 => by
  have eI := k1.signs
  have eJ := k2.signs
  have l1 := o1.l6
  have l2 := o2.l6
  refine ⟨l3, fun z hz => ?_, fun z hz => ?_, ?_, by rw [k2.1, List.length_reverse]; exact l2, by rw [k1.1]; exact l1, fun z hz => ?_⟩
  · obtain ⟨w, hw, e, _⟩ := k1.bwd hz
    rw [e]; exact (o1.all w hw).ar
  · rcases List.mem_append.mp hz with hz | hz
    · obtain ⟨w, _, _, kp⟩ := k1.bwd hz
      exact kp.few
    · obtain ⟨w, _, _, kp⟩ := k2.bwd hz
      exact kp.few
  · have e : (J.map fun z => z.1.1) = (L2.map fun z => z.1.1).reverse := by
      have := congrArg (List.map fun s : Str × Nat => s.1) eJ
      rw [List.map_map, List.map_map] at this
      rw [← List.map_reverse]
      exact this
    rw [e]
    exact nd_rev o2.nd
  · obtain ⟨w, hw, e, _⟩ := k1.bwd hz
    have h1 : w.1 ∈ L2.map (·.1) := by rw [← sg]; exact List.mem_map.mpr ⟨w, hw, rfl⟩
    obtain ⟨y, hy, ey⟩ := List.mem_map.mp h1
    obtain ⟨z', hz', e', _⟩ := k2.fwd (List.mem_reverse.mpr hy)
    exact ⟨z', hz', by rw [e', e]; exact ey⟩
theorem sg_of {n : Nat} {L I : List Wrl} (o : RelsOk n L) (k : KeptL L I) (l : L.length ≤ 5) (f : ∀ s, s ∈ L.map (·.1) → s.1 ∈ five ∧ s.2 ≤ 6) : SgOk (I.map (·.1)) := by
  rw [k.signs]
  refine ⟨by rw [List.length_map]; exact l, ?_, fun p hp => (f p hp).1, fun p hp => (f p hp).2⟩
  rw [List.map_map]
  exact o.nd
theorem rels_rev {n : Nat} {L : List Wrl} (o : RelsOk n L) : RelsOk n L.reverse := by
  refine ⟨o.n1, o.n16, by rw [List.length_reverse]; exact o.l6, ?_, fun z hz => o.all z (List.mem_reverse.mp hz)⟩
  rw [List.map_reverse]
  exact nd_rev o.nd
theorem rels_kept {n : Nat} {L J : List Wrl} (o : RelsOk n L) (k : KeptL L J) : RelsOk n J := by
  refine ⟨o.n1, o.n16, by rw [k.1]; exact o.l6, ?_, fun z hz => ?_⟩
  · have e : (J.map fun z => z.1.1) = L.map fun z => z.1.1 := by
      have := congrArg (List.map fun s : Str × Nat => s.1) k.signs
      rw [List.map_map, List.map_map] at this
      exact this
    rw [e]; exact o.nd
  · obtain ⟨w, hw, e, kp⟩ := k.bwd hz
    have r := o.all w hw
    refine ⟨fun r0 hr0 => ?_, kp.few, by rw [e]; exact r.nm, by rw [e]; exact r.ar, by rw [e]; exact r.pw⟩
    rw [e]
    exact r.rows r0 ((kp.mem r0).mp hr0)
end
/-! ### the law: how long the challenger takes -/
section
open NdefX LamX
variable {P : Program} {w : World} {K : PySem.W.Frag} {mg : Str → Option Value} {base : Heap}
def spLLens (K : PySem.W.Frag) (P : Program) (w : World) : Sp := fun vs H Q _ => ∃ (a r1 r2 : Addr) (n m k : Nat) (ys1 ys2 : List V) (L1 L2 : List Wrl), vs = [.ref a, .int ((k + 1 : Nat) : Int)] ∧ H a = some (.lst [.int (n : Nat), .ref r1, .int (m : Nat), .ref r2]) ∧ H r1 = some (.lst ys1) ∧ RelL K H ys1 L1 ∧ H r2 = some (.lst ys2) ∧ RelL K H ys2 L2 ∧
  L1.map (·.1) = L2.map (·.1) ∧ (L1.map fun z => z.1.1).Nodup ∧ (∀ z, z ∈ L1 → z.1.2 ≤ 2) ∧ L1.length ≤ 6 ∧ k + 1 ≤ 3 ∧ n ≤ 16 ∧ m ≤ 16 ∧ (1 + n * m) ^ (k + 1) ≤ 1000 ∧
  ∀ (H' : Hp) (d : Addr) (f : Pn → Option Nat), Same H H' → H d = none → LenD K P w H' d (posG n m (k + 1)) f → IsLen n m k (fun p => ¬ SoundP (heldOf p) L1 L2) f → Q (.ref d) H'
theorem dnew_i {σ : L2.St} {H : Hp} {Q : VK} (h : ∀ p, H p = none → Q (.ref p) (upd H p (DnO P w p []))) : tDNewN P w σ H Q := h
theorem sc_llens : FnScope ["pair", "k", "positions", "lost", "position", "turn", "new", "at"] ["pair", "k"] (defScope (top 52)) := ⟨rfl, rfl, rfl, by decide +kernel, rfl, by decide +kernel, by decide +kernel⟩
theorem has_llens (D : Def K mg "_law_lengths" ["pair", "k"] (top 52)) (T : Txt mg) (C1 : Has P w K mg base 1 "_law_positions" ["pair", "k"] (spLPosns K)) (C2 : Has P w K mg base 2 "_law_sound" ["pair", "position"] (spLSound K)) (C3 : Has P w K mg base 1 "_law_answered" ["pair", "lost", "position", "at"] (spLAns K P w)) : Has P w K mg base 3 "_law_lengths" ["pair", "k"] (spLLens K P w) := D.has fun f fd F => by
  obtain ⟨f1, fd1, G_law_positions, g_law_positions, k_law_positions, b_law_positions⟩ := C1
  obtain ⟨f2, fd2, G_law_sound, g_law_sound, k_law_sound, b_law_sound⟩ := C2
  obtain ⟨f3, fd3, G_law_answered, g_law_answered, k_law_answered, b_law_answered⟩ := C3
  refine F.ok sc_llens (fun vs H Q E h => ?_) (fun cdv A outer s H vs Q E hr h => ?_)
  · obtain ⟨a, r1, r2, n, m, k, ys1, ys2, L1, L2, rfl, _⟩ := h; rfl
  · obtain ⟨a, r1, r2, n, m, k, ys1, ys2, L1, L2, rfl, ha, h1, d1, h2, d2, sg, ndL, ar, l6, k3, n16, m16, big, q⟩ := h
    have R_law_positions : Room 1 _ := hr.mono (by decide)
    have R_law_sound : Room 2 _ := hr
    have R_law_answered : Room 1 _ := hr.mono (by decide)
    refine ⟨_, PSs.nox (pss_cons (ps_set (i := 2) sc_llens.nd rfl (Or.inl rfl) (pe_call G_law_positions R_law_positions (by rfl) g_law_positions k_law_positions b_law_positions .nil pass0 (pa_cons (pv 0) (pa_cons (pv 1) pa_nil)))) (pss_cons (ps_set (i := 3) sc_llens.nd rfl (Or.inr rfl) pe_dnewN) (pss_cons (ps_for PassesOwn.never rfl (pi_list (pv 2)) (pg_name (i := 4) sc_llens.nd rfl (Or.inr rfl)) (pss_one (ps_if (pt_not (pt_val (pe_call G_law_sound R_law_sound (by rfl) g_law_sound k_law_sound b_law_sound .nil pass0 (pa_cons (pv 0) (pa_cons (pv 4) pa_nil))))) (pss_one (ps_nput (hu9 hr) (pv 3) (pv 4) pe_int rfl)) pss_nil))) (pss_cons (ps_for PassesOwn.never rfl (pi_range2 (by rfl) T.n_range (pa_cons pe_int (pa_cons (pe_op op_add (pe_callB call_len_seq (by rfl) T.n_len PySem.boot_len (pa_cons (pv 2) pa_nil)) pe_int) pa_nil))) (pg_name (i := 5) sc_llens.nd rfl (Or.inl rfl)) (pss_cons (ps_set (i := 6) sc_llens.nd rfl (Or.inl rfl) (pe_lst pa_nil)) (pss_cons (ps_for PassesOwn.never rfl (pi_list (pv 2)) (pg_name (i := 4) sc_llens.nd rfl (Or.inr rfl)) (pss_one (ps_if (pt_cmp (pc_nnotin (hu9 hr) (pv 4) (pv 3))) (pss_one (ps_if (pt_cmpR op_gt (pe_callB call_len_seq (by rfl) T.n_len PySem.boot_len (pa_cons (pe_lc (own := [("at", 7)]) rfl sc_llens.nd (pi_range1 (by rfl) T.n_range (pa_cons (pv 1) pa_nil)) (blkOk_by (N := ["pair", "k", "positions", "lost", "position", "turn", "new", "at"]) (sc := defScope (top 52)) (by decide +kernel)) (fun _ _ _ _ _ => (pg_name (i := 7) sc_llens.nd rfl (Or.inl rfl))) (fun _ _ _ _ _ => (pts_one (pt_not (pt_val (pe_call G_law_answered R_law_answered (by rfl) g_law_answered k_law_answered b_law_answered .nil pass0 (pa_cons (pv 0) (pa_cons (pv 3) (pa_cons (pv 4) (pa_cons (pv 7) pa_nil))))))))) (fun _ _ _ _ _ => (pv 7))) pa_nil)) pe_int (nomark _)) (pss_one (ps_expr (pe_bm PySem.F.plainAttrs_list PySem.F.slot_list_append PySem.F.type_list_append mt_append (pv 6) (pa_cons (pv 4) pa_nil)))) pss_nil)) pss_nil))) (pss_cons (ps_if (pt_cmpR op_eq (pe_callB call_len_seq (by rfl) T.n_len PySem.boot_len (pa_cons (pv 6) pa_nil)) pe_int (nomark _)) (pss_one (ps_ret (pv 3))) pss_nil) (pss_one (ps_for PassesOwn.never rfl (pi_list (pv 6)) (pg_name (i := 4) sc_llens.nd rfl (Or.inr rfl)) (pss_one (ps_nput (hu9 hr) (pv 3) (pv 4) (pv 5) rfl)))))))) (pss_one (ps_ret (pv 3))))))), ?_⟩
    refine ⟨_, rfl, _, rfl, a, r1, r2, n, m, k + 1, rfl, ha, n16, m16, k3, big, fun H1 pA ps s1 npA hpA dps => ?_⟩
    refine gN_i ?_
    dsimp only
    refine sq_i (as_i (dnew_i (P := P) (w := w) fun d nd => ?_))
    refine gN_i ?_
    dsimp only
    have lps := DpAll.length dps
    rw [List.length_map, posG_len] at lps
    have sd := same_upd (o := DnO P w d []) nd
    have hdn : upd H1 d (DnO P w d []) d = some (DnO P w d []) := upd_same
    have ndH : H d = none := Same.none s1 nd
    have hp2 := sd _ _ hpA
    have npd : pA ≠ d := ne_of_none hpA nd
    have dps2 := DpAll.same sd dps
    generalize hH2 : upd H1 d (DnO P w d []) = H2 at hdn hp2 dps2 sd ⊢
    have s12 := s1.trans sd
    have hl2 : LenD K P w H2 d (posG n m (k + 1)) (fun _ => none) := ⟨[], ⟨hdn, fun e he => nomatch he⟩, List.nodup_nil, (fun e he => nomatch he), fun p hp => rfl⟩
    clear hH2 sd dps hpA
    have ha2 := s12 _ _ ha
    have h12 := s12 _ _ h1
    have d12 := d1.same s12
    have h22 := s12 _ _ h2
    have d22 := d2.same s12
    have fin : ∀ {H' : Hp}, Kii d H2 H' → Same H H' := fun k' b o e => k' _ _ (s12 _ _ e) fun z => by rw [z, ndH] at e; cases e
    have nk_at : ∀ {H' : Hp} {i : Nat} {z : V}, Kii d H2 H' → ps[i]? = some z → ∃ (ta : Addr) (p0 : Pn), z = .ref ta ∧ (posG n m (k + 1))[i]? = some p0 ∧ p0 ∈ posG n m (k + 1) ∧ Dp K H' (.ref ta) (tD p0) ∧ NkV K H' (kP p0) (.ref ta) := fun {H' i z} k' hz => by
      obtain ⟨dd, hdd, dpz⟩ := DpAll.get' ((kii_kc k' hdn).dps dps2) hz
      obtain ⟨p0, hp0, rfl⟩ := get_map hdd
      obtain ⟨ta, rfl, nk⟩ := nk_pos dpz
      exact ⟨ta, p0, rfl, hp0, List.mem_of_getElem? hp0, dpz, nk⟩
    have tk1 : ∀ {i : Nat} {p0 : Pn}, (posG n m (k + 1))[i]? = some p0 → ∀ p, p ∈ (posG n m (k + 1)).take (i + 1) ↔ p ∈ (posG n m (k + 1)).take i ∨ p = p0 := fun {i p0} hp0 p => by
      rw [List.take_add_one, hp0, List.mem_append]
      exact or_congr Iff.rfl List.mem_singleton
    refine sq_i ?_
    refine ⟨_, rfl, pA, rfl, ⟨_, SqL.of hp2⟩, for_list (K := K) (a := pA) (xs := ps) (fun i σ H3 => ∃ (y4 : Option V) (g : Pn → Option Nat), σ = [some (.ref a), some (.int ((k + 1 : Nat) : Int)), some (.ref pA), some (.ref d), y4, none, none, none] ∧ Kii d H2 H3 ∧ LenD K P w H3 d (posG n m (k + 1)) g ∧ ∀ p, p ∈ posG n m (k + 1) → ((p ∈ (posG n m (k + 1)).take i ∧ ¬ SoundP (heldOf p) L1 L2) → g p = some 0) ∧ (¬ (p ∈ (posG n m (k + 1)).take i ∧ ¬ SoundP (heldOf p) L1 L2) → g p = none))
      ⟨none, fun _ => none, rfl, fun _ _ e _ => e, hl2, fun p hp => ⟨(fun h => nomatch h.1), fun _ => rfl⟩⟩ (fun i σ H3 _ ⟨_, _, _, k', _⟩ => SqL.of (k' _ _ hp2 npd)) ?_ ?_⟩
    · rintro i z σ H3 hi ⟨y4, g, rfl, k', hl, al⟩
      obtain ⟨ta, p0, rfl, hp0, hp0m, dpz, nk⟩ := nk_at k' hi
      have kc := kii_kc k' hdn
      obtain ⟨pl, _⟩ := posG_mem.mp hp0m
      refine ⟨_, rfl, _, rfl, .ref ta, a, r1, r2, n, m, ys1, ys2, L1, L2, p0, rfl, kc.lst ha2, kc.lst h12, d12.kc kc, kc.lst h22, d22.kc kc, sg, ndL, ar, l6, dpz, by omega, fun H4 b s4 eb => ⟨_, rfl, ?_⟩⟩
      cases b with
      | true =>
        refine iteF ⟨_, g, rfl, fun b o e nb => s4 _ _ (k' _ _ e nb), hl.same s4, fun p hp => ⟨fun h => (al p hp).1 ⟨((tk1 hp0 p).mp h.1).elim id fun e => ?_, h.2⟩, fun h => (al p hp).2 fun z => h ⟨(tk1 hp0 p).mpr (.inl z.1), z.2⟩⟩⟩
        exact absurd (e ▸ eb.mp rfl) h.2
      | false =>
        obtain ⟨kvs, dn, nd', sub, val⟩ := id (hl.same s4)
        have lD := kvs_fit nd' sub
        rw [posG_len] at lD
        have nk4 := NkV.same s4 nk
        refine iteT ⟨_, rfl, _, rfl, d, ta, kvs, kP p0, rfl, rfl, dn, nk4, kP_depth p0, small10000 (by omega), fun H5 e5 _ => ?_⟩
        subst e5
        refine ⟨_, fun q => if q = p0 then some 0 else g q, rfl, fun b o e nb => (upd_ne nb).trans (s4 _ _ (k' _ _ e nb)), LenD.put (r := 0) dn nd' sub val hp0m nk4, fun p hp => ?_⟩
        have nsQ : ¬ SoundP (heldOf p0) L1 L2 := fun z => nomatch eb.mpr z
        by_cases e : p = p0
        · subst e
          exact ⟨fun _ => if_pos rfl, fun h => absurd ⟨(tk1 hp0 p).mpr (.inr rfl), nsQ⟩ h⟩
        · have e1 : (if p = p0 then some 0 else g p) = g p := if_neg e
          exact ⟨fun h => e1.trans ((al p hp).1 ⟨((tk1 hp0 p).mp h.1).elim id fun z => absurd z e, h.2⟩), fun h => e1.trans ((al p hp).2 fun z => h ⟨(tk1 hp0 p).mpr (.inl z.1), z.2⟩)⟩
    · rintro σ H3 ⟨y4, g, rfl, k', hl, al⟩
      rw [lps, show (1 + n * m) ^ (k + 1) = (posG n m (k + 1)).length from (posG_len n m (k + 1)).symm, List.take_length] at al
      have up0 : Upto n m k (fun p => ¬ SoundP (heldOf p) L1 L2) 0 g := upto_zero fun p hp => ⟨fun h => (al p hp).1 ⟨hp, h⟩, fun h => (al p hp).2 fun z => h z.2⟩
      generalize hU : (fun p => ¬ SoundP (heldOf p) L1 L2) = U at up0 q
      clear al
      dsimp only
      refine sq_i ?_
      refine ⟨_, rfl, pA, ps, rfl, .inl (SqL.of (k' _ _ hp2 npd)), _, _, rfl, rfl, 1, ((ps.length : Nat) : Int) + 2, rfl, ⟨by omega, by omega, by omega, by omega⟩, for_it walk_range (fun r σ H4 => ∃ (y4 y5 y6 : Option V) (g : Pn → Option Nat), σ = [some (.ref a), some (.int ((k + 1 : Nat) : Int)), some (.ref pA), some (.ref d), y4, y5, y6, none] ∧ Kii d H2 H4 ∧ LenD K P w H4 d (posG n m (k + 1)) g ∧ Upto n m k U r g ∧ r ≤ (posG n m (k + 1)).countP fun p => (g p).isSome)
        ⟨_, _, _, g, rfl, k', hl, up0, Nat.zero_le _⟩ (fun _ _ _ _ _ => trivial) ?_ ?_⟩
      · rintro r z σ Hx H4 hr4 ⟨y4', y5, y6, g, rfl, k4, hl4, up, cnt⟩ ⟨rfl, rfl⟩
        refine gN_i ?_
        dsimp only
        refine ⟨(by show 0 ≤ sizeLine; exact Nat.zero_le _), fun M nM => ?_⟩
        have sM := same_upd (o := .lst []) nM
        have hM0 := upd_same (H := H4) (a := M) (o := .lst [])
        generalize upd H4 M (.lst []) = H5 at sM hM0 ⊢
        have k5 : Kii d H2 H5 := fun b o e nb => sM _ _ (k4 _ _ e nb)
        have hl5 := hl4.same sM
        have hd4 : ∃ kvs, H4 d = some (DnO P w d kvs) := by
          obtain ⟨kvs, dn, _⟩ := hl4
          exact ⟨kvs, dn.at_⟩
        have nMd : M ≠ d := fun z => by
          obtain ⟨kvs, e⟩ := hd4
          rw [z, e] at nM; cases nM
        have nM2 : ∀ b o, H2 b = some o → b ≠ M := fun b o e z => by
          rw [z] at e
          rw [k4 _ _ e nMd] at nM; cases nM
        refine ⟨_, rfl, pA, rfl, ⟨_, SqL.of (k5 _ _ hp2 npd)⟩, for_list (K := K) (a := pA) (xs := ps) (fun j σ H6 => ∃ (y4 : Option V) (acc : List V) (Nl : List Pn), σ = [some (.ref a), some (.int ((k + 1 : Nat) : Int)), some (.ref pA), some (.ref d), y4, some (.int (1 + (r : Nat))), some (.ref M), none] ∧ Same H4 H6 ∧ H6 M = some (.lst acc) ∧ acc.length ≤ j ∧ DpAll K H6 acc (Nl.map tD) ∧ ∀ p, p ∈ Nl ↔ p ∈ (posG n m (k + 1)).take j ∧ g p = none ∧ newG n m k g p)
          ⟨_, [], [], rfl, sM, hM0, Nat.le_refl _, .nil, fun p => ⟨fun h => (nomatch h), fun h => nomatch h.1⟩⟩ (fun j σ H6 _ ⟨_, _, _, _, s6, _⟩ => SqL.of (s6 _ _ (k4 _ _ hp2 npd))) ?_ ?_⟩
        · rintro j z σ H6 hj ⟨y4'', acc, Nl, rfl, s6, hM, la, dA, iA⟩
          have k6 : Kii d H2 H6 := fun b o e nb => s6 _ _ (k4 _ _ e nb)
          obtain ⟨ta, p0, rfl, hp0, hp0m, dpz, nk⟩ := nk_at k6 hj
          obtain ⟨pl, _⟩ := posG_mem.mp hp0m
          have ljp : j < ps.length := (List.getElem?_eq_some_iff.mp hj).1
          have hl6 := hl4.same s6
          obtain ⟨kvs, dn, nd', sub, val⟩ := id hl6
          refine ⟨_, rfl, _, rfl, d, ta, kvs, kP p0, rfl, rfl, dn, nk, kP_depth p0, _, rfl, ?_⟩
          rw [val _ hp0m, Option.isSome_map]
          cases e : g p0 with
          | some x =>
            refine iteF ⟨_, acc, Nl, rfl, s6, hM, by omega, dA, fun p => (iA p).trans ⟨fun h => ⟨(tk1 hp0 p).mpr (.inl h.1), h.2⟩, fun h => ⟨((tk1 hp0 p).mp h.1).elim id fun z => ?_, h.2⟩⟩⟩
            have := h.2.1
            rw [z, e] at this; cases this
          | none =>
            refine iteT ⟨_, rfl, k + 1, rfl, by omega, by omega, fun N nN => ?_⟩
            refine lc_it walk_range (fun x H7 => ∃ ac2 : List V, Same H6 H7 ∧ H7 N = some (.lst ac2) ∧ ac2.length ≤ x ∧ (ac2.length = 0 ↔ ∀ x', x' < x → ¬ winG n m (fun q => g q ≠ none) (delG p0 x') x')) ⟨[], same_upd nN, upd_same, Nat.le_refl _, ⟨fun _ x' hx => absurd hx (Nat.not_lt_zero _), fun _ => rfl⟩⟩ (fun _ _ _ _ => trivial) ?_ ?_
            · rintro x z H7 H8 hx ⟨ac2, s7, hN, la2, iA2⟩ ⟨rfl, rfl⟩
              have kc8 : Kc H2 H8 := (kii_kc k6 hdn).trans (Kc.of s7)
              refine ⟨rfl, _, rfl, _, rfl, _, rfl, _, rfl, a, r1, r2, d, ta, n, m, k, x, p0, g, by rw [← Int.zero_add ((x : Nat) : Int)]; rfl, kc8.lst ha2, hl6.same s7, NkV.same s7 nk, hp0m, hx, k3, n16, m16, fun H9 b s9 eb => ⟨_, rfl, ?_⟩⟩
              cases b with
              | true =>
                refine iteF ⟨ac2, s7.trans s9, s9 _ _ hN, by omega, iA2.trans ⟨fun h x' hx' => ?_, fun h x' hx' => h x' (by omega)⟩⟩
                by_cases ex : x' = x
                · subst ex; exact eb.mp rfl
                · exact h x' (by omega)
              | false =>
                refine iteT ⟨_, rfl, ac2, s9 _ _ hN, small1000 (by omega), _, fun b' o eb' => (upd_ne (ne_of_none eb' nN)).trans (s9 _ _ (s7 _ _ eb')), upd_same, by rw [List.length_append]; exact Nat.add_le_add la2 (Nat.le_refl 1), ⟨fun z => by rw [List.length_append] at z; simp at z, fun h => nomatch eb.mpr (h x (Nat.lt_succ_self _))⟩⟩
            · rintro H7 ⟨ac2, s7, hN, la2, iA2⟩
              have k1' : (((k + 1 : Nat) : Int)).toNat = k + 1 := by omega
              have iA2 : ac2.length = 0 ↔ ∀ x', x' < k + 1 → ¬ winG n m (fun q => g q ≠ none) (delG p0 x') x' := iA2
              have s67 := s6.trans s7
              refine ⟨N, ac2, rfl, .inl (SqL.of hN), _, _, rfl, rfl, _, rfl, ?_⟩
              by_cases e2 : ac2.length = 0
              · refine cF (k := decide ((0 : Int) < (ac2.length : Nat))) (decide_eq_false (by omega)) ?_
                refine ⟨_, acc, Nl, rfl, s67, s7 _ _ hM, by omega, DpAll.same s7 dA, fun p => (iA p).trans ⟨fun h => ⟨(tk1 hp0 p).mpr (.inl h.1), h.2⟩, fun h => ⟨((tk1 hp0 p).mp h.1).elim id fun z => ?_, h.2⟩⟩⟩
                obtain ⟨x', hx', hw⟩ := h.2.2
                rw [z] at hw
                exact absurd hw (iA2.mp e2 x' hx')
              · refine cT (k := decide ((0 : Int) < (ac2.length : Nat))) (decide_eq_true (by omega)) ?_
                have nw : newG n m k g p0 := Classical.byContradiction fun no => e2 (iA2.mpr fun x' hx' hw => no ⟨x', hx', hw⟩)
                have hM7 := s7 _ _ hM
                refine ⟨_, rfl, .inl ⟨rfl, _, SqL.of hM7⟩, _, rfl, M, acc, _, rfl, rfl, hM7, small10000 (by omega), _, acc ++ [.ref ta], Nl ++ [p0], rfl, fun b o eb => (upd_ne fun z => by rw [z, nM] at eb; cases eb).trans (s67 _ _ eb), upd_same, by rw [List.length_append]; exact Nat.add_le_add la (Nat.le_refl 1), ?_, fun p => ?_⟩
                · rw [List.map_append]
                  refine DpAll.kl (Kl.upd hM7) (DpAll.append (DpAll.same s7 dA) (.cons (Dp.same s7 dpz) .nil)) ?_
                  rw [← List.map_append (f := tD) (l₁ := Nl) (l₂ := [p0])]; exact tDs_noL _
                · rw [List.mem_append, List.mem_singleton, iA p]
                  refine ⟨fun h => h.elim (fun h => ⟨(tk1 hp0 p).mpr (.inl h.1), h.2⟩) fun h => ⟨(tk1 hp0 p).mpr (.inr h), by rw [h]; exact e, by rw [h]; exact nw⟩, fun h => ((tk1 hp0 p).mp h.1).elim (fun z => .inl ⟨z, h.2⟩) .inr⟩
        · rintro σ H6 ⟨y4'', acc, Nl, rfl, s6, hM, la, dA, iA⟩
          rw [lps, show (1 + n * m) ^ (k + 1) = (posG n m (k + 1)).length from (posG_len n m (k + 1)).symm, List.take_length] at iA
          have k6 : Kii d H2 H6 := fun b o e nb => s6 _ _ (k4 _ _ e nb)
          have hl6 := hl4.same s6
          have lNl := DpAll.length dA
          rw [List.length_map] at lNl
          dsimp only
          refine ⟨_, rfl, M, acc, rfl, .inl (SqL.of hM), rfl, _, rfl, ?_⟩
          by_cases e2 : acc.length = 0
          · refine cT (k := decide (V.int (acc.length : Nat) = V.int 0)) (decide_eq_true (by rw [e2]; rfl)) ?_
            have Nn : Nl = [] := List.length_eq_zero_iff.mp (by omega)
            exact ⟨_, rfl, q H6 d g (fin k6) ndH hl6 (upto_end up fun p hp e nw => by
              have := (iA p).mpr ⟨hp, e, nw⟩
              rw [Nn] at this; cases this)⟩
          · refine cF (k := decide (V.int (acc.length : Nat) = V.int 0)) (decide_eq_false fun z => e2 (by injection z with z; omega)) ?_
            have k6d : ∃ kvs, H6 d = some (DnO P w d kvs) := by
              obtain ⟨kvs, dn, _⟩ := id hl6
              exact ⟨kvs, dn.at_⟩
            obtain ⟨kv6, hd6⟩ := k6d
            refine ⟨_, rfl, M, rfl, ⟨_, SqL.of hM⟩, for_list (K := K) (a := M) (xs := acc) (fun j σ H7 => ∃ (y4 : Option V) (g' : Pn → Option Nat), σ = [some (.ref a), some (.int ((k + 1 : Nat) : Int)), some (.ref pA), some (.ref d), y4, some (.int (1 + (r : Nat))), some (.ref M), none] ∧ Kii d H6 H7 ∧ LenD K P w H7 d (posG n m (k + 1)) g' ∧ Filled n m k (r + 1) g g' (fun p => p ∈ Nl.take j))
              ⟨_, g, rfl, fun _ _ e _ => e, hl6, fun p hp => ⟨fun _ => rfl, (fun _ h => nomatch h), fun e _ => e⟩⟩ (fun j σ H7 _ ⟨_, _, _, k7, _⟩ => SqL.of (k7 _ _ hM nMd)) ?_ ?_⟩
            · rintro j z σ H7 hj ⟨y4', g', rfl, k7, hl7, fg⟩
              have kc7 : Kc H6 H7 := kii_kc k7 hd6
              obtain ⟨dd, hdd, dpz⟩ := DpAll.get' (kc7.dps dA) hj
              obtain ⟨p0, hp0, rfl⟩ := get_map hdd
              obtain ⟨ta, rfl, nk⟩ := nk_pos dpz
              obtain ⟨hp0m, gn, _⟩ := (iA p0).mp (List.mem_of_getElem? hp0)
              obtain ⟨kvs, dn, nd', sub, val⟩ := id hl7
              have lD := kvs_fit nd' sub
              rw [posG_len] at lD
              have er : (V.int (1 + (r : Nat))) = V.int ((r + 1 : Nat) : Int) := congrArg V.int (by omega)
              refine ⟨_, rfl, _, rfl, _, rfl, d, ta, kvs, kP p0, rfl, rfl, dn, nk, kP_depth p0, small10000 (by omega), fun H8 e8 _ => ?_⟩
              rw [er] at e8
              subst e8
              refine ⟨_, fun q => if q = p0 then some (r + 1) else g' q, rfl, fun b o e nb => (upd_ne nb).trans (k7 _ _ e nb), LenD.put (r := r + 1) dn nd' sub val hp0m nk, fun p hp => ?_⟩
              obtain ⟨a1, a2, a3⟩ := fg p hp
              by_cases e : p = p0
              · subst e
                exact ⟨fun h => absurd gn h, fun _ _ => if_pos rfl, fun _ h => absurd (by rw [List.take_add_one, hp0]; exact List.mem_append_right _ (List.mem_singleton.mpr rfl)) h⟩
              · have e1 : (if p = p0 then some (r + 1) else g' p) = g' p := if_neg e
                have tkN : p ∈ Nl.take (j + 1) ↔ p ∈ Nl.take j := by
                  rw [List.take_add_one, hp0, List.mem_append]
                  exact ⟨fun h => h.elim id fun z => absurd (List.mem_singleton.mp z) e, .inl⟩
                exact ⟨fun h => e1.trans (a1 h), fun h t => e1.trans (a2 h (tkN.mp t)), fun h t => e1.trans (a3 h fun z => t (tkN.mpr z))⟩
            · rintro σ H7 ⟨y4', g', rfl, k7, hl7, fg⟩
              rw [lNl, List.take_length] at fg
              have up2 : Upto n m k U (r + 1) g' := upto_next up fun p hp => by
                obtain ⟨a1, a2, a3⟩ := fg p hp
                exact ⟨a1, fun e nw => a2 e ((iA p).mpr ⟨hp, e, nw⟩), fun e nn => a3 e fun h => nn ((iA p).mp h).2.2⟩
              refine ⟨_, _, _, g', rfl, fun b o e nb => k7 _ _ (k6 _ _ e nb) nb, hl7, up2, Nat.lt_of_le_of_lt cnt (countP_lt (fun p hp e => ?_) ?_)⟩
              · have h1 : g p ≠ none := fun z => by rw [z] at e; cases e
                rw [(fg p hp).1 h1]; exact e
              · have ne : Nl ≠ [] := fun z => e2 (by rw [lNl, z]; rfl)
                obtain ⟨p, hp⟩ := List.exists_mem_of_ne_nil _ ne
                obtain ⟨h1, h2, h3⟩ := (iA p).mp hp
                exact ⟨p, h1, by rw [h2]; rfl, by rw [(fg p h1).2.1 h2 hp]; rfl⟩
      · rintro σ H4 ⟨y4', y5, y6, g, rfl, k4, hl4, up, cnt⟩
        exfalso
        have h1 := List.countP_le_length (p := fun p : Pn => (g p).isSome) (l := posG n m (k + 1))
        rw [posG_len] at h1
        omega
end
/-! ### the law: how many pebbles -/
section
open NdefX LamX
variable {P : Program} {w : World} {K : PySem.W.Frag} {mg : Str → Option Value} {base : Heap}
def spLPeb (K : PySem.W.Frag) : Sp := fun vs H Q _ => ∃ (d l a r1 r2 : Addr) (n m : Nat), vs = [.ref d, .ref a] ∧ DrA H d l ∧ a ≠ d ∧ H a = some (.lst [.int (n : Nat), .ref r1, .int (m : Nat), .ref r2]) ∧ n ≤ 3 ∧ m ≤ 3 ∧
  ∀ (H' : Hp) (k : Nat), DrA H' d l → Kp d H H' → k < 3 → Q (.int ((k + 1 : Nat) : Int)) H'
theorem sc_lpeb : FnScope ["draws", "pair", "k", "power_v", "j"] ["draws", "pair"] (defScope (top 48)) := ⟨rfl, rfl, rfl, by decide +kernel, rfl, by decide +kernel, by decide +kernel⟩
theorem has_lpeb (D : Def K mg "_law_pebbles" ["draws", "pair"] (top 48)) (T : Txt mg) (C1 : Has P w K mg base 2 "_law_draw" ["draws"] spDraw) : Has P w K mg base 3 "_law_pebbles" ["draws", "pair"] (spLPeb K) := D.has fun f fd F => by
  obtain ⟨f1, fd1, G_law_draw, g_law_draw, k_law_draw, b_law_draw⟩ := C1
  refine F.ok sc_lpeb (fun vs H Q E h => ?_) (fun cdv A outer s H vs Q E hr h => ?_)
  · obtain ⟨d, l, a, r1, r2, n, m, rfl, _⟩ := h; rfl
  · obtain ⟨d, l, a, r1, r2, n, m, rfl, dr, nad, ha, n3, m3, q⟩ := h
    have R_law_draw : Room 2 _ := hr
    refine ⟨_, PSs.nox (pss_cons (ps_for PassesOwn.never rfl (pi_list (pe_lst (pa_cons pe_int (pa_cons pe_int (pa_cons pe_int pa_nil))))) (pg_name (i := 2) sc_lpeb.nd rfl (Or.inl rfl)) (pss_cons (ps_set (i := 3) sc_lpeb.nd rfl (Or.inl rfl) pe_int) (pss_cons (ps_for PassesOwn.never rfl (pi_range1 (by rfl) T.n_range (pa_cons (pv 2) pa_nil)) (pg_name (i := 4) sc_lpeb.nd rfl (Or.inl rfl)) (pss_one (ps_set (i := 3) sc_lpeb.nd rfl (Or.inl rfl) (pe_op op_mul (pv 3) (pe_op op_add pe_int (pe_op op_mul (pe_ix ix_list (pv 1) pe_int (fun _ _ => rfl)) (pe_ix ix_list (pv 1) pe_int (fun _ _ => rfl)))))))) (pss_one (ps_if (PW.pt (pw_and (pt_cmpR op_le (pv 3) pe_int (nomark _)) (pw_and1 (pt_cmpR op_gt (pe_op op_mod (pe_call G_law_draw R_law_draw (by rfl) g_law_draw k_law_draw b_law_draw .nil pass0 (pa_cons (pv 0) pa_nil)) pe_int) pe_int (nomark _))))) (pss_one (ps_ret (pv 2))) pss_nil))))) (pss_one (ps_ret pe_int))), ?_⟩
    refine sq_i ?_
    refine ⟨(by show 3 ≤ sizeLine; decide), fun c nc => ?_⟩
    have sc := same_upd (o := .lst [V.int 3, .int 2, .int 1]) nc
    have hc := upd_same (H := H) (a := c) (o := .lst [V.int 3, .int 2, .int 1])
    have dr1 := dr.same sc
    have ncd : c ≠ d := (dr.ne nc).1
    have ha1 := sc _ _ ha
    generalize upd H c (.lst [V.int 3, .int 2, .int 1]) = H1 at sc hc dr1 ha1 ⊢
    have kH1 : Kp d H H1 := .of sc
    refine ⟨c, rfl, ⟨_, SqL.of hc⟩, for_list (K := K) (a := c) (xs := [V.int 3, .int 2, .int 1]) (fun i σ H2 => ∃ (y2 y3 y4 : Option V), σ = [some (.ref d), some (.ref a), y2, y3, y4] ∧ DrA H2 d l ∧ Kp d H1 H2) ⟨none, none, none, rfl, dr1, .of (.refl _)⟩ (fun i σ H2 _ ⟨_, _, _, _, _, k2⟩ => SqL.of (k2 _ _ hc ncd)) ?_ ?_⟩
    · rintro i z σ H2 hi ⟨y2, y3, y4, rfl, dr2, k2⟩
      obtain ⟨kk, rfl, lkk⟩ : ∃ kk : Nat, z = .int ((kk + 1 : Nat) : Int) ∧ kk < 3 := by
        match i, hi with
        | 0, hi => exact ⟨2, (Option.some.inj hi).symm, by decide⟩
        | 1, hi => exact ⟨1, (Option.some.inj hi).symm, by decide⟩
        | 2, hi => exact ⟨0, (Option.some.inj hi).symm, by decide⟩
      have ha2 := k2 _ _ ha1 nad
      refine gN_i ?_
      dsimp only
      refine sq_i (as_i ?_)
      refine gN_i ?_
      dsimp only
      refine sq_i ?_
      refine ⟨_, rfl, kk + 1, rfl, by omega, by omega, for_it walk_range (fun j σ H3 => ∃ (y4 : Option V) (z : Int), σ = [some (.ref d), some (.ref a), some (.int ((kk + 1 : Nat) : Int)), some (.int z), y4] ∧ H3 = H2) ⟨_, 1, rfl, rfl⟩ (fun _ _ _ _ _ => trivial) ?_ ?_⟩
      · rintro j y σ Hx H3 hj ⟨y4', z, rfl, rfl⟩ ⟨rfl, rfl⟩
        refine gN_i ?_
        dsimp only
        have nm : (n : Int) * m ≤ 3 * 3 := Int.mul_le_mul (by omega) (by omega) (by omega) (by omega)
        have nm0 : 0 ≤ (n : Int) * m := Int.mul_nonneg (by omega) (by omega)
        exact ⟨_, rfl, _, rfl, a, _, 0, _, rfl, rfl, SqL.of ha2, rfl, _, rfl, a, _, 2, _, rfl, rfl, SqL.of ha2, rfl, n, m, rfl, rfl, .inl ⟨by omega, by omega⟩, 1, (n : Int) * m, rfl, rfl, z, 1 + (n : Int) * m, rfl, rfl, .inr ⟨by omega, by omega⟩, _, _, rfl, rfl⟩
      · rintro σ H3 ⟨y4', z, rfl, rfl⟩
        dsimp only
        refine ⟨_, rfl, z, 130, rfl, rfl, _, rfl, ?_⟩
        by_cases c1 : z ≤ 130
        · refine cT (k := decide (z ≤ 130)) (decide_eq_true c1) ?_
          refine ⟨_, rfl, d, l, rfl, dr2, fun x H4 _ _ dr4 k4 => ⟨x, 3, rfl, rfl, (by show (0 : Int) < 3; decide), x % 3, 0, rfl, rfl, _, rfl, ?_⟩⟩
          by_cases c2 : 0 < x % 3
          · refine cT (k := decide (0 < x % 3)) (decide_eq_true c2) ?_
            exact ⟨_, rfl, q H4 kk dr4 (kH1.trans (k2.trans k4)) lkk⟩
          · refine cF (k := decide (0 < x % 3)) (decide_eq_false c2) ?_
            exact ⟨_, _, _, rfl, dr4, k2.trans k4⟩
        · refine cF (k := decide (z ≤ 130)) (decide_eq_false c1) ?_
          exact ⟨_, _, _, rfl, dr2, k2⟩
    · rintro σ H2 ⟨y2, y3, y4, rfl, dr2, k2⟩
      exact q H2 0 dr2 (kH1.trans k2) (by decide)
end
/-! ### (x,) * k, for k = 1 too -/
section
theorem tuple_mulS (l : Addr) (items : Array Value) (n : Nat) (dd : Option Addr) (sl : Array (Option Value)) (x : Int) (u : Tok) (c0 : (decide (x < -(2 ^ 63)) || decide (x ≥ 2 ^ 63)) = false) (c1 : (items.isEmpty || x == 1) = true) :
    Meets (PySem.Builtin.«tuple.__mul__» ⟨[.ref l, .int x u], []⟩) (fun _ R s => s.heap.get? l = some { cls := .type "tuple", dict := dd, data := .seq items n, slots := sl } ∧ R (.ok (.ret (.ref l))) s) :=
  .of_wp fun prog w A R s h => by
    obtain ⟨hp, g, d, tk, os⟩ := s
    obtain ⟨hl, h⟩ := h
    have f1 := AutoSeq1.idx_int
    wp_walk using wpAny_loadPart' hl
    repeat (first
      | (refine wpAny_ite_false (decide_eq_false (by rw [c0]; exact Bool.false_ne_true)) ?_; wp_walk using wpAny_loadPart' hl)
      | (refine wpAny_ite_true (decide_eq_true c1) ?_; wp_walk using wpAny_loadPart' hl))
    exact ⟨_, rfl, h⟩
def rRepV (K : PySem.W.Frag) : R2 := fun x y H Q => (∃ l xs, x = .ref l ∧ y = .int 1 ∧ SqT K H l xs ∧ xs ≠ [] ∧ Q (.ref l) H) ∨ rRepT K x y H Q
theorem op_repV {X : Cx} : OpR X (binaryOp .Mult) (rRepV X.K) := by
  intro pins s σ H x y v u Q I rx ry h
  rcases h with h | h
  · obtain ⟨l, xs, rfl, rfl, hT, hne, q⟩ := h
    cases rx
    obtain ⟨t, rfl⟩ := ry
    obtain ⟨its, r, ⟨⟨cls, dd, data, sl⟩, ho, hc, n, hd⟩, hs⟩ := I.tuple hT
    simp only at hc hd
    subst hc hd
    have c1 : (its.toArray.isEmpty || (1 : Int) == 1) = true := by simp
    refine wpAny_binaryOp_repeat_ref (T := "tuple") (U := "int") (by decide) ⟨_, ho, rfl⟩ (fun s' => typeIs_int s' 1 t) noFill_tuple_mul F.fills_int_mul F.slot_int_rmul repeat_tuple F.slot_int_index.lookup
      (PySem.call_meets F.slot_int_rmul (typeIs_int s 1 t) F.entry_int_rmul (F.args_int_rmul_2 _ _) (int_rmul_tuple 1 t l its.toArray n dd sl)
        ⟨ho, rfl, ⟨_, ho, rfl⟩, PySem.call_meets F.slot_tuple_mul ⟨_, ho, rfl⟩ F.entry_tuple_mul (F.args_tuple_mul_2 _ _) (tuple_mulS l its.toArray n dd sl 1 t rfl c1) ⟨ho, ?_⟩⟩)
    exact ⟨.ref l, H, I, rfl, q⟩
  · exact op_repT pins s σ H x y v u Q I rx ry h
/-- (None,) * k -/
theorem rep_none {K : PySem.W.Frag} {H : Hp} {l : Addr} {k : Nat} {Q : VK} (hT : SqT K H l [V.non]) (k3 : k + 1 ≤ 3) (q : ∀ (H' : Hp) (r : Addr), Same H H' → SqT K H' r (List.replicate (k + 1) V.non) → Q (.ref r) H') : rRepV K (.ref l) (.int ((k + 1 : Nat) : Int)) H Q := by
  by_cases e : k = 0
  · subst e
    exact .inl ⟨l, _, rfl, rfl, hT, by simp, q H l (.refl H) hT⟩
  · refine .inr ⟨l, _, _, rfl, rfl, hT, by simp, by omega, by omega, by simp, fun p np => q _ p (same_upd np) (SqT.of ?_)⟩
    rw [upd_same]
    have e2 : (List.replicate (((k + 1 : Nat) : Int)).toNat [V.non]).flatten = List.replicate (k + 1) V.non := by
      rw [Int.toNat_natCast]
      generalize k + 1 = j
      induction j with
      | zero => rfl
      | succ j ih => rw [List.replicate_succ, List.flatten_cons, ih]; rfl
    rw [e2]
end
/-! ### the law -/
section
open NdefX LamX
variable {P : Program} {w : World} {K : PySem.W.Frag} {mg : Str → Option Value} {base : Heap}
def spLaw (K : PySem.W.Frag) : Sp := fun vs H Q _ => ∃ (a : Addr) (ns : List Int), vs = [.ref a] ∧ SqL K H a (ns.map V.int) ∧ ns.length ≤ 63 ∧ TabsN (nowT K) H ∧ ∀ H' : Hp, Q (.bl true) H'
theorem nd_of_map {α β : Type} {l : List α} {f : α → β} (h : (l.map f).Nodup) : l.Nodup := List.Pairwise.of_map f (fun a b hab e => hab (congrArg f e)) h
theorem nodup_in3 {l : List (Str × Nat)} (nd : l.Nodup) (h : ∀ s, s ∈ l → s ∈ three) : l.length ≤ 3 := sub_len l three nd h
theorem en_wo {d : Addr} {H H' : Hp} (k : ExtN H H') : ExtN (wo d H) (wo d H') := fun b o e n => by
  by_cases h : b = d
  · rw [show wo d H b = none from if_pos h] at e; cases e
  · rw [wo_ne h] at e ⊢
    exact k b o e n
theorem en_same {H H' : Hp} (k : Same H H') : ExtN H H' := fun b o e _ => k b o e
theorem kl_wo {d l : Addr} {H : Hp} (r : DrA H d l) : Kl H (wo d H) := fun b o e n => by
  obtain ⟨i, ms, h1, _⟩ := r
  rw [wo_ne fun z => by rw [z, h1] at e; exact n _ (Option.some.inj e).symm]
  exact e
structure LX (K : PySem.W.Frag) (P : Program) (w : World) (H : Hp) (d pA ld : Addr) (n m k : Nat) (ps : List V) (g : Pn → Option Nat) : Prop where
  hp : wo d H pA = some (.lst ps)
  dp : DpAll K (wo d H) ps ((posG n m (k + 1)).map tD)
  hl : LenD K P w (wo d H) ld (posG n m (k + 1)) g
theorem LX.en {H H' : Hp} {d pA ld : Addr} {n m k : Nat} {ps : List V} {g : Pn → Option Nat} (s : LX K P w H d pA ld n m k ps g) (x : ExtN (wo d H) (wo d H')) : LX K P w H' d pA ld n m k ps g := by
  refine ⟨x _ _ s.hp (fun _ z => nomatch z), (Kc.tn x).dps s.dp, ?_⟩
  obtain ⟨kvs, h1, h2⟩ := s.hl
  exact ⟨kvs, h1.keep ((x _ _ h1.at_ (fun _ z => by unfold DnO at z; cases z)).trans h1.at_.symm) fun a xs e => (Kc.tn x).sqT e, h2⟩
theorem sc_law : FnScope ["script", "draws", "pair", "both", "k", "lost", "positions", "turn", "position"] ["script"] (defScope (top 55)) := ⟨rfl, rfl, rfl, by decide +kernel, rfl, by decide +kernel, by decide +kernel⟩
theorem ok_law {f : Addr} {fd : FuncData} (F : FnP K "law" (top 55) f fd) (T : Txt mg) (SC : StC K) (C1 : Has P w K mg base 2 "_law_numbers" ["script"] (spNumbers K)) (C2 : Has P w K mg base 2 "_law_draw" ["draws"] spDraw) (C3 : Has P w K mg base 4 "_law_pair" ["draws"] (spLPair K)) (C4 : Has P w K mg base 8 "_law_structures" ["pair"] (spLStr K)) (C5 : Has P w K mg base 3 "_law_pebbles" ["draws", "pair"] (spLPeb K))
    (C6 : Has P w K mg base 3 "_law_lengths" ["pair", "k"] (spLLens K P w)) (C7 : Has P w K mg base 1 "_law_positions" ["pair", "k"] (spLPosns K)) (C8' : Has P w K mg base 1 "_law_equal" ["actual", "due"] spEqual) (C9 : Has P w K mg base 6 "length" ["first", "second", "position"] (spLength K)) : FnOk P w K mg base CX0 9 f fd ["script"] (spLaw K) := by
  obtain ⟨f1, fd1, G_law_numbers, g_law_numbers, k_law_numbers, b_law_numbers⟩ := C1
  obtain ⟨f2, fd2, G_law_draw, g_law_draw, k_law_draw, b_law_draw⟩ := C2
  obtain ⟨f3, fd3, G_law_pair, g_law_pair, k_law_pair, b_law_pair⟩ := C3
  obtain ⟨f4, fd4, G_law_structures, g_law_structures, k_law_structures, b_law_structures⟩ := C4
  obtain ⟨f5, fd5, G_law_pebbles, g_law_pebbles, k_law_pebbles, b_law_pebbles⟩ := C5
  obtain ⟨f6, fd6, G_law_lengths, g_law_lengths, k_law_lengths, b_law_lengths⟩ := C6
  obtain ⟨f7, fd7, G_law_positions, g_law_positions, k_law_positions, b_law_positions⟩ := C7
  obtain ⟨f8, fd8, G_law_equal, g_law_equal, k_law_equal, b_law_equal⟩ := C8'
  obtain ⟨f9, fd9, G_length, g_length, k_length, b_length⟩ := C9
  refine F.ok sc_law (fun vs H Q E h => ?_) (fun cdv A outer s H vs Q E hr h => ?_)
  · obtain ⟨a, ns, rfl, _⟩ := h; rfl
  · obtain ⟨a, ns, rfl, hS, hlen, hT, q⟩ := h
    have R_law_numbers : Room 2 _ := hr.mono (by decide)
    have R_law_draw : Room 2 _ := hr.mono (by decide)
    have R_law_pair : Room 4 _ := hr.mono (by decide)
    have R_law_structures : Room 8 _ := hr
    have R_law_pebbles : Room 3 _ := hr.mono (by decide)
    have R_law_lengths : Room 3 _ := hr.mono (by decide)
    have R_law_positions : Room 1 _ := hr.mono (by decide)
    have R_law_equal : Room 1 _ := hr.mono (by decide)
    have R_length : Room 6 _ := hr.mono (by decide)
    refine ⟨_, PSs.nox (pss_cons (ps_set (i := 1) sc_law.nd rfl (Or.inl rfl) (pe_lst (pa_cons (pe_call G_law_numbers R_law_numbers (by rfl) g_law_numbers k_law_numbers b_law_numbers .nil pass0 (pa_cons (pv 0) pa_nil)) (pa_cons pe_int pa_nil)))) (pss_cons (ps_set (i := 2) sc_law.nd rfl (Or.inl rfl) (pe_call G_law_pair R_law_pair (by rfl) g_law_pair k_law_pair b_law_pair .nil pass0 (pa_cons (pv 1) pa_nil))) (pss_cons (ps_set (i := 3) sc_law.nd rfl (Or.inl rfl) (pe_call G_law_structures R_law_structures (by rfl) g_law_structures k_law_structures b_law_structures .nil pass0 (pa_cons (pv 2) pa_nil))) (pss_cons (ps_set (i := 4) sc_law.nd rfl (Or.inl rfl) (pe_call G_law_pebbles R_law_pebbles (by rfl) g_law_pebbles k_law_pebbles b_law_pebbles .nil pass0 (pa_cons (pv 1) (pa_cons (pv 2) pa_nil)))) (pss_cons (ps_set (i := 5) sc_law.nd rfl (Or.inl rfl) (pe_call G_law_lengths R_law_lengths (by rfl) g_law_lengths k_law_lengths b_law_lengths .nil pass0 (pa_cons (pv 2) (pa_cons (pv 4) pa_nil)))) (pss_cons (ps_set (i := 6) sc_law.nd rfl (Or.inl rfl) (pe_call G_law_positions R_law_positions (by rfl) g_law_positions k_law_positions b_law_positions .nil pass0 (pa_cons (pv 2) (pa_cons (pv 4) pa_nil)))) (pss_cons (ps_for PassesOwn.never rfl (pi_range1 (by rfl) T.n_range (pa_cons pe_int pa_nil)) (pg_name (i := 7) sc_law.nd rfl (Or.inl rfl)) (pss_cons (ps_set (i := 8) sc_law.nd rfl (Or.inl rfl) (pe_ix ix_list (pv 6) (pe_op op_mod (pe_call G_law_draw R_law_draw (by rfl) g_law_draw k_law_draw b_law_draw .nil pass0 (pa_cons (pv 1) pa_nil)) (pe_callB call_len_seq (by rfl) T.n_len PySem.boot_len (pa_cons (pv 6) pa_nil))) (fun _ _ => rfl))) (pss_cons (ps_if (pt_cmpR op_eq (pv 7) pe_int (nomark _)) (pss_one (ps_set (i := 8) sc_law.nd rfl (Or.inl rfl) (pe_op op_repV (pe_tup (pa_cons pe_non pa_nil)) (pv 4)))) pss_nil) (pss_one (ps_if (pt_not (pt_val (pe_call G_law_equal R_law_equal (by rfl) g_law_equal k_law_equal b_law_equal .nil pass0 (pa_cons (pe_call G_length R_length (by rfl) g_length k_length b_length .nil pass0 (pa_cons (pe_ix ix_list (pv 3) pe_int (fun _ _ => rfl)) (pa_cons (pe_ix ix_list (pv 3) pe_int (fun _ _ => rfl)) (pa_cons (pv 8) pa_nil)))) (pa_cons (pe_nget2 (hu9 hr) (pv 5) (pv 8) pe_non ⟨rfl, rfl, rfl, rfl⟩) pa_nil))))) (pss_one (ps_ret pe_bl)) pss_nil))))) (pss_one (ps_ret pe_bl))))))))), ?_⟩
    refine ⟨_, rfl, a, ns, rfl, hS, hlen, fun H1 p0 ms s1 np hp sm => ⟨(by show 2 ≤ sizeLine; decide), fun d nd => ?_⟩⟩
    have dr0 : DrA (upd H1 d (.lst [.ref p0, .int 0])) d p0 := ⟨0, ms, upd_same, by rw [upd_ne (ne_of_none hp nd)]; exact hp, sm⟩
    have tb0 : TabsN (nowT K) (upd H1 d (.lst [.ref p0, .int 0])) := hT.ext (s1.trans (same_upd nd))
    have hd0 := upd_same (H := H1) (a := d) (o := .lst [.ref p0, .int 0])
    revert dr0 tb0 hd0
    generalize upd H1 d (.lst [.ref p0, .int 0]) = H2
    intro dr0 tb0 hd0
    refine ⟨_, rfl, d, p0, rfl, dr0, fun H3 a1 r1 r2 n m ys1 ys2 L1 L2 dr3 k3 na nr1 nr2 ha h1 d1 h2 d2 n3 m3 o1 o2 sg sm3 => ?_⟩
    refine ⟨_, rfl, a1, r1, r2, n, m, ys1, ys2, L1, L2, rfl, ha, h1, d1, h2, d2, o1, rels_rev o2, fun H4 bp u v I J s4 nbp hbp su sv kI kJ => ?_⟩
    have dr4 := dr3.same s4
    have nbd : bp ≠ d := (dr3.ne nbp).1
    have st4 : LSt K H4 d p0 a1 r1 r2 bp u v n m ys1 ys2 L1 L2 I J := ⟨dr4, tabs_kp tb0 (k3.trans (.of s4)) hd0, wo_at na (s4 _ _ ha), wo_at nr1 (s4 _ _ h1), RelL.wod dr4 (d1.same s4), wo_at nr2 (s4 _ _ h2), RelL.wod dr4 (d2.same s4), wo_at nbd hbp, su.wod dr4, sv.wod dr4⟩
    have five3 : ∀ s, s ∈ three → s.1 ∈ five ∧ s.2 ≤ 2 := by decide
    have l13 : L1.length ≤ 3 := by
      have h1 := nodup_in3 (l := L1.map (·.1)) (nd_of_map (f := fun s : Str × Nat => s.1) (by rw [List.map_map]; exact o1.nd)) sm3
      rwa [List.length_map] at h1
    have l23 : L2.length ≤ 3 := by
      have := congrArg List.length sg
      rw [List.length_map, List.length_map] at this
      omega
    have sm3' : ∀ s, s ∈ L2.reverse.map (·.1) → s ∈ three := fun s hs => sm3 s (by
      rw [sg]
      obtain ⟨z, hz, rfl⟩ := List.mem_map.mp hs
      exact List.mem_map.mpr ⟨z, List.mem_reverse.mp hz, rfl⟩)
    have gI : SgOk (I.map (·.1)) := sg_of o1 kI (by omega) fun s hs => ⟨(five3 s (sm3 s hs)).1, by have := (five3 s (sm3 s hs)).2; omega⟩
    have gJ : SgOk (J.map (·.1)) := sg_of (rels_rev o2) kJ (by rw [List.length_reverse]; omega) fun s hs => ⟨(five3 s (sm3' s hs)).1, by have := (five3 s (sm3' s hs)).2; omega⟩
    have gIJ : ∀ s, s ∈ I.map (·.1) ↔ s ∈ J.map (·.1) := fun s => by
      rw [kI.signs, kJ.signs, sg, List.map_reverse, List.mem_reverse]
    have comp := law_comp o1 o2 sg kI kJ
    have ar2 : ∀ z, z ∈ L1 → z.1.2 ≤ 2 := fun z hz => (five3 z.1 (sm3 z.1 (List.mem_map.mpr ⟨z, hz, rfl⟩))).2
    have eU : (fun p : Pn => ¬ SoundP (heldOf p) I J) = fun p => ¬ SoundP (heldOf p) L1 L2 := funext fun p => propext (not_congr (sound_iff (fun _ => Iff.rfl) kI kJ))
    refine ⟨_, rfl, _, rfl, d, p0, a1, r1, r2, n, m, rfl, st4.dr, na, s4 _ _ ha, n3, m3, fun H5 k dr5 k5 kl => ?_⟩
    have st5 := st4.kp dr5 k5
    have big : (1 + n * m) ^ (k + 1) ≤ 1000 := by
      have nm : n * m ≤ 3 * 3 := Nat.mul_le_mul n3 m3
      exact Nat.le_trans (Nat.pow_le_pow_left (show 1 + n * m ≤ 10 by omega) _) (Nat.le_trans (Nat.pow_le_pow_right (show 0 < 10 by decide) (show k + 1 ≤ 3 by omega)) (by decide))
    refine ⟨_, rfl, _, rfl, a1, r1, r2, n, m, k, ys1, ys2, L1, L2, rfl, (wo_some_ne st5.ha).2, (wo_some_ne st5.h1).2, st5.d1.same wo_sub, (wo_some_ne st5.h2).2, st5.d2.same wo_sub, sg, o1.nd, ar2, o1.l6, by omega, by omega, by omega, big, fun H6 ld g s6 nld hl6 il => ?_⟩
    have st6 := st5.same s6
    refine ⟨_, rfl, _, rfl, a1, r1, r2, n, m, k + 1, rfl, (wo_some_ne st6.ha).2, by omega, by omega, by omega, big, fun H7 pA ps s7 npA hpA dps => ?_⟩
    have st7 := st6.same s7
    have lx7 : LX K P w H7 d pA ld n m k ps g := ⟨wo_at (st6.dr.ne npA).1 hpA, DpAll.kl (kl_wo st7.dr) dps (tDs_noL _), LenD.kl (kl_wo st7.dr) (hl6.same s7)⟩
    have lps := DpAll.length dps
    rw [List.length_map, posG_len] at lps
    have pos : 0 < (1 + n * m) ^ (k + 1) := Nat.pow_pos (by omega)
    refine ⟨8, rfl, (by decide), (by decide), for_it walk_range (fun i σ H5 => ∃ (y7 y8 : Option V), σ = [some (.ref a), some (.ref d), some (.ref a1), some (.ref bp), some (.int ((k + 1 : Nat) : Int)), some (.ref ld), some (.ref pA), y7, y8] ∧ LSt K H5 d p0 a1 r1 r2 bp u v n m ys1 ys2 L1 L2 I J ∧ LX K P w H5 d pA ld n m k ps g) ⟨none, none, rfl, st7, lx7⟩ (fun _ _ _ _ _ => trivial) ?_ ?_⟩
    · rintro i y σ Hx Hc hi ⟨y7, y8, rfl, st, lx⟩ ⟨rfl, rfl⟩
      refine gN_i ?_
      dsimp only
      refine ⟨_, rfl, _, rfl, d, p0, rfl, st.dr, fun z H8 z0 _ dr8 k8 => ?_⟩
      have st8 := st.kp dr8 k8
      have lx8 := lx.en (en_same (wo_kp k8))
      obtain ⟨j, ej, lj⟩ : ∃ j : Nat, z % ((ps.length : Nat) : Int) = (j : Nat) ∧ j < ps.length := ⟨(z % ((ps.length : Nat) : Int)).toNat, by have := Int.emod_nonneg z (show ((ps.length : Nat) : Int) ≠ 0 by omega); omega, by have := Int.emod_lt_of_pos z (show (0 : Int) < ((ps.length : Nat) : Int) by omega); have := Int.emod_nonneg z (show ((ps.length : Nat) : Int) ≠ 0 by omega); omega⟩
      have hk : ps[j]? = some (ps[j]'lj) := List.getElem?_eq_getElem lj
      obtain ⟨t, ht, dt⟩ := DpAll.get' lx8.dp hk
      obtain ⟨p9, hp9, rfl⟩ := get_map ht
      have hp9 := List.mem_of_getElem? hp9
      have hat : atI ps (z % ((ps.length : Nat) : Int)) = some (ps[j]'lj) := by rw [ej]; exact atI_nat hk
      have hp8 := (wo_some_ne lx8.hp).2
      refine ⟨_, rfl, pA, ps, rfl, .inl (SqL.of hp8), _, _, rfl, rfl, (by show (0 : Int) < ((ps.length : Nat) : Int); omega), pA, ps, _, _, rfl, rfl, SqL.of hp8, hat, ?_⟩
      generalize ps[j]'lj = x9 at dt
      clear hat hk ht
      refine gN_i ?_
      dsimp only
      refine ⟨_, rfl, rfl, _, rfl, ?_⟩
      by_cases e0 : V.int (0 + (i : Nat)) = V.int 0
      · refine cT (k := decide (V.int (0 + (i : Nat)) = V.int 0)) (decide_eq_true e0) ?_
        refine ⟨(by show 1 ≤ sizeLine; decide), fun tn ntn => ?_⟩
        have stn := same_upd (o := .tup [V.non]) ntn
        refine ⟨_, rfl, rep_none (SqT.of upd_same) (by omega) fun H9 r9 s9 hr9 => ?_⟩
        have s89 := stn.trans s9
        have st9 := st8.same s89
        have lx9 := lx8.en (en_same (wo_same s89))
        clear hp9 dt
        have hp9 : (List.replicate (k + 1) none : Pn) ∈ posG n m (k + 1) := posG_mem.mpr ⟨List.length_replicate, fun e he => by rw [(List.mem_replicate.mp he).2]; exact List.mem_cons_self⟩
        have dx9 : Dp K (wo d H9) (.ref r9) (tD (List.replicate (k + 1) none)) := by
          obtain ⟨nn, ms', hd9, _⟩ := id st9.dr
          refine .tup (SqT.wo hd9 hr9) ?_
          generalize k + 1 = kk
          induction kk with
          | zero => exact .nil
          | succ kk ih => exact .cons .non ih
        generalize (List.replicate (k + 1) none : Pn) = p9 at *
        generalize (V.ref r9) = x9 at *
        refine gN_i ?_
        dsimp only
        have hb9 := (wo_some_ne st9.hb).2
        refine ⟨_, rfl, bp, _, 0, _, rfl, rfl, SqL.of hb9, rfl, _, rfl, bp, _, 1, _, rfl, rfl, SqL.of hb9, rfl, _, rfl, u, v, x9, n, m, k, I, J, p9, rfl, st9.su.same wo_sub, st9.sv.same wo_sub, gI, gJ, gIJ, Dp.same wo_sub dx9, hp9, comp, st9.tb, by omega, by omega, by omega, big, fun H10 fl xN tb10 il2 => ?_⟩
        have st10 := st9.en xN tb10
        have lx10 := lx9.en (en_wo xN)
        have dx10 : Dp K (wo d H10) x9 (tD p9) := (Kc.tn (en_wo xN)).dp dx9
        obtain ⟨ta, rfl, nk⟩ := nk_pos dx10
        obtain ⟨kvs, dn, _, _, val⟩ := lx10.hl
        have efg : fl p9 = g p9 := len_uniq (by rw [eU] at il2; exact il2) il hp9
        refine ⟨_, rfl, ld, kvs, rfl, dn.same wo_sub, _, rfl, ta, kP p9, rfl, dn.same wo_sub, NkV.same wo_sub nk, kP_depth p9, ?_⟩
        rw [val p9 hp9, efg]
        have fl1 : flatV (((g p9).map fun r => V.int (r : Nat)).getD .non) = true := by cases g p9 <;> rfl
        refine ⟨_, _, rfl, fl1, fl1, _, rfl, cF (k := !decide ((((g p9).map fun r => V.int (r : Nat)).getD .non) = (((g p9).map fun r => V.int (r : Nat)).getD .non))) (by simp) ?_⟩
        exact ⟨_, _, rfl, st10, lx10⟩
      · refine cF (k := decide (V.int (0 + (i : Nat)) = V.int 0)) (decide_eq_false e0) ?_
        have st9 := st8
        have lx9 := lx8
        have dx9 := dt
        dsimp only
        have hb9 := (wo_some_ne st9.hb).2
        refine ⟨_, rfl, bp, _, 0, _, rfl, rfl, SqL.of hb9, rfl, _, rfl, bp, _, 1, _, rfl, rfl, SqL.of hb9, rfl, _, rfl, u, v, x9, n, m, k, I, J, p9, rfl, st9.su.same wo_sub, st9.sv.same wo_sub, gI, gJ, gIJ, Dp.same wo_sub dx9, hp9, comp, st9.tb, by omega, by omega, by omega, big, fun H10 fl xN tb10 il2 => ?_⟩
        have st10 := st9.en xN tb10
        have lx10 := lx9.en (en_wo xN)
        have dx10 : Dp K (wo d H10) x9 (tD p9) := (Kc.tn (en_wo xN)).dp dx9
        obtain ⟨ta, rfl, nk⟩ := nk_pos dx10
        obtain ⟨kvs, dn, _, _, val⟩ := lx10.hl
        have efg : fl p9 = g p9 := len_uniq (by rw [eU] at il2; exact il2) il hp9
        refine ⟨_, rfl, ld, kvs, rfl, dn.same wo_sub, _, rfl, ta, kP p9, rfl, dn.same wo_sub, NkV.same wo_sub nk, kP_depth p9, ?_⟩
        rw [val p9 hp9, efg]
        have fl1 : flatV (((g p9).map fun r => V.int (r : Nat)).getD .non) = true := by cases g p9 <;> rfl
        refine ⟨_, _, rfl, fl1, fl1, _, rfl, cF (k := !decide ((((g p9).map fun r => V.int (r : Nat)).getD .non) = (((g p9).map fun r => V.int (r : Nat)).getD .non))) (by simp) ?_⟩
        exact ⟨_, _, rfl, st10, lx10⟩
    · rintro σ Hc ⟨y7, y8, rfl, st, lx⟩
      exact q _
end
theorem thB_ok {K : PySem.W.Frag} {x : Str} {kvs : List (Str × He.Dv)} (h : thB K x kvs = true) : ∀ k v, (k, v) ∈ kvs.map (fun p => (p.1, p.2.v K)) → ∃ u, PySem.W.nsIn K (He.ga K x) k = some (some u) ∧ RelV v u := by
  intro k v hm
  obtain ⟨p, hp, e⟩ := List.mem_map.mp hm
  have e1 : p.1 = k := congrArg Prod.fst e
  have e2 : p.2.v K = v := congrArg Prod.snd e
  have z := List.all_eq_true.mp h p hp
  rw [← e1, ← e2]
  cases q : PySem.W.nsIn K (He.ga K x) p.1 with
  | none => rw [q] at z; cases z
  | some o =>
    rw [q] at z
    cases o with
    | none => cases z
    | some u => exact ⟨u, rfl, He.relB_ok z⟩
theorem tabs_of (K : PySem.W.Frag) {H : Hp} (hH : ∀ p ∈ tfs.map (He.cT K), H p.2 = some (.tbl #[])) : NdefX.TabsN (nowT K) H := fun p hp => by
  rw [List.mem_singleton.mp hp]
  exact NdefX.TabN.nil (hH _ (List.mem_singleton.mpr rfl))
theorem facts {P : Program} {w : World} {K : PySem.W.Frag} {h : Heap} {mg : Str → Option Value} {f : Addr} (X : K.In h) (G : h.Ns mainGlobals mg) (hfa : mg ("law" : Str) = some (.ref f)) (c : He.SaysX fas fns tabs tfs exs w h K) :
    ∃ fd : FuncData, (∀ (s : Shared) (v : Value), BindsTo s fd ⟨[v], []⟩ [("script", v)]) ∧ ∀ base : Heap, K.In base → base.Ns mainGlobals mg → (∀ p ∈ tfs.map (He.cT K), LamX.TabB base mg p.1 p.2) → FnOk P w K mg base CX0 9 f fd ["script"] (spLaw K) := by
  have cd := c.t.d
  obtain ⟨fd_is_whole, F_is_whole⟩ := cd.def_ 0 (d := d_is_whole) rfl
  have g_is_whole := He.glo_ok X G (cd.fact 0 (f := .glo "is_whole") rfl)
  have D_is_whole : Def K mg "is_whole" ["value"] (top 8) := ⟨_, fd_is_whole, F_is_whole, g_is_whole, FunD.bindsN F_is_whole fun _ _ _ _ _ _ us hl => match us, hl with | [_], _ => rfl⟩
  obtain ⟨fd_is_between, F_is_between⟩ := cd.def_ 1 (d := d_is_between) rfl
  have g_is_between := He.glo_ok X G (cd.fact 1 (f := .glo "is_between") rfl)
  have D_is_between : Def K mg "is_between" ["value", "low", "high"] (top 9) := ⟨_, fd_is_between, F_is_between, g_is_between, FunD.bindsN F_is_between fun _ _ _ _ _ _ us hl => match us, hl with | [_, _, _], _ => rfl⟩
  obtain ⟨fd_power, F_power⟩ := cd.def_ 2 (d := d_power) rfl
  have g_power := He.glo_ok X G (cd.fact 2 (f := .glo "power") rfl)
  have D_power : Def K mg "power" ["base", "exponent"] (top 10) := ⟨_, fd_power, F_power, g_power, FunD.bindsN F_power fun _ _ _ _ _ _ us hl => match us, hl with | [_, _], _ => rfl⟩
  obtain ⟨fd_is_name, F_is_name⟩ := cd.def_ 3 (d := d_is_name) rfl
  have g_is_name := He.glo_ok X G (cd.fact 3 (f := .glo "is_name") rfl)
  have D_is_name : Def K mg "is_name" ["text"] (top 20) := ⟨_, fd_is_name, F_is_name, g_is_name, FunD.bindsN F_is_name fun _ _ _ _ _ _ us hl => match us, hl with | [_], _ => rfl⟩
  obtain ⟨fd_kept_row, F_kept_row⟩ := cd.def_ 4 (d := d_kept_row) rfl
  have g_kept_row := He.glo_ok X G (cd.fact 4 (f := .glo "_kept_row") rfl)
  have D_kept_row : Def K mg "_kept_row" ["row", "size", "arity"] (top 21) := ⟨_, fd_kept_row, F_kept_row, g_kept_row, FunD.bindsN F_kept_row fun _ _ _ _ _ _ us hl => match us, hl with | [_, _, _], _ => rfl⟩
  obtain ⟨fd_kept_relation, F_kept_relation⟩ := cd.def_ 5 (d := d_kept_relation) rfl
  have g_kept_relation := He.glo_ok X G (cd.fact 5 (f := .glo "_kept_relation") rfl)
  have D_kept_relation : Def K mg "_kept_relation" ["relation", "size"] (top 22) := ⟨_, fd_kept_relation, F_kept_relation, g_kept_relation, FunD.bindsN F_kept_relation fun _ _ _ _ _ _ us hl => match us, hl with | [_, _], _ => rfl⟩
  obtain ⟨fd_kept_relations, F_kept_relations⟩ := cd.def_ 6 (d := d_kept_relations) rfl
  have g_kept_relations := He.glo_ok X G (cd.fact 6 (f := .glo "_kept_relations") rfl)
  have D_kept_relations : Def K mg "_kept_relations" ["relations", "size"] (top 23) := ⟨_, fd_kept_relations, F_kept_relations, g_kept_relations, FunD.bindsN F_kept_relations fun _ _ _ _ _ _ us hl => match us, hl with | [_, _], _ => rfl⟩
  obtain ⟨fd_Structure___init__, F_Structure___init__⟩ := cd.def_ 7 (d := d_Structure___init__) rfl
  have D_Structure___init__ : DefM K "Structure" "__init__" "Structure.__init__" ["self", "size", "relations"] (inClass (top 24) 0) := ⟨_, fd_Structure___init__, F_Structure___init__, He.meth_ok (cd.fact 7 (f := .meth "Structure" "__init__") rfl), FunD.bindsN F_Structure___init__ fun _ _ _ _ _ _ us hl => match us, hl with | [_, _, _], _ => rfl⟩
  obtain ⟨fd_Structure_symbols, F_Structure_symbols⟩ := cd.def_ 8 (d := d_Structure_symbols) rfl
  have D_Structure_symbols : DefM K "Structure" "symbols" "Structure.symbols" ["self"] (inClass (top 24) 5) := ⟨_, fd_Structure_symbols, F_Structure_symbols, He.meth_ok (cd.fact 8 (f := .meth "Structure" "symbols") rfl), FunD.bindsN F_Structure_symbols fun _ _ _ _ _ _ us hl => match us, hl with | [_], _ => rfl⟩
  obtain ⟨fd_all_rows, F_all_rows⟩ := cd.def_ 9 (d := d_all_rows) rfl
  have g_all_rows := He.glo_ok X G (cd.fact 9 (f := .glo "all_rows") rfl)
  have D_all_rows : Def K mg "all_rows" ["size", "count"] (top 26) := ⟨_, fd_all_rows, F_all_rows, g_all_rows, FunD.bindsN F_all_rows fun _ _ _ _ _ _ us hl => match us, hl with | [_, _], _ => rfl⟩
  obtain ⟨fd_is_entry, F_is_entry⟩ := cd.def_ 10 (d := d_is_entry) rfl
  have g_is_entry := He.glo_ok X G (cd.fact 10 (f := .glo "_is_entry") rfl)
  have D_is_entry : Def K mg "_is_entry" ["value", "first", "second"] (top 29) := ⟨_, fd_is_entry, F_is_entry, g_is_entry, FunD.bindsN F_is_entry fun _ _ _ _ _ _ us hl => match us, hl with | [_, _, _], _ => rfl⟩
  obtain ⟨fd_is_position, F_is_position⟩ := cd.def_ 11 (d := d_is_position) rfl
  have g_is_position := He.glo_ok X G (cd.fact 11 (f := .glo "is_position") rfl)
  have D_is_position : Def K mg "is_position" ["first", "second", "value"] (top 30) := ⟨_, fd_is_position, F_is_position, g_is_position, FunD.bindsN F_is_position fun _ _ _ _ _ _ us hl => match us, hl with | [_, _, _], _ => rfl⟩
  obtain ⟨fd_told_apart, F_told_apart⟩ := cd.def_ 12 (d := d_told_apart) rfl
  have g_told_apart := He.glo_ok X G (cd.fact 12 (f := .glo "told_apart") rfl)
  have D_told_apart : Def K mg "told_apart" ["first", "second", "pairs"] (top 31) := ⟨_, fd_told_apart, F_told_apart, g_told_apart, FunD.bindsN F_told_apart fun _ _ _ _ _ _ us hl => match us, hl with | [_, _, _], _ => rfl⟩
  obtain ⟨fd_sound_test, F_sound_test⟩ := cd.def_ 13 (d := d_sound_test) rfl
  have g_sound_test := He.glo_ok X G (cd.fact 13 (f := .glo "sound_test") rfl)
  have D_sound_test : Def K mg "sound_test" ["first", "second"] (top 32) := ⟨_, fd_sound_test, F_sound_test, g_sound_test, FunD.bindsN F_sound_test fun _ _ _ _ _ _ us hl => match us, hl with | [_, _], _ => rfl⟩
  obtain ⟨fd_Game___init__, F_Game___init__⟩ := cd.def_ 14 (d := d_Game___init__) rfl
  have D_Game___init__ : DefM K "Game" "__init__" "Game.__init__" ["self", "first", "second", "pebbles"] (inClass (top 33) 0) := ⟨_, fd_Game___init__, F_Game___init__, He.meth_ok (cd.fact 14 (f := .meth "Game" "__init__") rfl), FunD.bindsN F_Game___init__ fun _ _ _ _ _ _ us hl => match us, hl with | [_, _, _, _], _ => rfl⟩
  obtain ⟨fd_Game__find_lengths, F_Game__find_lengths⟩ := cd.def_ 15 (d := d_Game__find_lengths) rfl
  have D_Game__find_lengths : DefM K "Game" "_find_lengths" "Game._find_lengths" ["self", "pebbles"] (inClass (top 33) 1) := ⟨_, fd_Game__find_lengths, F_Game__find_lengths, He.meth_ok (cd.fact 15 (f := .meth "Game" "_find_lengths") rfl), FunD.bindsN F_Game__find_lengths fun _ _ _ _ _ _ us hl => match us, hl with | [_, _], _ => rfl⟩
  obtain ⟨fd_Game__wins_by, F_Game__wins_by⟩ := cd.def_ 16 (d := d_Game__wins_by) rfl
  have D_Game__wins_by : DefM K "Game" "_wins_by" "Game._wins_by" ["self", "rest", "at"] (inClass (top 33) 2) := ⟨_, fd_Game__wins_by, F_Game__wins_by, He.meth_ok (cd.fact 16 (f := .meth "Game" "_wins_by") rfl), FunD.bindsN F_Game__wins_by fun _ _ _ _ _ _ us hl => match us, hl with | [_, _, _], _ => rfl⟩
  obtain ⟨fd_check_comparable, F_check_comparable⟩ := cd.def_ 17 (d := d_check_comparable) rfl
  have g_check_comparable := He.glo_ok X G (cd.fact 17 (f := .glo "_check_comparable") rfl)
  have D_check_comparable : Def K mg "_check_comparable" ["first", "second"] (top 36) := ⟨_, fd_check_comparable, F_check_comparable, g_check_comparable, FunD.bindsN F_check_comparable fun _ _ _ _ _ _ us hl => match us, hl with | [_, _], _ => rfl⟩
  obtain ⟨fd_check_count, F_check_count⟩ := cd.def_ 18 (d := d_check_count) rfl
  have g_check_count := He.glo_ok X G (cd.fact 18 (f := .glo "_check_count") rfl)
  have D_check_count : Def K mg "_check_count" ["first", "second", "k"] (top 37) := ⟨_, fd_check_count, F_check_count, g_check_count, FunD.bindsN F_check_count fun _ _ _ _ _ _ us hl => match us, hl with | [_, _, _], _ => rfl⟩
  obtain ⟨fd_length, F_length⟩ := cd.def_ 19 (d := d_length) rfl
  have g_length := He.glo_ok X G (cd.fact 19 (f := .glo "length") rfl)
  have D_length : Def K mg "length" ["first", "second", "position"] (top 38) := ⟨_, fd_length, F_length, g_length, FunD.bindsN F_length fun _ _ _ _ _ _ us hl => match us, hl with | [_, _, _], _ => rfl⟩
  obtain ⟨fd_law_mixed, F_law_mixed⟩ := cd.def_ 20 (d := d_law_mixed) rfl
  have g_law_mixed := He.glo_ok X G (cd.fact 20 (f := .glo "_law_mixed") rfl)
  have D_law_mixed : Def K mg "_law_mixed" ["number", "k"] (top 40) := ⟨_, fd_law_mixed, F_law_mixed, g_law_mixed, FunD.bindsN F_law_mixed fun _ _ _ _ _ _ us hl => match us, hl with | [_, _], _ => rfl⟩
  obtain ⟨fd_law_numbers, F_law_numbers⟩ := cd.def_ 21 (d := d_law_numbers) rfl
  have g_law_numbers := He.glo_ok X G (cd.fact 21 (f := .glo "_law_numbers") rfl)
  have D_law_numbers : Def K mg "_law_numbers" ["script"] (top 41) := ⟨_, fd_law_numbers, F_law_numbers, g_law_numbers, FunD.bindsN F_law_numbers fun _ _ _ _ _ _ us hl => match us, hl with | [_], _ => rfl⟩
  obtain ⟨fd_law_draw, F_law_draw⟩ := cd.def_ 22 (d := d_law_draw) rfl
  have g_law_draw := He.glo_ok X G (cd.fact 22 (f := .glo "_law_draw") rfl)
  have D_law_draw : Def K mg "_law_draw" ["draws"] (top 42) := ⟨_, fd_law_draw, F_law_draw, g_law_draw, FunD.bindsN F_law_draw fun _ _ _ _ _ _ us hl => match us, hl with | [_], _ => rfl⟩
  obtain ⟨fd_law_equal, F_law_equal⟩ := cd.def_ 23 (d := d_law_equal) rfl
  have g_law_equal := He.glo_ok X G (cd.fact 23 (f := .glo "_law_equal") rfl)
  have D_law_equal : Def K mg "_law_equal" ["actual", "due"] (top 43) := ⟨_, fd_law_equal, F_law_equal, g_law_equal, FunD.bindsN F_law_equal fun _ _ _ _ _ _ us hl => match us, hl with | [_, _], _ => rfl⟩
  obtain ⟨fd_law_tuples, F_law_tuples⟩ := cd.def_ 24 (d := d_law_tuples) rfl
  have g_law_tuples := He.glo_ok X G (cd.fact 24 (f := .glo "_law_tuples") rfl)
  have D_law_tuples : Def K mg "_law_tuples" ["n", "width"] (top 45) := ⟨_, fd_law_tuples, F_law_tuples, g_law_tuples, FunD.bindsN F_law_tuples fun _ _ _ _ _ _ us hl => match us, hl with | [_, _], _ => rfl⟩
  obtain ⟨fd_law_subset, F_law_subset⟩ := cd.def_ 25 (d := d_law_subset) rfl
  have g_law_subset := He.glo_ok X G (cd.fact 25 (f := .glo "_law_subset") rfl)
  have D_law_subset : Def K mg "_law_subset" ["draws", "rows"] (top 46) := ⟨_, fd_law_subset, F_law_subset, g_law_subset, FunD.bindsN F_law_subset fun _ _ _ _ _ _ us hl => match us, hl with | [_, _], _ => rfl⟩
  obtain ⟨fd_law_pair, F_law_pair⟩ := cd.def_ 26 (d := d_law_pair) rfl
  have g_law_pair := He.glo_ok X G (cd.fact 26 (f := .glo "_law_pair") rfl)
  have D_law_pair : Def K mg "_law_pair" ["draws"] (top 47) := ⟨_, fd_law_pair, F_law_pair, g_law_pair, FunD.bindsN F_law_pair fun _ _ _ _ _ _ us hl => match us, hl with | [_], _ => rfl⟩
  obtain ⟨fd_law_pebbles, F_law_pebbles⟩ := cd.def_ 27 (d := d_law_pebbles) rfl
  have g_law_pebbles := He.glo_ok X G (cd.fact 27 (f := .glo "_law_pebbles") rfl)
  have D_law_pebbles : Def K mg "_law_pebbles" ["draws", "pair"] (top 48) := ⟨_, fd_law_pebbles, F_law_pebbles, g_law_pebbles, FunD.bindsN F_law_pebbles fun _ _ _ _ _ _ us hl => match us, hl with | [_, _], _ => rfl⟩
  obtain ⟨fd_law_sound, F_law_sound⟩ := cd.def_ 28 (d := d_law_sound) rfl
  have g_law_sound := He.glo_ok X G (cd.fact 28 (f := .glo "_law_sound") rfl)
  have D_law_sound : Def K mg "_law_sound" ["pair", "position"] (top 49) := ⟨_, fd_law_sound, F_law_sound, g_law_sound, FunD.bindsN F_law_sound fun _ _ _ _ _ _ us hl => match us, hl with | [_, _], _ => rfl⟩
  obtain ⟨fd_law_positions, F_law_positions⟩ := cd.def_ 29 (d := d_law_positions) rfl
  have g_law_positions := He.glo_ok X G (cd.fact 29 (f := .glo "_law_positions") rfl)
  have D_law_positions : Def K mg "_law_positions" ["pair", "k"] (top 50) := ⟨_, fd_law_positions, F_law_positions, g_law_positions, FunD.bindsN F_law_positions fun _ _ _ _ _ _ us hl => match us, hl with | [_, _], _ => rfl⟩
  obtain ⟨fd_law_answered, F_law_answered⟩ := cd.def_ 30 (d := d_law_answered) rfl
  have g_law_answered := He.glo_ok X G (cd.fact 30 (f := .glo "_law_answered") rfl)
  have D_law_answered : Def K mg "_law_answered" ["pair", "lost", "position", "at"] (top 51) := ⟨_, fd_law_answered, F_law_answered, g_law_answered, FunD.bindsN F_law_answered fun _ _ _ _ _ _ us hl => match us, hl with | [_, _, _, _], _ => rfl⟩
  obtain ⟨fd_law_lengths, F_law_lengths⟩ := cd.def_ 31 (d := d_law_lengths) rfl
  have g_law_lengths := He.glo_ok X G (cd.fact 31 (f := .glo "_law_lengths") rfl)
  have D_law_lengths : Def K mg "_law_lengths" ["pair", "k"] (top 52) := ⟨_, fd_law_lengths, F_law_lengths, g_law_lengths, FunD.bindsN F_law_lengths fun _ _ _ _ _ _ us hl => match us, hl with | [_, _], _ => rfl⟩
  obtain ⟨fd_law_lists, F_law_lists⟩ := cd.def_ 32 (d := d_law_lists) rfl
  have g_law_lists := He.glo_ok X G (cd.fact 32 (f := .glo "_law_lists") rfl)
  have D_law_lists : Def K mg "_law_lists" ["relations"] (top 53) := ⟨_, fd_law_lists, F_law_lists, g_law_lists, FunD.bindsN F_law_lists fun _ _ _ _ _ _ us hl => match us, hl with | [_], _ => rfl⟩
  obtain ⟨fd_law_structures, F_law_structures⟩ := cd.def_ 33 (d := d_law_structures) rfl
  have g_law_structures := He.glo_ok X G (cd.fact 33 (f := .glo "_law_structures") rfl)
  have D_law_structures : Def K mg "_law_structures" ["pair"] (top 54) := ⟨_, fd_law_structures, F_law_structures, g_law_structures, FunD.bindsN F_law_structures fun _ _ _ _ _ _ us hl => match us, hl with | [_], _ => rfl⟩
  obtain ⟨fd_law, F_law⟩ := cd.def_ 34 (d := d_law) rfl
  have g_law := He.glo_ok X G (cd.fact 34 (f := .glo "law") rfl)
  have D_law : Def K mg "law" ["script"] (top 55) := ⟨_, fd_law, F_law, g_law, FunD.bindsN F_law fun _ _ _ _ _ _ us hl => match us, hl with | [_], _ => rfl⟩
  have T : Txt mg := ⟨He.free_ok X G (cd.fact 35 (f := .free "len") rfl), He.free_ok X G (cd.fact 36 (f := .free "range") rfl), He.free_ok X G (cd.fact 37 (f := .free "isinstance") rfl), He.free_ok X G (cd.fact 38 (f := .free "list") rfl), He.free_ok X G (cd.fact 39 (f := .free "tuple") rfl), He.free_ok X G (cd.fact 40 (f := .free "bool") rfl), He.free_ok X G (cd.fact 41 (f := .free "int") rfl), He.free_ok X G (cd.fact 42 (f := .free "str") rfl), He.free_ok X G (cd.fact 43 (f := .free "sorted") rfl), He.free_ok X G (cd.fact 44 (f := .free "set") rfl), He.free_ok X G (cd.fact 45 (f := .free "all") rfl), He.free_ok X G (cd.fact 46 (f := .free "any") rfl), He.free_ok X G (cd.fact 47 (f := .free "sum") rfl), He.free_ok X G (cd.fact 48 (f := .free "max") rfl), He.free_ok X G (cd.fact 49 (f := .free "min") rfl), He.free_ok X G (cd.fact 50 (f := .free "dict") rfl), He.free_ok X G (cd.fact 51 (f := .free "enumerate") rfl), He.free_ok X G (cd.fact 52 (f := .free "zip") rfl)⟩
  have c_LONGEST_NAME := He.int_ok X G (cd.fact 53 (f := .int "LONGEST_NAME" 12) rfl)
  have c_LARGEST_SIZE := He.int_ok X G (cd.fact 54 (f := .int "LARGEST_SIZE" 16) rfl)
  have c_MOST_RELATIONS := He.int_ok X G (cd.fact 55 (f := .int "MOST_RELATIONS" 6) rfl)
  have c_LARGEST_ARITY := He.int_ok X G (cd.fact 56 (f := .int "LARGEST_ARITY" 6) rfl)
  have c_MOST_ROWS := He.int_ok X G (cd.fact 57 (f := .int "MOST_ROWS" 4096) rfl)
  have c_MOST_ENTRIES := He.int_ok X G (cd.fact 58 (f := .int "MOST_ENTRIES" 3) rfl)
  have c_MOST_POSITIONS := He.int_ok X G (cd.fact 59 (f := .int "MOST_POSITIONS" 4000) rfl)
  have c_LETTERS := He.str_ok X G (cd.fact 60 (f := .str "LETTERS" "abcdefghijklmnopqrstuvwxyz") rfl)
  have c_FIGURES := He.str_ok X G (cd.fact 61 (f := .str "FIGURES" "0123456789") rfl)
  have c_RESERVED := He.glo_ok X G (cd.fact 62 (f := .glo "RESERVED") rfl)
  have c_BadStructure := He.glo_ok X G (cd.fact 63 (f := .glo "BadStructure") rfl)
  have c_NotFitting := He.glo_ok X G (cd.fact 64 (f := .glo "NotFitting") rfl)
  have gC_Structure := He.glo_ok X G (cd.fact 65 (f := .glo "Structure") rfl)
  have cC_Structure := He.cls_ok (cd.fact 66 (f := .cls "Structure") rfl)
  have mC_Structure := He.mkr_ok (cd.fact 67 (f := .mkr "Structure") rfl)
  have nC_Structure_size := He.noat_ok (cd.fact 68 (f := .noat "Structure" "size") rfl)
  have nC_Structure_relations := He.noat_ok (cd.fact 69 (f := .noat "Structure" "relations") rfl)
  have gC_Game := He.glo_ok X G (cd.fact 70 (f := .glo "Game") rfl)
  have cC_Game := He.cls_ok (cd.fact 71 (f := .cls "Game") rfl)
  have mC_Game := He.mkr_ok (cd.fact 72 (f := .mkr "Game") rfl)
  have nC_Game_first := He.noat_ok (cd.fact 73 (f := .noat "Game" "first") rfl)
  have nC_Game_second := He.noat_ok (cd.fact 74 (f := .noat "Game" "second") rfl)
  have nC_Game_choices := He.noat_ok (cd.fact 75 (f := .noat "Game" "choices") rfl)
  have nC_Game_entries := He.noat_ok (cd.fact 76 (f := .noat "Game" "entries") rfl)
  have nC_Game_positions := He.noat_ok (cd.fact 77 (f := .noat "Game" "positions") rfl)
  have nC_Game_lengths := He.noat_ok (cd.fact 78 (f := .noat "Game" "lengths") rfl)
  have more0 := c.more
  obtain ⟨x_RESERVED, more1⟩ := He.ba more0
  obtain ⟨x_BadStructure, more2⟩ := He.ba more1
  have x_NotFitting := more2
  have e := hfa.symm.trans g_law
  cases e
  have b := FunD.bindsA (ps := ["script"]) F_law fun _ _ _ _ _ _ us hl => match us, hl with | [_], _ => rfl
  refine ⟨fd_law, fun s v => b s [v] rfl, fun base _ _ TB => ?_⟩
  have BS := xcB_ok c_BadStructure x_BadStructure
  have NF := xcB_ok c_NotFitting x_NotFitting
  have SC : StC K := ⟨cC_Structure, nC_Structure_size, nC_Structure_relations⟩
  have h_is := has_is_name (P := P) (w := w) (base := base) D_is_name T c_LONGEST_NAME c_LETTERS c_FIGURES c_RESERVED (fun H => He.tupB_ok x_RESERVED H)
  have h_whole := has_is_whole (P := P) (w := w) (base := base) D_is_whole T
  have h_between := has_is_between D_is_between h_whole
  have h_power := has_power (P := P) (w := w) (base := base) D_power T
  have h_krow := has_kept_row D_kept_row T BS h_between
  have h_krel := has_kept_rel D_kept_relation T BS c_LARGEST_ARITY c_MOST_ROWS h_between h_is h_power h_krow
  have h_kepts := has_kepts D_kept_relations T BS c_MOST_RELATIONS h_krel
  have h_init := has_st_init D_Structure___init__ SC BS c_LARGEST_SIZE h_between h_kepts
  have h_I := mk_init mC_Structure h_init
  have h_symb := has_symbols (P := P) (w := w) (mg := mg) (base := base) D_Structure_symbols SC T
  have h_rows := has_all_rows (P := P) (w := w) (base := base) D_all_rows T
  have h_wholeD := has_wholeD (P := P) (w := w) (base := base) D_is_whole T
  have h_betwD := has_betwD D_is_between h_wholeD
  have h_entry := has_is_entry D_is_entry T SC h_betwD
  have h_pos := has_is_pos D_is_position T c_MOST_ENTRIES h_entry
  have h_told := has_told D_told_apart T SC h_rows
  have TB0 := TB _ (List.mem_map.mpr ⟨("sound_test", none), List.mem_singleton.mpr rfl, rfl⟩)
  have h_stest : Has P w K mg base 1 "sound_test" ["first", "second"] (spSTest K P w) := ⟨_, fd_sound_test, ok_stest F_sound_test TB0, g_sound_test, F_sound_test.kp, FunD.bindsN F_sound_test fun _ _ _ _ _ _ us hl => match us, hl with | [_, _], _ => rfl⟩
  have h_comp := has_comp (P := P) (w := w) (base := base) D_check_comparable T SC NF h_symb
  have GC : GmC K := ⟨cC_Game, nC_Game_first, nC_Game_second, nC_Game_choices, nC_Game_entries, nC_Game_positions, nC_Game_lengths⟩
  have h_wins := has_wins (P := P) (w := w) (mg := mg) (base := base) D_Game__wins_by GC T
  have h_find := has_find D_Game__find_lengths GC T h_wins
  have h_game := has_game D_Game___init__ GC SC T h_find h_told h_stest
  have h_IG := mk_initG mC_Game h_game
  have h_count := has_count D_check_count T SC c_MOST_POSITIONS h_power
  have h_length := has_length D_length T GC h_comp h_pos h_count gC_Game h_IG
  have h_mixed := has_mixed (P := P) (w := w) (base := base) D_law_mixed
  have h_numbers := has_numbers D_law_numbers T h_mixed
  have h_draw := has_draw D_law_draw T h_mixed
  have h_eq := has_equal (P := P) (w := w) (base := base) D_law_equal T
  have h_ltups := has_ltups (P := P) (w := w) (base := base) D_law_tuples T
  have h_lsub := has_lsubset D_law_subset T h_draw
  have h_lpair := has_lpair D_law_pair T h_draw h_ltups h_lsub
  have h_lsound := has_lsound D_law_sound T h_ltups
  have h_llists := has_llists (P := P) (w := w) (base := base) D_law_lists T
  have h_lstr := has_lstr D_law_structures T gC_Structure h_I h_llists
  have h_lposns := has_lposns (P := P) (w := w) (base := base) D_law_positions T
  have h_lans := has_lans (P := P) (w := w) (base := base) D_law_answered T
  have h_llens := has_llens D_law_lengths T h_lposns h_lsound h_lans
  have h_lpeb := has_lpeb D_law_pebbles T h_draw
  exact ok_law F_law T SC h_numbers h_draw h_lpair h_lstr h_lpeb h_llens h_lposns h_eq h_length
end SaysoV
open PySem PySem.W PySem.Calls PyProof.Rows
set_option maxHeartbeats 0 in
theorem PySem.Challenge.cw_sayso_k31_lengths_of_positions_holds : PySem.Challenge.rw_sayso_k31_lengths_of_positions.Holds := by
  w_on; o_law
  refine HandSHeadRun.head_any (r := OpenLaw.row PySem.Challenge.rw_sayso_k31_lengths_of_positions) (q := view (OpenLaw.row PySem.Challenge.rw_sayso_k31_lengths_of_positions).prog [55]) (H := SaysoV.hk) (ob := SaysoV.ob) (M := 4000) (loose := SaysoV.looseN) (d := HandSHeadRun.topDef (OpenLaw.row PySem.Challenge.rw_sayso_k31_lengths_of_positions).prog 55) (kwd := []) SaysoV.ob_eq
    (by kernel_rfl) (fun s => by kernel_rfl) SaysoV.run (by kernel_rfl) (by kernel_rfl) (by kernel_rfl) (by rfl) (by first | assumption | decide +kernel) (by decide +kernel) ⟨rfl, rfl, rfl, rfl, rfl, by decide +kernel⟩ ?hw ?hc
  case hw => w_witness2
  case hc =>
    refine LamX.walk_ofTsE (l := PySem.Challenge.rw_sayso_k31_lengths_of_positions) (n := 63) (k := 9) (x := "script") (CX := fun _ => L2.CX0) rfl (by decide) (by kernel_rfl) ⟨rfl, by decide, by decide⟩ ?F (fun _ _ _ _ _ z => z)
    intro w mg fa h Y G hmg0
    obtain ⟨K, KX, c⟩ := Y
    have hmg : mg ("law" : PySem.Str) = some (.ref fa) := by
      have e : (HandSHeadRun.topDef (OpenLaw.row PySem.Challenge.rw_sayso_k31_lengths_of_positions).prog 55).name = ("law" : PySem.Str) := by kernel_rfl
      rw [← e]
      exact hmg0
    obtain ⟨fd, hb, hF⟩ := SaysoV.facts (P := (PySem.Challenge.rw_sayso_k31_lengths_of_positions).prog) (w := w) KX G hmg c
    refine ⟨K, KX, fd, SaysoV.tfs.map (He.cT K), SaysoV.spLaw K, fun p hp => ?_, fun p hp => ?_, fun p hp => ?_, hb, fun H a ns hl _ hH hS => ⟨a, ns, rfl, hS, hl, SaysoV.tabs_of K hH, fun _ => rfl⟩, hF⟩
    · obtain ⟨q, hq, rfl⟩ := List.mem_map.mp hp; exact c.empty q hq
    · obtain ⟨q, hq, rfl⟩ := List.mem_map.mp hp; exact c.out q hq
    · obtain ⟨q, hq, rfl⟩ := List.mem_map.mp hp; exact PySem.W.codeHd_of_K KX (c.hd q hq)
