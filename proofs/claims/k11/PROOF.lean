import PyProof.Rows.All
import Wide.All
import OpenK.AllK
import Wide.FinOn
import KE.KStateDown
import HandS.ForMost
import HandS.Defaults
import HandS.IsInst
import HandS.SetKeys
import HandS.Strs
import HandS.CallLocal
import HandS.WrittenGet
import HandS.NoneIn
import HandS.DictComp
import HandS.Deep
import HandS.Sort
import HandS.SortOrd
import HandS.ListItems
import HandS.DictTup
import HandS.ForExc
import HandS.Flow
import HandS.Walk
import HandS.Head0
import HandS.Head1
import HandS.Head2
import HandS.HeadEnd
import HandS.HeadHook1
import HandS.HeadHook2
import HandS.HeadHook3
import HandS.HeadHook4
import PySem.Challenge.RW_sayso_k11_texts_of_formulas_are_checked
import HandS.ExcIs
import HandS.FStr
import HandS.ExcCtx
import HandS.SuiteRaise
import HandS.RaiseFrom
set_option Elab.async false
set_option linter.all false
set_option maxRecDepth 100000
set_option maxHeartbeats 4000000
namespace SaysoV
open PySem PySem.Spec PyProof.Rows L2
/-! ### the text by places, what a def is to its callers -/
def top (i : Nat) : Stmt := PySem.Challenge.pw_sayso_k11_texts_of_formulas_are_checked.main.body.getD i (.Pass ⟨0, 0, 0, 0⟩)
abbrev FnP (K : PySem.W.Frag) (x : Str) (st : Stmt) (f : Addr) (fd : FuncData) : Prop := FunD K x x (defArgs st) (defBody st) (defScope st) [] [] f fd
/-- a def as the top leaves it -/
def Def (K : PySem.W.Frag) (mg : Str → Option Value) (x : Str) (ps : List Str) (st : Stmt) : Prop := ∃ f fd, FnP K x st f fd ∧ mg x = some (.ref f) ∧ Binds K fd ps []
/-- a def with its promise, as a caller takes it -/
def HasX (CX : CXT) (P : Program) (w : World) (K : PySem.W.Frag) (mg : Str → Option Value) (base : Heap) (k : Nat) (x : Str) (ps : List Str) (sp : Sp) : Prop :=
  ∃ f fd, FnOk P w K mg base CX k f fd ps sp ∧ mg x = some (.ref f) ∧ PySem.W.keepIn K (.ref f) = true ∧ Binds K fd ps []
abbrev Has := HasX CX0
/-- the names that are still built-in -/
structure Txt (mg : Str → Option Value) : Prop where
  n_len : mg "len" = none
  n_range : mg "range" = none
  n_isinstance : mg "isinstance" = none
  n_list : mg "list" = none
  n_tuple : mg "tuple" = none
  n_bool : mg "bool" = none
  n_int : mg "int" = none
  n_str : mg "str" = none
  n_sorted : mg "sorted" = none
  n_set : mg "set" = none
  n_all : mg "all" = none
  n_any : mg "any" = none
  n_sum : mg "sum" = none
  n_max : mg "max" = none
  n_min : mg "min" = none
  n_dict : mg "dict" = none
  n_enumerate : mg "enumerate" = none
  n_zip : mg "zip" = none
section
variable {P : Program} {w : World} {K : PySem.W.Frag} {mg : Str → Option Value} {base : Heap} {CX : CXT}
theorem Def.has {x : Str} {ps : List Str} {st : Stmt} {k : Nat} {sp : Sp} (D : Def K mg x ps st) (h : ∀ f fd, FnP K x st f fd → FnOk P w K mg base CX k f fd ps sp) : HasX CX P w K mg base k x ps sp := by
  obtain ⟨f, fd, F, g, b⟩ := D
  exact ⟨f, fd, h f fd F, g, F.kp, b⟩
end
theorem same_upd {H : Hp} {p : Addr} {o : HO} (h : H p = none) : Same H (upd H p o) := fun b x e => by
  rw [upd_ne (ne_of_none e h)]
  exact e
/-- all that was tracked but d is as it was -/
def Kp (d : Addr) (H H' : Hp) : Prop := ∀ b o, H b = some o → b ≠ d → H' b = some o
theorem Kp.refl (d : Addr) (H : Hp) : Kp d H H := fun _ _ e _ => e
theorem Kp.trans {d : Addr} {H H1 H2 : Hp} (a : Kp d H H1) (b : Kp d H1 H2) : Kp d H H2 := fun c o e n => b c o (a c o e n) n
theorem Kp.of {d : Addr} {H H' : Hp} (a : Same H H') : Kp d H H' := fun c o e _ => a c o e
theorem Kp.upd {d : Addr} {H : Hp} {o : HO} : Kp d H (L2.upd H d o) := fun c x e n => by rw [upd_ne n]; exact e
theorem Kp.free {d : Addr} {H H' : Hp} {p : Addr} (a : Kp d H H') (hp : p ≠ d) (h : H' p = none) : H p = none := by
  cases q : H p with
  | none => rfl
  | some o => rw [a p o q hp] at h; cases h
/-- the draws: a list of small numbers at l, and the place of the next one -/
def DrA (H : Hp) (d l : Addr) : Prop := ∃ (n : Nat) (ms : List Int), H d = some (.lst [.ref l, .int n]) ∧ H l = some (.lst (ms.map V.int)) ∧ ∀ z, z ∈ ms → 0 ≤ z ∧ z < 1000000
theorem draws_ne {H : Hp} {d l : Addr} {n : Int} {ms : List Int} (h1 : H d = some (.lst [.ref l, .int n])) (h2 : H l = some (.lst (ms.map V.int))) : l ≠ d := by
  intro e
  subst e
  rw [h1] at h2
  have h3 : [V.ref l, V.int n] = ms.map V.int := HO.lst.inj (Option.some.inj h2)
  cases ms with
  | nil => cases h3
  | cons a r => injection h3 with h4 _; cases h4
theorem DrA.same {H H' : Hp} {d l : Addr} (h : DrA H d l) (s : Same H H') : DrA H' d l := by
  obtain ⟨n, ms, h1, h2, h3⟩ := h
  exact ⟨n, ms, s _ _ h1, s _ _ h2, h3⟩
theorem DrA.some {H : Hp} {d l : Addr} (h : DrA H d l) : ∃ xs, H d = Option.some (.lst xs) := by
  obtain ⟨n, ms, h1, _⟩ := h
  exact ⟨_, h1⟩
theorem DrA.some' {H : Hp} {d l : Addr} (h : DrA H d l) : ∃ xs, H l = Option.some (.lst xs) := by
  obtain ⟨n, ms, _, h1, _⟩ := h
  exact ⟨_, h1⟩
theorem DrA.ne {H : Hp} {d l p : Addr} (h : DrA H d l) (np : H p = none) : p ≠ d ∧ p ≠ l := by
  obtain ⟨xs, e⟩ := h.some
  obtain ⟨ys, e'⟩ := h.some'
  exact ⟨(fun z => by rw [z, e] at np; cases np), (fun z => by rw [z, e'] at np; cases np)⟩
theorem DrA.kp {H H' : Hp} {d l p : Addr} (h : DrA H d l) (k : Kp p H H') (n : p ≠ d ∧ p ≠ l) : DrA H' d l := by
  obtain ⟨i, ms, h1, h2, h3⟩ := h
  exact ⟨i, ms, k _ _ h1 n.1.symm, k _ _ h2 n.2.symm, h3⟩
theorem get_int {ns : List Int} {i : Nat} {y : V} (h : (ns.map V.int)[i]? = some y) : ∃ z, ns[i]? = some z ∧ y = .int z := by
  rw [List.getElem?_map] at h
  cases e : ns[i]? with
  | none => rw [e] at h; cases h
  | some z => rw [e] at h; exact ⟨z, rfl, (Option.some.inj h).symm⟩
/-! ### the promises of the law's helpers -/
def spMixed : Sp := fun vs H Q _ => ∃ n k : Int, vs = [.int n, .int k] ∧ ∀ z : Int, 0 ≤ z → z < 2147483647 → Q (.int z) H
def Small (ms : List Int) : Prop := ∀ z, z ∈ ms → 0 ≤ z ∧ z < 1000000
theorem Small.add {ms : List Int} {z : Int} (h : Small ms) : Small (ms ++ [z % 1000000]) := by
  intro y hy
  rcases List.mem_append.mp hy with hy | hy
  · exact h y hy
  · rw [List.mem_singleton.mp hy]
    exact ⟨Int.emod_nonneg _ (by decide), Int.emod_lt_of_pos _ (by decide)⟩
def spNumbers (K : PySem.W.Frag) : Sp := fun vs H Q _ => ∃ (a : Addr) (ns : List Int), vs = [.ref a] ∧ SqL K H a (ns.map V.int) ∧ ns.length ≤ 63 ∧
  ∀ (H' : Hp) (p : Addr) (ms : List Int), Same H H' → H p = none → H' p = some (.lst (ms.map V.int)) → Small ms → Q (.ref p) H'
def spDraw : Sp := fun vs H Q _ => ∃ d l : Addr, vs = [.ref d] ∧ DrA H d l ∧ ∀ (z : Int) (H' : Hp), 0 ≤ z → z < 1000000 → DrA H' d l → Kp d H H' → Q (.int z) H'
section
variable {P : Program} {w : World} {K : PySem.W.Frag} {mg : Str → Option Value} {base : Heap}
theorem sc_mixed : FnScope ["number", "k", "step"] ["number", "k"] (defScope (top 62)) := ⟨rfl, rfl, rfl, by decide +kernel, rfl, by decide +kernel, by decide +kernel⟩
theorem has_mixed (D : Def K mg "_law_mixed" ["number", "k"] (top 62)) : Has P w K mg base 1 "_law_mixed" ["number", "k"] spMixed := D.has fun f fd F => by
  refine F.ok sc_mixed (fun vs H Q E h => ?_) (fun cdv A outer s H vs Q E hr h => ?_)
  · obtain ⟨n, k, rfl, _⟩ := h; rfl
  · obtain ⟨n, k, rfl, q⟩ := h
    refine ⟨_, PSs.nox (pss_cons (ps_set (i := 2) sc_mixed.nd rfl (Or.inl rfl) (pe_op op_mod (pe_op op_add (pe_op op_add (pe_op op_mul (pv 0) pe_int) (pe_op op_mul (pv 1) pe_int)) pe_int) pe_int)) (pss_one (ps_ret (pe_op op_mod (pe_op op_add (pe_op op_mul (pv 2) (pe_op op_add (pe_op op_fdiv (pv 2) pe_int) pe_int)) (pv 1)) pe_int)))), ?_⟩
    refine ⟨_, rfl, _, _, rfl, rfl, .inr ⟨by decide, by decide⟩, _, rfl, _, _, rfl, rfl, .inr ⟨by decide, by decide⟩, _, _, rfl, rfl, _, _, rfl, rfl, _, _, rfl, rfl, (by show (0 : Int) < 2147483647; decide), ?_⟩
    have h0 : 0 ≤ (n * 48271 + k * 69621 + 12345) % 2147483647 := Int.emod_nonneg _ (by decide)
    have h1 : (n * 48271 + k * 69621 + 12345) % 2147483647 < 2147483647 := Int.emod_lt_of_pos _ (by decide)
    revert h0 h1
    generalize (n * 48271 + k * 69621 + 12345) % 2147483647 = z
    intro h0 h1
    refine ⟨_, rfl, _, rfl, _, _, rfl, rfl, ⟨by decide, by decide⟩, _, _, rfl, rfl, _, _, rfl, rfl, .inl ⟨by omega, by omega⟩, _, rfl, _, _, rfl, rfl, _, _, rfl, rfl, (by show (0 : Int) < 2147483647; decide), ?_⟩
    exact q _ (Int.emod_nonneg _ (by decide)) (Int.emod_lt_of_pos _ (by decide))
theorem sc_numbers : FnScope ["script", "numbers", "cell", "rest", "k"] ["script"] (defScope (top 63)) := ⟨rfl, rfl, rfl, by decide +kernel, rfl, by decide +kernel, by decide +kernel⟩
theorem has_numbers (D : Def K mg "_law_numbers" ["script"] (top 63)) (T : Txt mg) (C1 : Has P w K mg base 1 "_law_mixed" ["number", "k"] spMixed) : Has P w K mg base 2 "_law_numbers" ["script"] (spNumbers K) := D.has fun f fd F => by
  obtain ⟨f1, fd1, G_law_mixed, g_law_mixed, k_law_mixed, b_law_mixed⟩ := C1
  refine F.ok sc_numbers (fun vs H Q E h => ?_) (fun cdv A outer s H vs Q E hr h => ?_)
  · obtain ⟨a, ns, rfl, _⟩ := h; rfl
  · obtain ⟨a, ns, rfl, hS, hlen, q⟩ := h
    have R_law_mixed : Room 1 _ := hr.mono (by decide)
    refine ⟨_, PSs.nox (pss_cons (ps_set (i := 1) sc_numbers.nd rfl (Or.inl rfl) (pe_lst pa_nil)) (pss_cons (ps_for PassesOwn.never rfl (pi_list (pv 0)) (pg_name (i := 2) sc_numbers.nd rfl (Or.inl rfl)) (pss_one (ps_if (pt_cmpR op_ge (pv 2) (pe_op op_pow pe_int pe_int) (nomark _)) (pss_cons (ps_set (i := 3) sc_numbers.nd rfl (Or.inl rfl) (pv 2)) (pss_one (ps_for PassesOwn.never rfl (pi_range1 (by rfl) T.n_range (pa_cons pe_int pa_nil)) (pg_name (i := 4) sc_numbers.nd rfl (Or.inl rfl)) (pss_one (ps_if (pt_cmpR op_gt (pv 3) pe_int (nomark _)) (pss_cons (ps_expr (pe_bm PySem.F.plainAttrs_list PySem.F.slot_list_append PySem.F.type_list_append mt_append (pv 1) (pa_cons (pe_op op_mod (pv 3) pe_int) pa_nil))) (pss_one (ps_set (i := 3) sc_numbers.nd rfl (Or.inl rfl) (pe_op op_fdiv (pv 3) pe_int)))) pss_nil))))) (pss_cons (ps_expr (pe_bm PySem.F.plainAttrs_list PySem.F.slot_list_append PySem.F.type_list_append mt_append (pv 1) (pa_cons (pe_op op_mod (pv 2) pe_int) pa_nil))) (pss_one (ps_for PassesOwn.never rfl (pi_range1 (by rfl) T.n_range (pa_cons pe_int pa_nil)) (pg_name (i := 4) sc_numbers.nd rfl (Or.inl rfl)) (pss_one (ps_expr (pe_bm PySem.F.plainAttrs_list PySem.F.slot_list_append PySem.F.type_list_append mt_append (pv 1) (pa_cons (pe_op op_mod (pe_call G_law_mixed R_law_mixed (by rfl) g_law_mixed k_law_mixed b_law_mixed .nil pass0 (pa_cons (pe_call G_law_mixed R_law_mixed (by rfl) g_law_mixed k_law_mixed b_law_mixed .nil pass0 (pa_cons (pe_op op_mod (pv 2) pe_int) (pa_cons (pv 4) pa_nil))) (pa_cons (pe_op op_add (pv 4) pe_int) pa_nil))) pe_int) pa_nil)))))))))) (pss_one (ps_ret (pv 1))))), ?_⟩
    refine ⟨Nat.zero_le _, fun p np => ?_⟩
    have s0 : Same H (upd H p (.lst [])) := same_upd np
    refine ⟨_, rfl, a, rfl, ⟨_, s0.seq hS⟩, for_list (K := K) (a := a) (xs := ns.map V.int) (fun i σ H2 => ∃ (y2 y3 y4 : Option V) (ms : List Int), σ = [some (.ref a), some (.ref p), y2, y3, y4] ∧ Same H H2 ∧ H2 p = some (.lst (ms.map V.int)) ∧ ms.length ≤ 61 * i ∧ Small ms)
      ⟨none, none, none, [], rfl, s0, upd_same, Nat.zero_le _, fun z hz => nomatch hz⟩ (fun i σ H2 _ ⟨_, _, _, _, _, s2, _⟩ => s2.seq hS) ?_ ?_⟩
    · rintro i y σ H2 hi ⟨y2, y3, y4, ms, rfl, s2, hp, hl, sm⟩
      obtain ⟨c, hc, rfl⟩ := get_int hi
      have hi63 : i < 63 := by
        have := (List.getElem?_eq_some_iff.mp hc).1
        omega
      have room : ∀ j : Nat, j ≤ 60 → ((ms.length + j : Nat) < sizeLine) := fun j hj => Nat.lt_of_le_of_lt (show ms.length + j ≤ 61 * 62 + 60 by omega) (by decide)
      refine ⟨_, rfl, _, _, rfl, rfl, ⟨by decide, by decide, by decide⟩, _, _, rfl, rfl, _, rfl, ite2 (fun e => ?_) (fun e => ?_)⟩
      · -- a huge number: its pieces
        refine ⟨_, rfl, 60, rfl, by decide, by decide, for_range (n := 60) (fun j σ H3 => ∃ (y4 : Option V) (r : Int) (ms3 : List Int), σ = [some (.ref a), some (.ref p), some (.int c), some (.int r), y4] ∧ Same H H3 ∧ H3 p = some (.lst (ms3.map V.int)) ∧ ms3.length ≤ ms.length + j ∧ Small ms3)
          ⟨y4, c, ms, rfl, s2, hp, Nat.le_refl _, sm⟩ ?_ ?_⟩
        · rintro j σ H3 hj ⟨y4, r, ms3, rfl, s3, hp3, hl3, sm3⟩
          refine ⟨_, rfl, _, _, rfl, rfl, _, rfl, ite2 (fun e2 => ?_) (fun e2 => ?_)⟩
          · refine ⟨_, rfl, .inl ⟨rfl, _, SqL.of hp3⟩, _, rfl, _, _, rfl, rfl, (by show (0 : Int) < 1000000; decide), p, _, _, rfl, rfl, hp3, ?_, ?_⟩
            · rw [List.length_map]
              exact Nat.lt_of_le_of_lt hl3 (room j (by omega))
            · refine ⟨_, rfl, _, _, rfl, rfl, ⟨by decide, by decide⟩, ?_⟩
              refine ⟨_, _, ms3 ++ [r % 1000000], rfl, fun b o eb => ?_, ?_, ?_, sm3.add⟩
              · rw [upd_ne (ne_of_none eb np)]
                exact s3 _ _ eb
              · rw [upd_same, List.map_append]
                rfl
              · rw [List.length_append]
                show ms3.length + 1 ≤ _
                omega
          · exact ⟨_, r, ms3, rfl, s3, hp3, by omega, sm3⟩
        · rintro σ H3 ⟨y4, r, ms3, rfl, s3, hp3, hl3, sm3⟩
          exact ⟨_, _, y4, ms3, rfl, s3, hp3, by omega, sm3⟩
      · refine ⟨_, rfl, .inl ⟨rfl, _, SqL.of hp⟩, _, rfl, _, _, rfl, rfl, (by show (0 : Int) < 1000000; decide), p, _, _, rfl, rfl, hp, ?_, ?_⟩
        · rw [List.length_map]
          exact room 0 (by decide)
        · refine ⟨5, rfl, by decide, by decide, for_range (n := 5) (fun j σ H3 => ∃ (y4 : Option V) (ms3 : List Int), σ = [some (.ref a), some (.ref p), some (.int c), y3, y4] ∧ Same H H3 ∧ H3 p = some (.lst (ms3.map V.int)) ∧ ms3.length ≤ ms.length + 1 + j ∧ Small ms3)
            ⟨y4, ms ++ [c % 1000000], rfl, fun b o eb => ?_, ?_, ?_, sm.add⟩ ?_ ?_⟩
          · rw [upd_ne (ne_of_none eb np)]
            exact s2 _ _ eb
          · rw [upd_same, List.map_append]
            rfl
          · rw [List.length_append]
            show ms.length + 1 ≤ _
            omega
          · rintro j σ H3 hj ⟨y4, ms3, rfl, s3, hp3, hl3, sm3⟩
            refine ⟨_, rfl, .inl ⟨rfl, _, SqL.of hp3⟩, ?_⟩
            refine ⟨_, rfl, _, _, rfl, rfl, (by show (0 : Int) < 2147483647; decide), _, rfl, _, _, rfl, fun z1 _ _ => ?_⟩
            refine ⟨_, rfl, _, _, rfl, rfl, _, _, rfl, fun z2 _ _ => ?_⟩
            refine ⟨_, _, rfl, rfl, (by show (0 : Int) < 1000000; decide), p, _, _, rfl, rfl, hp3, ?_, ?_⟩
            · rw [List.length_map]
              exact Nat.lt_of_le_of_lt hl3 (Nat.lt_of_le_of_lt (show ms.length + 1 + j ≤ ms.length + 60 by omega) (room 60 (by decide)))
            · refine ⟨_, ms3 ++ [z2 % 1000000], rfl, fun b o eb => ?_, ?_, ?_, sm3.add⟩
              · rw [upd_ne (ne_of_none eb np)]
                exact s3 _ _ eb
              · rw [upd_same, List.map_append]
                rfl
              · rw [List.length_append]
                show ms3.length + 1 ≤ _
                omega
          · rintro σ H3 ⟨y4, ms3, rfl, s3, hp3, hl3, sm3⟩
            exact ⟨_, _, y4, ms3, rfl, s3, hp3, by omega, sm3⟩
    · rintro σ H2 ⟨y2, y3, y4, ms, rfl, s2, hp, hl, sm⟩
      exact ⟨_, rfl, q H2 p ms s2 np hp sm⟩
theorem sc_draw : FnScope ["draws", "at", "first"] ["draws"] (defScope (top 64)) := ⟨rfl, rfl, rfl, by decide +kernel, rfl, by decide +kernel, by decide +kernel⟩
theorem has_draw (D : Def K mg "_law_draw" ["draws"] (top 64)) (T : Txt mg) (C1 : Has P w K mg base 1 "_law_mixed" ["number", "k"] spMixed) : Has P w K mg base 2 "_law_draw" ["draws"] spDraw := D.has fun f fd F => by
  obtain ⟨f1, fd1, G_law_mixed, g_law_mixed, k_law_mixed, b_law_mixed⟩ := C1
  refine F.ok sc_draw (fun vs H Q E h => ?_) (fun cdv A outer s H vs Q E hr h => ?_)
  · obtain ⟨d, l, rfl, _⟩ := h; rfl
  · obtain ⟨d, l, rfl, ⟨n, ms, h1, h2, sm⟩, q⟩ := h
    have R_law_mixed : Room 1 _ := hr.mono (by decide)
    have nld := draws_ne h1 h2
    refine ⟨_, PSs.nox (pss_cons (ps_set (i := 1) sc_draw.nd rfl (Or.inl rfl) (pe_ix ix_list (pv 0) pe_int (fun _ _ => rfl))) (pss_cons (ps_asg (pe_op op_add (pv 1) pe_int) (pg_sub (pv 0) pe_int set_list)) (pss_cons (ps_if (pt_cmpR op_lt (pv 1) (pe_callB call_len_seq (by rfl) T.n_len PySem.boot_len (pa_cons (pe_ix ix_list (pv 0) pe_int (fun _ _ => rfl)) pa_nil)) (nomark _)) (pss_one (ps_ret (pe_ix ix_list (pe_ix ix_list (pv 0) pe_int (fun _ _ => rfl)) (pv 1) (fun _ _ => rfl)))) pss_nil) (pss_cons (ps_set (i := 2) sc_draw.nd rfl (Or.inl rfl) (pe_op op_add pe_int (pv 1))) (pss_cons (ps_if (pt_cmpR op_gt (pe_callB call_len_seq (by rfl) T.n_len PySem.boot_len (pa_cons (pe_ix ix_list (pv 0) pe_int (fun _ _ => rfl)) pa_nil)) pe_int (nomark _)) (pss_one (ps_set (i := 2) sc_draw.nd rfl (Or.inl rfl) (pe_op op_add (pv 2) (pe_op op_mul pe_int (pe_ix ix_list (pe_ix ix_list (pv 0) pe_int (fun _ _ => rfl)) pe_int (fun _ _ => rfl)))))) pss_nil) (pss_one (ps_ret (pe_op op_mod (pe_call G_law_mixed R_law_mixed (by rfl) g_law_mixed k_law_mixed b_law_mixed .nil pass0 (pa_cons (pe_call G_law_mixed R_law_mixed (by rfl) g_law_mixed k_law_mixed b_law_mixed .nil pass0 (pa_cons (pv 2) (pa_cons (pv 1) pa_nil))) (pa_cons pe_int pa_nil))) pe_int)))))))), ?_⟩
    refine ⟨_, rfl, d, _, _, _, rfl, rfl, SqL.of h1, atI_nat (j := 1) rfl, ?_⟩
    refine ⟨_, rfl, _, _, rfl, rfl, _, rfl, d, _, _, 1, rfl, rfl, h1, rfl, ?_⟩
    have k1 : Kp d H (upd H d (.lst ([V.ref l, V.int n].set 1 (.int ((n : Int) + 1))))) := Kp.upd
    have h1' : (upd H d (.lst ([V.ref l, V.int n].set 1 (.int ((n : Int) + 1))))) d = some (.lst [.ref l, .int ((n + 1 : Nat) : Int)]) := by
      rw [upd_same]
      rfl
    have h2' : (upd H d (.lst ([V.ref l, V.int n].set 1 (.int ((n : Int) + 1))))) l = some (.lst (ms.map V.int)) := k1 l _ h2 nld
    revert k1 h1' h2'
    generalize upd H d (.lst ([V.ref l, V.int n].set 1 (.int ((n : Int) + 1)))) = H1
    intro k1 h1' h2'
    have dr : DrA H1 d l := ⟨n + 1, ms, h1', h2', sm⟩
    refine ⟨_, rfl, _, rfl, d, _, _, _, rfl, rfl, SqL.of h1', atI_nat (j := 0) rfl, l, _, rfl, .inl (SqL.of h2'), _, _, rfl, rfl, _, rfl, ite2 (fun e => ?_) (fun e => ?_)⟩
    · have hn : n < ms.length := by
        have e1 := of_decide_eq_true e
        rw [List.length_map] at e1
        omega
      have e1 : (ms.map V.int)[n]? = some (.int ms[n]) := by
        rw [List.getElem?_map, List.getElem?_eq_getElem hn]
        rfl
      refine ⟨_, rfl, d, _, _, _, rfl, rfl, SqL.of h1', atI_nat (j := 0) rfl, _, rfl, l, _, _, _, rfl, rfl, SqL.of h2', atI_nat e1, ?_⟩
      obtain ⟨z0, z1⟩ := sm _ (List.getElem_mem hn)
      exact q _ _ z0 z1 dr k1
    · refine ⟨_, rfl, _, _, rfl, rfl, ?_⟩
      refine ⟨_, rfl, d, _, _, _, rfl, rfl, SqL.of h1', atI_nat (j := 0) rfl, l, _, rfl, .inl (SqL.of h2'), _, _, rfl, rfl, _, rfl, ite2 (fun e2 => ?_) (fun e2 => ?_)⟩
      · have hn : 0 < ms.length := by
          have e1 := of_decide_eq_true e2
          rw [List.length_map] at e1
          omega
        have e1 : (ms.map V.int)[0]? = some (.int ms[0]) := by
          rw [List.getElem?_map, List.getElem?_eq_getElem hn]
          rfl
        refine ⟨_, rfl, _, rfl, d, _, _, _, rfl, rfl, SqL.of h1', atI_nat (j := 0) rfl, l, _, _, _, rfl, rfl, SqL.of h2', atI_nat (j := 0) e1, _, _, rfl, rfl, .inl ⟨by decide, by decide⟩, _, _, rfl, rfl, ?_⟩
        refine ⟨_, rfl, _, rfl, _, _, rfl, fun z1 _ _ => ?_⟩
        refine ⟨_, _, rfl, fun z2 _ _ => ?_⟩
        refine ⟨_, _, rfl, rfl, (by show (0 : Int) < 1000000; decide), ?_⟩
        exact q _ _ (Int.emod_nonneg _ (by decide)) (Int.emod_lt_of_pos _ (by decide)) dr k1
      · refine ⟨_, rfl, _, rfl, _, _, rfl, fun z1 _ _ => ?_⟩
        refine ⟨_, _, rfl, fun z2 _ _ => ?_⟩
        refine ⟨_, _, rfl, rfl, (by show (0 : Int) < 1000000; decide), ?_⟩
        exact q _ _ (Int.emod_nonneg _ (by decide)) (Int.emod_lt_of_pos _ (by decide)) dr k1
end
/-! ### own errors -/
/-- what the head tells of the class x of errors (over ValueError) -/
structure XC (K : PySem.W.Frag) (mg : Str → Option Value) (x : Str) : Prop where
  g : mg x = some (.ref (He.ga K x))
  ex : PySem.W.excIn K (He.ga K x) [.type "ValueError", .type "Exception", .type "BaseException", .type "object"] "ValueError.__new__" = true
  k : PySem.W.keepIn K (.ref (He.ga K x)) = true
  b : PySem.W.subIn K (.ref (He.ga K x)) (.type "BaseException") = some true
  t : PySem.W.typeIn K (.ref (He.ga K x)) = some (.type "type")
  e : PySem.W.exmOne K (.ref (He.ga K x)) (.ref (He.ga K x)) = some true
  i : ExcC K (He.ga K x)
def xcB (K : PySem.W.Frag) (x : Str) : Bool :=
  PySem.W.excIn K (He.ga K x) [.type "ValueError", .type "Exception", .type "BaseException", .type "object"] "ValueError.__new__" && (PySem.W.keepIn K (.ref (He.ga K x)) && ((PySem.W.subIn K (.ref (He.ga K x)) (.type "BaseException") == some true) && ((PySem.W.typeIn K (.ref (He.ga K x)) == some (.type "type")) &&
  ((PySem.W.exmOne K (.ref (He.ga K x)) (.ref (He.ga K x)) == some true) && ((PySem.W.findIn K (.ref (He.ga K x)) "__getattribute__" == some (some (.builtin "BaseException.__getattribute__"))) && ((PySem.W.findIn K (.ref (He.ga K x)) "__getattr__" == some none) && (PySem.W.hasDictIn K (He.ga K x) &&
  ((PySem.W.findIn K (.ref (He.ga K x)) "__class__" == some (some (.builtin "object.__class__"))) && ((PySem.W.specialIn K (.builtin "object.__class__") "__get__" == some (some (.builtin "getset_descriptor.__get__"))) && ((PySem.W.takesIn K (.builtin "object.__class__") == some true) && (PySem.W.mroIn K (He.ga K x) (.type "object") == some true)))))))))))
theorem xcB_ok {K : PySem.W.Frag} {mg : Str → Option Value} {x : Str} (g : mg x = some (.ref (He.ga K x))) (h : xcB K x = true) : XC K mg x := by
  unfold xcB at h
  simp only [Bool.and_eq_true, beq_iff_eq] at h
  obtain ⟨h1, h2, h3, h4, h5, h6, h7, h8, h9, h10, h11, h12⟩ := h
  exact ⟨g, h1, h2, h3, h4, h5, ⟨h6, h7, h3, h8, h9, h10, h11, h12⟩⟩
/-- isinstance(e, C): of the class x, whether it is under the class c -/
def kitB2 (K : PySem.W.Frag) (x c : Str) (b : Bool) : Bool := PySem.W.kitOne K (.ref (He.ga K x)) (.ref (He.ga K c)) == some b
theorem kitB2_ok {K : PySem.W.Frag} {x c : Str} {b : Bool} (h : kitB2 K x c b = true) : PySem.W.kitOne K (.ref (He.ga K x)) (.ref (He.ga K c)) = some b := beq_iff_eq.mp h
section
variable {X : Cx}
theorem XC.raises {x : Str} {K : PySem.W.Frag} {mg : Str → Option Value} (c : XC K mg x) (hk : X.K = K) : Raises X (.ref (He.ga K x)) := by
  subst hk
  exact raises_own c.b c.t
/-- raise X('m') -/
theorem ps_raiseX {x m : Str} {j : Nat} {p p2 pos pos' : Pos} {W : WX} (c : XC X.K X.mg x) (hc : X.calm = true) (tk : Takes X W) (hg : Gl X x) (hdb : (x == ("__debug__" : Str)) = false := by decide) :
    PS X (.Raise (some (.Call (.Name x p) [.Constant (.str m) j p2] [] pos)) none pos') (fun _ σ H => W (.ref (He.ga X.K x)) none σ H) :=
  ps_raise hc tk (pmk_own PySem.F.excBase_ValueError c.ex c.g c.k (raises_own c.b c.t) hg hdb)
/-- isinstance(e, c) in the suite that holds e -/
theorem call_isE' {a : Addr} {oe : Obj} {cls : Value} {d : Option Addr} {pn : List (Addr × Obj)} (hz : Zc cls d oe) (hf : ∃ vs, oe.data = .fields vs) :
    CallR (X.suite a ((a, oe) :: pn)) (.builtin "isinstance") (fun xs H Q => ∃ (D C : Addr) (b : Bool), cls = .ref D ∧ d = none ∧ ExcC X.K D ∧ xs = [.ref a, .ref C] ∧ PySem.W.kitOne X.K (.ref D) (.ref C) = some b ∧ Q (.bl b) H) := by
  intro pins s σ H xs us Q I r h
  obtain ⟨D, C, b, rfl, rfl, c, rfl, k, q⟩ := h
  exact call_isE c hz hf pins s σ H _ us Q I r ⟨.ref C, .ref C, b, rfl, fun u e => e, k, q⟩
end
/-! ### what the head must tell besides -/
def tupEB (K : PySem.W.Frag) (t : Addr) (z : Str) : Bool := match K.lookup t with
  | some ⟨.type c, _, .seq its _, _⟩ => decide (c = "tuple") && (decide (its.size ≤ sizeLine) && (match its.toList with
    | [.str y _, .ref t2] => decide (y = z) && (match K.lookup t2 with
      | some ⟨.type c2, _, .seq its2 _, _⟩ => decide (c2 = "tuple") && (decide (its2.size ≤ sizeLine) && (match its2.toList with
        | [] => true
        | _ => false))
      | _ => false)
    | _ => false))
  | _ => false
def ewB (K : PySem.W.Frag) (k z : Str) : Bool := match PySem.W.nsIn K (He.ga K "EMPTY_OF_WORDS") k with
  | some (some (.ref t)) => tupEB K t z
  | _ => false
theorem ewB_ok {K : PySem.W.Frag} {k z : Str} (h : ewB K k z = true) : ∃ t t2, PySem.W.nsIn K (He.ga K "EMPTY_OF_WORDS") k = some (some (.ref t)) ∧ (∀ H : Hp, SqT K H t [.str z, .ref t2]) ∧ ∀ H : Hp, SqT K H t2 [] := by
  unfold ewB at h
  split at h
  · rename_i t e
    unfold tupEB at h
    split at h
    · rename_i c od its n sl q
      obtain ⟨h1, h2⟩ := He.ba h
      obtain ⟨h3, h4⟩ := He.ba h2
      split at h4
      · rename_i y tk t2 el
        obtain ⟨h5, h6⟩ := He.ba h4
        split at h6
        · rename_i c2 od2 its2 n2 sl2 q2
          obtain ⟨h7, h8⟩ := He.ba h6
          obtain ⟨h9, h10⟩ := He.ba h8
          split at h10
          · rename_i el2
            refine ⟨t, t2, e, fun H => .inr ⟨_, its, n, q, congrArg Value.type (of_decide_eq_true h1), rfl, of_decide_eq_true h3, ?_⟩, fun H => .inr ⟨_, its2, n2, q2, congrArg Value.type (of_decide_eq_true h7), rfl, of_decide_eq_true h9, ?_⟩⟩
            · rw [el, ← of_decide_eq_true h5]
              exact .cons ⟨tk, rfl⟩ (.cons rfl .nil)
            · rw [el2]
              exact .nil
          · cases h10
        · cases h6
      · cases h4
    · cases h
  · cases h
/-! ### the keys of a written dict, all of them -/
def keysB (K : PySem.W.Frag) (x : Str) (ks : List Str) : Bool := match K.lookup (He.ga K x) with
  | some ⟨_, _, .dict es _, _⟩ => es.toList.all fun e => !e.refKey && ks.any fun k => e.key.isStr k
  | _ => false
/-- the dict x has no keys but ks -/
def AllK (K : PySem.W.Frag) (x : Str) (ks : List Str) : Prop := ∀ z, z ∉ ks → PySem.W.nsIn K (He.ga K x) z = some none
theorem isStr_eq {v : Value} {a b : Str} (h : v.isStr a = true) (g : v.isStr b = true) : a = b := by
  cases v <;> simp_all [Value.isStr]
theorem keysB_ok {K : PySem.W.Frag} {x : Str} {ks : List Str} (h : keysB K x ks = true) : AllK K x ks := fun z hz => by
  unfold keysB at h
  unfold PySem.W.nsIn
  split at h
  · rename_i es n sl e
    rw [e]
    have a := List.all_eq_true.mp h
    have f : es.toList.find? (fun e => e.key.isStr z) = none := List.find?_eq_none.mpr fun d hd hh => by
      obtain ⟨_, b⟩ := Bool.and_eq_true_iff.mp (a d hd)
      obtain ⟨k, hk, ek⟩ := List.any_eq_true.mp b
      exact hz (by rw [isStr_eq hh ek]; exact hk)
    have g : es.toList.any (fun d => d.refKey) = false := List.any_eq_false.mpr fun d hd => by
      obtain ⟨b, _⟩ := Bool.and_eq_true_iff.mp (a d hd)
      cases q : d.refKey
      · exact Bool.false_ne_true
      · rw [q] at b; cases b
    show (match es.toList.find? (fun e => e.key.isStr z) with
      | some e => some (some e.val)
      | none => if es.toList.any (fun d => d.refKey) then none else some none) = some none
    rw [f, g]
    rfl
  · cases h
/-! ### what stands at the top -/
def thB (K : PySem.W.Frag) (x : Str) (kvs : List (Str × He.Dv)) : Bool := kvs.all fun p => match PySem.W.nsIn K (He.ga K x) p.1 with
  | some (some u) => He.relB (p.2.v K) u
  | _ => false
def msB (K : PySem.W.Frag) (x : Str) (ks : List Str) : Bool := ks.all fun k => match PySem.W.nsIn K (He.ga K x) k with
  | some none => true
  | _ => false
def d_is_whole : He.DefD := ⟨("is_whole", none), "is_whole", "is_whole", defArgs (top 7), defBody (top 7), defScope (top 7), [], []⟩
def d_is_between : He.DefD := ⟨("is_between", none), "is_between", "is_between", defArgs (top 8), defBody (top 8), defScope (top 8), [], []⟩
def d_is_name : He.DefD := ⟨("is_name", none), "is_name", "is_name", defArgs (top 14), defBody (top 14), defScope (top 14), [], []⟩
def d_are_variables : He.DefD := ⟨("_are_variables", none), "_are_variables", "_are_variables", defArgs (top 23), defBody (top 23), defScope (top 23), [], []⟩
def d_are_different : He.DefD := ⟨("are_different", none), "are_different", "are_different", defArgs (top 24), defBody (top 24), defScope (top 24), [], []⟩
def d_is_rel : He.DefD := ⟨("_is_rel", none), "_is_rel", "_is_rel", defArgs (top 25), defBody (top 25), defScope (top 25), [], []⟩
def d_is_comparison : He.DefD := ⟨("_is_comparison", none), "_is_comparison", "_is_comparison", defArgs (top 26), defBody (top 26), defScope (top 26), [], []⟩
def d_is_negation : He.DefD := ⟨("_is_negation", none), "_is_negation", "_is_negation", defArgs (top 27), defBody (top 27), defScope (top 27), [], []⟩
def d_is_joined : He.DefD := ⟨("_is_joined", none), "_is_joined", "_is_joined", defArgs (top 28), defBody (top 28), defScope (top 28), [], []⟩
def d_is_quantified : He.DefD := ⟨("_is_quantified", none), "_is_quantified", "_is_quantified", defArgs (top 29), defBody (top 29), defScope (top 29), [], []⟩
def d_is_fixed_point : He.DefD := ⟨("_is_fixed_point", none), "_is_fixed_point", "_is_fixed_point", defArgs (top 30), defBody (top 30), defScope (top 30), [], []⟩
def d_is_closure : He.DefD := ⟨("_is_closure", none), "_is_closure", "_is_closure", defArgs (top 31), defBody (top 31), defScope (top 31), [], []⟩
def d_is_guess : He.DefD := ⟨("_is_guess", none), "_is_guess", "_is_guess", defArgs (top 32), defBody (top 32), defScope (top 32), [], []⟩
def d_is_shape : He.DefD := ⟨("is_shape", none), "is_shape", "is_shape", defArgs (top 34), defBody (top 34), defScope (top 34), [], []⟩
def d_inner : He.DefD := ⟨("inner", none), "inner", "inner", defArgs (top 35), defBody (top 35), defScope (top 35), [], []⟩
def d_bound_name : He.DefD := ⟨("bound_name", none), "bound_name", "bound_name", defArgs (top 36), defBody (top 36), defScope (top 36), [], []⟩
def d_bound_arity : He.DefD := ⟨("bound_arity", none), "bound_arity", "bound_arity", defArgs (top 37), defBody (top 37), defScope (top 37), [], []⟩
def d_Reader___init__ : He.DefD := ⟨("Reader", some "__init__"), "__init__", "Reader.__init__", defArgs (inClass (top 41) 0), defBody (inClass (top 41) 0), defScope (inClass (top 41) 0), [], []⟩
def d_Reader_takes : He.DefD := ⟨("Reader", some "takes"), "takes", "Reader.takes", defArgs (inClass (top 41) 1), defBody (inClass (top 41) 1), defScope (inClass (top 41) 1), [], []⟩
def d_Reader_needs : He.DefD := ⟨("Reader", some "needs"), "needs", "Reader.needs", defArgs (inClass (top 41) 2), defBody (inClass (top 41) 2), defScope (inClass (top 41) 2), [], []⟩
def d_Reader_word : He.DefD := ⟨("Reader", some "word"), "word", "Reader.word", defArgs (inClass (top 41) 3), defBody (inClass (top 41) 3), defScope (inClass (top 41) 3), [], []⟩
def d_Reader_names : He.DefD := ⟨("Reader", some "names"), "names", "Reader.names", defArgs (inClass (top 41) 4), defBody (inClass (top 41) 4), defScope (inClass (top 41) 4), [], []⟩
def d_Reader_goes_in : He.DefD := ⟨("Reader", some "goes_in"), "goes_in", "Reader.goes_in", defArgs (inClass (top 41) 5), defBody (inClass (top 41) 5), defScope (inClass (top 41) 5), [], []⟩
def d_Reader_goes_out : He.DefD := ⟨("Reader", some "goes_out"), "goes_out", "Reader.goes_out", defArgs (inClass (top 41) 6), defBody (inClass (top 41) 6), defScope (inClass (top 41) 6), [], []⟩
def d_read_not : He.DefD := ⟨("_read_not", none), "_read_not", "_read_not", defArgs (top 42), defBody (top 42), defScope (top 42), [], []⟩
def d_read_joined : He.DefD := ⟨("_read_joined", none), "_read_joined", "_read_joined", defArgs (top 43), defBody (top 43), defScope (top 43), [], []⟩
def d_read_quantified : He.DefD := ⟨("_read_quantified", none), "_read_quantified", "_read_quantified", defArgs (top 44), defBody (top 44), defScope (top 44), [], []⟩
def d_read_fixed_point : He.DefD := ⟨("_read_fixed_point", none), "_read_fixed_point", "_read_fixed_point", defArgs (top 45), defBody (top 45), defScope (top 45), [], []⟩
def d_read_closure : He.DefD := ⟨("_read_closure", none), "_read_closure", "_read_closure", defArgs (top 46), defBody (top 46), defScope (top 46), [], []⟩
def d_read_guess : He.DefD := ⟨("_read_guess", none), "_read_guess", "_read_guess", defArgs (top 47), defBody (top 47), defScope (top 47), [], []⟩
def d_read_atom : He.DefD := ⟨("_read_atom", none), "_read_atom", "_read_atom", defArgs (top 49), defBody (top 49), defScope (top 49), [], []⟩
def d_read_formula : He.DefD := ⟨("_read_formula", none), "_read_formula", "_read_formula", defArgs (top 50), defBody (top 50), defScope (top 50), [], []⟩
def d_read_text : He.DefD := ⟨("read_text", none), "read_text", "read_text", defArgs (top 51), defBody (top 51), defScope (top 51), [], []⟩
def d_check_shapes : He.DefD := ⟨("_check_shapes", none), "_check_shapes", "_check_shapes", defArgs (top 55), defBody (top 55), defScope (top 55), [], []⟩
def d_arities_in : He.DefD := ⟨("arities_in", none), "arities_in", "arities_in", defArgs (top 56), defBody (top 56), defScope (top 56), [], []⟩
def d_is_positive_in : He.DefD := ⟨("is_positive_in", none), "is_positive_in", "is_positive_in", defArgs (top 57), defBody (top 57), defScope (top 57), [], []⟩
def d_check_fixed_points : He.DefD := ⟨("_check_fixed_points", none), "_check_fixed_points", "_check_fixed_points", defArgs (top 58), defBody (top 58), defScope (top 58), [], []⟩
def d_check_formula : He.DefD := ⟨("check_formula", none), "check_formula", "check_formula", defArgs (top 59), defBody (top 59), defScope (top 59), [], []⟩
def d_parse_formula : He.DefD := ⟨("parse_formula", none), "parse_formula", "parse_formula", defArgs (top 60), defBody (top 60), defScope (top 60), [], []⟩
def d_law_mixed : He.DefD := ⟨("_law_mixed", none), "_law_mixed", "_law_mixed", defArgs (top 62), defBody (top 62), defScope (top 62), [], []⟩
def d_law_numbers : He.DefD := ⟨("_law_numbers", none), "_law_numbers", "_law_numbers", defArgs (top 63), defBody (top 63), defScope (top 63), [], []⟩
def d_law_draw : He.DefD := ⟨("_law_draw", none), "_law_draw", "_law_draw", defArgs (top 64), defBody (top 64), defScope (top 64), [], []⟩
def d_law_some_of : He.DefD := ⟨("_law_some_of", none), "_law_some_of", "_law_some_of", defArgs (top 65), defBody (top 65), defScope (top 65), [], []⟩
def d_law_atom : He.DefD := ⟨("_law_atom", none), "_law_atom", "_law_atom", defArgs (top 66), defBody (top 66), defScope (top 66), [], []⟩
def d_law_within : He.DefD := ⟨("_law_within", none), "_law_within", "_law_within", defArgs (top 67), defBody (top 67), defScope (top 67), [], []⟩
def d_law_turned : He.DefD := ⟨("_law_turned", none), "_law_turned", "_law_turned", defArgs (top 68), defBody (top 68), defScope (top 68), [], []⟩
def d_law_barred : He.DefD := ⟨("_law_barred", none), "_law_barred", "_law_barred", defArgs (top 69), defBody (top 69), defScope (top 69), [], []⟩
def d_law_bound : He.DefD := ⟨("_law_bound", none), "_law_bound", "_law_bound", defArgs (top 70), defBody (top 70), defScope (top 70), [], []⟩
def d_law_formula : He.DefD := ⟨("_law_formula", none), "_law_formula", "_law_formula", defArgs (top 71), defBody (top 71), defScope (top 71), [], []⟩
def d_law_names : He.DefD := ⟨("_law_names", none), "_law_names", "_law_names", defArgs (top 72), defBody (top 72), defScope (top 72), [], []⟩
def d_law_parts : He.DefD := ⟨("_law_parts", none), "_law_parts", "_law_parts", defArgs (top 73), defBody (top 73), defScope (top 73), [], []⟩
def d_law_list : He.DefD := ⟨("_law_list", none), "_law_list", "_law_list", defArgs (top 74), defBody (top 74), defScope (top 74), [], []⟩
def d_law_text : He.DefD := ⟨("_law_text", none), "_law_text", "_law_text", defArgs (top 75), defBody (top 75), defScope (top 75), [], []⟩
def d_law_near : He.DefD := ⟨("_law_near", none), "_law_near", "_law_near", defArgs (top 76), defBody (top 76), defScope (top 76), [], []⟩
def d_law_spoilt : He.DefD := ⟨("_law_spoilt", none), "_law_spoilt", "_law_spoilt", defArgs (top 77), defBody (top 77), defScope (top 77), [], []⟩
def d_law_bad : He.DefD := ⟨("_law_bad", none), "_law_bad", "_law_bad", defArgs (top 78), defBody (top 78), defScope (top 78), [], []⟩
def d_law : He.DefD := ⟨("law", none), "law", "law", defArgs (top 79), defBody (top 79), defScope (top 79), [], []⟩
def fns : List He.DefD := [d_is_whole, d_is_between, d_is_name, d_are_variables, d_are_different, d_is_rel, d_is_comparison, d_is_negation, d_is_joined, d_is_quantified, d_is_fixed_point, d_is_closure, d_is_guess, d_is_shape, d_inner, d_bound_name, d_bound_arity, d_Reader___init__, d_Reader_takes, d_Reader_needs, d_Reader_word, d_Reader_names, d_Reader_goes_in, d_Reader_goes_out, d_read_not, d_read_joined, d_read_quantified, d_read_fixed_point, d_read_closure, d_read_guess, d_read_atom, d_read_formula, d_read_text, d_check_shapes, d_arities_in, d_is_positive_in, d_check_fixed_points, d_check_formula, d_parse_formula, d_law_mixed, d_law_numbers, d_law_draw, d_law_some_of, d_law_atom, d_law_within, d_law_turned, d_law_barred, d_law_bound, d_law_formula, d_law_names, d_law_parts, d_law_list, d_law_text, d_law_near, d_law_spoilt, d_law_bad, d_law]
def fas : List He.Fa := [.glo "is_whole", .glo "is_between", .glo "is_name", .glo "_are_variables", .glo "are_different", .glo "_is_rel", .glo "_is_comparison", .glo "_is_negation", .glo "_is_joined", .glo "_is_quantified", .glo "_is_fixed_point", .glo "_is_closure", .glo "_is_guess", .glo "is_shape", .glo "inner", .glo "bound_name", .glo "bound_arity", .meth "Reader" "__init__", .meth "Reader" "takes", .meth "Reader" "needs", .meth "Reader" "word", .meth "Reader" "names", .meth "Reader" "goes_in", .meth "Reader" "goes_out", .glo "_read_not", .glo "_read_joined", .glo "_read_quantified", .glo "_read_fixed_point", .glo "_read_closure", .glo "_read_guess", .glo "_read_atom", .glo "_read_formula", .glo "read_text", .glo "_check_shapes", .glo "arities_in", .glo "is_positive_in", .glo "_check_fixed_points", .glo "check_formula", .glo "parse_formula", .glo "_law_mixed", .glo "_law_numbers", .glo "_law_draw", .glo "_law_some_of", .glo "_law_atom", .glo "_law_within", .glo "_law_turned", .glo "_law_barred", .glo "_law_bound", .glo "_law_formula", .glo "_law_names", .glo "_law_parts", .glo "_law_list", .glo "_law_text", .glo "_law_near", .glo "_law_spoilt", .glo "_law_bad", .glo "law", .free "len", .free "range", .free "isinstance", .free "list", .free "tuple", .free "bool", .free "int", .free "str", .free "sorted", .free "set", .free "all", .free "any", .free "sum", .free "max", .free "min", .free "dict", .free "enumerate", .free "zip", .int "LONGEST_NAME" 12, .int "MOST_JOINED" 40, .int "LARGEST_GUESS" 3, .int "MOST_PARTS" 2000, .int "MOST_DEEP" 40, .str "LETTERS" "abcdefghijklmnopqrstuvwxyz", .str "FIGURES" "0123456789", .glo "RESERVED", .glo "REL_COUNTS", .glo "OWN_COUNTS", .glo "TC_COUNTS", .glo "LENGTHS", .glo "BODY_AT", .glo "TESTS", .glo "READERS", .glo "GUESS_ARITIES", .glo "BadText", .glo "BadFormula", .glo "SaysoError", .glo "BadArgument", .glo "BadStructure", .glo "EMPTY_OF_WORDS", .glo "Reader", .cls "Reader", .mkr "Reader", .noat "Reader" "text", .noat "Reader" "place", .noat "Reader" "levels_left"]
def tabs : List He.Tab := [((fun K => He.ga K "LENGTHS"), ["rel", "eq", "less", "not", "and", "or", "some", "all", "lfp", "pfp", "tc", "guess"]), ((fun K => He.ga K "BODY_AT"), ["not", "some", "all", "lfp", "pfp", "tc", "guess"]), ((fun K => He.ga K "TESTS"), ["rel", "eq", "less", "not", "and", "or", "some", "all", "lfp", "pfp", "tc", "guess"]), ((fun K => He.ga K "READERS"), ["not", "and", "or", "some", "all", "lfp", "pfp", "tc", "guess"]), ((fun K => He.ga K "GUESS_ARITIES"), ["0", "1", "2", "3"]), ((fun K => He.ga K "EMPTY_OF_WORDS"), ["true", "false"])]
def exs (K : PySem.W.Frag) : Bool := He.tupB K "RESERVED" [.str "and", .str "or", .str "not", .str "some", .str "all", .str "lfp", .str "pfp", .str "tc", .str "guess", .str "true", .str "false"] && (He.tupB K "REL_COUNTS" [.int 0, .int 1, .int 2, .int 3, .int 4, .int 5, .int 6] && (He.tupB K "OWN_COUNTS" [.int 1, .int 2, .int 3, .int 4, .int 5, .int 6] && (He.tupB K "TC_COUNTS" [.int 2, .int 4, .int 6, .int 8] && (thB K "LENGTHS" [("rel", .int 3), ("eq", .int 3), ("less", .int 3), ("not", .int 2), ("and", .int 2), ("or", .int 2), ("some", .int 3), ("all", .int 3), ("lfp", .int 5), ("pfp", .int 5), ("tc", .int 4), ("guess", .int 4)] && (thB K "BODY_AT" [("not", .int 1), ("some", .int 2), ("all", .int 2), ("lfp", .int 3), ("pfp", .int 3), ("tc", .int 2), ("guess", .int 3)] && (thB K "TESTS" [("rel", .glo "_is_rel"), ("eq", .glo "_is_comparison"), ("less", .glo "_is_comparison"), ("not", .glo "_is_negation"), ("and", .glo "_is_joined"), ("or", .glo "_is_joined"), ("some", .glo "_is_quantified"), ("all", .glo "_is_quantified"), ("lfp", .glo "_is_fixed_point"), ("pfp", .glo "_is_fixed_point"), ("tc", .glo "_is_closure"), ("guess", .glo "_is_guess")] && (thB K "READERS" [("not", .glo "_read_not"), ("and", .glo "_read_joined"), ("or", .glo "_read_joined"), ("some", .glo "_read_quantified"), ("all", .glo "_read_quantified"), ("lfp", .glo "_read_fixed_point"), ("pfp", .glo "_read_fixed_point"), ("tc", .glo "_read_closure"), ("guess", .glo "_read_guess")] && (thB K "GUESS_ARITIES" [("0", .int 0), ("1", .int 1), ("2", .int 2), ("3", .int 3)] && (msB K "LENGTHS" ["rell"] && (msB K "BODY_AT" ["rel", "eq", "less", "and", "or"] && (xcB K "BadText" && (xcB K "BadFormula" && (kitB2 K "BadText" "SaysoError" true && (kitB2 K "BadText" "BadArgument" false && (kitB2 K "BadText" "BadFormula" false && (kitB2 K "BadText" "BadStructure" false && (ewB K "true" "and" && (ewB K "false" "or" && (keysB K "READERS" ["not", "and", "or", "some", "all", "lfp", "pfp", "tc", "guess"] && (keysB K "EMPTY_OF_WORDS" ["true", "false"] && (keysB K "GUESS_ARITIES" ["0", "1", "2", "3"])))))))))))))))))))))
abbrev R : PySem.W.OpenRow := PySem.W.OpenLaw.row PySem.Challenge.rw_sayso_k11_texts_of_formulas_are_checked
abbrev hk : PySem.W.Hook := He.hookX 4 fas fns tabs [] exs
def ob (s : PySem.W.SharedT) : He.AlX := He.obsX 4 fas fns tabs [] exs (HandSHeadRun.getT s)
theorem ob_eq (s : PySem.W.SharedT) : ob s = hk.obs s.abs := He.obsX_eq (HandSHeadRun.getT_eq s)
def looseN : List PySem.Str := (["SaysoError", "BadStructure", "BadFormula", "BadText", "BadArgument", "is_whole", "is_between", "LONGEST_NAME", "LETTERS", "FIGURES", "RESERVED", "is_name", "MOST_JOINED", "LARGEST_GUESS", "REL_COUNTS", "OWN_COUNTS", "TC_COUNTS", "LENGTHS", "BODY_AT", "_are_variables", "are_different", "_is_rel", "_is_comparison", "_is_negation", "_is_joined", "_is_quantified", "_is_fixed_point", "_is_closure", "_is_guess", "TESTS"] : List PySem.Str) ++ (["is_shape", "inner", "bound_name", "bound_arity", "EMPTY_OF_WORDS", "GUESS_ARITIES", "Reader", "_read_not", "_read_joined", "_read_quantified", "_read_fixed_point", "_read_closure", "_read_guess", "READERS", "_read_atom", "_read_formula", "read_text", "MOST_PARTS", "MOST_DEEP", "_check_shapes", "arities_in", "is_positive_in", "_check_fixed_points", "check_formula", "parse_formula", "_law_mixed", "_law_numbers", "_law_draw", "_law_some_of", "_law_atom"] : List PySem.Str) ++ (["_law_within", "_law_turned", "_law_barred", "_law_bound", "_law_formula", "_law_names", "_law_parts", "_law_list", "_law_text", "_law_near", "_law_spoilt", "_law_bad"] : List PySem.Str)
theorem run_f (w : World) : HandSHeadRun.RunEq R (PySem.W.view R.prog [79]) hk ob 8000 looseN (w.withFollow "special-get-raises" false) := by
  intro os
  kernel_rfl
theorem run_t (w : World) : HandSHeadRun.RunEq R (PySem.W.view R.prog [79]) hk ob 8000 looseN (w.withFollow "special-get-raises" true) := by
  intro os
  kernel_rfl
theorem run (w : World) : HandSHeadRun.RunEq R (PySem.W.view R.prog [79]) hk ob 8000 looseN w :=
  PySem.W.byRow2 "special-get-raises" (P := fun w => HandSHeadRun.RunEq R (PySem.W.view R.prog [79]) hk ob 8000 looseN w) run_f run_t w

/-! ### small helpers -/
def tyN : V → String
  | .non => "NoneType"
  | .bl _ => "bool"
  | .int _ => "int"
  | .str _ => "str"
  | _ => ""
theorem ty_flat {K : PySem.W.Frag} {H : Hp} {v : V} (h : flatV v = true) : TyX K H v (.type (tyN v)) := by
  cases v with
  | non => exact .base .non
  | bl b => exact .base (.bl b)
  | int i => exact .base (.int i)
  | str z => exact .base (.str z)
  | byt b => cases h
  | flt b => cases h
  | ref a => cases h
  | ty n => cases h
theorem cT {k : Bool} {A B : Prop} (h : k = true) (q : A) : if k = true then A else B := by rw [if_pos h]; exact q
theorem cF {k : Bool} {A B : Prop} (h : k = false) (q : B) : if k = true then A else B := by rw [h]; exact iteF q
theorem nd_f {p : Prop} [Decidable p] (h : p) : (!decide p) = false := by rw [decide_eq_true h]; rfl
theorem nd_t {p : Prop} [Decidable p] (h : ¬ p) : (!decide p) = true := by rw [decide_eq_false h]; rfl
theorem isi_q {K : PySem.W.Frag} {i : Nat} {v : V} {n m : String} {b : Bool} {σ : L2.St} {H : Hp} {Q : VK} (e : σ[i]? = some (some v)) (t : TyX K H v (.type m)) (k : kitB m n = some b) (q : Q (.bl b) H) : tCB (rIsi K) (tCons (tVar i) (tCons (tC (.ty n)) tNil)) σ H Q :=
  ⟨_, e, _, _, _, _, _, rfl, .ty _, t, kit_ty k, q⟩
theorem isi_t {K : PySem.W.Frag} {i : Nat} {v : V} {n m : String} {b : Bool} {σ : L2.St} {H : Hp} {Q : Bool → Hp → Prop} (e : σ[i]? = some (some v)) (t : TyX K H v (.type m)) (k : kitB m n = some b) (q : Q b H) : tB (tCB (rIsi K) (tCons (tVar i) (tCons (tC (.ty n)) tNil))) σ H Q :=
  ⟨_, e, _, _, _, _, _, rfl, .ty _, t, kit_ty k, _, rfl, q⟩
/-! ### names -/
def lets : Str := "abcdefghijklmnopqrstuvwxyz"
def figs : Str := "0123456789"
def both : Str := "abcdefghijklmnopqrstuvwxyz0123456789"
def resv : List V := [.str "and", .str "or", .str "not", .str "some", .str "all", .str "lfp", .str "pfp", .str "tc", .str "guess", .str "true", .str "false"]
structure Nm (z : Str) : Prop where
  lo : 1 ≤ z.length
  hi : z.length ≤ 12
  first : ∀ c, z.cps.toList[0]? = some c → c ∈ lets.cps.toList
  res : inV (.str z) resv = false
  all_ : ∀ c, c ∈ z.cps.toList → c ∈ both.cps.toList
noncomputable def isNm (z : Str) : Bool := @decide (Nm z) (Classical.propDecidable _)
theorem isNm_t {z : Str} (h : Nm z) : isNm z = true := by unfold isNm; exact @decide_eq_true _ (_) h
theorem isNm_f {z : Str} (h : ¬ Nm z) : isNm z = false := by unfold isNm; exact @decide_eq_false _ (_) h
theorem both_eq : both.cps.toList = lets.cps.toList ++ figs.cps.toList := by decide +kernel
theorem in_both {c : Nat} : c ∈ both.cps.toList ↔ c ∈ lets.cps.toList ∨ c ∈ figs.cps.toList := by rw [both_eq]; exact List.mem_append
theorem filt_t {α : Type} {l : List α} {p : α → Bool} {i : Nat} {c : α} (h : l[i]? = some c) (hp : p c = true) : (l.take (i + 1)).filter p = (l.take i).filter p ++ [c] := by
  rw [List.take_add_one, h, List.filter_append]
  show _ ++ List.filter p [c] = _
  rw [List.filter_cons_of_pos hp, List.filter_nil]
theorem filt_f {α : Type} {l : List α} {p : α → Bool} {i : Nat} {c : α} (h : l[i]? = some c) (hp : p c = false) : (l.take (i + 1)).filter p = (l.take i).filter p := by
  rw [List.take_add_one, h, List.filter_append]
  show _ ++ List.filter p [c] = _
  rw [List.filter_cons_of_neg (by rw [hp]; exact Bool.false_ne_true), List.filter_nil, List.append_nil]
theorem sz_len (z : Str) : z.cps.toList.length = z.length := by show z.cps.toList.length = z.cps.size; simp
theorem at_sz {z : Str} {i c : Nat} (h : z.cps[i]? = some c) : z.cps.toList[i]? = some c := by simpa using h
def spIsName (K : PySem.W.Frag) : Sp := fun vs H Q _ => (∃ z : Str, vs = [.str z] ∧ z.length ≤ sizeLine ∧ Q (.bl (isNm z)) H) ∨ (∃ (x : V) (t : String), vs = [x] ∧ TyX K H x (.type t) ∧ kitB t "str" = some false ∧ Q (.bl false) H)
section
variable {P : Program} {w : World} {K : PySem.W.Frag} {mg : Str → Option Value} {base : Heap}
theorem sc_is_name : FnScope ["text", "sign"] ["text"] (defScope (top 14)) := ⟨rfl, rfl, rfl, by decide +kernel, rfl, by decide +kernel, by decide +kernel⟩
theorem has_is_name (D : Def K mg "is_name" ["text"] (top 14)) (T : Txt mg) (c1 : ∃ t, mg "LONGEST_NAME" = some (.int 12 t)) (c2 : ∃ t, mg "LETTERS" = some (.str lets t)) (c3 : ∃ t, mg "FIGURES" = some (.str figs t))
    (c_RESERVED : mg "RESERVED" = some (.ref (He.ga K "RESERVED"))) (rs : ∀ H : Hp, SqT K H (He.ga K "RESERVED") resv) : Has P w K mg base 1 "is_name" ["text"] (spIsName K) := D.has fun f fd F => by
  obtain ⟨t1, c_LONGEST_NAME⟩ := c1
  obtain ⟨t2, c_LETTERS⟩ := c2
  obtain ⟨t3, c_FIGURES⟩ := c3
  refine F.ok sc_is_name (fun vs H Q E h => ?_) (fun cdv A outer s H vs Q E hr h => ?_)
  · rcases h with ⟨z, rfl, _⟩ | ⟨x, t, rfl, _⟩ <;> rfl
  · refine ⟨_, PSs.nox (pss_cons (ps_if (PW.pt (pw_or (pt_not (pt_val (pe_callB call_isi (by rfl) T.n_isinstance (by decide +kernel) (pa_cons (pv 0) (pa_cons (pe_bltn (v := .ty "str") (by rfl) T.n_str (by decide +kernel) rfl) pa_nil))))) (pw_or1 (pt_not (pt_chain op_le op_le pe_int (pe_callB call_len_str (by rfl) T.n_len PySem.boot_len (pa_cons (pv 0) pa_nil)) (pe_glob (v := .int 12) (by rfl) c_LONGEST_NAME ⟨_, rfl⟩)))))) (pss_one (ps_ret pe_bl)) pss_nil) (pss_cons (ps_if (PW.pt (pw_or (pt_cmpR op_notIn_sign (pe_ix ix_str (pv 0) pe_int (fun _ _ => rfl)) (pe_glob (v := .str "abcdefghijklmnopqrstuvwxyz") (by rfl) c_LETTERS ⟨_, rfl⟩) (by rfl)) (pw_or1 (pt_cmpR op_in_seq (pv 0) (pe_glob (v := .ref (He.ga K "RESERVED")) (by rfl) c_RESERVED rfl) (by rfl))))) (pss_one (ps_ret pe_bl)) pss_nil) (pss_cons (ps_for PassesOwn.never rfl (pi_str (pv 0)) (pg_name (i := 1) sc_is_name.nd rfl (Or.inl rfl)) (pss_one (ps_if (PW.pt (pw_and (pt_cmpR op_notIn_sign (pv 1) (pe_glob (v := .str "abcdefghijklmnopqrstuvwxyz") (by rfl) c_LETTERS ⟨_, rfl⟩) (by rfl)) (pw_and1 (pt_cmpR op_notIn_sign (pv 1) (pe_glob (v := .str "0123456789") (by rfl) c_FIGURES ⟨_, rfl⟩) (by rfl))))) (pss_one (ps_ret pe_bl)) pss_nil))) (pss_one (ps_ret pe_bl))))), ?_⟩
    rcases h with ⟨z, rfl, hz, q⟩ | ⟨x, t, rfl, tx, hk, q⟩
    · have qf : ¬ Nm z → Q (.bl false) H := fun n => by rw [isNm_f n] at q; exact q
      have qt : Nm z → Q (.bl true) H := fun n => by rw [isNm_t n] at q; exact q
      refine ⟨_, rfl, _, _, _, _, _, rfl, .ty _, .base (.str z), kit_ty (b := "str") (r := true) (by decide +kernel), _, rfl, iteF ?_⟩
      refine ⟨_, rfl, _, rfl, hz, _, _, rfl, rfl, _, rfl, ite2 (fun e => ?_) (fun e => ?_)⟩
      · refine ⟨_, _, rfl, rfl, _, rfl, ?_⟩
        have e1 := of_decide_eq_true e
        by_cases h12 : ((z.length : Nat) : Int) ≤ 12
        · refine cF (nd_f h12) ?_
          have hl1 : 0 < z.cps.toList.length := by rw [sz_len]; omega
          have e0 : z.cps.toList[0]? = some (z.cps.toList[0]) := List.getElem?_eq_getElem hl1
          refine ⟨_, rfl, z, _, _, rfl, rfl, hz, atI_nat (j := 0) e0, _, _, rfl, rfl, _, rfl, ?_⟩
          by_cases hf : z.cps.toList[0] ∈ lets.cps.toList
          · refine cF (nd_f hf) ⟨_, rfl, _, _, rfl, .inr (rs _), rfl, rfl, _, rfl, ?_⟩
            by_cases hr2 : inV (.str z) resv = true
            · exact cT hr2 (qf fun n => by rw [n.res] at hr2; cases hr2)
            · have hr3 : inV (.str z) resv = false := by simpa using hr2
              refine cF hr3 ?_
              refine ⟨_, rfl, z, rfl, for_it walk_str (fun i σ H2 => ∃ y1, σ = [some (.str z), y1] ∧ H2 = H ∧ ∀ c, c ∈ z.cps.toList.take i → c ∈ both.cps.toList) ⟨none, rfl, rfl, fun c hc => by simp at hc⟩ (fun _ _ _ _ _ => trivial) ?_ ?_⟩
              · rintro i y σ H2 H3 hi ⟨y1, rfl, rfl, ha⟩ ⟨rfl, c, hc, rfl⟩
                have hc' := at_sz hc
                have next : c ∈ both.cps.toList → ∃ y1 : Option V, ([some (V.str z), some (V.str ⟨#[c]⟩)] : L2.St) = [some (.str z), y1] ∧ H3 = H3 ∧ ∀ c', c' ∈ z.cps.toList.take (i + 1) → c' ∈ both.cps.toList := fun hb => ⟨_, rfl, rfl, fun c' h' => by
                  rw [List.take_add_one, hc'] at h'
                  rcases List.mem_append.mp h' with h' | h'
                  · exact ha c' h'
                  · have e3 : c' = c := by simpa using h'
                    rw [e3]; exact hb⟩
                refine ⟨_, rfl, _, _, rfl, rfl, _, rfl, ?_⟩
                by_cases h1 : c ∈ lets.cps.toList
                · exact cF (nd_f h1) (iteF (next (in_both.mpr (.inl h1))))
                · refine cT (nd_t h1) ⟨_, rfl, _, _, rfl, rfl, _, rfl, ?_⟩
                  by_cases h2 : c ∈ figs.cps.toList
                  · exact cF (nd_f h2) (next (in_both.mpr (.inr h2)))
                  · refine cT (nd_t h2) (qf fun n => ?_)
                    rcases in_both.mp (n.all_ c (List.mem_of_getElem? hc')) with h3 | h3
                    · exact h1 h3
                    · exact h2 h3
              · rintro σ H2 ⟨y1, rfl, rfl, ha⟩
                refine qt ⟨by omega, by omega, fun c hc => by rw [e0] at hc; rw [← Option.some.inj hc]; exact hf, by simpa using hr2, fun c hc => ha c ?_⟩
                rw [List.take_of_length_le (by simp)]
                exact hc
          · exact cT (nd_t hf) (cT rfl (qf fun n => hf (n.first _ e0)))
        · exact cT (nd_t h12) (qf fun n => h12 (by have := n.hi; omega))
      · exact ⟨_, rfl, cT (k := !false) rfl (qf fun n => e (decide_eq_true (by have := n.lo; omega)))⟩
    · exact ⟨_, rfl, _, _, _, _, _, rfl, .ty _, tx, kit_ty (b := "str") (r := false) hk, _, rfl, iteT q⟩
end
/-! ### set(xs) of a list or a tuple of ints and texts: what it holds, how many -/
theorem sub_len {α : Type} [DecidableEq α] : ∀ (d l : List α), d.Nodup → (∀ x, x ∈ d → x ∈ l) → d.length ≤ l.length
  | [], _, _, _ => Nat.zero_le _
  | x :: d, l, nd, sub => by
    have two := List.nodup_cons.mp nd
    have inl := sub x (List.mem_cons_self ..)
    have step := sub_len d (l.erase x) two.2 (fun y hy => (List.mem_erase_of_ne (fun e => two.1 (by rw [← e]; exact hy))).mpr (sub y (List.mem_cons_of_mem _ hy)))
    have shorter := List.length_erase_of_mem inl
    have some_ := List.length_pos_of_mem inl
    simp only [List.length_cons]
    omega
theorem dup_shorter {α : Type} [DecidableEq α] : ∀ (l : List α), ¬ l.Nodup → ∃ l' : List α, l'.length < l.length ∧ ∀ x, x ∈ l → x ∈ l'
  | [], h => absurd List.nodup_nil h
  | x :: l, h => by
    by_cases hx : x ∈ l
    · exact ⟨l, Nat.lt_succ_self _, fun y hy => (List.mem_cons.mp hy).elim (fun e => by rw [e]; exact hx) id⟩
    · obtain ⟨l', h1, h2⟩ := dup_shorter l (fun hl => h (List.nodup_cons.mpr ⟨hx, hl⟩))
      refine ⟨x :: l', Nat.succ_lt_succ h1, fun y hy => ?_⟩
      rcases List.mem_cons.mp hy with e | hy
      · rw [e]; exact List.mem_cons_self ..
      · exact List.mem_cons_of_mem _ (h2 y hy)
/-- c different ones in l -/
def Cnt {α : Type} (l : List α) (c : Nat) : Prop := ∃ d : List α, d.Nodup ∧ (∀ k, k ∈ d ↔ k ∈ l) ∧ d.length = c
theorem Cnt.nil {α : Type} : Cnt ([] : List α) 0 := ⟨[], List.nodup_nil, fun _ => Iff.rfl, rfl⟩
theorem Cnt.old {α : Type} {l : List α} {c : Nat} {k : α} (h : Cnt l c) (hk : k ∈ l) : Cnt (l ++ [k]) c := by
  obtain ⟨d, h1, h2, h3⟩ := h
  refine ⟨d, h1, fun x => (h2 x).trans ⟨List.mem_append_left _, fun hx => ?_⟩, h3⟩
  rcases List.mem_append.mp hx with hx | hx
  · exact hx
  · rw [List.mem_singleton.mp hx]; exact hk
theorem Cnt.new {α : Type} {l : List α} {c : Nat} {k : α} (h : Cnt l c) (hk : ¬ k ∈ l) : Cnt (l ++ [k]) (c + 1) := by
  obtain ⟨d, h1, h2, h3⟩ := h
  refine ⟨k :: d, List.nodup_cons.mpr ⟨fun hd => hk ((h2 k).mp hd), h1⟩, fun x => ?_, by rw [List.length_cons, h3]⟩
  rw [List.mem_cons, h2 x, List.mem_append, List.mem_singleton]
  exact Or.comm
theorem Cnt.le {α : Type} [DecidableEq α] {l : List α} {c : Nat} (h : Cnt l c) : c ≤ l.length := by
  obtain ⟨d, h1, h2, rfl⟩ := h
  exact sub_len d l h1 fun x hx => (h2 x).mp hx
theorem Cnt.all {α : Type} [DecidableEq α] {l : List α} {c : Nat} (h : Cnt l c) : c = l.length ↔ l.Nodup := by
  obtain ⟨d, h1, h2, rfl⟩ := h
  constructor
  · intro e
    by_cases hn : l.Nodup
    · exact hn
    · obtain ⟨l', a, b⟩ := dup_shorter l hn
      have := sub_len d l' h1 fun x hx => b x ((h2 x).mp hx)
      omega
  · intro hn
    exact Nat.le_antisymm (sub_len d l h1 fun x hx => (h2 x).mp hx) (sub_len l d hn fun x hx => (h2 x).mpr hx)
section
variable {P : Program} {w : World} {A : Around} {E : Value → Shared → Prop} {R : Result → Shared → Prop} {it : Addr} {fp wr : List Addr} {G : Array GenState → Array GenState → Prop} {n : Nat} {Pv : Nat → Value → Prop} {St : Nat → Shared → Prop}
theorem setOf_moves {h h' : Heap} {a : Addr} {S : Key → Bool} {c : Nat} (q : h.SetOf (mixKind P w) a S c) (k : ∀ o, h.get? a = some o → h'.get? a = some o) : h'.SetOf (mixKind P w) a S c := setOf_at q k
/-- k stands in l -/
def memK (l : List Key) (k : Key) : Bool := l.any fun j => decide (j = k)
theorem memK_iff {l : List Key} {k : Key} : memK l k = true ↔ k ∈ l := by
  unfold memK
  rw [List.any_eq_true]
  exact ⟨fun ⟨x, h1, h2⟩ => of_decide_eq_true h2 ▸ h1, fun h => ⟨k, h, decide_eq_true rfl⟩⟩
theorem memK_snoc {l : List Key} {k j : Key} : memK (l ++ [k]) j = (memK l j || decide (j = k)) := by
  unfold memK
  rw [List.any_append, List.any_cons, List.any_nil, Bool.or_false]
  congr 1
  exact decide_eq_decide.mpr ⟨Eq.symm, Eq.symm⟩
theorem setOf_as {h : Heap} {a : Addr} {S S' : Key → Bool} {c : Nat} (q : h.SetOf (mixKind P w) a S c) (e : ∀ k, S k = S' k) : h.SetOf (mixKind P w) a S' c := by
  have e' : S = S' := funext e
  rw [← e']; exact q
/-- the loop of set.update, one key a turn -/
theorem keys_loop (W : WalksS P w A.in1 it fp wr G n Pv St) (S : Addr) (out : S ∉ fp) (ks : List Key) (len : n = ks.length) (room : n + 1 < scanBound)
    (val : ∀ i v, Pv i v → ∃ k, ks[i]? = some k ∧ keyIs k v = true ∧ v.scannable = true) : ∀ (m i : Nat) (s : Shared), n - i = m → i ≤ n → St i s →
      (∃ c, Cnt (ks.take i) c ∧ s.heap.SetOf (mixKind P w) S (memK (ks.take i)) c) →
      (∀ s' c, Moved (S :: wr) G s s' → Cnt ks c → s'.heap.SetOf (mixKind P w) S (memK ks) c → R (.ok (.ret .none)) s') → codeAny (model P w) A (.builtin "set.update.loop" ⟨[.ref S, .ref it], []⟩) R s := by
  have outW : S ∉ wr := fun z => out (W.sub _ z)
  have wider : ∀ b ∈ wr, b ∈ S :: wr := fun _ z => List.mem_cons_of_mem _ z
  intro m
  induction m with
  | zero =>
    intro i s e1 e2 st ⟨c, hc, hS⟩ fin
    have ei : i = n := by omega
    subst ei
    refine codeAny_builtin F.entry_set_update_loop ?_; rw [Around.under_plainId F.plain_set_update_loop _]
    show wpAny _ A.in1 (pyNext (.ref it) >>= _) _ _ s
    refine wpAny_bind (W.done s _ _ st fun s' mv => ?_)
    have all : ks.take i = ks := List.take_of_length_le (Nat.le_of_eq len.symm)
    rw [all] at hc hS
    exact wpAny_pure (fin s' c (mv.mono wider) hc (setOf_moves hS fun o z => mv.heap S o outW z))
  | succ m ih =>
    intro i s e1 e2 st ⟨c, hc, hS⟩ fin
    refine codeAny_builtin F.entry_set_update_loop ?_; rw [Around.under_plainId F.plain_set_update_loop _]
    show wpAny _ A.in1 (pyNext (.ref it) >>= _) _ _ s
    refine wpAny_bind (W.item i s _ _ (by omega) st fun v s' pv st' mv => ?_)
    obtain ⟨k, hk, kv, sc⟩ := val i v pv
    have nx : ks.take (i + 1) = ks.take i ++ [k] := by rw [List.take_add_one, hk]; rfl
    have hS' := setOf_moves hS fun o z => mv.heap S o outW z
    have cl : c ≤ i := Nat.le_trans hc.le (List.length_take_le _ _)
    show wpAny _ A.in1 (holding [v] (setAdd S v) >>= _) _ _ s'
    refine wpAny_bind (wpAny_holding ?_); unfold setAdd; refine wpAny_holding (wpAny_bind ((mixKind P w).pyHash (k := k) kv ?_))
    refine wpAny_setAddHashed_of (knd := mixKind P w) (s := { s' with toks := s'.toks + 1 }) kv sc hS' (by omega) fun h2 same hS2 => ?_
    have inv2 : ∃ c2, Cnt (ks.take (i + 1)) c2 ∧ h2.SetOf (mixKind P w) S (memK (ks.take (i + 1))) c2 := by
      cases hm : memK (ks.take i) k with
      | true =>
        refine ⟨c, nx ▸ hc.old (memK_iff.mp hm), ?_⟩
        rw [hm, if_pos rfl] at hS2
        exact setOf_as hS2 fun j => by rw [nx, memK_snoc]
      | false =>
        refine ⟨c + 1, nx ▸ hc.new (fun z => by rw [memK_iff.mpr z] at hm; cases hm), ?_⟩
        rw [hm, if_neg Bool.false_ne_true] at hS2
        exact setOf_as hS2 fun j => by rw [nx, memK_snoc]
    refine wpAny_pure ⟨plainId_quiet F.plain_set_update_loop _, ih (i + 1) _ (by omega) (by omega) (W.frame _ s' _ _ st' (Nat.le_succ _) fun b hb o z => ?_) inv2 fun s3 c3 mv3 hc3 hS3 => ?_⟩
    · exact (same.2 b (fun e => out (e ▸ hb))).trans z
    · refine fin s3 c3 (Moved.trans W.gtrans ((mv.mono wider).then_heap (Nat.le_succ _) fun b o hb z => ?_) mv3) hc3 hS3
      exact (same.2 b (fun e => hb (e ▸ List.mem_cons_self ..))).trans z
end
section
variable {P : Program} {w : World} {A : Around} {E : Value → Shared → Prop} {s : Shared}
abbrev emptySet (led : Bool) : Obj := { cls := .type "set", dict := none, data := .set #[] 0 (.fresh 0 0 led) }
theorem empty_setOf {h : Heap} {a : Addr} {led : Bool} (e : h.get? a = some (emptySet led)) : h.SetOf (mixKind P w) a (fun _ => false) 0 :=
  ⟨_, #[], 0, _, e, ⟨rfl, rfl, rfl⟩, rfl, fun z hz => (by simp at hz), fun k => (by simp), by decide, rfl, rfl⟩
set_option maxHeartbeats 8000000 in
/-- set(l), l a tuple of keys -/
theorem set_of_tuple {l : Addr} {items : Array Value} {ks : List Key} {Q : Value → Shared → Prop} (hh : A.handled = none) (src : s.heap.IsTuple l items) (len : items.size = ks.length) (room : ks.length + 1 < scanBound)
    (val : ∀ (i : Nat) (v : Value), items[i]? = some v → ∃ k, ks[i]? = some k ∧ keyIs k v = true ∧ v.scannable = true)
    (fin : ∀ h' tk c, Cnt ks c → h'.SetOf (mixKind P w) s.heap.objs.size (memK ks) c → (∀ b o, s.heap.get? b = some o → h'.get? b = some o) → Q (.ref s.heap.objs.size) { s with heap := h', toks := tk }) :
    wpAny (model P w) A (call (.type "set") [.ref l]) Q E s := by
  have ⟨mc, mt, mro⟩ := F.called_set.mro; have made := F.called_set.made; have subs := F.called_set.sub
  refine wpAny_call (codeAny_of_tree ?_); show wpAny _ _ (callAny (.type "set") _) _ _ _
  refine wpAny_pure ⟨Code.quiet_builtin _ (by decide +kernel), codeAny_builtin F.entry_type_call ?_⟩; rw [Around.under_plain (weight_type_call_type "set" [.ref l] []) rfl]
  have f1 := F.called_set.notType; have f2 := F.called_set.canCreate; have f3 := F.typeCall_set_1 (.ref l)
  repeat (any_goals (first | assumption | wp_step))
  refine codeAny_mono (code_set_new_1 (.ref l) (E := E) (Q₁ := fun ob s1 => ∃ led : Bool, ob = .ref s.heap.objs.size ∧ s1 = { s with heap := s.heap.push (emptySet led) }) fun led => ⟨led, rfl, rfl⟩) fun r s1 hr => ?_
  rcases r with e | fl
  · exact hr
  rcases fl with _ | _ | _ | ob
  all_goals first | exact hr.elim | skip
  obtain ⟨led, rfl, rfl⟩ := hr
  have at0 : (s.heap.push (emptySet led)).get? s.heap.objs.size = some (emptySet led) := Heap.get?_push_size _ rfl
  have isS : Shared.TypeIs { s with heap := s.heap.push (emptySet led) } (.ref s.heap.objs.size) "set" := ⟨_, at0, rfl⟩
  have f4 := F.called_set.init.lookup; have f5 := F.called_set.init.bind (.ref s.heap.objs.size)
  repeat (any_goals (first | assumption | wp_step))
  refine codeAny_mono (codeAny_call_builtin (R := wants (fun r s2 => r = .none ∧ ∃ h' tk c, s2 = { s with heap := h', toks := tk } ∧ Cnt ks c ∧ h'.SetOf (mixKind P w) s.heap.objs.size (memK ks) c ∧ ∀ b o, s.heap.get? b = some o → h'.get? b = some o) E)
    F.called_set.init.plain F.entry_set_init (check_set_init_1 isS ?_)) fun r2 s2 hr2 => ?_
  · obtain ⟨ol, atl, cl, nl, dl⟩ := src; obtain ⟨oc, od, odt, osl⟩ := ol; simp only at cl dl; subst cl dl
    have ltl : l < s.heap.objs.size := Heap.lt_size atl
    have at1 : (s.heap.push (emptySet led)).get? l = some { cls := .type "tuple", dict := od, data := .seq items nl, slots := osl } := Heap.get?_push_of_some _ atl
    have g1 := F.sub_tuple_set; have g2 := F.sub_tuple_frozenset; have g3 : (Value.type "tuple" == Value.type "dict") = false := by decide
    have src1 : (s.heap.push (emptySet led)).IsTuple l items := ⟨_, at1, rfl, nl, rfl⟩
    have szp : (s.heap.push (emptySet led)).objs.size = s.heap.objs.size + 1 := Heap.size_push ..
    unfold Builtin.«set.__init__» noKeywords Builtin.Frozenset.updateFrom
    generalize keepIter : pyIter = PI
    wp_walk
    subst keepIter
    refine wpAny_pyIter_tuple src1 (wpAny_bind (wpAny_runValue ?_))
    have neI : l ≠ (s.heap.push (emptySet led)).objs.size := by rw [szp]; exact Nat.ne_of_lt (Nat.lt_succ_of_lt ltl)
    have notIn : s.heap.objs.size ∉ [(s.heap.push (emptySet led)).objs.size, l] := fun z => by
      rw [szp] at z
      rcases List.mem_cons.mp z with z | z
      · exact absurd z (Nat.ne_of_lt (Nat.lt_succ_self _))
      · exact absurd (List.mem_singleton.mp z).symm (Nat.ne_of_lt ltl)
    refine keys_loop ((Walks.tuple (show A.in1.in1.in1.handled = none by simp [hh]) _ l neI items).toS) s.heap.objs.size notIn ks len (by rw [len]; exact room) val (items.size - 0) 0 _ (by omega) (Nat.zero_le _)
      ⟨⟨_, Heap.get?_push_size _ rfl, rfl, rfl⟩, src1.push _⟩ ⟨0, .nil, ?_⟩ fun s' c mv hc hS => ?_
    · exact setOf_as (empty_setOf (led := led) (Heap.get?_push_of_some _ at0)) fun k => rfl
    · obtain ⟨h', g', d', tk', os'⟩ := s'
      obtain rfl : g' = s.gens := mv.gens
      obtain rfl : d' = s.drawn := mv.drawn
      obtain rfl : os' = s.os := mv.os
      refine wpAny_pure (wpAny_pure ⟨rfl, h', tk', c, rfl, hc, hS, fun b o z => ?_⟩)
      have lb := Heap.lt_size z
      refine mv.heap b o (fun hm => ?_) (Heap.get?_push_of_some _ (Heap.get?_push_of_some _ z))
      rcases List.mem_cons.mp hm with e | hm
      · exact absurd e (Nat.ne_of_lt lb)
      · have e := List.mem_singleton.mp hm
        rw [szp] at e
        exact absurd e (Nat.ne_of_lt (Nat.lt_succ_of_lt lb))
  · rcases r2 with e | fl2
    · exact hr2
    rcases fl2 with _ | _ | _ | r
    all_goals first | exact hr2.elim | skip
    obtain ⟨rfl, h', tk, c, rfl, hc, hS, hk⟩ := hr2
    repeat (any_goals (first | assumption | wp_step))
    exact fin _ _ _ hc hS hk
set_option maxHeartbeats 8000000 in
/-- set(l), l a list of keys -/
theorem set_of_list {l : Addr} {items : Array Value} {ks : List Key} {Q : Value → Shared → Prop} (hh : A.handled = none) (src : s.heap.IsList l items) (len : items.size = ks.length) (room : ks.length + 1 < scanBound)
    (val : ∀ (i : Nat) (v : Value), items[i]? = some v → ∃ k, ks[i]? = some k ∧ keyIs k v = true ∧ v.scannable = true)
    (fin : ∀ h' tk c, Cnt ks c → h'.SetOf (mixKind P w) s.heap.objs.size (memK ks) c → (∀ b o, s.heap.get? b = some o → h'.get? b = some o) → Q (.ref s.heap.objs.size) { s with heap := h', toks := tk }) :
    wpAny (model P w) A (call (.type "set") [.ref l]) Q E s := by
  have ⟨mc, mt, mro⟩ := F.called_set.mro; have made := F.called_set.made; have subs := F.called_set.sub
  refine wpAny_call (codeAny_of_tree ?_); show wpAny _ _ (callAny (.type "set") _) _ _ _
  refine wpAny_pure ⟨Code.quiet_builtin _ (by decide +kernel), codeAny_builtin F.entry_type_call ?_⟩; rw [Around.under_plain (weight_type_call_type "set" [.ref l] []) rfl]
  have f1 := F.called_set.notType; have f2 := F.called_set.canCreate; have f3 := F.typeCall_set_1 (.ref l)
  repeat (any_goals (first | assumption | wp_step))
  refine codeAny_mono (code_set_new_1 (.ref l) (E := E) (Q₁ := fun ob s1 => ∃ led : Bool, ob = .ref s.heap.objs.size ∧ s1 = { s with heap := s.heap.push (emptySet led) }) fun led => ⟨led, rfl, rfl⟩) fun r s1 hr => ?_
  rcases r with e | fl
  · exact hr
  rcases fl with _ | _ | _ | ob
  all_goals first | exact hr.elim | skip
  obtain ⟨led, rfl, rfl⟩ := hr
  have at0 : (s.heap.push (emptySet led)).get? s.heap.objs.size = some (emptySet led) := Heap.get?_push_size _ rfl
  have isS : Shared.TypeIs { s with heap := s.heap.push (emptySet led) } (.ref s.heap.objs.size) "set" := ⟨_, at0, rfl⟩
  have f4 := F.called_set.init.lookup; have f5 := F.called_set.init.bind (.ref s.heap.objs.size)
  repeat (any_goals (first | assumption | wp_step))
  refine codeAny_mono (codeAny_call_builtin (R := wants (fun r s2 => r = .none ∧ ∃ h' tk c, s2 = { s with heap := h', toks := tk } ∧ Cnt ks c ∧ h'.SetOf (mixKind P w) s.heap.objs.size (memK ks) c ∧ ∀ b o, s.heap.get? b = some o → h'.get? b = some o) E)
    F.called_set.init.plain F.entry_set_init (check_set_init_1 isS ?_)) fun r2 s2 hr2 => ?_
  · obtain ⟨ol, atl, cl, nl, dl⟩ := src; obtain ⟨oc, od, odt, osl⟩ := ol; simp only at cl dl; subst cl dl
    have ltl : l < s.heap.objs.size := Heap.lt_size atl
    have at1 : (s.heap.push (emptySet led)).get? l = some { cls := .type "list", dict := od, data := .seq items nl, slots := osl } := Heap.get?_push_of_some _ atl
    have g1 := F.sub_list_set; have g2 := F.sub_list_frozenset; have g3 : (Value.type "list" == Value.type "dict") = false := by decide
    have src1 : (s.heap.push (emptySet led)).IsList l items := ⟨_, at1, rfl, nl, rfl⟩
    have szp : (s.heap.push (emptySet led)).objs.size = s.heap.objs.size + 1 := Heap.size_push ..
    unfold Builtin.«set.__init__» noKeywords Builtin.Frozenset.updateFrom
    generalize keepIter : pyIter = PI
    wp_walk
    subst keepIter
    refine wpAny_pyIter_list src1 (wpAny_bind (wpAny_runValue ?_))
    have neI : l ≠ (s.heap.push (emptySet led)).objs.size := by rw [szp]; exact Nat.ne_of_lt (Nat.lt_succ_of_lt ltl)
    have notIn : s.heap.objs.size ∉ [(s.heap.push (emptySet led)).objs.size, l] := fun z => by
      rw [szp] at z
      rcases List.mem_cons.mp z with z | z
      · exact absurd z (Nat.ne_of_lt (Nat.lt_succ_self _))
      · exact absurd (List.mem_singleton.mp z).symm (Nat.ne_of_lt ltl)
    refine keys_loop ((Walks.list (show A.in1.in1.in1.handled = none by simp [hh]) _ l neI items).toS) s.heap.objs.size notIn ks len (by rw [len]; exact room) val (items.size - 0) 0 _ (by omega) (Nat.zero_le _)
      ⟨⟨_, Heap.get?_push_size _ rfl, rfl, rfl⟩, src1.push _⟩ ⟨0, .nil, ?_⟩ fun s' c mv hc hS => ?_
    · exact setOf_as (empty_setOf (led := led) (Heap.get?_push_of_some _ at0)) fun k => rfl
    · obtain ⟨h', g', d', tk', os'⟩ := s'
      obtain rfl : g' = s.gens := mv.gens
      obtain rfl : d' = s.drawn := mv.drawn
      obtain rfl : os' = s.os := mv.os
      refine wpAny_pure (wpAny_pure ⟨rfl, h', tk', c, rfl, hc, hS, fun b o z => ?_⟩)
      have lb := Heap.lt_size z
      refine mv.heap b o (fun hm => ?_) (Heap.get?_push_of_some _ (Heap.get?_push_of_some _ z))
      rcases List.mem_cons.mp hm with e | hm
      · exact absurd e (Nat.ne_of_lt lb)
      · have e := List.mem_singleton.mp hm
        rw [szp] at e
        exact absurd e (Nat.ne_of_lt (Nat.lt_succ_of_lt lb))
  · rcases r2 with e | fl2
    · exact hr2
    rcases fl2 with _ | _ | _ | r
    all_goals first | exact hr2.elim | skip
    obtain ⟨rfl, h', tk, c, rfl, hc, hS, hk⟩ := hr2
    repeat (any_goals (first | assumption | wp_step))
    exact fin _ _ _ hc hS hk
end
section
variable {X : Cx}
theorem keys_val : ∀ {ks : List Key} {us : List Value}, Vals (ks.map kV) us → ∀ (i : Nat) (v : Value), us[i]? = some v → ∃ k, ks[i]? = some k ∧ keyIs k v = true ∧ v.scannable = true
  | [], _, .nil, i, v, h => by simp at h
  | k :: ks, _, .cons r t, 0, v, h => by
    have e := Option.some.inj h
    subst e
    exact ⟨k, rfl, by cases k with | inl i => obtain ⟨t, rfl⟩ := r; exact keyIs_int i t | inr x => obtain ⟨t, rfl⟩ := r; exact keyIs_str x t, key_scan r⟩
  | k :: ks, _, .cons r t, i + 1, v, h => keys_val t i v h
/-- set(xs), xs a list or a tuple of ints and texts -/
def rSetK (K : PySem.W.Frag) (P : Program) (w : World) : List V → Hp → VK → Prop := fun xs H Q => ∃ (l : Addr) (ks : List Key), xs = [V.ref l] ∧ (SqL K H l (ks.map kV) ∨ SqT K H l (ks.map kV)) ∧ ks.length ≤ 4000 ∧
  ∀ p c, H p = none → Cnt ks c → Q (.ref p) (upd H p (SetK P w p (memK ks) c))
theorem cr_setK (hc : X.calm = true) : CallR X (.type "set") (rSetK X.K X.prog X.w) := by
  intro pins s σ H xs us Q I r h
  obtain ⟨l, ks, rfl, hq, few, q⟩ := h
  rw [Vals.ref1 r]
  have new := I.hok.fresh (Nat.le_refl s.heap.objs.size)
  have small : ks.length + 1 < scanBound := Nat.lt_of_le_of_lt (Nat.succ_le_succ few) (by decide)
  rcases hq with hq | hq
  · obtain ⟨its, rv, pl, hz⟩ := I.list hq
    refine set_of_list (I.ok.hd hc) pl.isList (by rw [List.size_toArray, ← rv.length, List.length_map]) small (fun i v hv => keys_val rv i v (by simpa using hv)) fun h' tk c hcn hS k => ?_
    exact ⟨.ref s.heap.objs.size, upd H s.heap.objs.size (SetK X.prog X.w s.heap.objs.size (memK ks) c), I.laid (t' := tk) k (Nat.le_refl _) (setK_new hS), rfl, q _ c new hcn⟩
  · obtain ⟨its, rv, tp, hz⟩ := I.tuple hq
    refine set_of_tuple (I.ok.hd hc) (show s.heap.IsTuple l its.toArray from tp) (by rw [List.size_toArray, ← rv.length, List.length_map]) small (fun i v hv => keys_val rv i v (by simpa using hv)) fun h' tk c hcn hS k => ?_
    exact ⟨.ref s.heap.objs.size, upd H s.heap.objs.size (SetK X.prog X.w s.heap.objs.size (memK ks) c), I.laid (t' := tk) k (Nat.le_refl _) (setK_new hS), rfl, q _ c new hcn⟩
/-- len of a set of keys -/
def rLenSK (P : Program) (w : World) : List V → Hp → VK → Prop := fun xs H Q => ∃ (a : Addr) (S : Key → Bool) (n : Nat), xs = [V.ref a] ∧ H a = some (SetK P w a S n) ∧ Q (.int n) H
theorem call_lenSK : CallR X (.builtin "len") (rLenSK X.prog X.w) := by
  intro pins s σ H xs us Q I r h
  obtain ⟨a, S, n, rfl, ha, q⟩ := h
  rw [Vals.ref1 r]
  obtain ⟨o, es, ep, t, ho, hex, hd, _, _, hb, hf, hn⟩ := setK_get I ha
  have fit : (es.size : Int) < 2 ^ 63 := by
    have h1 : es.size < 4096 := hb
    omega
  exact call_len_set ho hex hd hf fit ⟨.int n, H, I.tok _, ⟨_, by rw [hn]⟩, q⟩
end
/-! ### formulas as data -/
inductive Hd where
  | rel (n : Str) (as : List Str)
  | eq (x y : Str)
  | less (x y : Str)
  | no
  | con
  | dis
  | ex (vs : List Str)
  | al (vs : List Str)
  | lfp (n : Str) (vs as : List Str)
  | pfp (n : Str) (vs as : List Str)
  | tc (vs as : List Str)
  | gs (n : Str) (k : Nat)
inductive Fm where
  | mk (h : Hd) (ps : List Fm)
theorem Fm.ind {P : Fm → Prop} (step : ∀ h ps, (∀ p, p ∈ ps → P p) → P (.mk h ps)) : ∀ f, P f := fun f =>
  Fm.rec (motive_1 := P) (motive_2 := fun ps => ∀ p, p ∈ ps → P p) (fun h ps ih => step h ps ih) (fun _ hp => nomatch hp)
    (fun q qs h1 h2 p hp => (List.mem_cons.mp hp).elim (fun e => e ▸ h1) (h2 p)) f
mutual
def Fm.fold {α : Type} (g : Hd → List α → α) : Fm → α
  | .mk h ps => g h (Fm.folds g ps)
def Fm.folds {α : Type} (g : Hd → List α → α) : List Fm → List α
  | [] => []
  | p :: ps => Fm.fold g p :: Fm.folds g ps
end
theorem Fm.folds_map {α : Type} (g : Hd → List α → α) : ∀ ps : List Fm, Fm.folds g ps = ps.map (Fm.fold g)
  | [] => by rw [Fm.folds]; rfl
  | p :: ps => by rw [Fm.folds, Fm.folds_map g ps]; rfl
theorem Fm.fold_mk {α : Type} (g : Hd → List α → α) (h : Hd) (ps : List Fm) : Fm.fold g (.mk h ps) = g h (ps.map (Fm.fold g)) := by
  rw [Fm.fold, Fm.folds_map]
def Fm.hd : Fm → Hd
  | .mk h _ => h
def Fm.parts : Fm → List Fm
  | .mk _ ps => ps
/-! heads -/
def tS (as : List Str) : PyData := .tuple (as.map PyData.str)
inductive Kd where
  | rel
  | eq
  | less
  | no
  | con
  | dis
  | ex
  | al
  | lfp
  | pfp
  | tc
  | gs
  deriving DecidableEq
def Kd.word : Kd → Str
  | .rel => "rel"
  | .eq => "eq"
  | .less => "less"
  | .no => "not"
  | .con => "and"
  | .dis => "or"
  | .ex => "some"
  | .al => "all"
  | .lfp => "lfp"
  | .pfp => "pfp"
  | .tc => "tc"
  | .gs => "guess"
def Hd.kd : Hd → Kd
  | .rel _ _ => .rel
  | .eq _ _ => .eq
  | .less _ _ => .less
  | .no => .no
  | .con => .con
  | .dis => .dis
  | .ex _ => .ex
  | .al _ => .al
  | .lfp _ _ _ => .lfp
  | .pfp _ _ _ => .pfp
  | .tc _ _ => .tc
  | .gs _ _ => .gs
abbrev Hd.word (h : Hd) : Str := h.kd.word
/-- what stands behind the word -/
def Hd.rest (h : Hd) (ds : List PyData) : List PyData := match h with
  | .rel n as => [.str n, tS as]
  | .eq x y => [.str x, .str y]
  | .less x y => [.str x, .str y]
  | .no => ds
  | .con => [.tuple ds]
  | .dis => [.tuple ds]
  | .ex vs => tS vs :: ds
  | .al vs => tS vs :: ds
  | .lfp n vs as => .str n :: tS vs :: (ds ++ [tS as])
  | .pfp n vs as => .str n :: tS vs :: (ds ++ [tS as])
  | .tc vs as => tS vs :: (ds ++ [tS as])
  | .gs n k => .str n :: .int k :: ds
def Hd.data (h : Hd) (ds : List PyData) : PyData := .tuple (.str h.word :: h.rest ds)
def Fm.data : Fm → PyData := Fm.fold Hd.data
theorem Fm.data_mk (h : Hd) (ps : List Fm) : (Fm.mk h ps).data = h.data (ps.map Fm.data) := Fm.fold_mk _ h ps
/-- how many formulas stand directly in it (none: any number) -/
def Hd.one : Hd → Option Nat
  | .rel _ _ => some 0
  | .eq _ _ => some 0
  | .less _ _ => some 0
  | .con => none
  | .dis => none
  | _ => some 1
def Hd.own : Hd → List Str
  | .ex vs => vs
  | .al vs => vs
  | .lfp _ vs _ => vs
  | .pfp _ vs _ => vs
  | .tc vs _ => vs
  | _ => []
def Hd.args : Hd → List Str
  | .rel _ as => as
  | .eq x y => [x, y]
  | .less x y => [x, y]
  | .lfp _ _ as => as
  | .pfp _ _ as => as
  | .tc _ as => as
  | _ => []
def Hd.bound : Hd → Option (Str × Nat)
  | .lfp n vs _ => some (n, vs.length)
  | .pfp n vs _ => some (n, vs.length)
  | .gs n k => some (n, k)
  | _ => none
def Names (vs : List Str) : Prop := ∀ v, v ∈ vs → Nm v
def OwnOk (vs : List Str) : Prop := 1 ≤ vs.length ∧ vs.length ≤ 6 ∧ Names vs ∧ vs.Nodup
/-- a head with n formulas in it is well formed -/
def Hd.Ok (h : Hd) (n : Nat) : Prop := match h with
  | .rel m as => Nm m ∧ as.length ≤ 6 ∧ Names as ∧ n = 0
  | .eq x y => Nm x ∧ Nm y ∧ n = 0
  | .less x y => Nm x ∧ Nm y ∧ n = 0
  | .no => n = 1
  | .con => n ≤ 40
  | .dis => n ≤ 40
  | .ex vs => OwnOk vs ∧ n = 1
  | .al vs => OwnOk vs ∧ n = 1
  | .lfp m vs as => Nm m ∧ OwnOk vs ∧ as.length = vs.length ∧ Names as ∧ n = 1
  | .pfp m vs as => Nm m ∧ OwnOk vs ∧ as.length = vs.length ∧ Names as ∧ n = 1
  | .tc vs as => (vs.length = 2 ∨ vs.length = 4 ∨ vs.length = 6 ∨ vs.length = 8) ∧ Names vs ∧ vs.Nodup ∧ as.length = vs.length ∧ Names as ∧ n = 1
  | .gs m k => Nm m ∧ k ≤ 3 ∧ n = 1
/-! measures -/
def sumN (xs : List Nat) : Nat := xs.foldr (· + ·) 0
def maxN (xs : List Nat) : Nat := xs.foldr max 0
def Fm.cnt : Fm → Nat := Fm.fold fun _ xs => 1 + sumN xs
def Fm.dep : Fm → Nat := Fm.fold fun _ xs => 1 + maxN xs
theorem Fm.cnt_mk (h : Hd) (ps : List Fm) : (Fm.mk h ps).cnt = 1 + sumN (ps.map Fm.cnt) := Fm.fold_mk _ h ps
theorem Fm.dep_mk (h : Hd) (ps : List Fm) : (Fm.mk h ps).dep = 1 + maxN (ps.map Fm.dep) := Fm.fold_mk _ h ps
theorem le_maxN : ∀ {xs : List Nat} {x : Nat}, x ∈ xs → x ≤ maxN xs
  | [], _, h => nomatch h
  | y :: ys, x, h => by
    show x ≤ max y (maxN ys)
    rcases List.mem_cons.mp h with e | h
    · rw [e]; exact Nat.le_max_left _ _
    · exact Nat.le_trans (le_maxN h) (Nat.le_max_right _ _)
theorem le_sumN : ∀ {xs : List Nat} {x : Nat}, x ∈ xs → x ≤ sumN xs
  | [], _, h => nomatch h
  | y :: ys, x, h => by
    show x ≤ y + sumN ys
    rcases List.mem_cons.mp h with e | h
    · omega
    · have := le_sumN h; omega
theorem dep_part {h : Hd} {ps : List Fm} {p : Fm} (hp : p ∈ ps) : p.dep < (Fm.mk h ps).dep := by
  rw [Fm.dep_mk]
  have := le_maxN (List.mem_map_of_mem (f := Fm.dep) hp)
  omega
theorem dep_pos (f : Fm) : 1 ≤ f.dep := by
  obtain ⟨h, ps⟩ := f
  rw [Fm.dep_mk]
  omega
/-- every head in it is well formed -/
inductive Fm.Ok : Fm → Prop
  | mk {h : Hd} {ps : List Fm} (a : h.Ok ps.length) (b : ∀ p, p ∈ ps → p.Ok) : (Fm.mk h ps).Ok
theorem Fm.Ok.hd_ {h : Hd} {ps : List Fm} (k : (Fm.mk h ps).Ok) : h.Ok ps.length := by cases k; assumption
theorem Fm.Ok.part {h : Hd} {ps : List Fm} (k : (Fm.mk h ps).Ok) {p : Fm} (hp : p ∈ ps) : p.Ok := by cases k with | mk a b => exact b p hp
theorem get_map {α β : Type} {f : α → β} {l : List α} {i : Nat} {y : β} (h : (l.map f)[i]? = some y) : ∃ x, l[i]? = some x ∧ y = f x := by
  rw [List.getElem?_map] at h
  cases e : l[i]? with
  | none => rw [e] at h; cases h
  | some x => rw [e] at h; exact ⟨x, rfl, (Option.some.inj h).symm⟩
/-! data in the heap -/
section
variable {K : PySem.W.Frag} {H H' : Hp}
theorem Same.sqt {a : Addr} {xs : List V} (e : Same H H') (h : SqT K H a xs) : SqT K H' a xs := by
  rcases h with (h | ⟨o, h⟩) | h
  · exact .inl (.inl (e _ _ h))
  · exact .inl (.inr ⟨o, e _ _ h⟩)
  · exact .inr h
mutual
theorem Dp.same (e : Same H H') : ∀ {v : V} {d : PyData}, Dp K H v d → Dp K H' v d
  | _, _, .non => .non
  | _, _, .bl b => .bl b
  | _, _, .int i => .int i
  | _, _, .str x => .str x
  | _, _, .lst h t => .lst (e.seq h) (DpAll.same e t)
  | _, _, .tup h t => .tup (Same.sqt e h) (DpAll.same e t)
theorem DpAll.same (e : Same H H') : ∀ {vs : List V} {ds : List PyData}, DpAll K H vs ds → DpAll K H' vs ds
  | _, _, .nil => .nil
  | _, _, .cons h t => .cons (Dp.same e h) (DpAll.same e t)
end
theorem Dp.tup_inv {v : V} {ds : List PyData} (h : Dp K H v (.tuple ds)) : ∃ a xs, v = .ref a ∧ SqT K H a xs ∧ DpAll K H xs ds := by
  cases h with | tup a b => exact ⟨_, _, rfl, a, b⟩
theorem Dp.lst_inv {v : V} {ds : List PyData} (h : Dp K H v (.list ds)) : ∃ a xs, v = .ref a ∧ SqL K H a xs ∧ DpAll K H xs ds := by
  cases h with | lst a b => exact ⟨_, _, rfl, a, b⟩
theorem Dp.str_inv {v : V} {z : Str} (h : Dp K H v (.str z)) : v = .str z := by cases h; rfl
theorem Dp.int_inv {v : V} {i : Int} (h : Dp K H v (.int i)) : v = .int i := by cases h; rfl
theorem Dp.bl_inv {v : V} {i : Bool} (h : Dp K H v (.bool i)) : v = .bl i := by cases h; rfl
theorem DpAll.cons_inv {vs : List V} {d : PyData} {ds : List PyData} (h : DpAll K H vs (d :: ds)) : ∃ v ws, vs = v :: ws ∧ Dp K H v d ∧ DpAll K H ws ds := by
  cases h with | cons a b => exact ⟨_, _, rfl, a, b⟩
theorem DpAll.nil_inv {vs : List V} (h : DpAll K H vs []) : vs = [] := by cases h; rfl
theorem DpAll.length : ∀ {vs : List V} {ds : List PyData}, DpAll K H vs ds → vs.length = ds.length
  | _, _, .nil => rfl
  | _, _, .cons _ t => congrArg Nat.succ (DpAll.length t)
theorem DpAll.get : ∀ {vs : List V} {ds : List PyData} {i : Nat} {d : PyData}, DpAll K H vs ds → ds[i]? = some d → ∃ v, vs[i]? = some v ∧ Dp K H v d
  | _, _, i, d, .nil, h => by simp at h
  | _, _, 0, d, .cons a t, h => by
    have e := Option.some.inj h
    subst e
    exact ⟨_, rfl, a⟩
  | _, _, i + 1, d, .cons a t, h => DpAll.get (i := i) t h
theorem DpAll.get' : ∀ {vs : List V} {ds : List PyData} {i : Nat} {v : V}, DpAll K H vs ds → vs[i]? = some v → ∃ d, ds[i]? = some d ∧ Dp K H v d
  | _, _, i, d, .nil, h => by simp at h
  | _, _, 0, d, .cons a t, h => by
    have e := Option.some.inj h
    subst e
    exact ⟨_, rfl, a⟩
  | _, _, i + 1, d, .cons a t, h => DpAll.get' (i := i) t h
theorem DpAll.append : ∀ {vs ws : List V} {ds es : List PyData}, DpAll K H vs ds → DpAll K H ws es → DpAll K H (vs ++ ws) (ds ++ es)
  | _, _, _, _, .nil, s => s
  | _, _, _, _, .cons a t, s => .cons a (DpAll.append t s)
theorem DpAll.strs : ∀ {vs : List V} {as : List Str}, DpAll K H vs (as.map PyData.str) → vs = as.map V.str
  | _, [], h => by rw [DpAll.nil_inv h]; rfl
  | _, a :: as, h => by
    obtain ⟨v, ws, rfl, h1, h2⟩ := DpAll.cons_inv h
    rw [Dp.str_inv h1, DpAll.strs h2]; rfl
theorem DpAll.of_strs : ∀ (as : List Str), DpAll K H (as.map V.str) (as.map PyData.str)
  | [] => .nil
  | a :: as => .cons (.str a) (DpAll.of_strs as)
theorem tS_inv {v : V} {as : List Str} (h : Dp K H v (tS as)) : ∃ a, v = .ref a ∧ SqT K H a (as.map V.str) := by
  obtain ⟨a, xs, rfl, h1, h2⟩ := Dp.tup_inv h
  rw [DpAll.strs h2] at h1
  exact ⟨a, rfl, h1⟩
theorem tS_of {a : Addr} {as : List Str} (h : SqT K H a (as.map V.str)) : Dp K H (.ref a) (tS as) := .tup h (DpAll.of_strs as)
/-- a formula's value: a tuple that begins with its word -/
theorem hd_inv {v : V} {h : Hd} {ds : List PyData} (q : Dp K H v (h.data ds)) : ∃ a xs, v = .ref a ∧ SqT K H a (.str h.word :: xs) ∧ DpAll K H xs (h.rest ds) := by
  obtain ⟨a, ys, rfl, h1, h2⟩ := Dp.tup_inv q
  obtain ⟨w, xs, rfl, h3, h4⟩ := DpAll.cons_inv h2
  rw [Dp.str_inv h3] at h1
  exact ⟨a, xs, rfl, h1, h4⟩
end
/-! ### the heap without the draws -/
def wo (d : Addr) (H : Hp) : Hp := fun b => if b = d then none else H b
theorem wo_ne {d b : Addr} {H : Hp} (h : b ≠ d) : wo d H b = H b := if_neg h
theorem wo_sub {d : Addr} {H : Hp} : Same (wo d H) H := fun b o e => by
  by_cases h : b = d
  · rw [show wo d H b = none from if_pos h] at e; cases e
  · rw [wo_ne h] at e; exact e
theorem wo_kp {d : Addr} {H H' : Hp} (k : Kp d H H') : Same (wo d H) (wo d H') := fun b o e => by
  by_cases h : b = d
  · rw [show wo d H b = none from if_pos h] at e; cases e
  · rw [wo_ne h] at e ⊢; exact k b o e h
theorem wo_same {d : Addr} {H H' : Hp} (k : Same H H') : Same (wo d H) (wo d H') := wo_kp (.of k)
theorem wo_at {d b : Addr} {H : Hp} {o : HO} (h : b ≠ d) (e : H b = some o) : wo d H b = some o := by rw [wo_ne h]; exact e
section
variable {K : PySem.W.Frag} {H : Hp}
theorem strsL {v : V} {as : List Str} (h : Dp K H v (.list (as.map PyData.str))) : ∃ a, v = .ref a ∧ SqL K H a (as.map V.str) := by
  obtain ⟨a, xs, rfl, h1, h2⟩ := Dp.lst_inv h
  rw [DpAll.strs h2] at h1
  exact ⟨a, rfl, h1⟩
theorem strsL_of {a : Addr} {as : List Str} (h : SqL K H a (as.map V.str)) : Dp K H (.ref a) (.list (as.map PyData.str)) := .lst h (DpAll.of_strs as)
end
theorem eraseIdx_map {α β : Type} (f : α → β) : ∀ (l : List α) (i : Nat), (l.map f).eraseIdx i = (l.eraseIdx i).map f
  | [], i => by simp
  | a :: r, 0 => by simp
  | a :: r, i + 1 => by simp [eraseIdx_map f r i]
theorem eraseIdx_perm {α : Type} : ∀ {l : List α} {i : Nat} {x : α}, l[i]? = some x → l.Perm (x :: l.eraseIdx i)
  | [], _, _, h => by simp at h
  | a :: r, 0, x, h => by have e := Option.some.inj h; rw [← e]; exact List.Perm.refl _
  | a :: r, i + 1, x, h => ((eraseIdx_perm (l := r) (i := i) h).cons a).trans (List.Perm.swap _ _ _)
theorem wo_none {d p : Addr} {H : Hp} (h : H p = none) : wo d H p = none := by
  unfold wo
  split
  · rfl
  · exact h
theorem wo_upd {d p : Addr} {H : Hp} {o : HO} (n : p ≠ d) : wo d (upd H p o) p = some o := by rw [wo_ne n, upd_same]
/-- a new object leaves all else -/
theorem kp_new {d p : Addr} {H H' : Hp} {o : HO} (k : Kp d H H') (np : H' p = none) : Kp d H (upd H' p o) := k.trans (.of (same_upd np))
/-- an object of one's own is changed: what stood before it was made stays -/
theorem kp_own {d p : Addr} {H H' : Hp} {o : HO} (k : Kp d H H') (np : H p = none) : Kp d H (upd H' p o) := fun b x e n => by
  rw [upd_ne (ne_of_none e np)]
  exact k b x e n
theorem bounds_ok {i : Int} {n : Nat} (h0 : 0 ≤ i) (h1 : i < n) (hn : n ≤ 1000) : -(2 ^ 63) ≤ i ∧ i < 2 ^ 63 := by omega
def spSomeOf (K : PySem.W.Frag) : Sp := fun vs H Q _ => ∃ (d l : Addr) (pv : V) (pool : List Str) (m : Nat), vs = [.ref d, pv, .int (m : Nat)] ∧ DrA H d l ∧ Dp K (wo d H) pv (.list (pool.map PyData.str)) ∧ m ≤ pool.length ∧ pool.length ≤ 20 ∧
  ∀ (H' : Hp) (r : Addr) (ch : List Str), DrA H' d l → Kp d H H' → Dp K (wo d H') (.ref r) (.list (ch.map PyData.str)) → ch.length = m → (∀ x, x ∈ ch → x ∈ pool) → (pool.Nodup → ch.Nodup) → Q (.ref r) H'
section
variable {P : Program} {w : World} {K : PySem.W.Frag} {mg : Str → Option Value} {base : Heap}
theorem sc_some_of : FnScope ["draws", "pool", "many", "left", "chosen", "k"] ["draws", "pool", "many"] (defScope (top 65)) := ⟨rfl, rfl, rfl, by decide +kernel, rfl, by decide +kernel, by decide +kernel⟩
theorem has_some_of (D : Def K mg "_law_some_of" ["draws", "pool", "many"] (top 65)) (T : Txt mg) (C1 : Has P w K mg base 2 "_law_draw" ["draws"] spDraw) : Has P w K mg base 3 "_law_some_of" ["draws", "pool", "many"] (spSomeOf K) := D.has fun f fd F => by
  obtain ⟨f1, fd1, G_law_draw, g_law_draw, k_law_draw, b_law_draw⟩ := C1
  refine F.ok sc_some_of (fun vs H Q E h => ?_) (fun cdv A outer s H vs Q E hr h => ?_)
  · obtain ⟨d, l, vp, pool, m, rfl, _⟩ := h; rfl
  · obtain ⟨d, l, vp, pool, m, rfl, dr, dp, hm, h20, q⟩ := h
    have R_law_draw : Room 2 _ := hr.mono (by decide)
    refine ⟨_, PSs.nox (pss_cons (ps_set (i := 3) sc_some_of.nd rfl (Or.inl rfl) (pe_callTy call_list_of (by rfl) T.n_list (by decide +kernel) (pa_cons (pv 1) pa_nil))) (pss_cons (ps_set (i := 4) sc_some_of.nd rfl (Or.inl rfl) (pe_lst pa_nil)) (pss_cons (ps_for PassesOwn.never rfl (pi_range1 (by rfl) T.n_range (pa_cons (pv 2) pa_nil)) (pg_name (i := 5) sc_some_of.nd rfl (Or.inl rfl)) (pss_one (ps_expr (pe_bm PySem.F.plainAttrs_list PySem.F.slot_list_append PySem.F.type_list_append mt_append (pv 4) (pa_cons (pe_bm PySem.F.plainAttrs_list PySem.F.slot_list_pop PySem.F.type_list_pop mt_popAt (pv 3) (pa_cons (pe_op op_mod (pe_call G_law_draw R_law_draw (by rfl) g_law_draw k_law_draw b_law_draw .nil pass0 (pa_cons (pv 0) pa_nil)) (pe_callB call_len_seq (by rfl) T.n_len PySem.boot_len (pa_cons (pv 3) pa_nil))) pa_nil)) pa_nil))))) (pss_one (ps_ret (pv 4)))))), ?_⟩
    obtain ⟨b, rfl, hb⟩ := strsL dp
    have hb' : SqL K H b (pool.map V.str) := wo_sub.seq hb
    refine ⟨_, rfl, b, _, rfl, .inl hb', fun e ne => ?_⟩
    obtain ⟨ned, nel⟩ := dr.ne ne
    have dr1 : DrA (upd H e (.lst (pool.map V.str))) d l := dr.same (same_upd ne)
    have k1 : Kp d H (upd H e (.lst (pool.map V.str))) := .of (same_upd ne)
    have he : (upd H e (.lst (pool.map V.str))) e = some (.lst (pool.map V.str)) := upd_same
    revert dr1 k1 he
    generalize upd H e (.lst (pool.map V.str)) = H1
    intro dr1 k1 he
    refine ⟨Nat.zero_le _, fun c nc => ?_⟩
    obtain ⟨ncd, ncl⟩ := dr1.ne nc
    have nce : e ≠ c := ne_of_none he nc
    have nc0 : H c = none := k1.free ncd nc
    refine ⟨_, rfl, m, rfl, by omega, by omega, for_range (n := m) (fun i σ H2 => ∃ (y5 : Option V) (rem ch : List Str), σ = [some (.ref d), some (.ref b), some (.int (m : Nat)), some (.ref e), some (.ref c), y5] ∧ DrA H2 d l ∧ Kp d H H2 ∧
      H2 e = some (.lst (rem.map V.str)) ∧ H2 c = some (.lst (ch.map V.str)) ∧ ch.length = i ∧ rem.length + i = pool.length ∧ pool.Perm (ch ++ rem))
      ⟨none, pool, [], rfl, dr1.same (same_upd nc), kp_new k1 nc, by rw [upd_ne nce]; exact he, upd_same, rfl, rfl, List.Perm.refl _⟩ ?_ ?_⟩
    · rintro i σ H2 hi ⟨y5, rem, ch, rfl, dr2, k2, he2, hc2, hl, hrl, pm⟩
      refine ⟨_, rfl, .inl ⟨rfl, _, SqL.of hc2⟩, ?_⟩
      refine ⟨_, rfl, .inl ⟨rfl, _, SqL.of he2⟩, ?_⟩
      refine ⟨_, rfl, d, l, rfl, dr2, fun z H3 z0 z1 dr3 k3 => ?_⟩
      have he3 := k3 _ _ he2 ned
      have hc3 := k3 _ _ hc2 ncd
      have rl : 0 < rem.length := by omega
      have i0 : 0 ≤ z % (rem.length : Int) := Int.emod_nonneg _ (by omega)
      have i1 : z % (rem.length : Int) < (rem.length : Int) := Int.emod_lt_of_pos _ (by omega)
      have il : (z % (rem.length : Int)).toNat < rem.length := by omega
      obtain ⟨x, hx⟩ : ∃ x, rem[(z % (rem.length : Int)).toNat]? = some x := ⟨_, List.getElem?_eq_getElem il⟩
      refine ⟨_, rfl, e, _, rfl, .inl (SqL.of he3), _, _, rfl, rfl, (by show (0 : Int) < (((rem.map V.str).length : Nat) : Int); rw [List.length_map]; omega), ?_⟩
      rw [List.length_map]
      refine ⟨e, _, _, (z % (rem.length : Int)).toNat, .str x, rfl, rfl, he3, by omega, by omega, by rw [List.length_map]; exact seqIndex_of i0 i1, by rw [List.getElem?_map, hx]; rfl, ?_⟩
      have hc4 : (upd H3 e (.lst ((rem.map V.str).eraseIdx (z % (rem.length : Int)).toNat))) c = some (.lst (ch.map V.str)) := by rw [upd_ne nce.symm]; exact hc3
      refine ⟨c, _, _, rfl, rfl, hc4, ?_, ?_⟩
      · rw [List.length_map]
        exact small1000 (by omega)
      · refine ⟨_, rem.eraseIdx (z % (rem.length : Int)).toNat, ch ++ [x], rfl, ?_, ?_, ?_, ?_, ?_, ?_, ?_⟩
        · exact (dr3.kp Kp.upd ⟨ned, nel⟩).kp Kp.upd ⟨ncd, ncl⟩
        · exact kp_own (kp_own (k2.trans k3) ne) nc0
        · rw [upd_ne nce, upd_same, eraseIdx_map]
        · rw [upd_same, List.map_append]
          rfl
        · rw [List.length_append, hl]; rfl
        · rw [List.length_eraseIdx_of_lt il]; omega
        · refine pm.trans ?_
          have p2 := eraseIdx_perm hx
          have p3 : (ch ++ rem).Perm (ch ++ (x :: rem.eraseIdx (z % (rem.length : Int)).toNat)) := List.Perm.append_left ch p2
          rw [List.append_assoc]
          exact p3
    · rintro σ H2 ⟨y5, rem, ch, rfl, dr2, k2, he2, hc2, hl, hrl, pm⟩
      refine ⟨_, rfl, q H2 c ch dr2 k2 (strsL_of (SqL.of (wo_at ncd hc2))) hl (fun x hx => pm.mem_iff.mpr (List.mem_append_left _ hx)) fun nd => ?_⟩
      exact (List.nodup_append.mp (pm.nodup_iff.mp nd)).1
end
/-! ### rules within a comprehension -/
section
variable {X : Cx} {K : PySem.W.Frag}
theorem ix_listK (h : X.K = K) : IxR X (rIxL K) := h ▸ ix_list
theorem ix_tupK (h : X.K = K) : IxR X (rIxT K) := h ▸ ix_tup
theorem sl_listK (h : X.K = K) : SlR X (rSlL K) := h ▸ sl_list
theorem op_in_seqK (h : X.K = K) : OpR X (compareOp .In) (rIn K false) := h ▸ op_in_seq
theorem op_notIn_seqK (h : X.K = K) : OpR X (compareOp .NotIn) (rIn K true) := h ▸ op_notIn_seq
theorem call_len_seqK (h : X.K = K) : CallR X (.builtin "len") (fun xs H Q => ∃ p ys, xs = [.ref p] ∧ (SqL K H p ys ∨ SqT K H p ys) ∧ Q (.int ys.length) H) := h ▸ call_len_seq
end
/-! ### data that the draws are no part of -/
def int1 : List PyData → Bool
  | _ :: .int _ :: _ => false
  | _ => true
mutual
def good : PyData → Bool
  | .list ts => goods ts && int1 ts
  | .tuple ts => goods ts
  | _ => true
def goods : List PyData → Bool
  | [] => true
  | t :: ts => good t && goods ts
end
theorem goods_cons {t : PyData} {ts : List PyData} : goods (t :: ts) = (good t && goods ts) := by rw [goods]
theorem goods_append : ∀ (ts us : List PyData), goods (ts ++ us) = (goods ts && goods us)
  | [], us => by rw [goods]; rfl
  | t :: ts, us => by rw [List.cons_append, goods_cons, goods_cons, goods_append ts us, Bool.and_assoc]
theorem goods_all : ∀ {ts : List PyData}, (∀ t, t ∈ ts → good t = true) → goods ts = true
  | [], _ => by rw [goods]
  | t :: ts, h => by
    rw [goods_cons, h t (List.mem_cons_self ..), goods_all fun u hu => h u (List.mem_cons_of_mem _ hu)]; rfl
theorem good_str {z : Str} : good (.str z) = true := by rw [good]; all_goals (intros; contradiction)
theorem good_int {z : Int} : good (.int z) = true := by rw [good]; all_goals (intros; contradiction)
theorem good_tup {ts : List PyData} (h : goods ts = true) : good (.tuple ts) = true := by rw [good]; exact h
theorem good_lst {ts : List PyData} (h : goods ts = true) (n : ∀ t, t ∈ ts → ∀ i : Int, t ≠ .int i) : good (.list ts) = true := by
  rw [good, h]
  cases ts with
  | nil => rfl
  | cons a r =>
    cases r with
    | nil => rfl
    | cons b r =>
      cases b with
      | int i => exact absurd rfl (n (.int i) (by simp) i)
      | _ => rfl
theorem goods_strs (as : List Str) : goods (as.map PyData.str) = true := goods_all fun t ht => by
  obtain ⟨z, _, rfl⟩ := List.mem_map.mp ht
  exact good_str
theorem good_tS (as : List Str) : good (tS as) = true := good_tup (goods_strs as)
theorem good_strl (as : List Str) : good (.list (as.map PyData.str)) = true := good_lst (goods_strs as) fun t ht i e => by
  obtain ⟨z, _, rfl⟩ := List.mem_map.mp ht
  cases e
theorem good_hd {h : Hd} {ds : List PyData} (g : goods ds = true) : good (h.data ds) = true := by
  refine good_tup ?_
  rw [goods_cons, good_str]
  have n0 : goods [] = true := by rw [goods]
  cases h <;> simp only [Hd.rest, goods_cons, goods_append, good_str, good_int, good_tS, g, n0, good_tup g, Bool.and_self, Bool.true_and]
theorem Fm.good : ∀ f : Fm, SaysoV.good f.data = true := Fm.ind fun h ps ih => by
  rw [Fm.data_mk]
  refine good_hd (goods_all fun t ht => ?_)
  obtain ⟨p, hp, rfl⟩ := List.mem_map.mp ht
  exact ih p hp
section
variable {K : PySem.W.Frag} {H H' : Hp} {d l : Addr} {n : Int}
theorem SqT.wo {a : Addr} {xs ys : List V} (h1 : H d = some (.lst ys)) (h : SqT K H a xs) : SqT K (wo d H) a xs := by
  have ne : ∀ {o : HO}, H a = some o → (∀ zs, o ≠ .lst zs) → a ≠ d := fun e k z => by
    rw [z, h1] at e
    exact k ys (Option.some.inj e).symm
  rcases h with (h | ⟨o, h⟩) | h
  · exact .inl (.inl (by rw [wo_ne (ne h fun zs z => nomatch z)]; exact h))
  · exact .inl (.inr ⟨o, by rw [wo_ne (ne h fun zs z => nomatch z)]; exact h⟩)
  · exact .inr h
theorem SqL.wo {a : Addr} {xs ys : List V} (h1 : H d = some (.lst ys)) (n : xs ≠ ys) (h : SqL K H a xs) : SqL K (wo d H) a xs := by
  rcases h with (h | ⟨o, h⟩) | h
  · refine .inl (.inl ?_)
    by_cases e : a = d
    · rw [e, h1] at h
      exact absurd (HO.lst.inj (Option.some.inj h)).symm n
    · rw [wo_ne e]; exact h
  · refine .inl (.inr ⟨o, ?_⟩)
    by_cases e : a = d
    · rw [e, h1] at h
      cases h
    · rw [wo_ne e]; exact h
  · exact .inr h
theorem no_ints {l : Addr} {n : Int} {ds : List PyData} (t : DpAll K H [.ref l, .int n] ds) : good (.list ds) = false := by
  cases t with
  | cons a t =>
    cases t with
    | cons b t =>
      cases t
      cases b
      rw [good]
      exact Bool.and_false _
mutual
theorem Dp.woG (h1 : H d = some (.lst [.ref l, .int n])) : ∀ {v : V} {t : PyData}, Dp K H v t → good t = true → Dp K (wo d H) v t
  | _, _, .non, _ => .non
  | _, _, .bl b, _ => .bl b
  | _, _, .int i, _ => .int i
  | _, _, .str x, _ => .str x
  | _, _, .lst h t, g => .lst (SqL.wo h1 (fun z => by rw [z] at t; rw [no_ints t] at g; cases g) h) (DpAll.woG h1 t (by rw [good] at g; exact (Bool.and_eq_true_iff.mp g).1))
  | _, _, .tup h t, g => .tup (SqT.wo h1 h) (DpAll.woG h1 t (by rw [good] at g; exact g))
theorem DpAll.woG (h1 : H d = some (.lst [.ref l, .int n])) : ∀ {vs : List V} {ts : List PyData}, DpAll K H vs ts → goods ts = true → DpAll K (wo d H) vs ts
  | _, _, .nil, _ => .nil
  | _, _, .cons h t, g => .cons (Dp.woG h1 h (by rw [goods_cons] at g; exact (Bool.and_eq_true_iff.mp g).1)) (DpAll.woG h1 t (by rw [goods_cons] at g; exact (Bool.and_eq_true_iff.mp g).2))
end
theorem Dp.wod {v : V} {t : PyData} (r : DrA H d l) (h : Dp K H v t) (g : good t = true) : Dp K (SaysoV.wo d H) v t := by
  obtain ⟨n, ms, h1, _⟩ := r
  exact Dp.woG h1 h g
/-- a draw leaves it -/
theorem Dp.kpA {v : V} {t : PyData} (h : Dp K H v t) (r : DrA H d l) (g : good t = true) (k : Kp d H H') : Dp K H' v t := Dp.same wo_sub (Dp.same (wo_kp k) (Dp.wod r h g))
theorem DpAll.kpA {vs : List V} {ts : List PyData} (h : DpAll K H vs ts) (r : DrA H d l) (g : goods ts = true) (k : Kp d H H') : DpAll K H' vs ts := by
  obtain ⟨n, ms, h1, _⟩ := r
  exact DpAll.same wo_sub (DpAll.same (wo_kp k) (DpAll.woG h1 h g))
end
/-! data without lists: whatever becomes of lists, it stays -/
mutual
def noL : PyData → Bool
  | .list _ => false
  | .tuple ts => noLs ts
  | _ => true
def noLs : List PyData → Bool
  | [] => true
  | t :: ts => noL t && noLs ts
end
theorem noLs_cons {t : PyData} {ts : List PyData} : noLs (t :: ts) = (noL t && noLs ts) := by rw [noLs]
theorem noLs_append : ∀ (ts us : List PyData), noLs (ts ++ us) = (noLs ts && noLs us)
  | [], us => by rw [noLs]; rfl
  | t :: ts, us => by rw [List.cons_append, noLs_cons, noLs_cons, noLs_append ts us, Bool.and_assoc]
theorem noLs_all : ∀ {ts : List PyData}, (∀ t, t ∈ ts → noL t = true) → noLs ts = true
  | [], _ => by rw [noLs]
  | t :: ts, h => by
    rw [noLs_cons, h t (List.mem_cons_self ..), noLs_all fun u hu => h u (List.mem_cons_of_mem _ hu)]; rfl
theorem noL_str {z : Str} : noL (.str z) = true := by rw [noL]; all_goals (intros; contradiction)
theorem noL_int {z : Int} : noL (.int z) = true := by rw [noL]; all_goals (intros; contradiction)
theorem noL_tup {ts : List PyData} (h : noLs ts = true) : noL (.tuple ts) = true := by rw [noL]; exact h
theorem noLs_strs (as : List Str) : noLs (as.map PyData.str) = true := noLs_all fun t ht => by
  obtain ⟨z, _, rfl⟩ := List.mem_map.mp ht
  exact noL_str
theorem noL_tS (as : List Str) : noL (tS as) = true := noL_tup (noLs_strs as)
theorem noL_hd {h : Hd} {ds : List PyData} (g : noLs ds = true) : noL (h.data ds) = true := by
  refine noL_tup ?_
  rw [noLs_cons, noL_str]
  have n0 : noLs [] = true := by rw [noLs]
  cases h <;> simp only [Hd.rest, noLs_cons, noLs_append, noL_str, noL_int, noL_tS, g, n0, noL_tup g, Bool.and_self, Bool.true_and]
theorem Fm.noL : ∀ f : Fm, SaysoV.noL f.data = true := Fm.ind fun h ps ih => by
  rw [Fm.data_mk]
  refine noL_hd (noLs_all fun t ht => ?_)
  obtain ⟨p, hp, rfl⟩ := List.mem_map.mp ht
  exact ih p hp
theorem fms_noL (ps : List Fm) : noLs (ps.map Fm.data) = true := noLs_all fun t ht => by
  obtain ⟨p, _, rfl⟩ := List.mem_map.mp ht
  exact p.noL
/-- all but lists stays -/
def Kl (H H' : Hp) : Prop := ∀ b o, H b = some o → (∀ ys, o ≠ .lst ys) → H' b = some o
theorem Kl.refl (H : Hp) : Kl H H := fun _ _ e _ => e
theorem Kl.of {H H' : Hp} (s : Same H H') : Kl H H' := fun b o e _ => s b o e
theorem Kl.trans {H H1 H2 : Hp} (a : Kl H H1) (b : Kl H1 H2) : Kl H H2 := fun c o e n => b c o (a c o e n) n
theorem Kl.kp {H H' : Hp} {d : Addr} {ys : List V} (k : Kp d H H') (h : H d = some (.lst ys)) : Kl H H' := fun b o e n => k b o e fun z => by
  rw [z, h] at e
  exact n ys (Option.some.inj e).symm
theorem Kl.dr {H H' : Hp} {d l : Addr} (k : Kp d H H') (r : DrA H d l) : Kl H H' := by
  obtain ⟨n, ms, h1, _⟩ := r
  exact .kp k h1
theorem Kl.upd {H : Hp} {p : Addr} {o : HO} {ys : List V} (h : H p = some (.lst ys)) : Kl H (L2.upd H p o) := fun b x e n => by
  rw [upd_ne fun z => by rw [z, h] at e; exact n ys (Option.some.inj e).symm]
  exact e
theorem Kl.new {H : Hp} {p : Addr} {o : HO} (h : H p = none) : Kl H (L2.upd H p o) := .of (same_upd h)
section
variable {K : PySem.W.Frag} {H H' : Hp}
theorem SqT.kl {a : Addr} {xs : List V} (k : Kl H H') (h : SqT K H a xs) : SqT K H' a xs := by
  rcases h with (h | ⟨o, h⟩) | h
  · exact .inl (.inl (k _ _ h fun zs z => nomatch z))
  · exact .inl (.inr ⟨o, k _ _ h fun zs z => nomatch z⟩)
  · exact .inr h
mutual
theorem Dp.kl (k : Kl H H') : ∀ {v : V} {t : PyData}, Dp K H v t → noL t = true → Dp K H' v t
  | _, _, .non, _ => .non
  | _, _, .bl b, _ => .bl b
  | _, _, .int i, _ => .int i
  | _, _, .str x, _ => .str x
  | _, _, .lst h t, g => by rw [noL] at g; cases g
  | _, _, .tup h t, g => .tup (SqT.kl k h) (DpAll.kl k t (by rw [noL] at g; exact g))
theorem DpAll.kl (k : Kl H H') : ∀ {vs : List V} {ts : List PyData}, DpAll K H vs ts → noLs ts = true → DpAll K H' vs ts
  | _, _, .nil, _ => .nil
  | _, _, .cons h t, g => .cons (Dp.kl k h (by rw [noLs_cons] at g; exact (Bool.and_eq_true_iff.mp g).1)) (DpAll.kl k t (by rw [noLs_cons] at g; exact (Bool.and_eq_true_iff.mp g).2))
end
end
/-! ### the lists of names: name, arity, mode -/
abbrev NE := Str × Nat × Nat
def nD (p : NE) : PyData := .tuple [.str p.1, .int p.2.1, .int p.2.2]
def nsD (ns : List NE) : PyData := .list (ns.map nD)
theorem good_nD (p : NE) : good (nD p) = true := good_tup (by rw [goods_cons, goods_cons, goods_cons, good_str, good_int, good_int, goods]; rfl)
theorem noL_nD (p : NE) : noL (nD p) = true := noL_tup (by rw [noLs_cons, noLs_cons, noLs_cons, noL_str, noL_int, noL_int, noLs]; rfl)
theorem ns_noL (ns : List NE) : noLs (ns.map nD) = true := noLs_all fun t ht => by
  obtain ⟨p, _, rfl⟩ := List.mem_map.mp ht
  exact noL_nD p
theorem good_nsD (ns : List NE) : good (nsD ns) = true := good_lst (goods_all fun t ht => by
  obtain ⟨z, _, rfl⟩ := List.mem_map.mp ht
  exact good_nD z) fun t ht i e => by
  obtain ⟨z, _, rfl⟩ := List.mem_map.mp ht
  cases e
def within (ns : List NE) (p : NE) : List NE := (ns.filter fun q => !decide (q.1 = p.1)) ++ [p]
def mode4 (a b c e : Nat) (m : Nat) : Nat := match m with
  | 0 => a
  | 1 => b
  | 2 => c
  | _ => e
def turned (ns : List NE) : List NE := ns.map fun p => (p.1, p.2.1, mode4 0 2 1 3 p.2.2)
def barred (ns : List NE) : List NE := ns.map fun p => (p.1, p.2.1, mode4 0 3 3 3 p.2.2)
section
variable {K : PySem.W.Frag} {H H' : Hp}
theorem nD_inv {v : V} {p : NE} (h : Dp K H v (nD p)) : ∃ t, v = .ref t ∧ SqT K H t [.str p.1, .int p.2.1, .int p.2.2] := by
  obtain ⟨a, xs, rfl, h1, h2⟩ := Dp.tup_inv h
  obtain ⟨v1, w1, rfl, e1, h2⟩ := DpAll.cons_inv h2
  obtain ⟨v2, w2, rfl, e2, h2⟩ := DpAll.cons_inv h2
  obtain ⟨v3, w3, rfl, e3, h2⟩ := DpAll.cons_inv h2
  rw [Dp.str_inv e1, Dp.int_inv e2, Dp.int_inv e3, DpAll.nil_inv h2] at h1
  exact ⟨a, rfl, h1⟩
theorem nD_of {t : Addr} {p : NE} (h : SqT K H t [.str p.1, .int p.2.1, .int p.2.2]) : Dp K H (.ref t) (nD p) := .tup h (.cons (.str _) (.cons (.int _) (.cons (.int _) .nil)))
theorem DpAll.snoc {vs : List V} {ds : List PyData} {v : V} {t : PyData} (h : DpAll K H vs ds) (e : Dp K H v t) : DpAll K H (vs ++ [v]) (ds ++ [t]) := DpAll.append h (.cons e .nil)
end
theorem filter_snoc {α : Type} {p : α → Bool} {l : List α} {i : Nat} {x : α} (h : l[i]? = some x) : (l.take (i + 1)).filter p = (l.take i).filter p ++ (if p x then [x] else []) := by
  rw [List.take_add_one, h, List.filter_append]
  congr 1
  show List.filter p [x] = _
  cases e : p x <;> simp [List.filter, e]
def spWithin (K : PySem.W.Frag) : Sp := fun vs H Q _ => ∃ (nv : V) (name : Str) (k m : Nat) (ns : List NE), vs = [nv, .str name, .int k, .int m] ∧ Dp K H nv (nsD ns) ∧ ns.length ≤ 100 ∧ ∀ (H' : Hp) (r : V), Same H H' → Dp K H' r (nsD (within ns (name, k, m))) → Q r H'
def spMode (K : PySem.W.Frag) (F : List NE → List NE) : Sp := fun vs H Q _ => ∃ (nv : V) (ns : List NE), vs = [nv] ∧ Dp K H nv (nsD ns) ∧ ns.length ≤ 100 ∧ (∀ p, p ∈ ns → p.2.2 ≤ 3) ∧ ∀ (H' : Hp) (r : V), Same H H' → Dp K H' r (nsD (F ns)) → Q r H'
section
variable {P : Program} {w : World} {K : PySem.W.Frag} {mg : Str → Option Value} {base : Heap}
theorem sc_within : FnScope ["names", "name", "arity", "mode", "one"] ["names", "name", "arity", "mode"] (defScope (top 67)) := ⟨rfl, rfl, rfl, by decide +kernel, rfl, by decide +kernel, by decide +kernel⟩
theorem has_within (D : Def K mg "_law_within" ["names", "name", "arity", "mode"] (top 67)) : Has P w K mg base 1 "_law_within" ["names", "name", "arity", "mode"] (spWithin K) := D.has fun f fd F => by
  refine F.ok sc_within (fun vs H Q E h => ?_) (fun cdv A outer s H vs Q E hr h => ?_)
  · obtain ⟨nv, name, k, m, ns, rfl, _⟩ := h; rfl
  · obtain ⟨nv, name, k, m, ns, rfl, dn, hl, q⟩ := h
    refine ⟨_, PSs.nox (pss_one (ps_ret (pe_op op_cat (pe_lc (own := [("one", 4)]) rfl sc_within.nd (pi_list (pv 0)) (blkOk_by (N := ["names", "name", "arity", "mode", "one"]) (sc := defScope (top 67)) (by decide +kernel)) (fun _ _ _ _ _ => (pg_name (i := 4) sc_within.nd rfl (Or.inl rfl))) (fun _ _ _ _ _ => (pts_one (pt_cmpR op_ne (pe_ix (ix_tupK (K := K) rfl) (pv 4) pe_int (fun _ _ => rfl)) (pv 1) (nomark _)))) (fun _ _ _ _ _ => (pv 4))) (pe_lst (pa_cons (pe_tup (pa_cons (pv 1) (pa_cons (pv 2) (pa_cons (pv 3) pa_nil)))) pa_nil))))), ?_⟩
    obtain ⟨a, xs, rfl, ha, hx⟩ := Dp.lst_inv dn
    refine ⟨_, rfl, a, rfl, ⟨_, ha⟩, fun L nL => ?_⟩
    refine lc_it (walk_list (K := K) (a := a) (xs := xs)) (fun i H2 => ∃ acc, H2 L = some (.lst acc) ∧ DpAll K H acc (((ns.take i).filter fun p => !decide (p.1 = name)).map nD) ∧ Same H H2) ⟨[], upd_same, .nil, same_upd nL⟩ (fun i H2 _ ⟨_, _, _, s2⟩ => s2.seq ha) ?_ ?_
    · rintro i y H2 H3 hi ⟨acc, hL, hacc, s2⟩ ⟨rfl, hy⟩
      obtain ⟨dd, hd, dpy⟩ := DpAll.get' hx hy
      obtain ⟨p, hp, rfl⟩ := get_map hd
      obtain ⟨t, rfl, ht⟩ := nD_inv dpy
      refine ⟨rfl, _, rfl, t, _, _, _, rfl, rfl, Same.sqt s2 ht, atI_nat (j := 0) rfl, _, rfl, rfl, _, rfl, ?_⟩
      have ed : decide (V.str p.1 = V.str name) = decide (p.1 = name) := decide_eq_decide.mpr ⟨fun y => V.str.inj y, fun y => congrArg V.str y⟩
      have ef := filter_snoc (p := fun p : NE => !decide (p.1 = name)) hp
      by_cases e : p.1 = name
      · refine cF (k := !decide (V.str p.1 = V.str name)) (by rw [ed, decide_eq_true e]; rfl) ⟨acc, hL, ?_, s2⟩
        rw [show (if (!decide (p.1 = name)) = true then [p] else []) = [] by simp [e], List.append_nil] at ef
        rw [ef]
        exact hacc
      · refine cT (k := !decide (V.str p.1 = V.str name)) (by rw [ed, decide_eq_false e]; rfl) ⟨_, rfl, _, hL, ?_, ?_⟩
        · have e1 := DpAll.length hacc
          rw [List.length_map] at e1
          have e2 := List.length_filter_le (fun p : NE => !decide (p.1 = name)) (ns.take i)
          have e3 := List.length_take_le' i ns
          exact small1000 (by omega)
        · refine ⟨_, upd_same, ?_, fun b o eb => by rw [upd_ne (ne_of_none eb nL)]; exact s2 _ _ eb⟩
          rw [show (if (!decide (p.1 = name)) = true then [p] else []) = [p] by simp [e]] at ef
          rw [ef, List.map_append]
          exact DpAll.snoc hacc (nD_of ht)
    · rintro H2 ⟨acc, hL, hacc, s2⟩
      have el : xs.length = ns.length := by rw [DpAll.length hx, List.length_map]
      rw [List.take_of_length_le (show ns.length ≤ xs.length by omega)] at hacc
      refine ⟨_, rfl, _, rfl, _, rfl, (by show 3 ≤ sizeLine; decide), fun t nt => ⟨(by show 1 ≤ sizeLine; decide), fun b nb => ?_⟩⟩
      have t1 : Same H2 (upd H2 t (.tup [.str name, .int k, .int m])) := same_upd nt
      have t2 := same_upd (o := .lst [.ref t]) nb
      refine ⟨L, b, acc, [.ref t], rfl, rfl, t2 _ _ (t1 _ _ hL), upd_same, ?_, fun p np => ?_⟩
      · have e1 := DpAll.length hacc
        rw [List.length_map] at e1
        have e2 := List.length_filter_le (fun p : NE => !decide (p.1 = name)) ns
        have := small1000 (n := acc.length + 1) (by omega)
        show acc.length + 1 ≤ sizeLine
        omega
      · have t3 := same_upd (o := .lst (acc ++ [.ref t])) np
        have s4 : Same H _ := ((s2.trans t1).trans t2).trans t3
        refine q _ _ s4 (.lst (.inl (.inl upd_same)) ?_)
        show DpAll K _ _ (((ns.filter fun q => !decide (q.1 = name)) ++ [(name, k, m)]).map nD)
        rw [List.map_append]
        exact DpAll.snoc (DpAll.same s4 hacc) (nD_of (Same.sqt t3 (Same.sqt t2 (.inl (.inl upd_same)))))
theorem mode_at {a b c e m : Nat} (h : m ≤ 3) : [V.int a, V.int b, V.int c, V.int e][m]? = some (.int (mode4 a b c e m : Nat)) := by
  match m, h with
  | 0, _ => rfl
  | 1, _ => rfl
  | 2, _ => rfl
  | 3, _ => rfl
theorem sc_turned : FnScope ["names", "one"] ["names"] (defScope (top 68)) := ⟨rfl, rfl, rfl, by decide +kernel, rfl, by decide +kernel, by decide +kernel⟩
theorem has_turned (D : Def K mg "_law_turned" ["names"] (top 68)) : Has P w K mg base 1 "_law_turned" ["names"] (spMode K turned) := D.has fun f fd F => by
  refine F.ok sc_turned (fun vs H Q E h => ?_) (fun cdv A outer s H vs Q E hr h => ?_)
  · obtain ⟨nv, ns, rfl, _⟩ := h; rfl
  · obtain ⟨nv, ns, rfl, dn, hl, hm, q⟩ := h
    refine ⟨_, PSs.nox (pss_one (ps_ret (pe_lc (own := [("one", 1)]) rfl sc_turned.nd (pi_list (pv 0)) (blkOk_by (N := ["names", "one"]) (sc := defScope (top 68)) (by decide +kernel)) (fun _ _ _ _ _ => (pg_name (i := 1) sc_turned.nd rfl (Or.inl rfl))) (fun _ _ _ _ _ => pts_nil) (fun _ _ _ _ _ => (pe_tup (pa_cons (pe_ix (ix_tupK (K := K) rfl) (pv 1) pe_int (fun _ _ => rfl)) (pa_cons (pe_ix (ix_tupK (K := K) rfl) (pv 1) pe_int (fun _ _ => rfl)) (pa_cons (pe_ix (ix_listK (K := K) rfl) (pe_lst (pa_cons pe_int (pa_cons pe_int (pa_cons pe_int (pa_cons pe_int pa_nil))))) (pe_ix (ix_tupK (K := K) rfl) (pv 1) pe_int (fun _ _ => rfl)) (fun _ _ => rfl)) pa_nil)))))))), ?_⟩
    obtain ⟨a, xs, rfl, ha, hx⟩ := Dp.lst_inv dn
    refine ⟨_, rfl, a, rfl, ⟨_, ha⟩, fun L nL => ?_⟩
    refine lc_it (walk_list (K := K) (a := a) (xs := xs)) (fun i H2 => ∃ acc, H2 L = some (.lst acc) ∧ DpAll K H2 acc ((turned (ns.take i)).map nD) ∧ Same H H2) ⟨[], upd_same, .nil, same_upd nL⟩ (fun i H2 _ ⟨_, _, _, s2⟩ => s2.seq ha) ?_ ?_
    · rintro i y H2 H3 hi ⟨acc, hL, hacc, s2⟩ ⟨rfl, hy⟩
      obtain ⟨dd, hd, dpy⟩ := DpAll.get' hx hy
      obtain ⟨p, hp, rfl⟩ := get_map hd
      obtain ⟨t, rfl, ht⟩ := nD_inv (Dp.same s2 dpy)
      have hm3 := hm p (List.mem_of_getElem? hp)
      refine ⟨rfl, _, rfl, t, _, _, _, rfl, rfl, ht, atI_nat (j := 0) rfl, ?_⟩
      refine ⟨_, rfl, t, _, _, _, rfl, rfl, ht, atI_nat (j := 1) rfl, ?_⟩
      refine ⟨(by show 4 ≤ sizeLine; decide), fun c nc => ?_⟩
      have t1 := same_upd (o := .lst [V.int 0, V.int 2, V.int 1, V.int 3]) nc
      refine ⟨_, rfl, t, _, _, _, rfl, rfl, Same.sqt t1 ht, atI_nat (j := 2) rfl, c, _, _, _, rfl, rfl, .inl (.inl upd_same), atI_nat (mode_at hm3), ?_⟩
      refine ⟨(by show 3 ≤ sizeLine; decide), fun e ne => ?_⟩
      have t2 := same_upd (o := .tup [.str p.1, .int p.2.1, .int (mode4 0 2 1 3 p.2.2 : Nat)]) ne
      have t12 := t1.trans t2
      refine ⟨acc, t12 _ _ hL, ?_, acc ++ [.ref e], upd_same, ?_, fun b o eb => by rw [upd_ne (ne_of_none eb nL)]; exact t12 _ _ (s2 _ _ eb)⟩
      · have e1 := DpAll.length hacc
        rw [List.length_map] at e1
        have e2 : (turned (ns.take i)).length = (ns.take i).length := List.length_map ..
        have e3 := List.length_take_le' i ns
        exact small1000 (by omega)
      · have et : turned (ns.take (i + 1)) = turned (ns.take i) ++ [(p.1, p.2.1, mode4 0 2 1 3 p.2.2)] := by
          rw [List.take_add_one, hp]
          exact List.map_append
        rw [et, List.map_append]
        have d2 : Dp K (upd (upd H3 c (.lst [V.int 0, V.int 2, V.int 1, V.int 3])) e (.tup [.str p.1, .int p.2.1, .int (mode4 0 2 1 3 p.2.2 : Nat)])) (.ref e) (nD (p.1, p.2.1, mode4 0 2 1 3 p.2.2)) := nD_of (.inl (.inl upd_same))
        exact DpAll.kl (Kl.upd (t12 _ _ hL)) (DpAll.snoc (DpAll.kl (.of t12) hacc (ns_noL _)) d2) (by rw [noLs_append, ns_noL, ns_noL]; rfl)
    · rintro H2 ⟨acc, hL, hacc, s2⟩
      have el : xs.length = ns.length := by rw [DpAll.length hx, List.length_map]
      rw [List.take_of_length_le (show ns.length ≤ xs.length by omega)] at hacc
      exact q H2 (.ref L) s2 (.lst (.inl (.inl hL)) hacc)
theorem sc_barred : FnScope ["names", "one"] ["names"] (defScope (top 69)) := ⟨rfl, rfl, rfl, by decide +kernel, rfl, by decide +kernel, by decide +kernel⟩
theorem has_barred (D : Def K mg "_law_barred" ["names"] (top 69)) : Has P w K mg base 1 "_law_barred" ["names"] (spMode K barred) := D.has fun f fd F => by
  refine F.ok sc_barred (fun vs H Q E h => ?_) (fun cdv A outer s H vs Q E hr h => ?_)
  · obtain ⟨nv, ns, rfl, _⟩ := h; rfl
  · obtain ⟨nv, ns, rfl, dn, hl, hm, q⟩ := h
    refine ⟨_, PSs.nox (pss_one (ps_ret (pe_lc (own := [("one", 1)]) rfl sc_barred.nd (pi_list (pv 0)) (blkOk_by (N := ["names", "one"]) (sc := defScope (top 69)) (by decide +kernel)) (fun _ _ _ _ _ => (pg_name (i := 1) sc_barred.nd rfl (Or.inl rfl))) (fun _ _ _ _ _ => pts_nil) (fun _ _ _ _ _ => (pe_tup (pa_cons (pe_ix (ix_tupK (K := K) rfl) (pv 1) pe_int (fun _ _ => rfl)) (pa_cons (pe_ix (ix_tupK (K := K) rfl) (pv 1) pe_int (fun _ _ => rfl)) (pa_cons (pe_ix (ix_listK (K := K) rfl) (pe_lst (pa_cons pe_int (pa_cons pe_int (pa_cons pe_int (pa_cons pe_int pa_nil))))) (pe_ix (ix_tupK (K := K) rfl) (pv 1) pe_int (fun _ _ => rfl)) (fun _ _ => rfl)) pa_nil)))))))), ?_⟩
    obtain ⟨a, xs, rfl, ha, hx⟩ := Dp.lst_inv dn
    refine ⟨_, rfl, a, rfl, ⟨_, ha⟩, fun L nL => ?_⟩
    refine lc_it (walk_list (K := K) (a := a) (xs := xs)) (fun i H2 => ∃ acc, H2 L = some (.lst acc) ∧ DpAll K H2 acc ((barred (ns.take i)).map nD) ∧ Same H H2) ⟨[], upd_same, .nil, same_upd nL⟩ (fun i H2 _ ⟨_, _, _, s2⟩ => s2.seq ha) ?_ ?_
    · rintro i y H2 H3 hi ⟨acc, hL, hacc, s2⟩ ⟨rfl, hy⟩
      obtain ⟨dd, hd, dpy⟩ := DpAll.get' hx hy
      obtain ⟨p, hp, rfl⟩ := get_map hd
      obtain ⟨t, rfl, ht⟩ := nD_inv (Dp.same s2 dpy)
      have hm3 := hm p (List.mem_of_getElem? hp)
      refine ⟨rfl, _, rfl, t, _, _, _, rfl, rfl, ht, atI_nat (j := 0) rfl, ?_⟩
      refine ⟨_, rfl, t, _, _, _, rfl, rfl, ht, atI_nat (j := 1) rfl, ?_⟩
      refine ⟨(by show 4 ≤ sizeLine; decide), fun c nc => ?_⟩
      have t1 := same_upd (o := .lst [V.int 0, V.int 3, V.int 3, V.int 3]) nc
      refine ⟨_, rfl, t, _, _, _, rfl, rfl, Same.sqt t1 ht, atI_nat (j := 2) rfl, c, _, _, _, rfl, rfl, .inl (.inl upd_same), atI_nat (mode_at hm3), ?_⟩
      refine ⟨(by show 3 ≤ sizeLine; decide), fun e ne => ?_⟩
      have t2 := same_upd (o := .tup [.str p.1, .int p.2.1, .int (mode4 0 3 3 3 p.2.2 : Nat)]) ne
      have t12 := t1.trans t2
      refine ⟨acc, t12 _ _ hL, ?_, acc ++ [.ref e], upd_same, ?_, fun b o eb => by rw [upd_ne (ne_of_none eb nL)]; exact t12 _ _ (s2 _ _ eb)⟩
      · have e1 := DpAll.length hacc
        rw [List.length_map] at e1
        have e2 : (barred (ns.take i)).length = (ns.take i).length := List.length_map ..
        have e3 := List.length_take_le' i ns
        exact small1000 (by omega)
      · have et : barred (ns.take (i + 1)) = barred (ns.take i) ++ [(p.1, p.2.1, mode4 0 3 3 3 p.2.2)] := by
          rw [List.take_add_one, hp]
          exact List.map_append
        rw [et, List.map_append]
        have d2 : Dp K (upd (upd H3 c (.lst [V.int 0, V.int 3, V.int 3, V.int 3])) e (.tup [.str p.1, .int p.2.1, .int (mode4 0 3 3 3 p.2.2 : Nat)])) (.ref e) (nD (p.1, p.2.1, mode4 0 3 3 3 p.2.2)) := nD_of (.inl (.inl upd_same))
        exact DpAll.kl (Kl.upd (t12 _ _ hL)) (DpAll.snoc (DpAll.kl (.of t12) hacc (ns_noL _)) d2) (by rw [noLs_append, ns_noL, ns_noL]; rfl)
    · rintro H2 ⟨acc, hL, hacc, s2⟩
      have el : xs.length = ns.length := by rw [DpAll.length hx, List.length_map]
      rw [List.take_of_length_le (show ns.length ≤ xs.length by omega)] at hacc
      exact q H2 (.ref L) s2 (.lst (.inl (.inl hL)) hacc)
end
/-! ### reading written dicts -/
section
variable {X : Cx} {o e : Expr} {td ty : TE} {apos cpos : Pos}
/-- d.get(k), d a dict of the module -/
def tKGet (K : PySem.W.Frag) (w : World) (td ty : TE) : TE := fun σ H Q => td σ H fun x H1 => ∃ p es n, x = .ref p ∧ KDict K w p es n ∧ ty σ H1 fun y H2 => ∃ (z : Str) (r : Option Value) (v : V), y = .str z ∧ PySem.W.nsIn K p z = some r ∧ RelV v (r.getD .none) ∧ Q v H2
theorem pe_kget (ho : PE X o td) (he : PE X e ty) (m : M1 X o "get" apos e cpos) : PE X (.Call (.Attribute o "get" apos) [e] [] cpos) (tKGet X.K X.w td ty) := by
  refine ⟨fun pins s σ H Q I h => ?_⟩
  refine wpAny_Call_method m.base m.few m.line PySem.F.plainAttrs_dict PySem.F.slot_dict_get PySem.F.type_dict_get (thn (ho.run pins s σ H _ I h) fun u s1 ⟨x, H1, I1, rx, p, es, n, ex, D, q1⟩ => ?_)
  subst ex
  obtain rfl : u = Value.ref p := rx
  refine ⟨kd_type D I1, fun b eb => by cases eb; exact ⟨_, I1.kIn _ _ D.at_, rfl⟩, ?_⟩
  rw [m.trees]
  refine Calls.callWith_builtin rfl (Calls.evalArgs_plain (Calls.spliced_cons (thn (he.run pins s1 σ H1 _ I1 q1) fun iv s2 ⟨y, H2, I2, ry, z, r, v, ey, en, rv, q2⟩ => Calls.spliced_nil ?_)))
  subst ey
  obtain ⟨t, rfl⟩ := ry
  refine call_meetsIn PySem.F.slot_dict_get (kd_type D I2) PySem.F.entry_dict_get (PySem.F.args_dict_get_2 _ _) (meets_dict_get (PySem.strKind X.prog X.w) p (PySem.strKind_is X.prog X.w z t) D.low) ⟨_, PySem.W.mapOf_K (prog := X.prog) I2.kIn D.at_ D.lit, ?_⟩
  rw [PySem.W.find_K D.at_ en]
  exact ⟨v, H2, I2.tok _, rv, q2⟩
end
/-- what the module's dict x holds under twelve words -/
structure KTab (K : PySem.W.Frag) (w : World) (mg : Str → Option Value) (x : Str) (kvs : List (Str × V)) : Prop where
  g : mg x = some (.ref (He.ga K x))
  d : ∃ es n, KDict K w (He.ga K x) es n
  there : ∀ k v, (k, v) ∈ kvs → ∃ u, PySem.W.nsIn K (He.ga K x) k = some (some u) ∧ RelV v u
def words12 : List Str := ["rel", "eq", "less", "not", "and", "or", "some", "all", "lfp", "pfp", "tc", "guess"]
def Miss (K : PySem.W.Frag) (x : Str) (ks : List Str) : Prop := ∀ k, k ∈ ks → PySem.W.nsIn K (He.ga K x) k = some none
theorem KTab.dct {K : PySem.W.Frag} {w : World} {mg : Str → Option Value} {x : Str} {kvs : List (Str × V)} (t : KTab K w mg x kvs) {k : Str} {v : V} (h : (k, v) ∈ kvs) : KDct K w (He.ga K x) k v := by
  obtain ⟨es, n, D⟩ := t.d
  obtain ⟨u, h1, h2⟩ := t.there k v h
  exact ⟨es, n, u, D.at_, D.lit, h1, h2⟩
/-! ### the tables of heads -/
def Kd.bodyAt : Kd → Option Nat
  | .no => some 1
  | .ex => some 2
  | .al => some 2
  | .lfp => some 3
  | .pfp => some 3
  | .tc => some 2
  | .gs => some 3
  | _ => none
def Kd.ownAt : Kd → Option Nat
  | .ex => some 1
  | .al => some 1
  | .lfp => some 2
  | .pfp => some 2
  | .tc => some 1
  | _ => none
def Kd.argsAt : Kd → Option Nat
  | .rel => some 2
  | .lfp => some 4
  | .pfp => some 4
  | .tc => some 3
  | _ => none
def Kd.many : Kd → Nat
  | .rel => 3
  | .eq => 3
  | .less => 3
  | .no => 2
  | .con => 2
  | .dis => 2
  | .ex => 3
  | .al => 3
  | .lfp => 5
  | .pfp => 5
  | .tc => 4
  | .gs => 4
def bodyTab : List (Str × V) := [("not", .int 1), ("some", .int 2), ("all", .int 2), ("lfp", .int 3), ("pfp", .int 3), ("tc", .int 2), ("guess", .int 3)]
def ownTab : List (Str × V) := [("some", .int 1), ("all", .int 1), ("lfp", .int 2), ("pfp", .int 2), ("tc", .int 1)]
def argsTab : List (Str × V) := [("rel", .int 2), ("lfp", .int 4), ("pfp", .int 4), ("tc", .int 3)]
def lenTab : List (Str × V) := [("rel", .int 3), ("eq", .int 3), ("less", .int 3), ("not", .int 2), ("and", .int 2), ("or", .int 2), ("some", .int 3), ("all", .int 3), ("lfp", .int 5), ("pfp", .int 5), ("tc", .int 4), ("guess", .int 4)]
def Kd.test : Kd → Str
  | .rel => "_is_rel"
  | .eq => "_is_comparison"
  | .less => "_is_comparison"
  | .no => "_is_negation"
  | .con => "_is_joined"
  | .dis => "_is_joined"
  | .ex => "_is_quantified"
  | .al => "_is_quantified"
  | .lfp => "_is_fixed_point"
  | .pfp => "_is_fixed_point"
  | .tc => "_is_closure"
  | .gs => "_is_guess"
def testTab (K : PySem.W.Frag) : List (Str × V) := [("rel", .ref (He.ga K "_is_rel")), ("eq", .ref (He.ga K "_is_comparison")), ("less", .ref (He.ga K "_is_comparison")), ("not", .ref (He.ga K "_is_negation")), ("and", .ref (He.ga K "_is_joined")), ("or", .ref (He.ga K "_is_joined")),
  ("some", .ref (He.ga K "_is_quantified")), ("all", .ref (He.ga K "_is_quantified")), ("lfp", .ref (He.ga K "_is_fixed_point")), ("pfp", .ref (He.ga K "_is_fixed_point")), ("tc", .ref (He.ga K "_is_closure")), ("guess", .ref (He.ga K "_is_guess"))]
/-- the constants of shapes -/
structure Shp (K : PySem.W.Frag) (w : World) (mg : Str → Option Value) : Prop where
  joined : ∃ t, mg "MOST_JOINED" = some (.int 40 t)
  guess : ∃ t, mg "LARGEST_GUESS" = some (.int 3 t)
  relG : mg "REL_COUNTS" = some (.ref (He.ga K "REL_COUNTS"))
  relC : ∀ H : Hp, SqT K H (He.ga K "REL_COUNTS") (([0, 1, 2, 3, 4, 5, 6] : List Int).map V.int)
  ownG : mg "OWN_COUNTS" = some (.ref (He.ga K "OWN_COUNTS"))
  ownC : ∀ H : Hp, SqT K H (He.ga K "OWN_COUNTS") (([1, 2, 3, 4, 5, 6] : List Int).map V.int)
  tcG : mg "TC_COUNTS" = some (.ref (He.ga K "TC_COUNTS"))
  tcC : ∀ H : Hp, SqT K H (He.ga K "TC_COUNTS") (([2, 4, 6, 8] : List Int).map V.int)
  lens : KTab K w mg "LENGTHS" lenTab
  body : KTab K w mg "BODY_AT" bodyTab
  tests : KTab K w mg "TESTS" (testTab K)
  bodyM : Miss K "BODY_AT" ["rel", "eq", "less", "and", "or"]
/-! ### the promises -/
/-- the number of formulas in it is right -/
def Hd.fits (h : Hd) (n : Nat) : Prop := ∀ k, h.one = some k → n = k
theorem Hd.Ok.fits {h : Hd} {n : Nat} (k : h.Ok n) : h.fits n := by
  intro m e
  cases h <;> first | (cases e; exact k.2.2) | (cases e; exact k.2.2.2) | (cases e; exact k) | (cases e; exact k.2) | (cases e; exact k.2.2.2.2) | (cases e; exact k.2.2.2.2.2) | cases e
/-- a function of a formula's head and parts that changes nothing -/
def spHd (K : PySem.W.Frag) (R : Hd → List PyData → V → Hp → Prop) : Sp := fun vs H Q _ => ∃ (v : V) (h : Hd) (ds : List PyData), vs = [v] ∧ Dp K H v (h.data ds) ∧ h.fits ds.length ∧ ∀ (H' : Hp) (r : V), Same H H' → R h ds r H' → Q r H'
abbrev spInner (K : PySem.W.Frag) : Sp := spHd K fun _ ds r H' => Dp K H' r (.tuple ds)
abbrev spOwn (K : PySem.W.Frag) : Sp := spHd K fun h _ r H' => Dp K H' r (tS h.own)
abbrev spArgs (K : PySem.W.Frag) : Sp := spHd K fun h _ r H' => Dp K H' r (tS h.args)
abbrev spBName (K : PySem.W.Frag) : Sp := spHd K fun h _ r _ => r = match h.bound with | some (n, _) => V.str n | none => .non
abbrev spBArity (K : PySem.W.Frag) : Sp := fun vs H Q _ => ∃ (v : V) (h : Hd) (ds : List PyData) (n : Str) (k : Nat), vs = [v] ∧ Dp K H v (h.data ds) ∧ h.bound = some (n, k) ∧ ∀ (H' : Hp), Same H H' → Q (.int k) H'
theorem body_mem : ∀ (k : Kd) (i : Nat), k.bodyAt = some i → (k.word, V.int (i : Nat)) ∈ bodyTab := by
  intro k i e
  cases k <;> first | (cases e; decide +kernel) | cases e
theorem body_mis : ∀ k : Kd, k.bodyAt = none → k.word ∈ (["rel", "eq", "less", "and", "or"] : List Str) := by
  intro k e
  cases k <;> first | decide +kernel | cases e
theorem own_mem : ∀ (k : Kd) (i : Nat), k.ownAt = some i → (k.word, V.int (i : Nat)) ∈ ownTab := by
  intro k i e
  cases k <;> first | (cases e; decide +kernel) | cases e
theorem own_mis : ∀ k : Kd, k.ownAt = none → k.word ∈ (["rel", "eq", "less", "not", "and", "or", "guess"] : List Str) := by
  intro k e
  cases k <;> first | decide +kernel | cases e
theorem args_mem : ∀ (k : Kd) (i : Nat), k.argsAt = some i → (k.word, V.int (i : Nat)) ∈ argsTab := by
  intro k i e
  cases k <;> first | (cases e; decide +kernel) | cases e
theorem args_mis : ∀ k : Kd, k.argsAt = none → k.word ∈ (["eq", "less", "not", "and", "or", "some", "all", "guess"] : List Str) := by
  intro k e
  cases k <;> first | decide +kernel | cases e
theorem len_mem : ∀ (k : Kd), (k.word, V.int (k.many : Nat)) ∈ lenTab := by
  intro k
  cases k <;> decide +kernel
theorem kd_isJ : ∀ k : Kd, inV (.str k.word) [.str "and", .str "or"] = true → k = .con ∨ k = .dis := by
  intro k; cases k <;> decide +kernel
theorem kd_isJ' : ∀ k : Kd, inV (.str k.word) [.str "and", .str "or"] = false → k ≠ .con ∧ k ≠ .dis := by
  intro k; cases k <;> decide +kernel
theorem kd_isE : ∀ k : Kd, inV (.str k.word) [.str "eq", .str "less"] = true → k = .eq ∨ k = .less := by
  intro k; cases k <;> decide +kernel
theorem kd_isE' : ∀ k : Kd, inV (.str k.word) [.str "eq", .str "less"] = false → k ≠ .eq ∧ k ≠ .less := by
  intro k; cases k <;> decide +kernel
theorem isJ (h : Hd) (z : inV (.str h.word) [.str "and", .str "or"] = true) : h = .con ∨ h = .dis := by
  rcases kd_isJ _ z with e | e <;> cases h <;> first | exact Or.inl rfl | exact Or.inr rfl | cases e
theorem isJ' (h : Hd) (z : inV (.str h.word) [.str "and", .str "or"] = false) : h ≠ .con ∧ h ≠ .dis := by
  have := kd_isJ' _ z
  exact ⟨fun e => this.1 (by rw [e]; rfl), fun e => this.2 (by rw [e]; rfl)⟩
theorem isE (h : Hd) (z : inV (.str h.word) [.str "eq", .str "less"] = true) : ∃ x y, (h = .eq x y ∨ h = .less x y) := by
  rcases kd_isE _ z with e | e <;> cases h <;> first | exact ⟨_, _, Or.inl rfl⟩ | exact ⟨_, _, Or.inr rfl⟩ | cases e
theorem isE' (h : Hd) (z : inV (.str h.word) [.str "eq", .str "less"] = false) : ∀ x y, h ≠ .eq x y ∧ h ≠ .less x y := by
  have := kd_isE' _ z
  exact fun x y => ⟨fun e => this.1 (by rw [e]; rfl), fun e => this.2 (by rw [e]; rfl)⟩
section
variable {P : Program} {w : World} {K : PySem.W.Frag} {mg : Str → Option Value} {base : Heap}
theorem at0 {v : V} {xs : List V} : (v :: xs)[0]? = some v := rfl
theorem atS {v d : V} {xs : List V} {i : Nat} (h : xs[i]? = some d) : (v :: xs)[i + 1]? = some d := h
theorem sc_inner : FnScope ["formula"] ["formula"] (defScope (top 35)) := ⟨rfl, rfl, rfl, by decide +kernel, rfl, by decide +kernel, by decide +kernel⟩
theorem has_inner (D : Def K mg "inner" ["formula"] (top 35)) (T : Txt mg) (S : Shp K w mg) : Has P w K mg base 1 "inner" ["formula"] (spInner K) := D.has fun f fd F => by
  have c_BODY_AT := S.body.g
  obtain ⟨es, n, D_BODY_AT⟩ := S.body.d
  refine F.ok sc_inner (fun vs H Q E h => ?_) (fun cdv A outer s H vs Q E hr h => ?_)
  · obtain ⟨v, h, ds, rfl, _⟩ := h; rfl
  · obtain ⟨v, h, ds, rfl, dp, fit, q⟩ := h
    refine ⟨_, PSs.nox (pss_cons (ps_if (pt_cmpR op_in_seq (pe_ix ix_tup (pv 0) pe_int (fun _ _ => rfl)) (pe_tup (pa_cons pe_str (pa_cons pe_str pa_nil))) (by rfl)) (pss_one (ps_ret (pe_ix ix_tup (pv 0) pe_int (fun _ _ => rfl)))) pss_nil) (pss_cons (ps_if (pt_cmpR (op_in_kd D_BODY_AT) (pe_ix ix_tup (pv 0) pe_int (fun _ _ => rfl)) (pe_glob (v := .ref (He.ga K "BODY_AT")) (by rfl) c_BODY_AT rfl) (by rfl)) (pss_one (ps_ret (pe_tup (pa_cons (pe_ix ix_tup (pv 0) (pe_ix ix_kdict (pe_glob (v := .ref (He.ga K "BODY_AT")) (by rfl) c_BODY_AT rfl) (pe_ix ix_tup (pv 0) pe_int (fun _ _ => rfl)) (fun _ _ => rfl)) (fun _ _ => rfl)) pa_nil)))) pss_nil) (pss_one (ps_ret (pe_tup pa_nil))))), ?_⟩
    obtain ⟨a, xs, rfl, hT, hx⟩ := hd_inv dp
    refine ⟨_, rfl, a, _, _, _, rfl, rfl, hT, atI_nat (j := 0) rfl, (by show 2 ≤ sizeLine; decide), fun p np => ⟨p, _, rfl, .inr (SqT.of upd_same), rfl, rfl, _, rfl, ?_⟩⟩
    have sp : Same H (upd H p (.tup [.str "and", .str "or"])) := same_upd np
    have hT1 := Same.sqt sp hT
    have dp1 : DpAll K (upd H p (.tup [.str "and", .str "or"])) xs (h.rest ds) := DpAll.same sp hx
    by_cases j : inV (.str h.word) [.str "and", .str "or"] = true
    · refine cT j ?_
      have e : h.rest ds = [.tuple ds] := by rcases isJ h j with e | e <;> rw [e] <;> rfl
      rw [e] at dp1
      obtain ⟨v1, ws, rfl, h1, _⟩ := DpAll.cons_inv dp1
      exact ⟨_, rfl, a, _, _, _, rfl, rfl, hT1, atI_nat (j := 1) rfl, q _ _ sp h1⟩
    · have j' : inV (.str h.word) [.str "and", .str "or"] = false := by simpa using j
      refine cF j' ?_
      have nj := isJ' h j'
      refine ⟨_, rfl, a, _, _, _, rfl, rfl, hT1, atI_nat (j := 0) rfl, ?_⟩
      cases hb : h.kd.bodyAt with
      | some i =>
        have mem := body_mem _ _ hb
        obtain ⟨u, n1, ru⟩ := S.body.there _ _ mem
        refine ⟨_, _, rfl, rfl, n1, _, rfl, cT (k := (some u).isSome) rfl ?_⟩
        have one : ∃ d v2, ds = [d] ∧ (V.str h.word :: xs)[i]? = some v2 ∧ Dp K (upd H p (.tup [.str "and", .str "or"])) v2 d := by
          have l1 : ds.length = 1 := fit 1 (by cases h <;> first | cases hb; rfl | cases hb)
          obtain ⟨d, rfl⟩ := List.length_eq_one_iff.mp l1
          have g : (PyData.str h.word :: h.rest [d])[i]? = some d := by cases h <;> first | cases hb; rfl | cases hb
          obtain ⟨v2, g2, g3⟩ := DpAll.get (DpAll.cons (.str h.word) dp1) g
          exact ⟨d, v2, rfl, g2, g3⟩
        obtain ⟨d, v2, rfl, g2, g3⟩ := one
        refine ⟨_, rfl, _, rfl, a, _, _, _, rfl, rfl, hT1, atI_nat (j := 0) rfl, _, _, _, rfl, rfl, S.body.dct mem, a, _, _, _, rfl, rfl, hT1, atI_nat g2, (by show 1 ≤ sizeLine; decide), fun p2 np2 => ?_⟩
        exact q _ _ (sp.trans (same_upd np2)) (.tup (SqT.of upd_same) (.cons (Dp.same (same_upd np2) g3) .nil))
      | none =>
        have mem := body_mis _ hb
        refine ⟨_, _, rfl, rfl, S.bodyM _ mem, _, rfl, cF (k := (none : Option Value).isSome) rfl ?_⟩
        have e0 : ds = [] := by
          have l0 : ds.length = 0 := fit 0 (by cases h <;> first | rfl | exact absurd rfl nj.1 | exact absurd rfl nj.2 | cases hb)
          exact List.eq_nil_of_length_eq_zero l0
        subst e0
        refine ⟨(by show 0 ≤ sizeLine; decide), fun p2 np2 => ?_⟩
        exact q _ _ (sp.trans (same_upd np2)) (.tup (SqT.of upd_same) .nil)
end
section
variable {P : Program} {w : World} {K : PySem.W.Frag} {mg : Str → Option Value} {base : Heap}
theorem kd_isB : ∀ k : Kd, inV (.str k.word) [.str "lfp", .str "pfp", .str "guess"] = true → k = .lfp ∨ k = .pfp ∨ k = .gs := by
  intro k; cases k <;> decide +kernel
theorem kd_isB' : ∀ k : Kd, inV (.str k.word) [.str "lfp", .str "pfp", .str "guess"] = false → k ≠ .lfp ∧ k ≠ .pfp ∧ k ≠ .gs := by
  intro k; cases k <;> decide +kernel
theorem rest_bound {h : Hd} {ds : List PyData} {n : Str} {k : Nat} (b : h.bound = some (n, k)) : (h.rest ds)[0]? = some (.str n) := by
  cases h <;> first | (cases b; rfl) | cases b
theorem bound_kd {h : Hd} (z : h.kd = .lfp ∨ h.kd = .pfp ∨ h.kd = .gs) : ∃ n k, h.bound = some (n, k) := by
  rcases z with e | e | e <;> cases h <;> first | exact ⟨_, _, rfl⟩ | cases e
theorem bound_kd' {h : Hd} (z : h.kd ≠ .lfp ∧ h.kd ≠ .pfp ∧ h.kd ≠ .gs) : h.bound = none := by
  cases h <;> first | rfl | exact absurd rfl z.1 | exact absurd rfl z.2.1 | exact absurd rfl z.2.2
theorem sc_bound_name : FnScope ["formula"] ["formula"] (defScope (top 36)) := ⟨rfl, rfl, rfl, by decide +kernel, rfl, by decide +kernel, by decide +kernel⟩
theorem has_bound_name (D : Def K mg "bound_name" ["formula"] (top 36)) : Has P w K mg base 1 "bound_name" ["formula"] (spBName K) := D.has fun f fd F => by
  refine F.ok sc_bound_name (fun vs H Q E h => ?_) (fun cdv A outer s H vs Q E hr h => ?_)
  · obtain ⟨v, h, ds, rfl, _⟩ := h; rfl
  · obtain ⟨v, h, ds, rfl, dp, fit, q⟩ := h
    refine ⟨_, PSs.nox (pss_cons (ps_if (pt_cmpR op_in_seq (pe_ix ix_tup (pv 0) pe_int (fun _ _ => rfl)) (pe_tup (pa_cons pe_str (pa_cons pe_str (pa_cons pe_str pa_nil)))) (by rfl)) (pss_one (ps_ret (pe_ix ix_tup (pv 0) pe_int (fun _ _ => rfl)))) pss_nil) (pss_one (ps_ret pe_non))), ?_⟩
    obtain ⟨a, xs, rfl, hT, hx⟩ := hd_inv dp
    refine ⟨_, rfl, a, _, _, _, rfl, rfl, hT, atI_nat (j := 0) rfl, (by show 3 ≤ sizeLine; decide), fun p np => ⟨p, _, rfl, .inr (SqT.of upd_same), rfl, rfl, _, rfl, ?_⟩⟩
    have sp : Same H (upd H p (.tup [.str "lfp", .str "pfp", .str "guess"])) := same_upd np
    by_cases j : inV (.str h.word) [.str "lfp", .str "pfp", .str "guess"] = true
    · refine cT j ?_
      obtain ⟨n, k, b⟩ := bound_kd (kd_isB _ j)
      obtain ⟨v2, g2, g3⟩ := DpAll.get hx (rest_bound b)
      refine ⟨_, rfl, a, _, _, _, rfl, rfl, Same.sqt sp hT, atI_nat (j := 1) (atS g2), ?_⟩
      refine q _ _ sp ?_
      show v2 = match h.bound with | some (n, _) => V.str n | none => .non
      rw [b]
      exact Dp.str_inv g3
    · have j' : inV (.str h.word) [.str "lfp", .str "pfp", .str "guess"] = false := by simpa using j
      refine cF j' ?_
      refine q _ _ sp ?_
      show V.non = match h.bound with | some (n, _) => V.str n | none => .non
      rw [bound_kd' (kd_isB' _ j')]
theorem kd_gs : ∀ k : Kd, decide (V.str k.word = V.str "guess") = true → k = .gs := by
  intro k; cases k <;> decide +kernel
theorem sc_bound_arity : FnScope ["formula"] ["formula"] (defScope (top 37)) := ⟨rfl, rfl, rfl, by decide +kernel, rfl, by decide +kernel, by decide +kernel⟩
theorem has_bound_arity (D : Def K mg "bound_arity" ["formula"] (top 37)) (T : Txt mg) : Has P w K mg base 1 "bound_arity" ["formula"] (spBArity K) := D.has fun f fd F => by
  refine F.ok sc_bound_arity (fun vs H Q E h => ?_) (fun cdv A outer s H vs Q E hr h => ?_)
  · obtain ⟨v, h, ds, n, k, rfl, _⟩ := h; rfl
  · obtain ⟨v, h, ds, n, k, rfl, dp, b, q⟩ := h
    refine ⟨_, PSs.nox (pss_cons (ps_if (pt_cmpR op_eq (pe_ix ix_tup (pv 0) pe_int (fun _ _ => rfl)) pe_str (nomark _)) (pss_one (ps_ret (pe_ix ix_tup (pv 0) pe_int (fun _ _ => rfl)))) pss_nil) (pss_one (ps_ret (pe_callB call_len_seq (by rfl) T.n_len PySem.boot_len (pa_cons (pe_ix ix_tup (pv 0) pe_int (fun _ _ => rfl)) pa_nil))))), ?_⟩
    obtain ⟨a, xs, rfl, hT, hx⟩ := hd_inv dp
    refine ⟨_, rfl, a, _, _, _, rfl, rfl, hT, atI_nat (j := 0) rfl, rfl, _, rfl, ite2 (fun e => ?_) (fun e => ?_)⟩
    · have ek := kd_gs _ e
      have g : (h.rest ds)[1]? = some (.int k) := by cases h <;> first | (cases b; rfl) | cases ek
      obtain ⟨v2, g2, g3⟩ := DpAll.get hx g
      rw [Dp.int_inv g3] at g2
      exact ⟨_, rfl, a, _, _, _, rfl, rfl, hT, atI_nat (j := 2) (atS g2), q _ (.refl _)⟩
    · have g : ∃ us : List Str, (h.rest ds)[1]? = some (tS us) ∧ us.length = k := by
        cases h <;> first | (cases b; exact ⟨_, rfl, rfl⟩) | (cases b; exact absurd rfl e) | cases b
      obtain ⟨us, g, rfl⟩ := g
      obtain ⟨v2, g2, g3⟩ := DpAll.get hx g
      obtain ⟨t, rfl, ht⟩ := tS_inv g3
      refine ⟨_, rfl, a, _, _, _, rfl, rfl, hT, atI_nat (j := 2) (atS g2), t, _, rfl, .inr ht, ?_⟩
      have := q _ (.refl H)
      rw [List.length_map]
      exact this
/-- are these variables, as many as one of the counts -/
noncomputable def allNm (as : List Str) : Bool := as.all isNm
def spAreVars (K : PySem.W.Frag) : Sp := fun vs H Q _ => ∃ (v : V) (as : List Str) (c : Addr) (ns : List Int), vs = [v, .ref c] ∧ Dp K H v (tS as) ∧ SqT K H c (ns.map V.int) ∧ (∀ z, z ∈ as → z.length ≤ sizeLine) ∧ as.length ≤ 1000 ∧
  ∀ (H' : Hp), Same H H' → Q (.bl (decide ((as.length : Int) ∈ ns) && allNm as)) H'
theorem inV_int {i : Int} : ∀ {ns : List Int}, inV (.int i) (ns.map V.int) = decide (i ∈ ns)
  | [] => by simp [inV]
  | n :: ns => by
    have ih := inV_int (i := i) (ns := ns)
    unfold inV at ih ⊢
    rw [List.map_cons, List.any_cons, ih]
    show ((n == i) || _) = _
    by_cases e : n = i
    · subst e; simp
    · have e2 : i ≠ n := fun z => e z.symm
      simp [e, e2]
theorem flat_ints : ∀ (ns : List Int), (ns.map V.int).all flatV = true
  | [] => rfl
  | n :: ns => by rw [List.map_cons, List.all_cons, flat_ints ns]; rfl
theorem flat_strs : ∀ (ns : List Str), (ns.map V.str).all flatV = true
  | [] => rfl
  | n :: ns => by rw [List.map_cons, List.all_cons, flat_strs ns]; rfl
theorem ty_tup {H : Hp} {a : Addr} {xs : List V} (h : SqT K H a xs) : TyX K H (.ref a) (.type "tuple") := by
  rcases h with (h | ⟨o, h⟩) | ⟨o, its, n, h, c, _⟩
  · exact .base (.tup h)
  · exact .fTuple h
  · exact .kTuple h c
theorem get_str {ns : List Str} {i : Nat} {y : V} (h : (ns.map V.str)[i]? = some y) : ∃ z, ns[i]? = some z ∧ y = .str z := by
  rw [List.getElem?_map] at h
  cases e : ns[i]? with
  | none => rw [e] at h; cases h
  | some z => rw [e] at h; exact ⟨z, rfl, (Option.some.inj h).symm⟩
theorem sc_are_variables : FnScope ["value", "counts", "variable"] ["value", "counts"] (defScope (top 23)) := ⟨rfl, rfl, rfl, by decide +kernel, rfl, by decide +kernel, by decide +kernel⟩
theorem has_are_variables (D : Def K mg "_are_variables" ["value", "counts"] (top 23)) (T : Txt mg) (C1 : Has P w K mg base 1 "is_name" ["text"] (spIsName K)) : Has P w K mg base 2 "_are_variables" ["value", "counts"] (spAreVars K) := D.has fun f fd F => by
  obtain ⟨f1, fd1, G_is_name, g_is_name, k_is_name, b_is_name⟩ := C1
  refine F.ok sc_are_variables (fun vs H Q E h => ?_) (fun cdv A outer s H vs Q E hr h => ?_)
  · obtain ⟨v, as, c, ns, rfl, _⟩ := h; rfl
  · obtain ⟨v, as, c, ns, rfl, dp, hc, lz, few, q⟩ := h
    have R_is_name : Room 1 _ := hr.mono (by decide)
    refine ⟨_, PSs.nox (pss_cons (ps_if (PW.pt (pw_or (pt_not (pt_val (pe_callB call_isi (by rfl) T.n_isinstance (by decide +kernel) (pa_cons (pv 0) (pa_cons (pe_bltn (v := .ty "tuple") (by rfl) T.n_tuple (by decide +kernel) rfl) pa_nil))))) (pw_or1 (pt_cmpR op_notIn_seq (pe_callB call_len_seq (by rfl) T.n_len PySem.boot_len (pa_cons (pv 0) pa_nil)) (pv 1) (by rfl))))) (pss_one (ps_ret pe_bl)) pss_nil) (pss_one (ps_ret (pe_callB (cr_all rfl) (by rfl) T.n_all (by decide +kernel) (pa_cons (pe_lc (own := [("variable", 2)]) rfl sc_are_variables.nd (pi_tup (pv 0)) (blkOk_by (N := ["value", "counts", "variable"]) (sc := defScope (top 23)) (by decide +kernel)) (fun _ _ _ _ _ => (pg_name (i := 2) sc_are_variables.nd rfl (Or.inl rfl))) (fun _ _ _ _ _ => pts_nil) (fun _ _ _ _ _ => (pe_call G_is_name R_is_name (by rfl) g_is_name k_is_name b_is_name .nil pass0 (pa_cons (pv 2) pa_nil)))) pa_nil))))), ?_⟩
    obtain ⟨t, rfl, ht⟩ := tS_inv dp
    refine ⟨_, rfl, _, _, _, _, _, rfl, .ty _, ty_tup ht, kit_ty (b := "tuple") (r := true) (by decide +kernel), _, rfl, iteF ?_⟩
    refine ⟨_, rfl, t, _, rfl, .inr ht, _, rfl, c, _, rfl, .inr hc, rfl, flat_ints ns, _, rfl, ?_⟩
    have el : inV (.int ((as.map V.str).length : Nat)) (ns.map V.int) = decide ((as.length : Int) ∈ ns) := by rw [List.length_map]; exact inV_int
    cases hin : decide ((as.length : Int) ∈ ns) with
    | false =>
      rw [hin] at el
      refine cT (k := !inV (.int ((as.map V.str).length : Nat)) (ns.map V.int)) (by rw [el]; rfl) ?_
      have := q H (.refl H)
      rw [hin] at this
      exact this
    | true =>
      rw [hin] at el
      refine cF (k := !inV (.int ((as.map V.str).length : Nat)) (ns.map V.int)) (by rw [el]; rfl) ?_
      refine ⟨_, rfl, t, rfl, ⟨_, ht⟩, fun L nL => ?_⟩
      refine lc_it (walk_tup (K := K) (a := t) (xs := as.map V.str)) (fun i H2 => H2 L = some (.lst (((as.take i).map isNm).map V.bl)) ∧ Same H H2) ⟨upd_same, same_upd nL⟩ (fun i H2 _ ⟨_, s2⟩ => Same.sqt s2 ht) ?_ ?_
      · rintro i y H2 H3 hi ⟨hL, s2⟩ ⟨rfl, hy⟩
        obtain ⟨z, hz, rfl⟩ := get_str hy
        refine ⟨rfl, _, rfl, .inl ⟨z, rfl, lz z (List.mem_of_getElem? hz), _, hL, ?_, ?_, fun b o eb => ?_⟩⟩
        · rw [List.length_map, List.length_map]
          exact Nat.lt_of_le_of_lt (List.length_take_le' _ _) (small1000 few)
        · rw [upd_same, List.take_add_one, hz, List.map_append, List.map_append]
          rfl
        · rw [upd_ne (ne_of_none eb nL)]
          exact s2 _ _ eb
      · rintro H2 ⟨hL, s2⟩
        have et : as.take (as.map V.str).length = as := by rw [List.length_map]; exact List.take_length
        rw [et] at hL
        refine ⟨L, as.map isNm, rfl, SqL.of hL, ?_⟩
        have e2 : (as.map isNm).all id = allNm as := by rw [List.all_map]; rfl
        have := q H2 s2
        rw [hin] at this
        show Q (.bl ((as.map isNm).all id)) H2
        rw [e2]
        exact this
end
section
variable {P : Program} {w : World} {K : PySem.W.Frag} {mg : Str → Option Value} {base : Heap}
def spAreDiff (K : PySem.W.Frag) : Sp := fun vs H Q _ => ∃ (v : V) (as : List Str) (c : Addr) (ns : List Int), vs = [v, .ref c] ∧ Dp K H v (tS as) ∧ SqT K H c (ns.map V.int) ∧ (∀ z, z ∈ as → z.length ≤ sizeLine) ∧ as.length ≤ 1000 ∧
  ∀ (H' : Hp), Same H H' → Q (.bl ((decide ((as.length : Int) ∈ ns) && allNm as) && decide as.Nodup)) H'
theorem strs_kV (as : List Str) : (as.map (Sum.inr : Str → Key)).map kV = as.map V.str := by
  rw [List.map_map]; rfl
theorem nodup_inr {as : List Str} : (as.map (Sum.inr : Str → Key)).Nodup ↔ as.Nodup := by
  constructor
  · intro h
    exact List.Pairwise.of_map _ (fun a b hne e => hne (congrArg _ e)) h
  · intro h
    exact List.Pairwise.map _ (fun a b hne e => hne (Sum.inr.inj e)) h
theorem sc_are_different : FnScope ["value", "counts"] ["value", "counts"] (defScope (top 24)) := ⟨rfl, rfl, rfl, by decide +kernel, rfl, by decide +kernel, by decide +kernel⟩
theorem has_are_different (D : Def K mg "are_different" ["value", "counts"] (top 24)) (T : Txt mg) (C1 : Has P w K mg base 2 "_are_variables" ["value", "counts"] (spAreVars K)) : Has P w K mg base 3 "are_different" ["value", "counts"] (spAreDiff K) := D.has fun f fd F => by
  obtain ⟨f1, fd1, G_are_variables, g_are_variables, k_are_variables, b_are_variables⟩ := C1
  refine F.ok sc_are_different (fun vs H Q E h => ?_) (fun cdv A outer s H vs Q E hr h => ?_)
  · obtain ⟨v, as, c, ns, rfl, _⟩ := h; rfl
  · obtain ⟨v, as, c, ns, rfl, dp, hc, lz, few, q⟩ := h
    have R_are_variables : Room 2 _ := hr.mono (by decide)
    refine ⟨_, PSs.nox (pss_one (ps_ret (pe_and (pe_call G_are_variables R_are_variables (by rfl) g_are_variables k_are_variables b_are_variables .nil pass0 (pa_cons (pv 0) (pa_cons (pv 1) pa_nil))) (pe_one (pe_cmpR op_eq (pe_callB call_lenSK (by rfl) T.n_len PySem.boot_len (pa_cons (pe_callTy (cr_setK rfl) (by rfl) T.n_set (by decide +kernel) (pa_cons (pv 0) pa_nil)) pa_nil)) (pe_callB call_len_seq (by rfl) T.n_len PySem.boot_len (pa_cons (pv 0) pa_nil)) (nomark _)))))), ?_⟩
    refine ⟨_, rfl, _, rfl, v, as, c, ns, rfl, dp, hc, lz, few, fun H1 s1 => ⟨_, rfl, ?_⟩⟩
    cases hb : (decide ((as.length : Int) ∈ ns) && allNm as) with
    | false =>
      refine iteF ?_
      have := q H1 s1
      rw [hb] at this
      exact this
    | true =>
      refine iteT ?_
      obtain ⟨t, rfl, ht⟩ := tS_inv (Dp.same s1 dp)
      refine ⟨_, rfl, t, as.map Sum.inr, rfl, .inr (by rw [strs_kV]; exact ht), (by rw [List.length_map]; omega), fun p c2 np hc2 => ?_⟩
      have s2 := s1.trans (same_upd (o := SetK P w p (memK (as.map Sum.inr)) c2) np)
      refine ⟨p, _, _, rfl, upd_same, _, rfl, t, _, rfl, .inr (Same.sqt (same_upd np) ht), rfl, ?_⟩
      have := q _ s2
      rw [hb] at this
      have e : decide (V.int (c2 : Nat) = V.int ((as.map V.str).length : Nat)) = (true && decide as.Nodup) := by
        have z := hc2.all
        rw [nodup_inr, List.length_map] at z
        rw [List.length_map]
        by_cases hn : as.Nodup
        · rw [z.mpr hn, decide_eq_true hn]
          exact decide_eq_true rfl
        · rw [decide_eq_false hn]
          refine decide_eq_false fun h => hn (z.mp ?_)
          have h2 : (c2 : Int) = (as.length : Nat) := V.int.inj h
          omega
      show Q (.bl (decide (V.int (c2 : Nat) = V.int ((as.map V.str).length : Nat)))) _
      rw [e]
      exact this
/-- the promise of a test of heads -/
def spTest (K : PySem.W.Frag) (x : Str) : Sp := fun vs H Q _ => ∃ (v : V) (h : Hd) (ds : List PyData), vs = [v] ∧ Dp K H v (h.data ds) ∧ h.Ok ds.length ∧ h.kd.test = x ∧ ∀ (H' : Hp), Same H H' → Q (.bl true) H'
theorem Nm.short {z : Str} (n : Nm z) : z.length ≤ sizeLine := Nat.le_trans n.hi (by decide)
theorem names_all {as : List Str} (h : Names as) : allNm as = true := List.all_eq_true.mpr fun z hz => isNm_t (h z hz)
theorem names_short {as : List Str} (h : Names as) : ∀ z, z ∈ as → z.length ≤ sizeLine := fun z hz => (h z hz).short
theorem vars_t {as : List Str} {ns : List Int} (h : Names as) (m : (as.length : Int) ∈ ns) : (decide ((as.length : Int) ∈ ns) && allNm as) = true := by
  rw [decide_eq_true m, names_all h]; rfl
theorem diff_t {as : List Str} {ns : List Int} (h : Names as) (m : (as.length : Int) ∈ ns) (d : as.Nodup) : ((decide ((as.length : Int) ∈ ns) && allNm as) && decide as.Nodup) = true := by
  rw [vars_t h m, decide_eq_true d]; rfl
theorem kd_tn : ∀ (k : Kd), (k.test = "_is_rel" → k = .rel) ∧ (k.test = "_is_comparison" → k = .eq ∨ k = .less) ∧ (k.test = "_is_joined" → k = .con ∨ k = .dis) ∧ (k.test = "_is_quantified" → k = .ex ∨ k = .al) ∧
    (k.test = "_is_fixed_point" → k = .lfp ∨ k = .pfp) ∧ (k.test = "_is_closure" → k = .tc) ∧ (k.test = "_is_guess" → k = .gs) := by
  intro k; cases k <;> decide +kernel
theorem sc_is_rel : FnScope ["value"] ["value"] (defScope (top 25)) := ⟨rfl, rfl, rfl, by decide +kernel, rfl, by decide +kernel, by decide +kernel⟩
theorem has_is_rel (D : Def K mg "_is_rel" ["value"] (top 25)) (S : Shp K w mg) (C1 : Has P w K mg base 1 "is_name" ["text"] (spIsName K)) (C2 : Has P w K mg base 2 "_are_variables" ["value", "counts"] (spAreVars K)) : Has P w K mg base 4 "_is_rel" ["value"] (spTest K "_is_rel") := D.has fun f fd F => by
  obtain ⟨f1, fd1, G_is_name, g_is_name, k_is_name, b_is_name⟩ := C1
  obtain ⟨f2, fd2, G_are_variables, g_are_variables, k_are_variables, b_are_variables⟩ := C2
  have c_REL_COUNTS := S.relG
  refine F.ok sc_is_rel (fun vs H Q E h => ?_) (fun cdv A outer s H vs Q E hr h => ?_)
  · obtain ⟨v, h, ds, rfl, _⟩ := h; rfl
  · obtain ⟨v, h, ds, rfl, dp, ok, tn, q⟩ := h
    have R_is_name : Room 1 _ := hr.mono (by decide)
    have R_are_variables : Room 2 _ := hr.mono (by decide)
    refine ⟨_, PSs.nox (pss_one (ps_ret (pe_and (pe_call G_is_name R_is_name (by rfl) g_is_name k_is_name b_is_name .nil pass0 (pa_cons (pe_ix ix_tup (pv 0) pe_int (fun _ _ => rfl)) pa_nil)) (pe_one (pe_call G_are_variables R_are_variables (by rfl) g_are_variables k_are_variables b_are_variables .nil pass0 (pa_cons (pe_ix ix_tup (pv 0) pe_int (fun _ _ => rfl)) (pa_cons (pe_glob (v := .ref (He.ga K "REL_COUNTS")) (by rfl) c_REL_COUNTS rfl) pa_nil))))))), ?_⟩
    have ek := (kd_tn _).1 tn
    cases h with
    | rel n as =>
      obtain ⟨hn, hl, hs, _⟩ := ok
      obtain ⟨a, xs, rfl, hT, hx⟩ := hd_inv dp
      obtain ⟨v1, ws, rfl, h1, h2⟩ := DpAll.cons_inv hx
      obtain ⟨v2, ws2, rfl, h3, h4⟩ := DpAll.cons_inv h2
      rw [Dp.str_inv h1] at hT
      refine ⟨_, rfl, a, _, _, _, rfl, rfl, hT, atI_nat (j := 1) rfl, .inl ⟨n, rfl, hn.short, _, rfl, ?_⟩⟩
      refine cT (isNm_t hn) ⟨_, rfl, a, _, _, _, rfl, rfl, hT, atI_nat (j := 2) rfl, v2, as, _, [0, 1, 2, 3, 4, 5, 6], rfl, h3, S.relC _, names_short hs, by omega, fun H1 s1 => ?_⟩
      have m : (as.length : Int) ∈ ([0, 1, 2, 3, 4, 5, 6] : List Int) := by simp only [List.mem_cons, List.not_mem_nil, or_false]; omega
      rw [vars_t hs m]
      exact q H1 s1
    | _ => cases ek
theorem sc_is_comparison : FnScope ["value"] ["value"] (defScope (top 26)) := ⟨rfl, rfl, rfl, by decide +kernel, rfl, by decide +kernel, by decide +kernel⟩
theorem has_is_comparison (D : Def K mg "_is_comparison" ["value"] (top 26)) (C1 : Has P w K mg base 1 "is_name" ["text"] (spIsName K)) : Has P w K mg base 4 "_is_comparison" ["value"] (spTest K "_is_comparison") := D.has fun f fd F => by
  obtain ⟨f1, fd1, G_is_name, g_is_name, k_is_name, b_is_name⟩ := C1
  refine F.ok sc_is_comparison (fun vs H Q E h => ?_) (fun cdv A outer s H vs Q E hr h => ?_)
  · obtain ⟨v, h, ds, rfl, _⟩ := h; rfl
  · obtain ⟨v, h, ds, rfl, dp, ok, tn, q⟩ := h
    have R_is_name : Room 1 _ := hr.mono (by decide)
    refine ⟨_, PSs.nox (pss_one (ps_ret (pe_and (pe_call G_is_name R_is_name (by rfl) g_is_name k_is_name b_is_name .nil pass0 (pa_cons (pe_ix ix_tup (pv 0) pe_int (fun _ _ => rfl)) pa_nil)) (pe_one (pe_call G_is_name R_is_name (by rfl) g_is_name k_is_name b_is_name .nil pass0 (pa_cons (pe_ix ix_tup (pv 0) pe_int (fun _ _ => rfl)) pa_nil)))))), ?_⟩
    have two : ∃ x y, Nm x ∧ Nm y ∧ h.rest ds = [.str x, .str y] := by
      rcases (kd_tn _).2.1 tn with e | e <;> cases h <;> first | exact ⟨_, _, ok.1, ok.2.1, rfl⟩ | cases e
    obtain ⟨x, y, nx, ny, e⟩ := two
    obtain ⟨a, xs, rfl, hT, hx⟩ := hd_inv dp
    rw [e] at hx
    rw [DpAll.strs (as := [x, y]) hx] at hT
    refine ⟨_, rfl, a, _, _, _, rfl, rfl, hT, atI_nat (j := 1) rfl, .inl ⟨x, rfl, nx.short, _, rfl, ?_⟩⟩
    refine cT (isNm_t nx) ⟨_, rfl, a, _, _, _, rfl, rfl, hT, atI_nat (j := 2) rfl, .inl ⟨y, rfl, ny.short, ?_⟩⟩
    rw [isNm_t ny]
    exact q H (.refl H)
theorem sc_is_negation : FnScope ["_value"] ["_value"] (defScope (top 27)) := ⟨rfl, rfl, rfl, by decide +kernel, rfl, by decide +kernel, by decide +kernel⟩
theorem has_is_negation (D : Def K mg "_is_negation" ["_value"] (top 27)) : Has P w K mg base 4 "_is_negation" ["_value"] (spTest K "_is_negation") := D.has fun f fd F => by
  refine F.ok sc_is_negation (fun vs H Q E h => ?_) (fun cdv A outer s H vs Q E hr h => ?_)
  · obtain ⟨v, h, ds, rfl, _⟩ := h; rfl
  · obtain ⟨v, h, ds, rfl, dp, ok, tn, q⟩ := h
    exact ⟨_, PSs.nox (pss_one (ps_ret pe_bl)), q H (.refl H)⟩
theorem sc_is_joined : FnScope ["value"] ["value"] (defScope (top 28)) := ⟨rfl, rfl, rfl, by decide +kernel, rfl, by decide +kernel, by decide +kernel⟩
theorem has_is_joined (D : Def K mg "_is_joined" ["value"] (top 28)) (T : Txt mg) (S : Shp K w mg) : Has P w K mg base 4 "_is_joined" ["value"] (spTest K "_is_joined") := D.has fun f fd F => by
  obtain ⟨t1, c_MOST_JOINED⟩ := S.joined
  refine F.ok sc_is_joined (fun vs H Q E h => ?_) (fun cdv A outer s H vs Q E hr h => ?_)
  · obtain ⟨v, h, ds, rfl, _⟩ := h; rfl
  · obtain ⟨v, h, ds, rfl, dp, ok, tn, q⟩ := h
    refine ⟨_, PSs.nox (pss_one (ps_ret (pe_and (pe_callB call_isi (by rfl) T.n_isinstance (by decide +kernel) (pa_cons (pe_ix ix_tup (pv 0) pe_int (fun _ _ => rfl)) (pa_cons (pe_bltn (v := .ty "tuple") (by rfl) T.n_tuple (by decide +kernel) rfl) pa_nil))) (pe_one (pe_cmpR op_le (pe_callB call_len_seq (by rfl) T.n_len PySem.boot_len (pa_cons (pe_ix ix_tup (pv 0) pe_int (fun _ _ => rfl)) pa_nil)) (pe_glob (v := .int 40) (by rfl) c_MOST_JOINED ⟨_, rfl⟩) (nomark _)))))), ?_⟩
    have two : ds.length ≤ 40 ∧ h.rest ds = [.tuple ds] := by
      rcases (kd_tn _).2.2.1 tn with e | e <;> cases h <;> first | exact ⟨ok, rfl⟩ | cases e
    obtain ⟨l40, e⟩ := two
    obtain ⟨a, xs, rfl, hT, hx⟩ := hd_inv dp
    rw [e] at hx
    obtain ⟨v1, ws, rfl, h1, h2⟩ := DpAll.cons_inv hx
    obtain ⟨b, ys, rfl, hb, hy⟩ := Dp.tup_inv h1
    refine ⟨_, rfl, a, _, _, _, rfl, rfl, hT, atI_nat (j := 1) rfl, _, _, _, _, _, rfl, .ty _, ty_tup hb, kit_ty (b := "tuple") (r := true) (by decide +kernel), _, rfl, iteT ?_⟩
    refine ⟨_, rfl, a, _, _, _, rfl, rfl, hT, atI_nat (j := 1) rfl, b, _, rfl, .inr hb, _, _, rfl, rfl, ?_⟩
    show Q (.bl (decide (((ys.length : Nat) : Int) ≤ 40))) H
    rw [decide_eq_true (show ((ys.length : Nat) : Int) ≤ 40 by rw [DpAll.length hy]; omega)]
    exact q H (.refl H)
theorem sc_is_quantified : FnScope ["value"] ["value"] (defScope (top 29)) := ⟨rfl, rfl, rfl, by decide +kernel, rfl, by decide +kernel, by decide +kernel⟩
theorem has_is_quantified (D : Def K mg "_is_quantified" ["value"] (top 29)) (S : Shp K w mg) (C2 : Has P w K mg base 3 "are_different" ["value", "counts"] (spAreDiff K)) : Has P w K mg base 4 "_is_quantified" ["value"] (spTest K "_is_quantified") := D.has fun f fd F => by
  obtain ⟨f2, fd2, G_are_different, g_are_different, k_are_different, b_are_different⟩ := C2
  have c_OWN_COUNTS := S.ownG
  refine F.ok sc_is_quantified (fun vs H Q E h => ?_) (fun cdv A outer s H vs Q E hr h => ?_)
  · obtain ⟨v, h, ds, rfl, _⟩ := h; rfl
  · obtain ⟨v, h, ds, rfl, dp, ok, tn, q⟩ := h
    have R_are_different : Room 3 _ := hr.mono (by decide)
    refine ⟨_, PSs.nox (pss_one (ps_ret (pe_call G_are_different R_are_different (by rfl) g_are_different k_are_different b_are_different .nil pass0 (pa_cons (pe_ix ix_tup (pv 0) pe_int (fun _ _ => rfl)) (pa_cons (pe_glob (v := .ref (He.ga K "OWN_COUNTS")) (by rfl) c_OWN_COUNTS rfl) pa_nil))))), ?_⟩
    have two : ∃ us, OwnOk us ∧ h.rest ds = tS us :: ds := by
      rcases (kd_tn _).2.2.2.1 tn with e | e <;> cases h <;> first | exact ⟨_, ok.1, rfl⟩ | cases e
    obtain ⟨us, ⟨o1, o6, on, od⟩, e⟩ := two
    obtain ⟨a, xs, rfl, hT, hx⟩ := hd_inv dp
    rw [e] at hx
    obtain ⟨v1, ws, rfl, h1, h2⟩ := DpAll.cons_inv hx
    refine ⟨_, rfl, a, _, _, _, rfl, rfl, hT, atI_nat (j := 1) rfl, v1, us, _, [1, 2, 3, 4, 5, 6], rfl, h1, S.ownC _, names_short on, by omega, fun H1 s1 => ?_⟩
    have m : (us.length : Int) ∈ ([1, 2, 3, 4, 5, 6] : List Int) := by simp only [List.mem_cons, List.not_mem_nil, or_false]; omega
    rw [diff_t on m od]
    exact q H1 s1
theorem sc_is_fixed_point : FnScope ["value"] ["value"] (defScope (top 30)) := ⟨rfl, rfl, rfl, by decide +kernel, rfl, by decide +kernel, by decide +kernel⟩
theorem has_is_fixed_point (D : Def K mg "_is_fixed_point" ["value"] (top 30)) (T : Txt mg) (S : Shp K w mg) (C1 : Has P w K mg base 1 "is_name" ["text"] (spIsName K)) (C2 : Has P w K mg base 2 "_are_variables" ["value", "counts"] (spAreVars K))
    (C3 : Has P w K mg base 3 "are_different" ["value", "counts"] (spAreDiff K)) : Has P w K mg base 4 "_is_fixed_point" ["value"] (spTest K "_is_fixed_point") := D.has fun f fd F => by
  obtain ⟨f1, fd1, G_is_name, g_is_name, k_is_name, b_is_name⟩ := C1
  obtain ⟨f2, fd2, G_are_variables, g_are_variables, k_are_variables, b_are_variables⟩ := C2
  obtain ⟨f3, fd3, G_are_different, g_are_different, k_are_different, b_are_different⟩ := C3
  have c_OWN_COUNTS := S.ownG
  refine F.ok sc_is_fixed_point (fun vs H Q E h => ?_) (fun cdv A outer s H vs Q E hr h => ?_)
  · obtain ⟨v, h, ds, rfl, _⟩ := h; rfl
  · obtain ⟨v, h, ds, rfl, dp, ok, tn, q⟩ := h
    have R_is_name : Room 1 _ := hr.mono (by decide)
    have R_are_variables : Room 2 _ := hr.mono (by decide)
    have R_are_different : Room 3 _ := hr.mono (by decide)
    refine ⟨_, PSs.nox (pss_cons (ps_if (PW.pt (pw_or (pt_not (pt_val (pe_call G_is_name R_is_name (by rfl) g_is_name k_is_name b_is_name .nil pass0 (pa_cons (pe_ix ix_tup (pv 0) pe_int (fun _ _ => rfl)) pa_nil)))) (pw_or1 (pt_not (pt_val (pe_call G_are_different R_are_different (by rfl) g_are_different k_are_different b_are_different .nil pass0 (pa_cons (pe_ix ix_tup (pv 0) pe_int (fun _ _ => rfl)) (pa_cons (pe_glob (v := .ref (He.ga K "OWN_COUNTS")) (by rfl) c_OWN_COUNTS rfl) pa_nil)))))))) (pss_one (ps_ret pe_bl)) pss_nil) (pss_one (ps_ret (pe_call G_are_variables R_are_variables (by rfl) g_are_variables k_are_variables b_are_variables .nil pass0 (pa_cons (pe_ix ix_tup (pv 0) pe_int (fun _ _ => rfl)) (pa_cons (pe_tup (pa_cons (pe_callB call_len_seq (by rfl) T.n_len PySem.boot_len (pa_cons (pe_ix ix_tup (pv 0) pe_int (fun _ _ => rfl)) pa_nil)) pa_nil)) pa_nil)))))), ?_⟩
    have two : ∃ n us as d, Nm n ∧ OwnOk us ∧ as.length = us.length ∧ Names as ∧ h.rest ds = [.str n, tS us, d, tS as] := by
      rcases (kd_tn _).2.2.2.2.1 tn with e | e <;> cases h <;> first | cases e; done | skip
      all_goals first | cases e; done | (obtain ⟨a1, a2, a3, a4, a5⟩ := ok; obtain ⟨d, rfl⟩ := List.length_eq_one_iff.mp a5; exact ⟨_, _, _, d, a1, a2, a3, a4, rfl⟩)
    obtain ⟨n, us, as, d, nn, ⟨o1, o6, on, od⟩, el, an, e⟩ := two
    obtain ⟨a, xs, rfl, hT, hx⟩ := hd_inv dp
    rw [e] at hx
    obtain ⟨v1, ws1, rfl, h1, hx⟩ := DpAll.cons_inv hx
    obtain ⟨v2, ws2, rfl, h2, hx⟩ := DpAll.cons_inv hx
    obtain ⟨v3, ws3, rfl, h3, hx⟩ := DpAll.cons_inv hx
    obtain ⟨v4, ws4, rfl, h4, hx⟩ := DpAll.cons_inv hx
    rw [Dp.str_inv h1] at hT
    refine ⟨_, rfl, a, _, _, _, rfl, rfl, hT, atI_nat (j := 1) rfl, .inl ⟨n, rfl, nn.short, _, rfl, ?_⟩⟩
    refine cF (k := !isNm n) (by rw [isNm_t nn]; rfl) ?_
    refine ⟨_, rfl, a, _, _, _, rfl, rfl, hT, atI_nat (j := 2) rfl, v2, us, _, [1, 2, 3, 4, 5, 6], rfl, h2, S.ownC _, names_short on, by omega, fun H1 s1 => ⟨_, rfl, ?_⟩⟩
    have m : (us.length : Int) ∈ ([1, 2, 3, 4, 5, 6] : List Int) := by simp only [List.mem_cons, List.not_mem_nil, or_false]; omega
    refine cF (k := !_) (by rw [diff_t on m od]; rfl) ?_
    have hT1 := Same.sqt s1 hT
    obtain ⟨t2, rfl, ht2⟩ := tS_inv (Dp.same s1 h2)
    refine ⟨_, rfl, a, _, _, _, rfl, rfl, hT1, atI_nat (j := 4) rfl, _, rfl, a, _, _, _, rfl, rfl, hT1, atI_nat (j := 2) rfl, t2, _, rfl, .inr ht2, (by show 1 ≤ sizeLine; decide), fun p np => ?_⟩
    refine ⟨v4, as, p, [((us.map V.str).length : Nat)], rfl, Dp.same (s1.trans (same_upd np)) h4, SqT.of upd_same, names_short an, by omega, fun H2 s2 => ?_⟩
    have m2 : (as.length : Int) ∈ ([((us.map V.str).length : Nat)] : List Int) := by rw [List.length_map, el]; exact List.mem_singleton.mpr rfl
    rw [vars_t an m2]
    exact q H2 ((s1.trans (same_upd np)).trans s2)
theorem sc_is_closure : FnScope ["value"] ["value"] (defScope (top 31)) := ⟨rfl, rfl, rfl, by decide +kernel, rfl, by decide +kernel, by decide +kernel⟩
theorem has_is_closure (D : Def K mg "_is_closure" ["value"] (top 31)) (T : Txt mg) (S : Shp K w mg) (C2 : Has P w K mg base 2 "_are_variables" ["value", "counts"] (spAreVars K))
    (C3 : Has P w K mg base 3 "are_different" ["value", "counts"] (spAreDiff K)) : Has P w K mg base 4 "_is_closure" ["value"] (spTest K "_is_closure") := D.has fun f fd F => by
  obtain ⟨f2, fd2, G_are_variables, g_are_variables, k_are_variables, b_are_variables⟩ := C2
  obtain ⟨f3, fd3, G_are_different, g_are_different, k_are_different, b_are_different⟩ := C3
  have c_TC_COUNTS := S.tcG
  refine F.ok sc_is_closure (fun vs H Q E h => ?_) (fun cdv A outer s H vs Q E hr h => ?_)
  · obtain ⟨v, h, ds, rfl, _⟩ := h; rfl
  · obtain ⟨v, h, ds, rfl, dp, ok, tn, q⟩ := h
    have R_are_variables : Room 2 _ := hr.mono (by decide)
    have R_are_different : Room 3 _ := hr.mono (by decide)
    refine ⟨_, PSs.nox (pss_one (ps_ret (pe_and (pe_call G_are_different R_are_different (by rfl) g_are_different k_are_different b_are_different .nil pass0 (pa_cons (pe_ix ix_tup (pv 0) pe_int (fun _ _ => rfl)) (pa_cons (pe_glob (v := .ref (He.ga K "TC_COUNTS")) (by rfl) c_TC_COUNTS rfl) pa_nil))) (pe_one (pe_call G_are_variables R_are_variables (by rfl) g_are_variables k_are_variables b_are_variables .nil pass0 (pa_cons (pe_ix ix_tup (pv 0) pe_int (fun _ _ => rfl)) (pa_cons (pe_tup (pa_cons (pe_callB call_len_seq (by rfl) T.n_len PySem.boot_len (pa_cons (pe_ix ix_tup (pv 0) pe_int (fun _ _ => rfl)) pa_nil)) pa_nil)) pa_nil))))))), ?_⟩
    have ek := (kd_tn _).2.2.2.2.2.1 tn
    cases h with
    | tc us as =>
      obtain ⟨lens, on, od, el, an, one⟩ := ok
      obtain ⟨d, rfl⟩ := List.length_eq_one_iff.mp one
      obtain ⟨a, xs, rfl, hT, hx⟩ := hd_inv dp
      obtain ⟨v1, ws1, rfl, h1, hx⟩ := DpAll.cons_inv hx
      obtain ⟨v2, ws2, rfl, h2, hx⟩ := DpAll.cons_inv hx
      obtain ⟨v3, ws3, rfl, h3, hx⟩ := DpAll.cons_inv hx
      refine ⟨_, rfl, a, _, _, _, rfl, rfl, hT, atI_nat (j := 1) rfl, v1, us, _, [2, 4, 6, 8], rfl, h1, S.tcC _, names_short on, by omega, fun H1 s1 => ⟨_, rfl, ?_⟩⟩
      have m : (us.length : Int) ∈ ([2, 4, 6, 8] : List Int) := by simp only [List.mem_cons, List.not_mem_nil, or_false]; omega
      refine cT (diff_t on m od) ?_
      have hT1 := Same.sqt s1 hT
      obtain ⟨t2, rfl, ht2⟩ := tS_inv (Dp.same s1 h1)
      refine ⟨_, rfl, a, _, _, _, rfl, rfl, hT1, atI_nat (j := 3) rfl, _, rfl, a, _, _, _, rfl, rfl, hT1, atI_nat (j := 1) rfl, t2, _, rfl, .inr ht2, (by show 1 ≤ sizeLine; decide), fun p np => ?_⟩
      refine ⟨v3, as, p, [((us.map V.str).length : Nat)], rfl, Dp.same (s1.trans (same_upd np)) h3, SqT.of upd_same, names_short an, by omega, fun H2 s2 => ?_⟩
      have m2 : (as.length : Int) ∈ ([((us.map V.str).length : Nat)] : List Int) := by rw [List.length_map, el]; exact List.mem_singleton.mpr rfl
      rw [vars_t an m2]
      exact q H2 ((s1.trans (same_upd np)).trans s2)
    | _ => cases ek
end
/-! ### whole numbers -/
def isI : V → Bool
  | .int _ => true
  | _ => false
def btw (lo hi : Int) : V → Bool
  | .int i => decide (lo ≤ i) && decide (i ≤ hi)
  | _ => false
def spWhole : Sp := fun vs H Q _ => ∃ x : V, vs = [x] ∧ flatV x = true ∧ Q (.bl (isI x)) H
def spBetween : Sp := fun vs H Q _ => ∃ (x : V) (lo hi : Int), vs = [x, .int lo, .int hi] ∧ flatV x = true ∧ Q (.bl (btw lo hi x)) H
section
variable {P : Program} {w : World} {K : PySem.W.Frag} {mg : Str → Option Value} {base : Heap}
theorem sc_is_whole : FnScope ["value"] ["value"] (defScope (top 7)) := ⟨rfl, rfl, rfl, by decide +kernel, rfl, by decide +kernel, by decide +kernel⟩
theorem has_is_whole (D : Def K mg "is_whole" ["value"] (top 7)) (T : Txt mg) : Has P w K mg base 1 "is_whole" ["value"] spWhole := D.has fun f fd F => by
  refine F.ok sc_is_whole (fun vs H Q E h => ?_) (fun cdv A outer s H vs Q E hr h => ?_)
  · obtain ⟨x, rfl, _⟩ := h; rfl
  · obtain ⟨x, rfl, fx, q⟩ := h
    refine ⟨_, PSs.nox (pss_one (ps_ret (pe_and (pe_callB call_isi (by rfl) T.n_isinstance (by decide +kernel) (pa_cons (pv 0) (pa_cons (pe_bltn (v := .ty "int") (by rfl) T.n_int (by decide +kernel) rfl) pa_nil))) (pe_one (pe_not (pe_callB call_isi (by rfl) T.n_isinstance (by decide +kernel) (pa_cons (pv 0) (pa_cons (pe_bltn (v := .ty "bool") (by rfl) T.n_bool (by decide +kernel) rfl) pa_nil)))))))), ?_⟩
    cases x with
    | int i => exact isi_q rfl (.base (.int i)) (b := true) (by decide +kernel) ⟨_, rfl, iteT (isi_q rfl (.base (.int i)) (b := false) (by decide +kernel) ⟨_, rfl, q⟩)⟩
    | bl b => exact isi_q rfl (.base (.bl b)) (b := true) (by decide +kernel) ⟨_, rfl, iteT (isi_q rfl (.base (.bl b)) (b := true) (by decide +kernel) ⟨_, rfl, q⟩)⟩
    | str z => exact isi_q rfl (.base (.str z)) (b := false) (by decide +kernel) ⟨_, rfl, iteF q⟩
    | non => exact isi_q rfl (.base .non) (b := false) (by decide +kernel) ⟨_, rfl, iteF q⟩
    | byt _ => cases fx
    | flt _ => cases fx
    | ref _ => cases fx
    | ty _ => cases fx
theorem sc_is_between : FnScope ["value", "low", "high"] ["value", "low", "high"] (defScope (top 8)) := ⟨rfl, rfl, rfl, by decide +kernel, rfl, by decide +kernel, by decide +kernel⟩
theorem has_is_between (D : Def K mg "is_between" ["value", "low", "high"] (top 8)) (C1 : Has P w K mg base 1 "is_whole" ["value"] spWhole) : Has P w K mg base 2 "is_between" ["value", "low", "high"] spBetween := D.has fun f fd F => by
  obtain ⟨f1, fd1, G_is_whole, g_is_whole, k_is_whole, b_is_whole⟩ := C1
  refine F.ok sc_is_between (fun vs H Q E h => ?_) (fun cdv A outer s H vs Q E hr h => ?_)
  · obtain ⟨x, lo, hi, rfl, _⟩ := h; rfl
  · obtain ⟨x, lo, hi, rfl, fx, q⟩ := h
    have R_is_whole : Room 1 _ := hr.mono (by decide)
    refine ⟨_, PSs.nox (pss_one (ps_ret (pe_and (pe_call G_is_whole R_is_whole (by rfl) g_is_whole k_is_whole b_is_whole .nil pass0 (pa_cons (pv 0) pa_nil)) (pe_one (pe_chain op_le op_le (pv 1) (pv 0) (pv 2)))))), ?_⟩
    refine ⟨_, rfl, x, rfl, fx, _, rfl, ?_⟩
    cases x with
    | int i =>
      refine iteT ⟨_, rfl, _, rfl, _, _, rfl, rfl, _, rfl, ?_⟩
      have q' : Q (.bl (decide (lo ≤ i) && decide (i ≤ hi))) H := q
      by_cases e : lo ≤ i
      · refine cT (decide_eq_true e) ⟨_, rfl, _, _, rfl, rfl, ?_⟩
        rw [decide_eq_true e] at q'
        exact q'
      · refine cF (decide_eq_false e) ?_
        rw [decide_eq_false e] at q'
        exact q'
    | bl b => exact iteF q
    | str z => exact iteF q
    | non => exact iteF q
    | byt _ => cases fx
    | flt _ => cases fx
    | ref _ => cases fx
    | ty _ => cases fx
end
section
variable {P : Program} {w : World} {K : PySem.W.Frag} {mg : Str → Option Value} {base : Heap}
theorem sc_is_guess : FnScope ["value"] ["value"] (defScope (top 32)) := ⟨rfl, rfl, rfl, by decide +kernel, rfl, by decide +kernel, by decide +kernel⟩
theorem has_is_guess (D : Def K mg "_is_guess" ["value"] (top 32)) (S : Shp K w mg) (C1 : Has P w K mg base 1 "is_name" ["text"] (spIsName K)) (C2 : Has P w K mg base 2 "is_between" ["value", "low", "high"] spBetween) : Has P w K mg base 4 "_is_guess" ["value"] (spTest K "_is_guess") := D.has fun f fd F => by
  obtain ⟨f1, fd1, G_is_name, g_is_name, k_is_name, b_is_name⟩ := C1
  obtain ⟨f2, fd2, G_is_between, g_is_between, k_is_between, b_is_between⟩ := C2
  obtain ⟨t1, c_LARGEST_GUESS⟩ := S.guess
  refine F.ok sc_is_guess (fun vs H Q E h => ?_) (fun cdv A outer s H vs Q E hr h => ?_)
  · obtain ⟨v, h, ds, rfl, _⟩ := h; rfl
  · obtain ⟨v, h, ds, rfl, dp, ok, tn, q⟩ := h
    have R_is_name : Room 1 _ := hr.mono (by decide)
    have R_is_between : Room 2 _ := hr.mono (by decide)
    refine ⟨_, PSs.nox (pss_one (ps_ret (pe_and (pe_call G_is_name R_is_name (by rfl) g_is_name k_is_name b_is_name .nil pass0 (pa_cons (pe_ix ix_tup (pv 0) pe_int (fun _ _ => rfl)) pa_nil)) (pe_one (pe_call G_is_between R_is_between (by rfl) g_is_between k_is_between b_is_between .nil pass0 (pa_cons (pe_ix ix_tup (pv 0) pe_int (fun _ _ => rfl)) (pa_cons pe_int (pa_cons (pe_glob (v := .int 3) (by rfl) c_LARGEST_GUESS ⟨_, rfl⟩) pa_nil)))))))), ?_⟩
    have ek := (kd_tn _).2.2.2.2.2.2 tn
    cases h with
    | gs n k =>
      obtain ⟨nn, k3, _⟩ := ok
      obtain ⟨a, xs, rfl, hT, hx⟩ := hd_inv dp
      obtain ⟨v1, ws1, rfl, h1, hx⟩ := DpAll.cons_inv hx
      obtain ⟨v2, ws2, rfl, h2, hx⟩ := DpAll.cons_inv hx
      rw [Dp.str_inv h1, Dp.int_inv h2] at hT
      refine ⟨_, rfl, a, _, _, _, rfl, rfl, hT, atI_nat (j := 1) rfl, .inl ⟨n, rfl, nn.short, _, rfl, ?_⟩⟩
      refine cT (isNm_t nn) ⟨_, rfl, a, _, _, _, rfl, rfl, hT, atI_nat (j := 2) rfl, .int k, 0, 3, rfl, rfl, ?_⟩
      have e : btw 0 3 (.int (k : Nat)) = true := by
        show (decide ((0 : Int) ≤ (k : Nat)) && decide (((k : Nat) : Int) ≤ 3)) = true
        rw [decide_eq_true (by omega), decide_eq_true (by omega)]; rfl
      rw [e]
      exact q H (.refl H)
    | _ => cases ek
def spShape (K : PySem.W.Frag) : Sp := fun vs H Q _ => ∃ (v : V) (h : Hd) (ds : List PyData), vs = [v] ∧ Dp K H v (h.data ds) ∧ h.Ok ds.length ∧ ∀ (H' : Hp), Same H H' → Q (.bl true) H'
theorem rest_len {h : Hd} {ds : List PyData} (ok : h.fits ds.length) : (h.rest ds).length + 1 = h.kd.many := by
  cases h with
  | no => have e := ok 1 rfl; show ds.length + 1 = 2; omega
  | ex us => have e := ok 1 rfl; show ds.length + 1 + 1 = 3; omega
  | al us => have e := ok 1 rfl; show ds.length + 1 + 1 = 3; omega
  | lfp n us as => have e := ok 1 rfl; show (ds ++ [tS as]).length + 1 + 1 + 1 = 5; rw [List.length_append, e]; rfl
  | pfp n us as => have e := ok 1 rfl; show (ds ++ [tS as]).length + 1 + 1 + 1 = 5; rw [List.length_append, e]; rfl
  | tc us as => have e := ok 1 rfl; show (ds ++ [tS as]).length + 1 + 1 = 4; rw [List.length_append, e]; rfl
  | gs n k => have e := ok 1 rfl; show ds.length + 1 + 1 + 1 = 4; omega
  | _ => rfl
theorem test_mem (K : PySem.W.Frag) (k : Kd) : (k.word, V.ref (He.ga K k.test)) ∈ testTab K := by
  cases k <;> simp [testTab, Kd.word, Kd.test]
structure Tests (P : Program) (w : World) (K : PySem.W.Frag) (mg : Str → Option Value) (base : Heap) : Prop where
  at_ : ∀ k : Kd, mg k.test = some (.ref (He.ga K k.test))
  has : ∀ k : Kd, ∃ ps, Has P w K mg base 4 k.test ps (spTest K k.test)
theorem sc_is_shape : FnScope ["value", "test"] ["value"] (defScope (top 34)) := ⟨rfl, rfl, rfl, by decide +kernel, rfl, by decide +kernel, by decide +kernel⟩
theorem has_is_shape (D : Def K mg "is_shape" ["value"] (top 34)) (T : Txt mg) (S : Shp K w mg) (C : Tests P w K mg base) : Has P w K mg base 5 "is_shape" ["value"] (spShape K) := D.has fun f fd F => by
  have c_LENGTHS := S.lens.g
  have c_TESTS := S.tests.g
  refine F.ok sc_is_shape (fun vs H Q E h => ?_) (fun cdv A outer s H vs Q E hr h => ?_)
  · obtain ⟨v, h, ds, rfl, _⟩ := h; rfl
  · obtain ⟨v, h, ds, rfl, dp, ok, q⟩ := h
    obtain ⟨ps1, f1, fd1, G1, g1, k1, b1⟩ := C.has h.kd
    have ef : f1 = He.ga K h.kd.test := by
      have := g1.symm.trans (C.at_ h.kd)
      injection this with this
      injection this
    have R1 : Room 4 _ := hr.mono (by decide)
    refine ⟨_, PSs.nox (pss_cons (ps_if (PW.pt (pw_or (pt_not (pt_val (pe_callB call_isi (by rfl) T.n_isinstance (by decide +kernel) (pa_cons (pv 0) (pa_cons (pe_bltn (v := .ty "tuple") (by rfl) T.n_tuple (by decide +kernel) rfl) pa_nil))))) (pw_or (pt_not (pt_truth (pv 0) (by intro _; rfl))) (pw_or1 (pt_not (pt_val (pe_callB call_isi (by rfl) T.n_isinstance (by decide +kernel) (pa_cons (pe_ix ix_tup (pv 0) pe_int (fun _ _ => rfl)) (pa_cons (pe_bltn (v := .ty "str") (by rfl) T.n_str (by decide +kernel) rfl) pa_nil))))))))) (pss_one (ps_ret pe_bl)) pss_nil) (pss_cons (ps_if (pt_cmpR op_ne (pe_kget (pe_glob (v := .ref (He.ga K "LENGTHS")) (by rfl) c_LENGTHS rfl) (pe_ix ix_tup (pv 0) pe_int (fun _ _ => rfl)) ⟨rfl, rfl, rfl, rfl⟩) (pe_callB call_len_seq (by rfl) T.n_len PySem.boot_len (pa_cons (pv 0) pa_nil)) (nomark _)) (pss_one (ps_ret pe_bl)) pss_nil) (pss_cons (ps_set (i := 1) sc_is_shape.nd rfl (Or.inl rfl) (pe_ix ix_kdict (pe_glob (v := .ref (He.ga K "TESTS")) (by rfl) c_TESTS rfl) (pe_ix ix_tup (pv 0) pe_int (fun _ _ => rfl)) (fun _ _ => rfl))) (pss_one (ps_ret (pe_callL (i := 1) G1 R1 rfl (Or.inl rfl) k1 b1 .nil pass0 (pa_cons (pv 0) pa_nil))))))), ?_⟩
    obtain ⟨a, xs, rfl, hT, hx⟩ := hd_inv dp
    refine ⟨_, rfl, _, _, _, _, _, rfl, .ty _, ty_tup hT, kit_ty (b := "tuple") (r := true) (by decide +kernel), _, rfl, iteF ?_⟩
    refine ⟨_, rfl, true, .inr (.inl ⟨_, hT, rfl⟩), iteF ?_⟩
    refine ⟨_, rfl, a, _, _, _, rfl, rfl, hT, atI_nat (j := 0) rfl, _, _, _, _, _, rfl, .ty _, .base (.str _), kit_ty (b := "str") (r := true) (by decide +kernel), _, rfl, iteF ?_⟩
    obtain ⟨es, n, DL⟩ := S.lens.d
    obtain ⟨u, n1, ru⟩ := S.lens.there _ _ (len_mem h.kd)
    refine ⟨_, es, n, rfl, DL, _, rfl, a, _, _, _, rfl, rfl, hT, atI_nat (j := 0) rfl, _, _, .int (h.kd.many : Nat), rfl, n1, ru, _, rfl, a, _, rfl, .inr hT, rfl, _, rfl, ?_⟩
    have el : decide (V.int (h.kd.many : Nat) = V.int (((V.str h.word :: xs).length : Nat) : Int)) = true := decide_eq_true (by rw [List.length_cons, DpAll.length hx, rest_len ok.fits])
    refine cF (k := !decide (V.int (h.kd.many : Nat) = V.int (((V.str h.word :: xs).length : Nat) : Int))) (by rw [el]; rfl) ?_
    refine ⟨_, rfl, a, _, _, _, rfl, rfl, hT, atI_nat (j := 0) rfl, _, _, _, rfl, rfl, S.tests.dct (test_mem K h.kd), ?_⟩
    refine ⟨?_, _, rfl, _, h, ds, rfl, dp, ok, rfl, q⟩
    rw [ef]
    rfl
end
/-! ### going through a formula -/
theorem sumN_append : ∀ (xs ys : List Nat), sumN (xs ++ ys) = sumN xs + sumN ys
  | [], ys => (Nat.zero_add _).symm
  | x :: xs, ys => by show x + sumN (xs ++ ys) = x + sumN xs + sumN ys; rw [sumN_append xs ys]; omega
theorem sumN_take {xs : List Nat} {i x : Nat} (h : xs[i]? = some x) : sumN (xs.take (i + 1)) = sumN (xs.take i) + x := by
  rw [List.take_add_one, h, sumN_append]; rfl
theorem sumN_take_le (xs : List Nat) (i : Nat) : sumN (xs.take i) ≤ sumN xs := by
  have e := sumN_append (xs.take i) (xs.drop i)
  rw [List.take_append_drop] at e
  omega
/-- the names that a formula gives to its own relation -/
def Hd.sgn (h : Hd) (s : Int) : Int := match h with
  | .no => -s
  | .pfp _ _ _ => 0
  | _ => s
def Hd.bname (h : Hd) : Option Str := h.bound.map (·.1)
def posStep (h : Hd) (xs : List (Str → Int → Bool)) (name : Str) (s : Int) : Bool := match h with
  | .rel n _ => s == 1 || !decide (n = name)
  | _ => if h.bname = some name then true else xs.all fun g => g name (h.sgn s)
def Fm.pos : Fm → Str → Int → Bool := Fm.fold posStep
theorem Fm.pos_mk (h : Hd) (ps : List Fm) (name : Str) (s : Int) : (Fm.mk h ps).pos name s = posStep h (ps.map Fm.pos) name s := congrFun (congrFun (Fm.fold_mk posStep h ps) name) s
theorem Fm.pos_rel {n : Str} {as : List Str} {ps : List Fm} {name : Str} {s : Int} : (Fm.mk (.rel n as) ps).pos name s = (s == 1 || !decide (n = name)) := Fm.pos_mk _ _ _ _
theorem Fm.pos_other {h : Hd} {ps : List Fm} {name : Str} {s : Int} (nr : h.kd ≠ .rel) : (Fm.mk h ps).pos name s = if h.bname = some name then true else ps.all fun p => p.pos name (h.sgn s) := by
  rw [Fm.pos_mk]
  have e : posStep h (ps.map Fm.pos) name s = if h.bname = some name then true else (ps.map Fm.pos).all fun g => g name (h.sgn s) := by cases h <;> first | rfl | exact absurd rfl nr
  rw [e, List.all_map]
  rfl
/-- the body of each lfp is positive in its name -/
inductive Fm.PosOk : Fm → Prop
  | mk {h : Hd} {ps : List Fm} (a : ∀ n us as, h = .lfp n us as → ∀ p, p ∈ ps → p.pos n 1 = true) (b : ∀ p, p ∈ ps → p.PosOk) : (Fm.mk h ps).PosOk
theorem Fm.PosOk.part {h : Hd} {ps : List Fm} (k : (Fm.mk h ps).PosOk) {p : Fm} (hp : p ∈ ps) : p.PosOk := by cases k with | mk a b => exact b p hp
theorem Fm.PosOk.here {n : Str} {us as : List Str} {ps : List Fm} (k : (Fm.mk (.lfp n us as) ps).PosOk) {p : Fm} (hp : p ∈ ps) : p.pos n 1 = true := by cases k with | mk a b => exact a n us as rfl p hp
/-! ### the promises -/
section
variable {P : Program} {w : World} {K : PySem.W.Frag} {mg : Str → Option Value} {base : Heap}
def spCS (K : PySem.W.Frag) (n : Nat) : Sp := fun vs H Q _ => ∃ (v : V) (l p : Int) (f : Fm), vs = [v, .int l, .int p] ∧ Dp K H v f.data ∧ f.Ok ∧ f.dep ≤ n ∧ (f.dep : Int) ≤ l ∧ (f.cnt : Int) ≤ p ∧ ∀ (H' : Hp), Same H H' → Q (.int (p - f.cnt)) H'
theorem sc_check_shapes : FnScope ["value", "levels_left", "parts_left", "part"] ["value", "levels_left", "parts_left"] (defScope (top 55)) := ⟨rfl, rfl, rfl, by decide +kernel, rfl, by decide +kernel, by decide +kernel⟩
theorem has_check_shapes (D : Def K mg "_check_shapes" ["value", "levels_left", "parts_left"] (top 55)) (C1 : Has P w K mg base 5 "is_shape" ["value"] (spShape K)) (C2 : Has P w K mg base 1 "inner" ["formula"] (spInner K)) :
    ∀ n : Nat, Has P w K mg base (6 + n) "_check_shapes" ["value", "levels_left", "parts_left"] (spCS K n) := by
  obtain ⟨f1, fd1, G_is_shape, g_is_shape, k_is_shape, b_is_shape⟩ := C1
  obtain ⟨f2, fd2, G_inner, g_inner, k_inner, b_inner⟩ := C2
  intro n
  induction n with
  | zero =>
    refine D.has fun f fd F => F.ok sc_check_shapes (fun vs H Q E h => ?_) (fun cdv A outer s H vs Q E hr h => ?_)
    · obtain ⟨v, l, p, f, rfl, _⟩ := h; rfl
    · obtain ⟨v, l, p, f, rfl, _, _, h0, _⟩ := h
      have := dep_pos f
      omega
  | succ n ih =>
    obtain ⟨f3, fd3, G_check_shapes, g_check_shapes, k_check_shapes, b_check_shapes⟩ := ih
    refine D.has fun f fd F => F.ok sc_check_shapes (fun vs H Q E h => ?_) (fun cdv A outer s H vs Q E hr h => ?_)
    · obtain ⟨v, l, p, f, rfl, _⟩ := h; rfl
    · obtain ⟨v, l, p, f, rfl, dp, ok, hn, hl, hp, q⟩ := h
      have R_is_shape : Room 5 _ := hr.mono (Nat.le_trans (by decide) (Nat.le_add_right 6 n))
      have R_inner : Room 1 _ := hr.mono (Nat.le_trans (by decide) (Nat.le_add_right 6 n))
      have R_check_shapes : Room (6 + n) _ := hr
      refine ⟨_, PSs.nox (pss_cons (ps_if (PW.pt (pw_or (pt_cmpR op_lt (pv 1) pe_int (nomark _)) (pw_or1 (pt_cmpR op_lt (pv 2) pe_int (nomark _))))) pss_never pss_nil) (pss_cons (ps_if (pt_not (pt_val (pe_call G_is_shape R_is_shape (by rfl) g_is_shape k_is_shape b_is_shape .nil pass0 (pa_cons (pv 0) pa_nil)))) pss_never pss_nil) (pss_cons (ps_aug (i := 2) sc_check_shapes.nd rfl (Or.inl rfl) pe_int ip_sub) (pss_cons (ps_for PassesOwn.never rfl (pi_tup (pe_call G_inner R_inner (by rfl) g_inner k_inner b_inner .nil pass0 (pa_cons (pv 0) pa_nil))) (pg_name (i := 3) sc_check_shapes.nd rfl (Or.inl rfl)) (pss_one (ps_set (i := 2) sc_check_shapes.nd rfl (Or.inl rfl) (pe_call G_check_shapes R_check_shapes (by rfl) g_check_shapes k_check_shapes b_check_shapes .nil pass0 (pa_cons (pv 3) (pa_cons (pe_op op_sub (pv 1) pe_int) (pa_cons (pv 2) pa_nil))))))) (pss_one (ps_ret (pv 2))))))), ?_⟩
      obtain ⟨h, ps⟩ := f
      rw [Fm.data_mk] at dp
      have hd1 : 1 ≤ (Fm.mk h ps).dep := dep_pos _
      have hc1 : (Fm.mk h ps).cnt = 1 + sumN (ps.map Fm.cnt) := Fm.cnt_mk h ps
      have fit : h.Ok (ps.map Fm.data).length := by rw [List.length_map]; exact ok.hd_
      refine ⟨_, rfl, _, _, rfl, rfl, _, rfl, cF (k := decide (l < 1)) (decide_eq_false (by omega)) ⟨_, rfl, _, _, rfl, rfl, _, rfl, cF (k := decide (p < 1)) (decide_eq_false (by omega)) ?_⟩⟩
      refine ⟨_, rfl, v, h, _, rfl, dp, fit, fun H1 s1 => ⟨_, rfl, iteF ?_⟩⟩
      refine ⟨_, rfl, _, _, rfl, rfl, ?_⟩
      refine ⟨_, rfl, v, h, _, rfl, Dp.same s1 dp, fit.fits, fun H2 r s2 hr2 => ?_⟩
      obtain ⟨b, ys, rfl, hb, hy⟩ := Dp.tup_inv hr2
      refine ⟨b, rfl, ⟨_, hb⟩, for_tup (K := K) (a := b) (xs := ys) (fun i σ H3 => ∃ y3, σ = [some v, some (.int l), some (.int (p - 1 - (sumN ((ps.map Fm.cnt).take i) : Nat))), y3] ∧ Same H2 H3)
        ⟨none, by show _ = [some v, some (.int l), some (.int (p - 1 - ((0 : Nat) : Int))), none]; rw [show (p - 1 - ((0 : Nat) : Int)) = p - 1 by omega]; rfl, .refl _⟩ (fun i σ H3 _ ⟨_, _, s3⟩ => Same.sqt s3 hb) ?_ ?_⟩
      · rintro i y σ H3 hi ⟨y3, rfl, s3⟩
        obtain ⟨d, hd, dpy⟩ := DpAll.get' hy hi
        obtain ⟨g, hg, rfl⟩ := get_map hd
        have mem := List.mem_of_getElem? hg
        have dl : g.dep < (Fm.mk h ps).dep := dep_part mem
        have eg : (ps.map Fm.cnt)[i]? = some g.cnt := by rw [List.getElem?_map, hg]; rfl
        have es := sumN_take eg
        have el := sumN_take_le (ps.map Fm.cnt) (i + 1)
        refine ⟨_, rfl, _, rfl, _, _, rfl, rfl, _, rfl, y, l - 1, _, g, rfl, Dp.same s3 dpy, ok.part mem, by omega, by omega, by omega, fun H4 s4 => ?_⟩
        refine ⟨some y, ?_, s3.trans s4⟩
        rw [es]
        have e5 : p - 1 - ((sumN ((ps.map Fm.cnt).take i) : Nat) : Int) - (g.cnt : Int) = p - 1 - ((sumN ((ps.map Fm.cnt).take i) + g.cnt : Nat) : Int) := by omega
        rw [e5]
        rfl
      · rintro σ H3 ⟨y3, rfl, s3⟩
        have ey : ys.length = ps.length := by rw [DpAll.length hy, List.length_map]
        have et : (ps.map Fm.cnt).take ys.length = ps.map Fm.cnt := List.take_of_length_le (by rw [List.length_map]; omega)
        refine ⟨_, rfl, ?_⟩
        have e6 : p - 1 - ((sumN ((ps.map Fm.cnt).take ys.length) : Nat) : Int) = p - (((Fm.mk h ps).cnt : Nat) : Int) := by rw [et, hc1]; omega
        show Q (.int (p - 1 - ((sumN ((ps.map Fm.cnt).take ys.length) : Nat) : Int))) H3
        rw [e6]
        exact q H3 ((s1.trans s2).trans s3)
theorem kw_rel : ∀ k : Kd, decide (V.str k.word = V.str "rel") = decide (k = .rel) := by intro k; cases k <;> decide +kernel
theorem kw_not : ∀ k : Kd, decide (V.str k.word = V.str "not") = decide (k = .no) := by intro k; cases k <;> decide +kernel
theorem kw_pfp : ∀ k : Kd, decide (V.str k.word = V.str "pfp") = decide (k = .pfp) := by intro k; cases k <;> decide +kernel
theorem kw_lfp : ∀ k : Kd, decide (V.str k.word = V.str "lfp") = decide (k = .lfp) := by intro k; cases k <;> decide +kernel
def spPos (K : PySem.W.Frag) (n : Nat) : Sp := fun vs H Q _ => ∃ (v : V) (name : Str) (sg : Int) (f : Fm), vs = [v, .str name, .int sg] ∧ Dp K H v f.data ∧ f.Ok ∧ f.dep ≤ n ∧ ∀ (H' : Hp), Same H H' → Q (.bl (f.pos name sg)) H'
theorem sc_is_positive : FnScope ["formula", "name", "sign", "part"] ["formula", "name", "sign"] (defScope (top 57)) := ⟨rfl, rfl, rfl, by decide +kernel, rfl, by decide +kernel, by decide +kernel⟩
theorem has_is_positive (D : Def K mg "is_positive_in" ["formula", "name", "sign"] (top 57)) (C1 : Has P w K mg base 1 "bound_name" ["formula"] (spBName K)) (C2 : Has P w K mg base 1 "inner" ["formula"] (spInner K)) :
    ∀ n : Nat, Has P w K mg base (2 + n) "is_positive_in" ["formula", "name", "sign"] (spPos K n) := by
  obtain ⟨f1, fd1, G_bound_name, g_bound_name, k_bound_name, b_bound_name⟩ := C1
  obtain ⟨f2, fd2, G_inner, g_inner, k_inner, b_inner⟩ := C2
  intro n
  induction n with
  | zero =>
    refine D.has fun f fd F => F.ok sc_is_positive (fun vs H Q E h => ?_) (fun cdv A outer s H vs Q E hr h => ?_)
    · obtain ⟨v, l, p, f, rfl, _⟩ := h; rfl
    · obtain ⟨v, l, p, f, rfl, _, _, h0, _⟩ := h
      have := dep_pos f
      omega
  | succ n ih =>
    obtain ⟨f3, fd3, G_is_positive_in, g_is_positive_in, k_is_positive_in, b_is_positive_in⟩ := ih
    refine D.has fun f fd F => F.ok sc_is_positive (fun vs H Q E h => ?_) (fun cdv A outer s H vs Q E hr h => ?_)
    · obtain ⟨v, l, p, f, rfl, _⟩ := h; rfl
    · obtain ⟨v, name, sg, f, rfl, dp, ok, hn, q⟩ := h
      have R_bound_name : Room 1 _ := hr.mono (Nat.le_trans (by decide) (Nat.le_add_right 2 n))
      have R_inner : Room 1 _ := hr.mono (Nat.le_trans (by decide) (Nat.le_add_right 2 n))
      have R_is_positive_in : Room (2 + n) _ := hr
      refine ⟨_, PSs.nox (pss_cons (ps_if (pt_cmpR op_eq (pe_ix ix_tup (pv 0) pe_int (fun _ _ => rfl)) pe_str (nomark _)) (pss_one (ps_ret (pe_or (pe_cmpR op_eq (pv 2) pe_int (nomark _)) (pe_one (pe_cmpR op_ne (pe_ix ix_tup (pv 0) pe_int (fun _ _ => rfl)) (pv 1) (nomark _)))))) pss_nil) (pss_cons (ps_if (pt_cmpR op_eq (pe_call G_bound_name R_bound_name (by rfl) g_bound_name k_bound_name b_bound_name .nil pass0 (pa_cons (pv 0) pa_nil)) (pv 1) (nomark _)) (pss_one (ps_ret pe_bl)) pss_nil) (pss_cons (ps_if (pt_cmpR op_eq (pe_ix ix_tup (pv 0) pe_int (fun _ _ => rfl)) pe_str (nomark _)) (pss_one (ps_set (i := 2) sc_is_positive.nd rfl (Or.inl rfl) (pe_un un_neg (pv 2)))) pss_nil) (pss_cons (ps_if (pt_cmpR op_eq (pe_ix ix_tup (pv 0) pe_int (fun _ _ => rfl)) pe_str (nomark _)) (pss_one (ps_set (i := 2) sc_is_positive.nd rfl (Or.inl rfl) pe_int)) pss_nil) (pss_cons (ps_for PassesOwn.never rfl (pi_tup (pe_call G_inner R_inner (by rfl) g_inner k_inner b_inner .nil pass0 (pa_cons (pv 0) pa_nil))) (pg_name (i := 3) sc_is_positive.nd rfl (Or.inl rfl)) (pss_one (ps_if (pt_not (pt_val (pe_call G_is_positive_in R_is_positive_in (by rfl) g_is_positive_in k_is_positive_in b_is_positive_in .nil pass0 (pa_cons (pv 3) (pa_cons (pv 1) (pa_cons (pv 2) pa_nil)))))) (pss_one (ps_ret pe_bl)) pss_nil))) (pss_one (ps_ret pe_bl))))))), ?_⟩
      obtain ⟨h, ps⟩ := f
      rw [Fm.data_mk] at dp
      have fit : h.Ok (ps.map Fm.data).length := by rw [List.length_map]; exact ok.hd_
      obtain ⟨a, xs, rfl, hT, hx⟩ := hd_inv dp
      refine ⟨_, rfl, a, _, _, _, rfl, rfl, hT, atI_nat (j := 0) rfl, rfl, _, rfl, ?_⟩
      by_cases kr : h.kd = .rel
      · refine cT (k := decide (V.str h.word = V.str "rel")) (by rw [kw_rel, decide_eq_true kr]) ?_
        cases h with
        | rel m as =>
          obtain ⟨v1, ws1, rfl, h1, _⟩ := DpAll.cons_inv hx
          rw [Dp.str_inv h1] at hT
          have q' := q H (.refl H)
          rw [Fm.pos_rel] at q'
          refine ⟨_, rfl, rfl, _, rfl, ?_⟩
          by_cases e1 : sg = 1
          · refine cT (decide_eq_true (by rw [e1])) ?_
            have e2 : (sg == 1) = true := by rw [e1]; rfl
            rw [e2] at q'
            exact q'
          · refine cF (decide_eq_false fun z => e1 (V.int.inj z)) ⟨_, rfl, a, _, _, _, rfl, rfl, hT, atI_nat (j := 1) rfl, _, rfl, rfl, ?_⟩
            have e2 : (sg == 1) = false := by simpa using e1
            rw [e2] at q'
            have e3 : decide (V.str m = V.str name) = decide (m = name) := decide_eq_decide.mpr ⟨fun y => V.str.inj y, fun y => congrArg V.str y⟩
            show Q (.bl (!decide (V.str m = V.str name))) H
            rw [e3]
            exact q'
        | _ => cases kr
      · refine cF (k := decide (V.str h.word = V.str "rel")) (by rw [kw_rel, decide_eq_false kr]) ?_
        rw [Fm.pos_other kr] at q
        refine ⟨_, rfl, _, h, _, rfl, dp, fit.fits, fun H1 r1 s1 er => ?_⟩
        have eb : scal r1 (.str name) = true ∧ decide (r1 = V.str name) = decide (h.bname = some name) := by
          rw [er]
          cases eb : h.bound with
          | none =>
            refine ⟨rfl, ?_⟩
            have e1 : h.bname = none := by unfold Hd.bname; rw [eb]; rfl
            rw [e1]
            rfl
          | some z =>
            refine ⟨rfl, ?_⟩
            have e1 : h.bname = some z.1 := by unfold Hd.bname; rw [eb]; rfl
            rw [e1]
            exact decide_eq_decide.mpr ⟨fun y => congrArg some (V.str.inj y), fun y => congrArg V.str (Option.some.inj y)⟩
        refine ⟨_, rfl, eb.1, _, rfl, ?_⟩
        by_cases hb : h.bname = some name
        · refine cT (k := decide (r1 = V.str name)) (by rw [eb.2, decide_eq_true hb]) ?_
          have q' := q H1 s1
          rw [if_pos hb] at q'
          exact q'
        · refine cF (k := decide (r1 = V.str name)) (by rw [eb.2, decide_eq_false hb]) ?_
          have q' : ∀ H', Same H H' → Q (.bl (ps.all fun p => p.pos name (h.sgn sg))) H' := fun H' s' => by
            have := q H' s'
            rw [if_neg hb] at this
            exact this
          have hT1 := Same.sqt s1 hT
          have go : ∀ (σ : L2.St), σ = [some (.ref a), some (.str name), some (.int (h.sgn sg)), none] → tSeq (tFor (iTup K (tCall (spInner K) [] E0 (tCons (tVar 0) tNil))) (gName 3) (tIfS (tNot (tB (tCall (spPos K n) [] E0 (tCons (tVar 3) (tCons (tVar 1) (tCons (tVar 2) tNil)))))) (tRet (tC (.bl false))) tNext)) (tRet (tC (.bl true)))
              { nx := fun _ H' => Q .non H', rt := Q } σ H1 := by
            rintro σ rfl
            refine ⟨_, rfl, _, h, _, rfl, Dp.same s1 dp, fit.fits, fun H2 r s2 hr2 => ?_⟩
            obtain ⟨b, ys, rfl, hb2, hy⟩ := Dp.tup_inv hr2
            refine ⟨b, rfl, ⟨_, hb2⟩, for_tup (K := K) (a := b) (xs := ys) (fun i σ H3 => ∃ y3, σ = [some (.ref a), some (.str name), some (.int (h.sgn sg)), y3] ∧ Same H2 H3 ∧ ∀ p, p ∈ ps.take i → p.pos name (h.sgn sg) = true)
              ⟨none, rfl, .refl _, fun p hp => by simp at hp⟩ (fun i σ H3 _ ⟨_, _, s3, _⟩ => Same.sqt s3 hb2) ?_ ?_⟩
            · rintro i y σ H3 hi ⟨y3, rfl, s3, all⟩
              obtain ⟨d, hd, dpy⟩ := DpAll.get' hy hi
              obtain ⟨g, hg, rfl⟩ := get_map hd
              have mem := List.mem_of_getElem? hg
              have dl : g.dep < (Fm.mk h ps).dep := dep_part mem
              refine ⟨_, rfl, _, rfl, _, rfl, y, name, h.sgn sg, g, rfl, Dp.same s3 dpy, ok.part mem, by omega, fun H4 s4 => ⟨_, rfl, ?_⟩⟩
              cases eg : g.pos name (h.sgn sg) with
              | false =>
                refine iteT ?_
                have e7 : (ps.all fun p => p.pos name (h.sgn sg)) = false := by
                  cases z : (ps.all fun p => p.pos name (h.sgn sg)) with
                  | false => rfl
                  | true => rw [List.all_eq_true.mp z g mem] at eg; cases eg
                have := q' H4 (((s1.trans s2).trans s3).trans s4)
                rw [e7] at this
                exact this
              | true =>
                refine iteF ⟨_, rfl, s3.trans s4, fun p hp => ?_⟩
                rw [List.take_add_one, hg] at hp
                rcases List.mem_append.mp hp with hp | hp
                · exact all p hp
                · have e8 : p = g := by simpa using hp
                  rw [e8]; exact eg
            · rintro σ H3 ⟨y3, rfl, s3, all⟩
              have ey : ys.length = ps.length := by rw [DpAll.length hy, List.length_map]
              have e9 : (ps.all fun p => p.pos name (h.sgn sg)) = true := List.all_eq_true.mpr fun p hp => all p (by rw [List.take_of_length_le (by omega)]; exact hp)
              have := q' H3 ((s1.trans s2).trans s3)
              rw [e9] at this
              exact this
          refine ⟨_, rfl, a, _, _, _, rfl, rfl, hT1, atI_nat (j := 0) rfl, rfl, _, rfl, ?_⟩
          by_cases kn : h.kd = .no
          · refine cT (k := decide (V.str h.word = V.str "not")) (by rw [kw_not, decide_eq_true kn]) ⟨_, rfl, _, rfl, ?_⟩
            refine ⟨_, rfl, a, _, _, _, rfl, rfl, hT1, atI_nat (j := 0) rfl, rfl, _, rfl, ?_⟩
            refine cF (k := decide (V.str h.word = V.str "pfp")) (by rw [kw_pfp, decide_eq_false (by rw [kn]; exact fun z => nomatch z)]) ?_
            refine go _ ?_
            have e9 : h.sgn sg = -sg := by cases h <;> first | rfl | cases kn
            rw [e9]
            rfl
          · refine cF (k := decide (V.str h.word = V.str "not")) (by rw [kw_not, decide_eq_false kn]) ?_
            refine ⟨_, rfl, a, _, _, _, rfl, rfl, hT1, atI_nat (j := 0) rfl, rfl, _, rfl, ?_⟩
            by_cases kp : h.kd = .pfp
            · refine cT (k := decide (V.str h.word = V.str "pfp")) (by rw [kw_pfp, decide_eq_true kp]) ?_
              refine go _ ?_
              have e9 : h.sgn sg = 0 := by cases h <;> first | rfl | cases kp
              rw [e9]
              rfl
            · refine cF (k := decide (V.str h.word = V.str "pfp")) (by rw [kw_pfp, decide_eq_false kp]) ?_
              refine go _ ?_
              have e9 : h.sgn sg = sg := by cases h <;> first | rfl | exact absurd rfl kn | exact absurd rfl kp
              rw [e9]
              rfl
def spCF (K : PySem.W.Frag) (n : Nat) : Sp := fun vs H Q _ => ∃ (v : V) (f : Fm), vs = [v] ∧ Dp K H v f.data ∧ f.Ok ∧ f.PosOk ∧ f.dep ≤ n ∧ ∀ (H' : Hp), Same H H' → Q .non H'
theorem sc_check_fixed_points : FnScope ["formula", "part"] ["formula"] (defScope (top 58)) := ⟨rfl, rfl, rfl, by decide +kernel, rfl, by decide +kernel, by decide +kernel⟩
theorem has_check_fixed_points (D : Def K mg "_check_fixed_points" ["formula"] (top 58)) (C1 : ∀ n, Has P w K mg base (2 + n) "is_positive_in" ["formula", "name", "sign"] (spPos K n)) (C2 : Has P w K mg base 1 "inner" ["formula"] (spInner K)) :
    ∀ n : Nat, Has P w K mg base (3 + n) "_check_fixed_points" ["formula"] (spCF K n) := by
  obtain ⟨f2, fd2, G_inner, g_inner, k_inner, b_inner⟩ := C2
  intro n
  induction n with
  | zero =>
    refine D.has fun f fd F => F.ok sc_check_fixed_points (fun vs H Q E h => ?_) (fun cdv A outer s H vs Q E hr h => ?_)
    · obtain ⟨v, f, rfl, _⟩ := h; rfl
    · obtain ⟨v, f, rfl, _, _, _, h0, _⟩ := h
      have := dep_pos f
      omega
  | succ n ih =>
    obtain ⟨f1, fd1, G_is_positive_in, g_is_positive_in, k_is_positive_in, b_is_positive_in⟩ := C1 n
    obtain ⟨f3, fd3, G_check_fixed_points, g_check_fixed_points, k_check_fixed_points, b_check_fixed_points⟩ := ih
    refine D.has fun f fd F => F.ok sc_check_fixed_points (fun vs H Q E h => ?_) (fun cdv A outer s H vs Q E hr h => ?_)
    · obtain ⟨v, f, rfl, _⟩ := h; rfl
    · obtain ⟨v, f, rfl, dp, ok, po, hn, q⟩ := h
      have R_is_positive_in : Room (2 + n) _ := hr.mono (Nat.add_le_add_right (by decide) n)
      have R_inner : Room 1 _ := hr.mono (Nat.le_trans (by decide) (Nat.le_add_right 3 n))
      have R_check_fixed_points : Room (3 + n) _ := hr
      refine ⟨_, PSs.nox (pss_cons (ps_if (PW.pt (pw_and (pt_cmpR op_eq (pe_ix ix_tup (pv 0) pe_int (fun _ _ => rfl)) pe_str (nomark _)) (pw_and1 (pt_not (pt_val (pe_call G_is_positive_in R_is_positive_in (by rfl) g_is_positive_in k_is_positive_in b_is_positive_in .nil pass0 (pa_cons (pe_ix ix_tup (pv 0) pe_int (fun _ _ => rfl)) (pa_cons (pe_ix ix_tup (pv 0) pe_int (fun _ _ => rfl)) (pa_cons pe_int pa_nil))))))))) pss_never pss_nil) (pss_one (ps_for PassesOwn.never rfl (pi_tup (pe_call G_inner R_inner (by rfl) g_inner k_inner b_inner .nil pass0 (pa_cons (pv 0) pa_nil))) (pg_name (i := 1) sc_check_fixed_points.nd rfl (Or.inl rfl)) (pss_one (ps_expr (pe_call G_check_fixed_points R_check_fixed_points (by rfl) g_check_fixed_points k_check_fixed_points b_check_fixed_points .nil pass0 (pa_cons (pv 1) pa_nil))))))), ?_⟩
      obtain ⟨h, ps⟩ := f
      rw [Fm.data_mk] at dp
      have fit : h.Ok (ps.map Fm.data).length := by rw [List.length_map]; exact ok.hd_
      obtain ⟨a, xs, rfl, hT, hx⟩ := hd_inv dp
      have go : ∀ (H1 : Hp), Same H H1 → tFor (iTup K (tCall (spInner K) [] E0 (tCons (tVar 0) tNil))) (gName 1) (tDrop (tCall (spCF K n) [] E0 (tCons (tVar 1) tNil))) { nx := fun _ H' => Q .non H', rt := Q } [some (.ref a), none] H1 := by
        intro H1 s1
        refine ⟨_, rfl, _, h, _, rfl, Dp.same s1 dp, fit.fits, fun H2 r s2 hr2 => ?_⟩
        obtain ⟨b, ys, rfl, hb2, hy⟩ := Dp.tup_inv hr2
        refine ⟨b, rfl, ⟨_, hb2⟩, for_tup (K := K) (a := b) (xs := ys) (fun i σ H3 => ∃ y3, σ = [some (.ref a), y3] ∧ Same H2 H3) ⟨none, rfl, .refl _⟩ (fun i σ H3 _ ⟨_, _, s3⟩ => Same.sqt s3 hb2) ?_ ?_⟩
        · rintro i y σ H3 hi ⟨y3, rfl, s3⟩
          obtain ⟨d, hd, dpy⟩ := DpAll.get' hy hi
          obtain ⟨g, hg, rfl⟩ := get_map hd
          have mem := List.mem_of_getElem? hg
          have dl : g.dep < (Fm.mk h ps).dep := dep_part mem
          exact ⟨_, rfl, y, g, rfl, Dp.same s3 dpy, ok.part mem, po.part mem, by omega, fun H4 s4 => ⟨_, rfl, s3.trans s4⟩⟩
        · rintro σ H3 ⟨y3, rfl, s3⟩
          exact q H3 ((s1.trans s2).trans s3)
      refine ⟨_, rfl, a, _, _, _, rfl, rfl, hT, atI_nat (j := 0) rfl, rfl, _, rfl, ?_⟩
      by_cases kl : h.kd = .lfp
      · refine cT (k := decide (V.str h.word = V.str "lfp")) (by rw [kw_lfp, decide_eq_true kl]) ?_
        cases h with
        | lfp m us as =>
          have l1 : (ps.map Fm.data).length = 1 := fit.fits 1 rfl
          rw [List.length_map] at l1
          obtain ⟨g, rfl⟩ := List.length_eq_one_iff.mp l1
          obtain ⟨v1, ws1, rfl, h1, hx⟩ := DpAll.cons_inv hx
          obtain ⟨v2, ws2, rfl, h2, hx⟩ := DpAll.cons_inv hx
          obtain ⟨v3, ws3, rfl, h3, hx⟩ := DpAll.cons_inv hx
          rw [Dp.str_inv h1] at hT
          have mem : g ∈ [g] := List.mem_singleton.mpr rfl
          have dl : g.dep < (Fm.mk (.lfp m us as) [g]).dep := dep_part mem
          refine ⟨_, rfl, a, _, _, _, rfl, rfl, hT, atI_nat (j := 3) rfl, _, rfl, a, _, _, _, rfl, rfl, hT, atI_nat (j := 1) rfl, v3, m, 1, g, rfl, h3, ok.part mem, by omega, fun H1 s1 => ⟨_, rfl, ?_⟩⟩
          refine cF (k := !_) (by rw [po.here mem]; rfl) ?_
          exact go H1 s1
        | _ => cases kl
      · exact cF (k := decide (V.str h.word = V.str "lfp")) (by rw [kw_lfp, decide_eq_false kl]) (go H (.refl H))
end
/-! ### the symbols of a formula -/
def symStep (h : Hd) (xs : List (List (Str × Nat))) : List (Str × Nat) := match h with
  | .rel n as => [(n, as.length)]
  | _ => xs.flatten.filter fun p => !decide (h.bname = some p.1)
def Fm.syms : Fm → List (Str × Nat) := Fm.fold symStep
theorem Fm.syms_mk (h : Hd) (ps : List Fm) : (Fm.mk h ps).syms = symStep h (ps.map Fm.syms) := Fm.fold_mk symStep h ps
theorem Fm.syms_rel {n : Str} {as : List Str} {ps : List Fm} : (Fm.mk (.rel n as) ps).syms = [(n, as.length)] := Fm.syms_mk _ _
theorem Fm.syms_mem {h : Hd} {ps : List Fm} (nr : h.kd ≠ .rel) {p : Str × Nat} : p ∈ (Fm.mk h ps).syms ↔ h.bname ≠ some p.1 ∧ ∃ g, g ∈ ps ∧ p ∈ g.syms := by
  have e : symStep h (ps.map Fm.syms) = (ps.map Fm.syms).flatten.filter fun p => !decide (h.bname = some p.1) := by cases h <;> first | rfl | exact absurd rfl nr
  rw [Fm.syms_mk, e, List.mem_filter, List.mem_flatten]
  constructor
  · rintro ⟨⟨l, hl, hp⟩, hb⟩
    obtain ⟨g, hg, rfl⟩ := List.mem_map.mp hl
    exact ⟨by simpa using hb, g, hg, hp⟩
  · rintro ⟨hb, g, hg, hp⟩
    exact ⟨⟨_, List.mem_map.mpr ⟨g, hg, rfl⟩, hp⟩, by simpa using hb⟩
abbrev ArE := Str → Option Nat
def Hd.env (h : Hd) (Γ : ArE) : ArE := match h.bound with
  | some (n, k) => fun m => if m = n then some k else Γ m
  | none => Γ
/-- each name has the arity that Γ, or what binds it, says -/
inductive Fm.Typed : ArE → Fm → Prop
  | rel {Γ : ArE} {n : Str} {as : List Str} {ps : List Fm} (e : Γ n = some as.length) : Fm.Typed Γ (.mk (.rel n as) ps)
  | other {Γ : ArE} {h : Hd} {ps : List Fm} (nr : h.kd ≠ .rel) (b : ∀ p, p ∈ ps → Fm.Typed (h.env Γ) p) : Fm.Typed Γ (.mk h ps)
theorem Fm.Typed.part {Γ : ArE} {h : Hd} {ps : List Fm} (nr : h.kd ≠ .rel) (t : (Fm.mk h ps).Typed Γ) {p : Fm} (hp : p ∈ ps) : p.Typed (h.env Γ) := by
  cases t with
  | rel e => exact absurd rfl nr
  | other _ b => exact b p hp
theorem typed_sym : ∀ (f : Fm) (Γ : ArE), f.Typed Γ → ∀ p, p ∈ f.syms → Γ p.1 = some p.2 := fun f => Fm.ind (P := fun f => ∀ (Γ : ArE), f.Typed Γ → ∀ p, p ∈ f.syms → Γ p.1 = some p.2) (fun h ps ih Γ t p hp => by
  by_cases nr : h.kd = .rel
  · cases h with
    | rel n as =>
      rw [Fm.syms_rel] at hp
      have e := List.mem_singleton.mp hp
      subst e
      cases t with
      | rel e => exact e
      | other nr2 _ => exact absurd rfl nr2
    | _ => cases nr
  · obtain ⟨hb, g, hg, hpg⟩ := (Fm.syms_mem nr).mp hp
    have e := ih g hg _ (t.part nr hg) p hpg
    unfold Hd.env at e
    cases hbd : h.bound with
    | none => rw [hbd] at e; exact e
    | some z =>
      obtain ⟨n, k⟩ := z
      rw [hbd] at e
      have ne : p.1 ≠ n := fun z => hb (by unfold Hd.bname; rw [hbd, z]; rfl)
      simpa [ne] using e) f
theorem sum_lens : ∀ (ps : List Fm), (∀ p, p ∈ ps → p.syms.length ≤ p.cnt) → (ps.map Fm.syms).flatten.length ≤ sumN (ps.map Fm.cnt)
  | [], _ => Nat.zero_le _
  | p :: ps, h => by
    have a := h p (List.mem_cons_self ..)
    have b := sum_lens ps fun q hq => h q (List.mem_cons_of_mem _ hq)
    show ((p.syms) ++ (ps.map Fm.syms).flatten).length ≤ p.cnt + sumN (ps.map Fm.cnt)
    rw [List.length_append]
    omega
theorem syms_cnt : ∀ f : Fm, f.syms.length ≤ f.cnt := Fm.ind fun h ps ih => by
  rw [Fm.syms_mk, Fm.cnt_mk]
  have := sum_lens ps ih
  by_cases nr : h.kd = .rel
  · have e : (symStep h (ps.map Fm.syms)).length = 1 := by cases h <;> first | rfl | cases nr
    omega
  · have e : symStep h (ps.map Fm.syms) = (ps.map Fm.syms).flatten.filter fun p => !decide (h.bname = some p.1) := by cases h <;> first | rfl | exact absurd rfl nr
    rw [e]
    have := List.length_filter_le (fun p => !decide (h.bname = some p.1)) (ps.map Fm.syms).flatten
    omega
/-! dicts of names and numbers -/
def enc (p : Str × Nat) : Key × V := (Sum.inr p.1, .int (p.2 : Nat))
theorem val_enc : ∀ {l : List (Str × Nat)} {n : Str} {v : V}, valV (l.map enc) (Sum.inr n) = some v → ∃ a, (n, a) ∈ l ∧ v = .int (a : Nat)
  | [], n, v, h => by cases h
  | p :: l, n, v, h => by
    by_cases e : p.1 = n
    · rw [List.map_cons, valV_pos (by show Sum.inr p.1 = Sum.inr n; rw [e])] at h
      exact ⟨p.2, by rw [← e]; exact List.mem_cons_self .., (Option.some.inj h).symm⟩
    · rw [List.map_cons, valV_neg (by intro z; exact e (Sum.inr.inj z))] at h
      obtain ⟨a, h1, h2⟩ := val_enc h
      exact ⟨a, List.mem_cons_of_mem _ h1, h2⟩
theorem val_enc_none : ∀ {l : List (Str × Nat)} {n : Str}, valV (l.map enc) (Sum.inr n) = none ↔ ¬ n ∈ l.map (·.1)
  | [], n => by simp [valV]
  | p :: l, n => by
    by_cases e : p.1 = n
    · rw [List.map_cons, valV_pos (by show Sum.inr p.1 = Sum.inr n; rw [e])]
      simp [e]
    · rw [List.map_cons, valV_neg (by intro z; exact e (Sum.inr.inj z)), val_enc_none]
      have e2 : ¬ n = p.1 := fun z => e z.symm
      simp [e2]
theorem drop_enc (l : List (Str × Nat)) (n : Str) : dropK (l.map enc) (Sum.inr n) = (l.filter fun p => !decide (p.1 = n)).map enc := by
  unfold dropK
  rw [List.filter_map]
  congr 1
  refine List.filter_congr fun p _ => ?_
  show decide ((Sum.inr p.1 : Key) ≠ Sum.inr n) = !decide (p.1 = n)
  by_cases e : p.1 = n
  · rw [decide_eq_true e]
    exact decide_eq_false fun z => z (congrArg Sum.inr e)
  · rw [decide_eq_false e]
    exact decide_eq_true fun z => e (Sum.inr.inj z)
theorem val_of : ∀ {l : List (Str × Nat)} {n : Str} {a : Nat}, (l.map (·.1)).Nodup → (n, a) ∈ l → valV (l.map enc) (Sum.inr n) = some (.int (a : Nat))
  | [], _, _, _, h => nomatch h
  | p :: l, n, a, nd, h => by
    rw [List.map_cons] at nd
    obtain ⟨nd1, nd2⟩ := List.nodup_cons.mp nd
    by_cases e : p.1 = n
    · rw [List.map_cons, valV_pos (by show Sum.inr p.1 = Sum.inr n; rw [e])]
      rcases List.mem_cons.mp h with e1 | h
      · rw [← e1]; rfl
      · exact absurd (by rw [e]; exact List.mem_map.mpr ⟨_, h, rfl⟩) nd1
    · rw [List.map_cons, valV_neg (by intro z; exact e (Sum.inr.inj z))]
      rcases List.mem_cons.mp h with e1 | h
      · exact absurd (by rw [← e1]) e
      · exact val_of nd2 h
theorem nodup_val {l : List (Str × Nat)} {n : Str} {a b : Nat} : (l.map (·.1)).Nodup → (n, a) ∈ l → (n, b) ∈ l → a = b := by
  induction l with
  | nil => intro _ h; cases h
  | cons p l ih =>
    intro nd h1 h2
    rw [List.map_cons] at nd
    obtain ⟨nd1, nd2⟩ := List.nodup_cons.mp nd
    rcases List.mem_cons.mp h1 with e1 | h1
    · rcases List.mem_cons.mp h2 with e2 | h2
      · rw [← e1] at e2; exact (congrArg Prod.snd e2).symm
      · exact absurd (by rw [← e1]; exact List.mem_map.mpr ⟨_, h2, rfl⟩) nd1
    · rcases List.mem_cons.mp h2 with e2 | h2
      · exact absurd (by rw [← e2]; exact List.mem_map.mpr ⟨_, h1, rfl⟩) nd1
      · exact ih nd2 h1 h2
/-- the dict l holds just what stands in xs -/
structure DictOf (l xs : List (Str × Nat)) : Prop where
  nd : (l.map (·.1)).Nodup
  mem : ∀ p, p ∈ l ↔ p ∈ xs
theorem DictOf.add {l xs : List (Str × Nat)} {n : Str} {a : Nat} (d : DictOf l xs) (h : ¬ n ∈ l.map (·.1)) : DictOf (l ++ [(n, a)]) (xs ++ [(n, a)]) := by
  refine ⟨?_, fun p => by rw [List.mem_append, List.mem_append, d.mem]⟩
  rw [List.map_append, List.nodup_append]
  refine ⟨d.nd, by simp, fun x hx y hy => ?_⟩
  have : y = n := by simpa using hy
  rw [this]
  exact fun z => h (by rw [← z]; exact hx)
theorem DictOf.keep {l xs : List (Str × Nat)} {p : Str × Nat} (d : DictOf l xs) (h : p ∈ l) : DictOf l (xs ++ [p]) :=
  ⟨d.nd, fun q => by
    rw [List.mem_append, d.mem]
    exact ⟨.inl, fun z => z.elim id fun z => by rw [List.mem_singleton.mp z]; exact (d.mem p).mp h⟩⟩
theorem DictOf.as {l xs ys : List (Str × Nat)} (d : DictOf l xs) (e : ∀ p, p ∈ xs ↔ p ∈ ys) : DictOf l ys := ⟨d.nd, fun p => (d.mem p).trans (e p)⟩
theorem DictOf.len {l xs : List (Str × Nat)} (d : DictOf l xs) : l.length ≤ xs.length :=
  sub_len l xs (List.Pairwise.of_map (·.1) (fun a b hne e => hne (by rw [e])) d.nd) fun p hp => (d.mem p).mp hp
theorem take_flat {ps : List Fm} {i : Nat} {g : Fm} (h : ps[i]? = some g) : ((ps.take (i + 1)).map Fm.syms).flatten = ((ps.take i).map Fm.syms).flatten ++ g.syms := by
  rw [List.take_add_one, h, List.map_append, List.flatten_append]
  show _ ++ (g.syms ++ []) = _
  rw [List.append_nil]
/-- d is neither a list nor a tuple -/
def NotSeq (H : Hp) (d : Addr) : Prop := ∃ kvs, H d = some (.dK kvs)
section
variable {K : PySem.W.Frag} {H H' : Hp} {d : Addr}
theorem Kp.sqt' {a : Addr} {xs : List V} (k : Kp d H H') (n : NotSeq H d) (h : SqT K H a xs) : SqT K H' a xs := by
  obtain ⟨kvs, n⟩ := n
  rcases h with (h | ⟨o, h⟩) | h
  · exact .inl (.inl (k _ _ h (ne_of h n (fun z => nomatch z))))
  · exact .inl (.inr ⟨o, k _ _ h (ne_of h n (fun z => nomatch z))⟩)
  · exact .inr h
theorem Kp.sql' {a : Addr} {xs : List V} (k : Kp d H H') (n : NotSeq H d) (h : SqL K H a xs) : SqL K H' a xs := by
  obtain ⟨kvs, n⟩ := n
  rcases h with (h | ⟨o, h⟩) | h
  · exact .inl (.inl (k _ _ h (ne_of h n (fun z => nomatch z))))
  · exact .inl (.inr ⟨o, k _ _ h (ne_of h n (fun z => nomatch z))⟩)
  · exact .inr h
mutual
theorem Dp.kpD (k : Kp d H H') (n : NotSeq H d) : ∀ {v : V} {t : PyData}, Dp K H v t → Dp K H' v t
  | _, _, .non => .non
  | _, _, .bl b => .bl b
  | _, _, .int i => .int i
  | _, _, .str x => .str x
  | _, _, .lst h t => .lst (k.sql' n h) (DpAll.kpD k n t)
  | _, _, .tup h t => .tup (k.sqt' n h) (DpAll.kpD k n t)
theorem DpAll.kpD (k : Kp d H H') (n : NotSeq H d) : ∀ {vs : List V} {ts : List PyData}, DpAll K H vs ts → DpAll K H' vs ts
  | _, _, .nil => .nil
  | _, _, .cons h t => .cons (Dp.kpD k n h) (DpAll.kpD k n t)
end
end
section
variable {P : Program} {w : World} {K : PySem.W.Frag} {mg : Str → Option Value} {base : Heap}
def spAr (K : PySem.W.Frag) (n : Nat) : Sp := fun vs H Q _ => ∃ (v : V) (f : Fm) (Γ : ArE), vs = [v] ∧ Dp K H v f.data ∧ f.Ok ∧ f.Typed Γ ∧ f.dep ≤ n ∧ f.cnt ≤ 2000 ∧
  ∀ (H' : Hp) (d : Addr) (l : List (Str × Nat)), Same H H' → H d = none → H' d = some (.dK (l.map enc)) → DictOf l f.syms → Q (.ref d) H'
theorem sc_arities : FnScope ["formula", "found", "part", "within", "name", "bound"] ["formula"] (defScope (top 56)) := ⟨rfl, rfl, rfl, by decide +kernel, rfl, by decide +kernel, by decide +kernel⟩
theorem has_arities (D : Def K mg "arities_in" ["formula"] (top 56)) (T : Txt mg) (C1 : Has P w K mg base 1 "bound_name" ["formula"] (spBName K)) (C2 : Has P w K mg base 1 "inner" ["formula"] (spInner K)) (C3 : Has P w K mg base 1 "bound_arity" ["formula"] (spBArity K)) :
    ∀ n : Nat, Has P w K mg base (2 + n) "arities_in" ["formula"] (spAr K n) := by
  obtain ⟨f1, fd1, G_bound_name, g_bound_name, k_bound_name, b_bound_name⟩ := C1
  obtain ⟨f2, fd2, G_inner, g_inner, k_inner, b_inner⟩ := C2
  obtain ⟨f4, fd4, G_bound_arity, g_bound_arity, k_bound_arity, b_bound_arity⟩ := C3
  intro n
  induction n with
  | zero =>
    refine D.has fun f fd F => F.ok sc_arities (fun vs H Q E h => ?_) (fun cdv A outer s H vs Q E hr h => ?_)
    · obtain ⟨v, f, Γ, rfl, _⟩ := h; rfl
    · obtain ⟨v, f, Γ, rfl, _, _, _, h0, _⟩ := h
      have := dep_pos f
      omega
  | succ n ih =>
    obtain ⟨f3, fd3, G_arities_in, g_arities_in, k_arities_in, b_arities_in⟩ := ih
    refine D.has fun f fd F => F.ok sc_arities (fun vs H Q E h => ?_) (fun cdv A outer s H vs Q E hr h => ?_)
    · obtain ⟨v, f, Γ, rfl, _⟩ := h; rfl
    · obtain ⟨v, f, Γ, rfl, dp, ok, ty, hn, hc, q⟩ := h
      have R_bound_name : Room 1 _ := hr.mono (Nat.le_trans (by decide) (Nat.le_add_right 2 n))
      have R_bound_arity : Room 1 _ := hr.mono (Nat.le_trans (by decide) (Nat.le_add_right 2 n))
      have R_inner : Room 1 _ := hr.mono (Nat.le_trans (by decide) (Nat.le_add_right 2 n))
      have R_arities_in : Room (2 + n) _ := hr
      refine ⟨_, PSs.nox (pss_cons (ps_if (pt_cmpR op_eq (pe_ix ix_tup (pv 0) pe_int (fun _ _ => rfl)) pe_str (nomark _)) (pss_one (ps_ret (pe_disp (pps_cons (pe_ix ix_tup (pv 0) pe_int (fun _ _ => rfl)) (pe_callB call_len_seq (by rfl) T.n_len PySem.boot_len (pa_cons (pe_ix ix_tup (pv 0) pe_int (fun _ _ => rfl)) pa_nil)) pps_nil) (by rfl) (by rfl) (fun z => by cases z) (by decide)))) pss_nil) (pss_cons (ps_set (i := 1) sc_arities.nd rfl (Or.inl rfl) pe_dnewK) (pss_cons (ps_for PassesOwn.never rfl (pi_tup (pe_call G_inner R_inner (by rfl) g_inner k_inner b_inner .nil pass0 (pa_cons (pv 0) pa_nil))) (pg_name (i := 2) sc_arities.nd rfl (Or.inl rfl)) (pss_cons (ps_set (i := 3) sc_arities.nd rfl (Or.inl rfl) (pe_call G_arities_in R_arities_in (by rfl) g_arities_in k_arities_in b_arities_in .nil pass0 (pa_cons (pv 2) pa_nil))) (pss_one (ps_lock (ps_for PassesOwn.never rfl (pi_keys (pv 3)) (pg_name (i := 4) sc_arities.nd rfl (Or.inl rfl)) (pss_one (ps_if (pt_cmpR op_ne (pe_dsetd (pv 1) (pv 4) (pe_dget (hu_of hr) (pv 3) (pv 4) (fun _ _ => rfl)) ⟨rfl, rfl, rfl, rfl⟩) (pe_dget (hu_of hr) (pv 3) (pv 4) (fun _ _ => rfl)) (nomark _)) pss_never pss_nil))))))) (pss_cons (ps_set (i := 5) sc_arities.nd rfl (Or.inl rfl) (pe_call G_bound_name R_bound_name (by rfl) g_bound_name k_bound_name b_bound_name .nil pass0 (pa_cons (pv 0) pa_nil))) (pss_cons (ps_if (pt_cmp (pc_dinN (hu_of hr) (pv 5) (pv 1))) (pss_one (ps_if (pt_cmpR op_ne (pe_dpop1 (pv 1) (pv 5) ⟨rfl, rfl, rfl, rfl⟩) (pe_call G_bound_arity R_bound_arity (by rfl) g_bound_arity k_bound_arity b_bound_arity .nil pass0 (pa_cons (pv 0) pa_nil)) (nomark _)) pss_never pss_nil)) pss_nil) (pss_one (ps_ret (pv 1)))))))), ?_⟩
      obtain ⟨h, ps⟩ := f
      rw [Fm.data_mk] at dp
      have fit : h.Ok (ps.map Fm.data).length := by rw [List.length_map]; exact ok.hd_
      obtain ⟨a, xs, rfl, hT, hx⟩ := hd_inv dp
      refine ⟨_, rfl, a, _, _, _, rfl, rfl, hT, atI_nat (j := 0) rfl, rfl, _, rfl, ?_⟩
      by_cases kr : h.kd = .rel
      · refine cT (k := decide (V.str h.word = V.str "rel")) (by rw [kw_rel, decide_eq_true kr]) ?_
        cases h with
        | rel m as =>
          obtain ⟨v1, ws1, rfl, h1, hx⟩ := DpAll.cons_inv hx
          obtain ⟨v2, ws2, rfl, h2, _⟩ := DpAll.cons_inv hx
          rw [Dp.str_inv h1] at hT
          obtain ⟨t2, rfl, ht2⟩ := tS_inv h2
          intro p np
          have sp := same_upd (o := .dK []) np
          refine ⟨_, rfl, a, _, _, _, rfl, rfl, Same.sqt sp hT, atI_nat (j := 1) rfl, _, rfl, a, _, _, _, rfl, rfl, Same.sqt sp hT, atI_nat (j := 2) rfl, t2, _, rfl, .inr (Same.sqt sp ht2), upd_same, [enc (m, (as.map V.str).length)], rfl, (by show 1 ≤ 15; decide), ?_⟩
          refine q _ p [(m, as.length)] (fun b o eb => ?_) np ?_ ?_
          · rw [upd_ne (ne_of_none eb np)]
            exact sp _ _ eb
          · rw [upd_same, List.length_map]
            rfl
          · rw [Fm.syms_rel]
            exact ⟨by simp, fun _ => Iff.rfl⟩
        | _ => cases kr
      · refine cF (k := decide (V.str h.word = V.str "rel")) (by rw [kw_rel, decide_eq_false kr]) ?_
        -- found = {}
        intro d nd
        have s0 := same_upd (o := .dK []) nd
        have hd0 : (upd H d (.dK [])) d = some (.dK (([] : List (Str × Nat)).map enc)) := upd_same
        revert s0 hd0
        generalize upd H d (.dK []) = H0
        intro s0 hd0
        refine ⟨_, rfl, _, h, _, rfl, Dp.same s0 dp, fit.fits, fun H2 r s2 hr2 => ?_⟩
        obtain ⟨b, ys, rfl, hb2, hy⟩ := Dp.tup_inv hr2
        have s02 := s0.trans s2
        have ndb : ∀ {x : Addr} {o : HO}, H x = some o → x ≠ d := fun e z => by rw [z, nd] at e; cases e
        have n2 : NotSeq H2 d := ⟨_, s2 _ _ hd0⟩
        have same3 : ∀ {H3 : Hp}, Kp d H2 H3 → Same H H3 := fun k c o e => k c o (s02 c o e) (ndb e)
        have lenE : ∀ {l : List (Str × Nat)} {i : Nat}, DictOf l ((ps.take i).map Fm.syms).flatten → l.length ≤ 2000 := fun {l i} dd => by
          have e1 := dd.len
          have e2 : ((ps.take i).map Fm.syms).flatten.length ≤ (ps.map Fm.syms).flatten.length := by
            have z : (ps.map Fm.syms).flatten = ((ps.take i).map Fm.syms).flatten ++ ((ps.drop i).map Fm.syms).flatten := by rw [← List.flatten_append, ← List.map_append, List.take_append_drop]
            rw [z, List.length_append]
            omega
          have e3 := sum_lens ps fun p _ => syms_cnt p
          rw [Fm.cnt_mk] at hc
          omega
        refine ⟨b, rfl, ⟨_, hb2⟩, for_tup (K := K) (a := b) (xs := ys) (fun i σ H3 => ∃ (y2 y3 y4 : Option V) (l : List (Str × Nat)), σ = [some (.ref a), some (.ref d), y2, y3, y4, none] ∧ Kp d H2 H3 ∧ H3 d = some (.dK (List.map enc l)) ∧ DictOf l ((ps.take i).map Fm.syms).flatten)
          ⟨none, none, none, [], rfl, .refl _ _, s2 _ _ hd0, ⟨List.nodup_nil, fun p => by simp⟩⟩ (fun i σ H3 _ ⟨_, _, _, _, _, k3, _⟩ => k3.sqt' n2 hb2) ?_ ?_⟩
        · rintro i y σ H3 hi ⟨y2, y3, y4, l, rfl, k3, hd3, dl⟩
          obtain ⟨dd, hdd, dpy⟩ := DpAll.get' hy hi
          obtain ⟨g, hg, rfl⟩ := get_map hdd
          have mem := List.mem_of_getElem? hg
          have dep1 : g.dep < (Fm.mk h ps).dep := dep_part mem
          have cnt1 : g.cnt ≤ 2000 := by
            have := le_sumN (List.mem_map_of_mem (f := Fm.cnt) mem)
            rw [Fm.cnt_mk] at hc
            omega
          have tg := ty.part kr mem
          refine ⟨_, rfl, y, g, h.env Γ, rfl, Dp.kpD k3 n2 dpy, ok.part mem, tg, by omega, cnt1, fun H4 e l2 s4 ne he d2 => ?_⟩
          have ned : e ≠ d := fun z => by rw [z, hd3] at ne; cases ne
          have l2len : l2.length ≤ 2000 := by
            have := d2.len
            have := syms_cnt g
            omega
          refine ⟨e, .dK (l2.map enc), he, trivial, fun od => ?_⟩
          refine ⟨_, rfl, e, od, rfl, .inl ⟨_, upd_same, for_it walk_keys (fun j σ H5 => ∃ (y4 : Option V) (l' : List (Str × Nat)), σ = [some (.ref a), some (.ref d), some y, some (.ref e), y4, none] ∧ H5 e = some (.frz od (.dK (l2.map enc))) ∧ (∀ c o, H4 c = some o → c ≠ d → c ≠ e → H5 c = some o) ∧
            H5 d = some (.dK (l'.map enc)) ∧ DictOf l' (((ps.take i).map Fm.syms).flatten ++ l2.take j))
            ⟨y4, l, rfl, upd_same, fun c o ec nc ne2 => by rw [upd_ne ne2]; exact ec, by rw [upd_ne ned.symm]; exact s4 _ _ hd3, by rw [List.take_zero, List.append_nil]; exact dl⟩ (fun j σ H5 _ ⟨_, _, _, q1, _⟩ => q1) ?_ ?_⟩⟩
          · rintro j x σ H5 H6 hj ⟨y4, l', rfl, he5, k5, hd5, dl'⟩ ⟨rfl, kk, vv, hkv, rfl⟩
            obtain ⟨p, hp, ep⟩ := get_map hkv
            have ek : kk = Sum.inr p.1 := congrArg Prod.fst ep
            subst ek
            have pm := List.mem_of_getElem? hp
            have vp : valV (l2.map enc) (Sum.inr p.1) = some (.int (p.2 : Nat)) := val_of d2.nd pm
            have ep2 : (h.env Γ) p.1 = some p.2 := typed_sym g _ tg p ((d2.mem p).mp pm)
            have tk : l2.take (j + 1) = l2.take j ++ [p] := by rw [List.take_add_one, hp]; rfl
            have lens : l'.length < sizeLine := by
              have e1 := dl'.len
              rw [List.length_append] at e1
              have e2 : ((ps.take i).map Fm.syms).flatten.length ≤ 2000 := by
                have z : (ps.map Fm.syms).flatten = ((ps.take i).map Fm.syms).flatten ++ ((ps.drop i).map Fm.syms).flatten := by rw [← List.flatten_append, ← List.map_append, List.take_append_drop]
                have e3 := sum_lens ps fun p _ => syms_cnt p
                rw [Fm.cnt_mk] at hc
                rw [z, List.length_append] at e3
                omega
              have e4 := List.length_take_le j l2
              exact Nat.lt_of_le_of_lt (show l'.length ≤ 4000 by have := List.length_take_le' j l2; omega) (by decide)
            have get2 : ∀ H7 : Hp, H7 e = some (.frz od (.dK (l2.map enc))) → DGet H7 e (.str p.1) (some (.int (p.2 : Nat))) := fun H7 e7 => .inl ⟨_, Sum.inr p.1, .inr ⟨od, e7⟩, rfl, vp.symm⟩
            refine ⟨_, rfl, d, rfl, .inl ⟨_, Rd.of hd5⟩, _, rfl, _, rfl, _, rfl, e, _, rfl, get2 _ he5, _, Sum.inr p.1, hd5, rfl, by rw [List.length_map]; exact lens, fun v hv => ?_, fun hv => ?_⟩
            · obtain ⟨a2, ha2, rfl⟩ := val_enc hv
              have ea : (h.env Γ) p.1 = some a2 := by
                rcases List.mem_append.mp ((dl'.mem _).mp ha2) with z | z
                · obtain ⟨lz, hlz, hz⟩ := List.mem_flatten.mp z
                  obtain ⟨g2, hg2, rfl⟩ := List.mem_map.mp hlz
                  exact typed_sym g2 _ (ty.part kr (List.mem_of_mem_take hg2)) _ hz
                · exact typed_sym g _ tg _ ((d2.mem _).mp (List.mem_of_mem_take z))
              have e22 : a2 = p.2 := Option.some.inj (ea.symm.trans ep2)
              refine ⟨_, rfl, _, rfl, e, _, rfl, get2 _ he5, rfl, _, rfl, ?_⟩
              refine cF (k := !decide (V.int (a2 : Nat) = V.int (p.2 : Nat))) (by rw [e22, decide_eq_true rfl]; rfl) ?_
              refine ⟨_, l', rfl, he5, k5, hd5, ?_⟩
              rw [tk, ← List.append_assoc]
              rw [e22] at ha2
              exact dl'.keep ha2
            · have hn2 := val_enc_none.mp hv
              rw [putK_new _ hv]
              have e23 : (l'.map enc) ++ [((Sum.inr p.1 : Key), V.int (p.2 : Nat))] = (l' ++ [p]).map enc := by rw [List.map_append]; rfl
              rw [e23]
              have he6 : (upd H6 d (.dK ((l' ++ [p]).map enc))) e = some (.frz od (.dK (l2.map enc))) := by rw [upd_ne ned]; exact he5
              refine ⟨_, rfl, _, rfl, e, _, rfl, get2 _ he6, rfl, _, rfl, ?_⟩
              refine cF (k := !decide (V.int (p.2 : Nat) = V.int (p.2 : Nat))) (by rw [decide_eq_true rfl]; rfl) ?_
              refine ⟨_, l' ++ [p], rfl, he6, fun c o ec nc ne2 => by rw [upd_ne nc]; exact k5 c o ec nc ne2, upd_same, ?_⟩
              rw [tk, ← List.append_assoc]
              exact dl'.add hn2
          · rintro σ H5 ⟨y4, l', rfl, he5, k5, hd5, dl'⟩
            refine ⟨he5, _, _, _, l', rfl, fun c o ec nc => ?_, ?_, ?_⟩
            · have e3 := k3 c o ec nc
              have nce : c ≠ e := ne_of_none e3 ne
              rw [upd_ne nce]
              exact k5 c o (s4 _ _ e3) nc nce
            · rw [upd_ne ned.symm]
              exact hd5
            · have tl : l2.take (l2.map enc).length = l2 := List.take_of_length_le (by rw [List.length_map]; exact Nat.le_refl _)
              rw [tl] at dl'
              rw [take_flat hg]
              exact dl'.as fun p => by rw [List.mem_append, List.mem_append, d2.mem]
        · rintro σ H3 ⟨y2, y3, y4, l, rfl, k3, hd3, dl⟩
          have ey : ys.length = ps.length := by rw [DpAll.length hy, List.length_map]
          rw [List.take_of_length_le (show ps.length ≤ ys.length by omega)] at dl
          have s3 := same3 k3
          refine ⟨_, rfl, _, h, _, rfl, Dp.same s3 dp, fit.fits, fun H6 r1 s6 er => ?_⟩
          have er : r1 = match h.bound with | some (n, _) => V.str n | none => .non := er
          have hd6 := s6 _ _ hd3
          have s36 := s3.trans s6
          have fin : h.bname = none → Q (.ref d) H6 := fun hb => q H6 d l s36 nd hd6 (dl.as fun p => by
            rw [Fm.syms_mem kr, hb]
            constructor
            · intro z
              obtain ⟨lz, hlz, hz⟩ := List.mem_flatten.mp z
              obtain ⟨g2, hg2, rfl⟩ := List.mem_map.mp hlz
              exact ⟨(fun z => nomatch z), g2, hg2, hz⟩
            · rintro ⟨_, g2, hg2, hz⟩
              exact List.mem_flatten.mpr ⟨_, List.mem_map.mpr ⟨g2, hg2, rfl⟩, hz⟩)
          cases hbd : h.bound with
          | none =>
            rw [hbd] at er
            subst er
            refine ⟨_, rfl, _, rfl, .inr ⟨d, _, rfl, rfl, Rd.of hd6, _, rfl, iteF ?_⟩⟩
            exact ⟨_, rfl, fin (by unfold Hd.bname; rw [hbd]; rfl)⟩
          | some z =>
            obtain ⟨n0, k0⟩ := z
            rw [hbd] at er
            have hbn : h.bname = some n0 := by unfold Hd.bname; rw [hbd]; rfl
            subst er
            refine ⟨_, rfl, _, rfl, .inl ⟨d, _, rfl, DGet.k (k := Sum.inr n0) hd6, _, rfl, ?_⟩⟩
            cases hv : valV (l.map enc) (Sum.inr n0) with
            | none =>
              refine cF (k := (none : Option V).isSome) rfl ⟨_, rfl, q H6 d l s36 nd hd6 (dl.as fun p => ?_)⟩
              have nin := val_enc_none.mp hv
              rw [Fm.syms_mem kr, hbn]
              constructor
              · intro z
                have pl : p ∈ l := (dl.mem p).mpr z
                obtain ⟨lz, hlz, hz⟩ := List.mem_flatten.mp z
                obtain ⟨g2, hg2, rfl⟩ := List.mem_map.mp hlz
                exact ⟨fun z => nin (List.mem_map.mpr ⟨p, pl, (Option.some.inj z).symm⟩), g2, hg2, hz⟩
              · rintro ⟨_, g2, hg2, hz⟩
                exact List.mem_flatten.mpr ⟨_, List.mem_map.mpr ⟨g2, hg2, rfl⟩, hz⟩
            | some v =>
              obtain ⟨a2, ha2, rfl⟩ := val_enc hv
              have ea : a2 = k0 := by
                obtain ⟨lz, hlz, hz⟩ := List.mem_flatten.mp ((dl.mem _).mp ha2)
                obtain ⟨g2, hg2, rfl⟩ := List.mem_map.mp hlz
                have e1 := typed_sym g2 _ (ty.part kr hg2) _ hz
                unfold Hd.env at e1
                rw [hbd] at e1
                have e2 : some k0 = some a2 := by simpa using e1
                exact (Option.some.inj e2).symm
              refine cT (k := (some (V.int (a2 : Nat))).isSome) rfl ?_
              have s37 : Same H (upd H6 d (.dK (dropK (l.map enc) (Sum.inr n0)))) := fun c o e => by rw [upd_ne (ndb e)]; exact s36 c o e
              refine ⟨_, rfl, d, rfl, .inl ⟨_, Rd.of hd6⟩, _, rfl, _, Sum.inr n0, _, hd6, rfl, hv, ?_⟩
              refine ⟨_, rfl, _, h, _, n0, k0, rfl, Dp.same s37 dp, hbd, fun H7 s7 => ⟨rfl, _, rfl, ?_⟩⟩
              refine cF (k := !decide (V.int (a2 : Nat) = V.int (k0 : Nat))) (by rw [ea, decide_eq_true rfl]; rfl) ?_
              refine ⟨_, rfl, q H7 d (l.filter fun p => !decide (p.1 = n0)) (s37.trans s7) nd ?_ ⟨?_, fun p => ?_⟩⟩
              · rw [← drop_enc]
                exact s7 _ _ upd_same
              · exact List.Nodup.sublist ((List.filter_sublist (p := fun p => !decide (p.1 = n0)) (l := l)).map _) dl.nd
              · rw [List.mem_filter, dl.mem, Fm.syms_mem kr, hbn]
                constructor
                · rintro ⟨z, zn⟩
                  obtain ⟨lz, hlz, hz⟩ := List.mem_flatten.mp z
                  obtain ⟨g2, hg2, rfl⟩ := List.mem_map.mp hlz
                  refine ⟨fun z => ?_, g2, hg2, hz⟩
                  have e9 : n0 = p.1 := Option.some.inj z
                  rw [e9] at zn
                  simp at zn
                · rintro ⟨zn, g2, hg2, hz⟩
                  refine ⟨List.mem_flatten.mpr ⟨_, List.mem_map.mpr ⟨g2, hg2, rfl⟩, hz⟩, ?_⟩
                  have e9 : ¬ p.1 = n0 := fun z => zn (by rw [z])
                  simp [e9]
end
/-! ### check_formula of a right formula -/
structure Fm.Wf (f : Fm) : Prop where
  ok : f.Ok
  dep : f.dep ≤ 40
  cnt : f.cnt ≤ 2000
  pos : f.PosOk
  ty : ∃ Γ, f.Typed Γ
section
variable {P : Program} {w : World} {K : PySem.W.Frag} {mg : Str → Option Value} {base : Heap}
/-- a function of a right formula that changes nothing -/
def spWf (K : PySem.W.Frag) (R : Fm → V → Hp → Prop) : Sp := fun vs H Q _ => ∃ (v : V) (f : Fm), vs = [v] ∧ Dp K H v f.data ∧ f.Wf ∧ ∀ (H' : Hp) (r : V), Same H H' → R f r H' → Q r H'
abbrev spCheck (K : PySem.W.Frag) : Sp := spWf K fun _ r _ => r = .non
theorem sc_check_formula : FnScope ["formula"] ["formula"] (defScope (top 59)) := ⟨rfl, rfl, rfl, by decide +kernel, rfl, by decide +kernel, by decide +kernel⟩
theorem has_check_formula (D : Def K mg "check_formula" ["formula"] (top 59)) (k1 : ∃ t, mg "MOST_DEEP" = some (.int 40 t)) (k2 : ∃ t, mg "MOST_PARTS" = some (.int 2000 t))
    (C1 : ∀ n, Has P w K mg base (6 + n) "_check_shapes" ["value", "levels_left", "parts_left"] (spCS K n)) (C2 : ∀ n, Has P w K mg base (2 + n) "arities_in" ["formula"] (spAr K n)) (C3 : ∀ n, Has P w K mg base (3 + n) "_check_fixed_points" ["formula"] (spCF K n)) :
    Has P w K mg base 47 "check_formula" ["formula"] (spCheck K) := D.has fun f fd F => by
  obtain ⟨f1, fd1, G_check_shapes, g_check_shapes, k_check_shapes, b_check_shapes⟩ := C1 40
  obtain ⟨f2, fd2, G_arities_in, g_arities_in, k_arities_in, b_arities_in⟩ := C2 40
  obtain ⟨f3, fd3, G_check_fixed_points, g_check_fixed_points, k_check_fixed_points, b_check_fixed_points⟩ := C3 40
  obtain ⟨t1, c_MOST_DEEP⟩ := k1
  obtain ⟨t2, c_MOST_PARTS⟩ := k2
  refine F.ok sc_check_formula (fun vs H Q E h => ?_) (fun cdv A outer s H vs Q E hr h => ?_)
  · obtain ⟨v, f, rfl, _⟩ := h; rfl
  · obtain ⟨v, f, rfl, dp, wf, q⟩ := h
    have R_check_shapes : Room (6 + 40) _ := hr.mono (by decide)
    have R_arities_in : Room (2 + 40) _ := hr.mono (by decide)
    have R_check_fixed_points : Room (3 + 40) _ := hr.mono (by decide)
    refine ⟨_, PSs.nox (pss_cons (ps_expr (pe_call G_check_shapes R_check_shapes (by rfl) g_check_shapes k_check_shapes b_check_shapes .nil pass0 (pa_cons (pv 0) (pa_cons (pe_glob (v := .int 40) (by rfl) c_MOST_DEEP ⟨_, rfl⟩) (pa_cons (pe_glob (v := .int 2000) (by rfl) c_MOST_PARTS ⟨_, rfl⟩) pa_nil))))) (pss_cons (ps_expr (pe_call G_arities_in R_arities_in (by rfl) g_arities_in k_arities_in b_arities_in .nil pass0 (pa_cons (pv 0) pa_nil))) (pss_one (ps_expr (pe_call G_check_fixed_points R_check_fixed_points (by rfl) g_check_fixed_points k_check_fixed_points b_check_fixed_points .nil pass0 (pa_cons (pv 0) pa_nil)))))), ?_⟩
    obtain ⟨Γ, ty⟩ := wf.ty
    have h1 := wf.dep
    have h2 := wf.cnt
    refine ⟨_, rfl, v, 40, 2000, f, rfl, dp, wf.ok, h1, by omega, by omega, fun H1 s1 => ?_⟩
    refine ⟨_, rfl, v, f, Γ, rfl, Dp.same s1 dp, wf.ok, ty, h1, h2, fun H2 d l s2 _ _ _ => ?_⟩
    refine ⟨_, rfl, v, f, rfl, Dp.same (s1.trans s2) dp, wf.ok, wf.pos, h1, fun H3 s3 => ?_⟩
    exact q H3 .non ((s1.trans s2).trans s3) rfl
end
/-! ### what the law's formulas are -/
def sgOf (m : Nat) : Option Int := match m with
  | 0 => none
  | 1 => some 1
  | 2 => some (-1)
  | _ => some 0
def five : List Str := ["e", "p", "q", "r", "s"]
def Hd.vars (h : Hd) : List Str := h.own ++ h.args
def Hd.rn (h : Hd) : List Str := match h with
  | .rel n _ => [n]
  | _ => []
/-- all variables that occur, all names of relations that occur -/
def Fm.vars : Fm → List Str := Fm.fold fun h xs => h.vars ++ xs.flatten
def Fm.rns : Fm → List Str := Fm.fold fun h xs => h.rn ++ xs.flatten
theorem Fm.vars_mk (h : Hd) (ps : List Fm) : (Fm.mk h ps).vars = h.vars ++ (ps.map Fm.vars).flatten := Fm.fold_mk _ h ps
theorem Fm.rns_mk (h : Hd) (ps : List Fm) : (Fm.mk h ps).rns = h.rn ++ (ps.map Fm.rns).flatten := Fm.fold_mk _ h ps
structure Occ (pool : List Str) (f : Fm) : Prop where
  vs : ∀ x, x ∈ f.vars → x ∈ pool
  rs : ∀ x, x ∈ f.rns → x ∈ five
theorem Occ.part {pool : List Str} {h : Hd} {ps : List Fm} {p : Fm} (o : Occ pool (.mk h ps)) (hp : p ∈ ps) : Occ pool p :=
  ⟨fun x hx => o.vs x (by rw [Fm.vars_mk]; exact List.mem_append_right _ (List.mem_flatten.mpr ⟨_, List.mem_map.mpr ⟨p, hp, rfl⟩, hx⟩)),
   fun x hx => o.rs x (by rw [Fm.rns_mk]; exact List.mem_append_right _ (List.mem_flatten.mpr ⟨_, List.mem_map.mpr ⟨p, hp, rfl⟩, hx⟩))⟩
theorem Occ.mk' {pool : List Str} {h : Hd} {ps : List Fm} (a : ∀ x, x ∈ h.vars → x ∈ pool) (b : ∀ x, x ∈ h.rn → x ∈ five) (c : ∀ p, p ∈ ps → Occ pool p) : Occ pool (.mk h ps) := by
  refine ⟨fun x hx => ?_, fun x hx => ?_⟩
  · rw [Fm.vars_mk] at hx
    rcases List.mem_append.mp hx with hx | hx
    · exact a x hx
    · obtain ⟨l, hl, hx⟩ := List.mem_flatten.mp hx
      obtain ⟨p, hp, rfl⟩ := List.mem_map.mp hl
      exact (c p hp).vs x hx
  · rw [Fm.rns_mk] at hx
    rcases List.mem_append.mp hx with hx | hx
    · exact b x hx
    · obtain ⟨l, hl, hx⟩ := List.mem_flatten.mp hx
      obtain ⟨p, hp, rfl⟩ := List.mem_map.mp hl
      exact (c p hp).rs x hx
structure NOk (ns : List NE) (Γ : ArE) : Prop where
  nm : ∀ p, p ∈ ns → Nm p.1
  ar : ∀ p, p ∈ ns → p.2.1 ≤ 3
  md : ∀ p, p ∈ ns → p.2.2 ≤ 3
  fit : ∀ p, p ∈ ns → Γ p.1 = some p.2.1
  uni : ∀ p q, p ∈ ns → q ∈ ns → p.1 = q.1 → p = q
  fv : ∀ p, p ∈ ns → p.1 ∈ five
theorem mode_le {a b c e m : Nat} (ha : a ≤ 3) (hb : b ≤ 3) (hc : c ≤ 3) (he : e ≤ 3) : mode4 a b c e m ≤ 3 := by
  unfold mode4
  split <;> assumption
theorem NOk.map {ns : List NE} {Γ : ArE} (F : Nat → Nat) (hF : ∀ m, F m ≤ 3) (k : NOk ns Γ) : NOk (ns.map fun p => (p.1, p.2.1, F p.2.2)) Γ := by
  have inv : ∀ p, p ∈ (ns.map fun p : NE => (p.1, p.2.1, F p.2.2)) → ∃ q, q ∈ ns ∧ p = (q.1, q.2.1, F q.2.2) := fun p hp => by
    obtain ⟨q, hq, e⟩ := List.mem_map.mp hp
    exact ⟨q, hq, e.symm⟩
  refine ⟨fun p hp => ?_, fun p hp => ?_, fun p hp => ?_, fun p hp => ?_, fun p q hp hq e => ?_, fun p hp => ?_⟩
  · obtain ⟨q, hq, rfl⟩ := inv p hp; exact k.nm q hq
  · obtain ⟨q, hq, rfl⟩ := inv p hp; exact k.ar q hq
  · obtain ⟨q, hq, rfl⟩ := inv p hp; exact hF _
  · obtain ⟨q, hq, rfl⟩ := inv p hp; exact k.fit q hq
  · obtain ⟨p0, hp0, rfl⟩ := inv p hp
    obtain ⟨q0, hq0, rfl⟩ := inv q hq
    rw [k.uni p0 q0 hp0 hq0 e]
  · obtain ⟨q, hq, rfl⟩ := inv p hp; exact k.fv q hq
theorem NOk.turned {ns : List NE} {Γ : ArE} (k : NOk ns Γ) : NOk (turned ns) Γ := k.map _ fun m => mode_le (by decide) (by decide) (by decide) (by decide)
theorem NOk.barred {ns : List NE} {Γ : ArE} (k : NOk ns Γ) : NOk (barred ns) Γ := k.map _ fun m => mode_le (by decide) (by decide) (by decide) (by decide)
theorem mem_within {ns : List NE} {p q : NE} : q ∈ within ns p ↔ (q ∈ ns ∧ q.1 ≠ p.1) ∨ q = p := by
  unfold within
  rw [List.mem_append, List.mem_filter, List.mem_singleton]
  simp
theorem NOk.within {ns : List NE} {Γ Δ : ArE} {p : NE} (k : NOk ns Γ) (hn : Nm p.1) (h5 : p.1 ∈ five) (ha : p.2.1 ≤ 3) (hm : p.2.2 ≤ 3) (hΔ : ∀ x, Δ x = if x = p.1 then some p.2.1 else Γ x) : NOk (within ns p) Δ := by
  refine ⟨fun q hq => ?_, fun q hq => ?_, fun q hq => ?_, fun q hq => ?_, fun q r hq hr e => ?_, fun q hq => ?_⟩
  · rcases mem_within.mp hq with ⟨h, _⟩ | rfl
    · exact k.nm q h
    · exact hn
  · rcases mem_within.mp hq with ⟨h, _⟩ | rfl
    · exact k.ar q h
    · exact ha
  · rcases mem_within.mp hq with ⟨h, _⟩ | rfl
    · exact k.md q h
    · exact hm
  · rw [hΔ]
    rcases mem_within.mp hq with ⟨h, n⟩ | rfl
    · rw [if_neg n]; exact k.fit q h
    · rw [if_pos rfl]
  · rcases mem_within.mp hq with ⟨h, n⟩ | rfl
    · rcases mem_within.mp hr with ⟨h2, n2⟩ | rfl
      · exact k.uni q r h h2 e
      · exact absurd e n
    · rcases mem_within.mp hr with ⟨h2, n2⟩ | rfl
      · exact absurd e.symm n2
      · rfl
  · rcases mem_within.mp hq with ⟨h, _⟩ | rfl
    · exact k.fv q h
    · exact h5
structure Gen (pool : List Str) (ns : List NE) (Γ : ArE) (f : Fm) (n : Nat) : Prop where
  ok : f.Ok
  ty : f.Typed Γ
  po : f.PosOk
  md : ∀ p, p ∈ ns → ∀ s, sgOf p.2.2 = some s → f.pos p.1 s = true
  dep : f.dep ≤ n
  cnt : 2 * f.cnt + 1 ≤ 3 ^ n
  oc : Occ pool f
theorem Gen.mono {pool : List Str} {ns : List NE} {Γ : ArE} {f : Fm} {n m : Nat} (g : Gen pool ns Γ f n) (h : n ≤ m) : Gen pool ns Γ f m :=
  ⟨g.ok, g.ty, g.po, g.md, Nat.le_trans g.dep h, Nat.le_trans g.cnt (Nat.pow_le_pow_right (by decide) h), g.oc⟩
theorem Gen.rel {pool : List Str} {ns : List NE} {Γ : ArE} {p : NE} {as : List Str} (k : NOk ns Γ) (hp : p ∈ ns) (u : p.2.2 < 2) (len : as.length = p.2.1) (hs : Names as) (hv : ∀ x, x ∈ as → x ∈ pool) : Gen pool ns Γ (.mk (.rel p.1 as) []) 1 := by
  refine ⟨.mk ⟨k.nm p hp, ?_, hs, rfl⟩ (fun q hq => nomatch hq), .rel (by rw [len]; exact k.fit p hp), .mk (fun n us as e => by cases e) (fun q hq => nomatch hq), fun q hq s hs => ?_, by rw [Fm.dep_mk]; exact Nat.le_refl _, by rw [Fm.cnt_mk]; exact Nat.le_refl _, .mk' hv (fun x hx => by rw [List.mem_singleton.mp hx]; exact k.fv p hp) (fun q hq => nomatch hq)⟩
  · have := k.ar p hp
    omega
  · rw [Fm.pos_rel]
    by_cases e : p.1 = q.1
    · have e2 := k.uni p q hp hq e
      subst e2
      obtain ⟨a, b, m⟩ := p
      have u : m < 2 := u
      match m, u with
      | 0, _ => cases hs
      | 1, _ =>
        have : s = 1 := (Option.some.inj hs).symm
        rw [this]; rfl
    · rw [decide_eq_false e]
      exact Bool.or_true _
theorem Gen.cmp {pool : List Str} {ns : List NE} {Γ : ArE} {h : Hd} (c : (∃ x y, h = .eq x y ∧ (Nm x ∧ x ∈ pool) ∧ Nm y ∧ y ∈ pool) ∨ (∃ x y, h = .less x y ∧ (Nm x ∧ x ∈ pool) ∧ Nm y ∧ y ∈ pool)) : Gen pool ns Γ (.mk h []) 1 := by
  have nr : h.kd ≠ .rel := by rcases c with ⟨x, y, rfl, _⟩ | ⟨x, y, rfl, _⟩ <;> exact fun z => nomatch z
  refine ⟨.mk ?_ (fun q hq => nomatch hq), .other nr (fun q hq => nomatch hq), .mk (fun n us as e => ?_) (fun q hq => nomatch hq), fun q hq s hs => ?_, by rw [Fm.dep_mk]; exact Nat.le_refl _, by rw [Fm.cnt_mk]; exact Nat.le_refl _, .mk' (fun z hz => ?_) (fun z hz => ?_) (fun q hq => nomatch hq)⟩
  · rcases c with ⟨x, y, rfl, h1, h2⟩ | ⟨x, y, rfl, h1, h2⟩ <;> exact ⟨h1.1, h2.1, rfl⟩
  · rcases c with ⟨x, y, rfl, h1, h2⟩ | ⟨x, y, rfl, h1, h2⟩ <;> cases e
  · rw [Fm.pos_other nr]
    split <;> rfl
  · rcases c with ⟨x, y, rfl, h1, h2⟩ | ⟨x, y, rfl, h1, h2⟩
    · have hz : z ∈ [x, y] := hz
      rcases List.mem_cons.mp hz with rfl | hz
      · exact h1.2
      · rw [List.mem_singleton.mp hz]; exact h2.2
    · have hz : z ∈ [x, y] := hz
      rcases List.mem_cons.mp hz with rfl | hz
      · exact h1.2
      · rw [List.mem_singleton.mp hz]; exact h2.2
  · rcases c with ⟨x, y, rfl, h1, h2⟩ | ⟨x, y, rfl, h1, h2⟩ <;> exact nomatch hz
theorem rn_none {h : Hd} (nr : h.kd ≠ .rel) : h.rn = [] := by cases h <;> first | rfl | exact absurd rfl nr
theorem sum_gen {n : Nat} : ∀ (ps : List Fm), (∀ p, p ∈ ps → 2 * p.cnt + 1 ≤ 3 ^ n) → 2 * sumN (ps.map Fm.cnt) + ps.length ≤ ps.length * 3 ^ n
  | [], _ => Nat.zero_le _
  | p :: ps, h => by
    have a := h p (List.mem_cons_self ..)
    have b := sum_gen ps fun q hq => h q (List.mem_cons_of_mem _ hq)
    show 2 * (p.cnt + sumN (ps.map Fm.cnt)) + (ps.length + 1) ≤ (ps.length + 1) * 3 ^ n
    rw [Nat.add_mul, Nat.one_mul]
    omega
theorem maxN_le {n : Nat} : ∀ (xs : List Nat), (∀ x, x ∈ xs → x ≤ n) → maxN xs ≤ n
  | [], _ => Nat.zero_le _
  | x :: xs, h => Nat.max_le.mpr ⟨h x (List.mem_cons_self ..), maxN_le xs fun y hy => h y (List.mem_cons_of_mem _ hy)⟩
theorem Gen.step {pool : List Str} {ns ns' : List NE} {Γ : ArE} {h : Hd} {ps : List Fm} {n : Nat} (nr : h.kd ≠ .rel) (ok : h.Ok ps.length) (hv : ∀ x, x ∈ h.vars → x ∈ pool) (hg : ∀ g, g ∈ ps → Gen pool ns' (h.env Γ) g n) (len : ps.length ≤ 3)
    (hl : ∀ m us as, h = .lfp m us as → ∃ q, q ∈ ns' ∧ q.1 = m ∧ sgOf q.2.2 = some 1)
    (tr : ∀ p, p ∈ ns → h.bname ≠ some p.1 → ∀ s, sgOf p.2.2 = some s → ∃ q, q ∈ ns' ∧ q.1 = p.1 ∧ sgOf q.2.2 = some (h.sgn s)) : Gen pool ns Γ (.mk h ps) (n + 1) := by
  refine ⟨.mk ok fun p hp => (hg p hp).ok, .other nr fun p hp => (hg p hp).ty, .mk (fun m us as e p hp => ?_) fun p hp => (hg p hp).po, fun p hp s hs => ?_, ?_, ?_, .mk' hv (fun x hx => by rw [rn_none nr] at hx; cases hx) fun p hp => (hg p hp).oc⟩
  · obtain ⟨q, hq, e1, e2⟩ := hl m us as e
    rw [← e1]
    exact (hg p hp).md q hq 1 e2
  · rw [Fm.pos_other nr]
    by_cases hb : h.bname = some p.1
    · rw [if_pos hb]
    · rw [if_neg hb]
      refine List.all_eq_true.mpr fun g hgm => ?_
      obtain ⟨q, hq, e1, e2⟩ := tr p hp hb s hs
      rw [← e1]
      exact (hg g hgm).md q hq _ e2
  · rw [Fm.dep_mk]
    have := maxN_le (n := n) (ps.map Fm.dep) fun x hx => by
      obtain ⟨g, hgm, rfl⟩ := List.mem_map.mp hx
      exact (hg g hgm).dep
    omega
  · rw [Fm.cnt_mk]
    have h1 := sum_gen ps fun p hp => (hg p hp).cnt
    have h2 : 1 ≤ 3 ^ n := Nat.one_le_pow _ _ (by decide)
    rw [Nat.pow_succ]
    generalize sumN (ps.map Fm.cnt) = S at h1 ⊢
    generalize 3 ^ n = T at h1 h2 ⊢
    match hL : ps.length, len with
    | 0, _ => rw [hL] at h1; omega
    | 1, _ => rw [hL] at h1; omega
    | 2, _ => rw [hL] at h1; omega
    | 3, _ => rw [hL] at h1; omega
theorem sgOf_turn {m : Nat} {s : Int} (h : sgOf m = some s) : sgOf (mode4 0 2 1 3 m) = some (-s) := by
  match m with
  | 0 => cases h
  | 1 => rw [← Option.some.inj h]; rfl
  | 2 => rw [← Option.some.inj h]; rfl
  | _ + 3 => rw [← Option.some.inj h]; rfl
theorem sgOf_bar {m : Nat} {s : Int} (h : sgOf m = some s) : sgOf (mode4 0 3 3 3 m) = some 0 := by
  match m with
  | 0 => cases h
  | 1 => rfl
  | 2 => rfl
  | _ + 3 => rfl
theorem Gen.no {pool : List Str} {ns : List NE} {Γ : ArE} {g : Fm} {n : Nat} (hg : Gen pool (turned ns) Γ g n) : Gen pool ns Γ (.mk .no [g]) (n + 1) :=
  .step (ns' := SaysoV.turned ns) (fun z => nomatch z) rfl (fun x hx => nomatch hx) (fun f hf => by rw [List.mem_singleton.mp hf]; exact hg) (show 1 ≤ 3 by decide) (fun m us as e => by cases e) fun p hp _ s hs => ⟨(p.1, p.2.1, mode4 0 2 1 3 p.2.2), List.mem_map.mpr ⟨p, hp, rfl⟩, rfl, sgOf_turn hs⟩
theorem Gen.con {pool : List Str} {ns : List NE} {Γ : ArE} {h : Hd} {ps : List Fm} {n : Nat} (c : h = .con ∨ h = .dis) (hg : ∀ g, g ∈ ps → Gen pool ns Γ g n) (len : ps.length ≤ 3) : Gen pool ns Γ (.mk h ps) (n + 1) := by
  refine .step (ns' := ns) ?_ ?_ ?_ (fun f hf => ?_) len ?_ ?_
  · rcases c with rfl | rfl <;> exact fun z => nomatch z
  · rcases c with rfl | rfl <;> exact Nat.le_trans len (by decide)
  · rcases c with rfl | rfl <;> exact fun x hx => nomatch hx
  · rcases c with rfl | rfl <;> exact hg f hf
  · rcases c with rfl | rfl <;> exact fun m us as e => by cases e
  · rcases c with rfl | rfl <;> exact fun p hp _ s hs => ⟨p, hp, rfl, hs⟩
theorem Gen.quant {pool : List Str} {ns : List NE} {Γ : ArE} {h : Hd} {vs : List Str} {g : Fm} {n : Nat} (c : h = .ex vs ∨ h = .al vs) (o : OwnOk vs) (hv : ∀ x, x ∈ vs → x ∈ pool) (hg : Gen pool ns Γ g n) : Gen pool ns Γ (.mk h [g]) (n + 1) := by
  refine .step (ns' := ns) ?_ ?_ ?_ (fun f hf => ?_) (show 1 ≤ 3 by decide) ?_ ?_
  · rcases c with rfl | rfl <;> exact fun z => nomatch z
  · rcases c with rfl | rfl <;> exact ⟨o, rfl⟩
  · intro x hx
    refine hv x ?_
    rcases c with rfl | rfl
    · have hx : x ∈ vs ++ [] := hx
      rwa [List.append_nil] at hx
    · have hx : x ∈ vs ++ [] := hx
      rwa [List.append_nil] at hx
  · rw [List.mem_singleton.mp hf]
    rcases c with rfl | rfl <;> exact hg
  · rcases c with rfl | rfl <;> exact fun m us as e => by cases e
  · rcases c with rfl | rfl <;> exact fun p hp _ s hs => ⟨p, hp, rfl, hs⟩
theorem Gen.tc {pool : List Str} {ns : List NE} {Γ : ArE} {vs as : List Str} {g : Fm} {n : Nat} (l2 : vs.length = 2) (nv : Names vs) (nd : vs.Nodup) (la : as.length = 2) (na : Names as) (hv : ∀ x, x ∈ vs → x ∈ pool) (hw : ∀ x, x ∈ as → x ∈ pool) (hg : Gen pool ns Γ g n) : Gen pool ns Γ (.mk (.tc vs as) [g]) (n + 1) :=
  .step (ns' := ns) (fun z => nomatch z) ⟨.inl l2, nv, nd, by rw [l2, la], na, rfl⟩ (fun x hx => (List.mem_append.mp (show x ∈ vs ++ as from hx)).elim (hv x) (hw x)) (fun f hf => by rw [List.mem_singleton.mp hf]; exact hg) (show 1 ≤ 3 by decide) (fun m us as e => by cases e) fun p hp _ s hs => ⟨p, hp, rfl, hs⟩
theorem Gen.lfp {pool : List Str} {ns : List NE} {Γ : ArE} {name : Str} {vs as : List Str} {g : Fm} {n : Nat} (nn : Nm name) (o : OwnOk vs) (la : as.length = vs.length) (na : Names as) (hv : ∀ x, x ∈ vs → x ∈ pool) (hw : ∀ x, x ∈ as → x ∈ pool) (hg : Gen pool (SaysoV.within ns (name, vs.length, 1)) (Hd.env (.lfp name vs as) Γ) g n) : Gen pool ns Γ (.mk (.lfp name vs as) [g]) (n + 1) :=
  .step (fun z => nomatch z) ⟨nn, o, la, na, rfl⟩ (fun x hx => (List.mem_append.mp (show x ∈ vs ++ as from hx)).elim (hv x) (hw x)) (fun f hf => by rw [List.mem_singleton.mp hf]; exact hg) (show 1 ≤ 3 by decide)
    (fun m us as e => ⟨_, mem_within.mpr (.inr rfl), by injection e, rfl⟩)
    fun p hp hb s hs => ⟨p, mem_within.mpr (.inl ⟨hp, fun e => hb (congrArg some e.symm)⟩), rfl, hs⟩
theorem Gen.pfp {pool : List Str} {ns : List NE} {Γ : ArE} {name : Str} {vs as : List Str} {g : Fm} {n : Nat} (nn : Nm name) (o : OwnOk vs) (la : as.length = vs.length) (na : Names as) (hv : ∀ x, x ∈ vs → x ∈ pool) (hw : ∀ x, x ∈ as → x ∈ pool) (hg : Gen pool (SaysoV.within (SaysoV.barred ns) (name, vs.length, 0)) (Hd.env (.pfp name vs as) Γ) g n) : Gen pool ns Γ (.mk (.pfp name vs as) [g]) (n + 1) :=
  .step (fun z => nomatch z) ⟨nn, o, la, na, rfl⟩ (fun x hx => (List.mem_append.mp (show x ∈ vs ++ as from hx)).elim (hv x) (hw x)) (fun f hf => by rw [List.mem_singleton.mp hf]; exact hg) (show 1 ≤ 3 by decide)
    (fun m us as e => by cases e)
    fun p hp hb s hs => ⟨(p.1, p.2.1, mode4 0 3 3 3 p.2.2), mem_within.mpr (.inl ⟨List.mem_map.mpr ⟨p, hp, rfl⟩, fun e => hb (congrArg some e.symm)⟩), rfl, sgOf_bar hs⟩
theorem Gen.gs {pool : List Str} {ns : List NE} {Γ : ArE} {name : Str} {k : Nat} {g : Fm} {n : Nat} (nn : Nm name) (hk : k ≤ 3) (hg : Gen pool (SaysoV.within ns (name, k, 0)) (Hd.env (.gs name k) Γ) g n) : Gen pool ns Γ (.mk (.gs name k) [g]) (n + 1) :=
  .step (fun z => nomatch z) ⟨nn, hk, rfl⟩ (fun x hx => nomatch hx) (fun f hf => by rw [List.mem_singleton.mp hf]; exact hg) (show 1 ≤ 3 by decide)
    (fun m us as e => by cases e)
    fun p hp hb s hs => ⟨p, mem_within.mpr (.inl ⟨hp, fun e => hb (congrArg some e.symm)⟩), rfl, hs⟩
/-! ### the heap under draws -/
def Far (xs : List V) : Prop := ∀ (l : Addr) (n : Int), xs ≠ [.ref l, .int n]
theorem far_strs (as : List Str) : Far (as.map V.str) := fun l n e => by
  cases as with
  | nil => cases e
  | cons a r => injection e with h _; cases h
section
variable {K : PySem.W.Frag} {H H' : Hp} {d l : Addr}
theorem far_dp {xs : List V} {ts : List PyData} (h : DpAll K H xs ts) (g : good (.list ts) = true) : Far xs := fun l n e => by
  rw [e] at h
  rw [no_ints h] at g
  cases g
theorem SqL.kpA {a : Addr} {xs : List V} (h : SqL K H a xs) (far : Far xs) (r : DrA H d l) (k : Kp d H H') : SqL K H' a xs := by
  obtain ⟨n, ms, h1, _⟩ := r
  exact wo_sub.seq ((wo_kp k).seq (SqL.wo h1 (far l n) h))
end
theorem DpAll.inMem {K : PySem.W.Frag} {H : Hp} {xs : List V} {ts : List PyData} {v : V} (h : DpAll K H xs ts) (m : v ∈ xs) : ∃ t, t ∈ ts ∧ Dp K H v t := by
  obtain ⟨i, hi⟩ := List.mem_iff_getElem?.mp m
  obtain ⟨t, ht, e⟩ := DpAll.get' h hi
  exact ⟨t, List.mem_of_getElem? ht, e⟩
theorem atI_mod {xs : List V} (z : Int) (h : 0 < xs.length) : ∃ v, v ∈ xs ∧ atI xs (z % (xs.length : Int)) = some v := by
  have i0 : 0 ≤ z % (xs.length : Int) := Int.emod_nonneg _ (by omega)
  have i1 : z % (xs.length : Int) < (xs.length : Int) := Int.emod_lt_of_pos _ (by omega)
  obtain ⟨j, hj⟩ : ∃ j : Nat, z % (xs.length : Int) = (j : Int) := ⟨(z % (xs.length : Int)).toNat, by omega⟩
  rw [hj] at i1 ⊢
  have hl : j < xs.length := by omega
  exact ⟨xs[j], List.getElem_mem hl, atI_nat (List.getElem?_eq_getElem hl)⟩
theorem atI_str {as : List Str} (z : Int) (h : 0 < as.length) : ∃ x, x ∈ as ∧ atI (as.map V.str) (z % ((as.map V.str).length : Int)) = some (.str x) := by
  obtain ⟨v, hv, e⟩ := atI_mod (xs := as.map V.str) z (by rw [List.length_map]; exact h)
  obtain ⟨x, hx, rfl⟩ := List.mem_map.mp hv
  exact ⟨x, hx, e⟩
theorem swap2 {B G : Prop} (f : B → G) (b : B) : G := f b
structure Pool (pool : List Str) : Prop where
  nm : Names pool
  nd : pool.Nodup
  two : 2 ≤ pool.length
  few : pool.length ≤ 20
def spAtom (K : PySem.W.Frag) : Sp := fun vs H Q _ => ∃ (d l : Addr) (vp vn : V) (pool : List Str) (ns : List NE) (Γ : ArE), vs = [.ref d, vp, vn] ∧ DrA H d l ∧ Dp K H vp (.list (pool.map PyData.str)) ∧ Dp K H vn (nsD ns) ∧ NOk ns Γ ∧ Pool pool ∧ ns.length ≤ 100 ∧
  ∀ (H' : Hp) (r : V) (f : Fm), DrA H' d l → Kp d H H' → Dp K H' r f.data → Gen pool ns Γ f 1 → Q r H'
section
variable {P : Program} {w : World} {K : PySem.W.Frag} {mg : Str → Option Value} {base : Heap}
theorem sc_atom : FnScope ["draws", "pool", "names", "usable", "pick", "one", "word", "k"] ["draws", "pool", "names"] (defScope (top 66)) := ⟨rfl, rfl, rfl, by decide +kernel, rfl, by decide +kernel, by decide +kernel⟩
theorem has_atom (D : Def K mg "_law_atom" ["draws", "pool", "names"] (top 66)) (T : Txt mg) (C1 : Has P w K mg base 2 "_law_draw" ["draws"] spDraw) : Has P w K mg base 3 "_law_atom" ["draws", "pool", "names"] (spAtom K) := D.has fun f fd F => by
  obtain ⟨f1, fd1, G_law_draw, g_law_draw, k_law_draw, b_law_draw⟩ := C1
  refine F.ok sc_atom (fun vs H Q E h => ?_) (fun cdv A outer s H vs Q E hr h => ?_)
  · obtain ⟨d, l, vp, vn, pool, ns, Γ, rfl, _⟩ := h; rfl
  · obtain ⟨d, l, vp, vn, pool, ns, Γ, rfl, dr, dp, dn, ok, po, hl, q⟩ := h
    have R_law_draw : Room 2 _ := hr.mono (by decide)
    refine ⟨_, PSs.nox (pss_cons (ps_setLc (i := 3) (own := [("one", 5)]) rfl sc_atom.nd rfl rfl (sw_true rfl rfl rfl (by decide +kernel)) (pi_list (pv 2)) (blkOk_by (N := ["draws", "pool", "names", "usable", "pick", "one", "word", "k"]) (sc := defScope (top 66)) (by decide +kernel)) (fun _ _ _ _ _ => (pg_name (i := 5) sc_atom.nd rfl (Or.inl rfl))) (fun _ _ _ _ _ => (pts_one (pt_cmpR op_lt (pe_ix (ix_tupK (K := K) rfl) (pv 5) pe_int (fun _ _ => rfl)) pe_int (nomark _)))) (fun _ _ _ _ _ => (pv 5))) (pss_cons (ps_set (i := 4) sc_atom.nd rfl (Or.inl rfl) (pe_op op_mod (pe_call G_law_draw R_law_draw (by rfl) g_law_draw k_law_draw b_law_draw .nil pass0 (pa_cons (pv 0) pa_nil)) pe_int)) (pss_cons (ps_if (PW.pt (pw_and (pt_cmpR op_lt (pv 4) pe_int (nomark _)) (pw_and1 (pt_cmpR op_gt (pe_callB call_len_seq (by rfl) T.n_len PySem.boot_len (pa_cons (pv 3) pa_nil)) pe_int (nomark _))))) (pss_cons (ps_set (i := 5) sc_atom.nd rfl (Or.inl rfl) (pe_ix ix_list (pv 3) (pe_op op_mod (pe_call G_law_draw R_law_draw (by rfl) g_law_draw k_law_draw b_law_draw .nil pass0 (pa_cons (pv 0) pa_nil)) (pe_callB call_len_seq (by rfl) T.n_len PySem.boot_len (pa_cons (pv 3) pa_nil))) (fun _ _ => rfl))) (pss_one (ps_ret (pe_tup (pa_cons pe_str (pa_cons (pe_ix ix_tup (pv 5) pe_int (fun _ _ => rfl)) (pa_cons (pe_callTy call_tuple_of (by rfl) T.n_tuple (by decide +kernel) (pa_cons (pe_lc (own := [("k", 7)]) rfl sc_atom.nd (pi_range1 (by rfl) T.n_range (pa_cons (pe_ix ix_tup (pv 5) pe_int (fun _ _ => rfl)) pa_nil)) (blkOk_by (N := ["draws", "pool", "names", "usable", "pick", "one", "word", "k"]) (sc := defScope (top 66)) (by decide +kernel)) (fun _ _ _ _ _ => (pg_name (i := 7) sc_atom.nd rfl (Or.inl rfl))) (fun _ _ _ _ _ => pts_nil) (fun _ _ _ _ _ => (pe_ix (ix_listK (K := K) rfl) (pv 1) (pe_op op_mod (pe_call G_law_draw R_law_draw (by rfl) g_law_draw k_law_draw b_law_draw .nil pass0 (pa_cons (pv 0) pa_nil)) (pe_callB (call_len_seqK (K := K) rfl) (by rfl) T.n_len PySem.boot_len (pa_cons (pv 1) pa_nil))) (fun _ _ => rfl)))) pa_nil)) pa_nil))))))) pss_nil) (pss_cons (ps_set (i := 6) sc_atom.nd rfl (Or.inl rfl) (pe_ix ix_list (pe_lst (pa_cons pe_str (pa_cons pe_str pa_nil))) (pe_op op_mod (pe_call G_law_draw R_law_draw (by rfl) g_law_draw k_law_draw b_law_draw .nil pass0 (pa_cons (pv 0) pa_nil)) pe_int) (fun _ _ => rfl))) (pss_one (ps_ret (pe_tup (pa_cons (pv 6) (pa_cons (pe_ix ix_list (pv 1) (pe_op op_mod (pe_call G_law_draw R_law_draw (by rfl) g_law_draw k_law_draw b_law_draw .nil pass0 (pa_cons (pv 0) pa_nil)) (pe_callB call_len_seq (by rfl) T.n_len PySem.boot_len (pa_cons (pv 1) pa_nil))) (fun _ _ => rfl)) (pa_cons (pe_ix ix_list (pv 1) (pe_op op_mod (pe_call G_law_draw R_law_draw (by rfl) g_law_draw k_law_draw b_law_draw .nil pass0 (pa_cons (pv 0) pa_nil)) (pe_callB call_len_seq (by rfl) T.n_len PySem.boot_len (pa_cons (pv 1) pa_nil))) (fun _ _ => rfl)) pa_nil)))))))))), ?_⟩
    obtain ⟨b, rfl, hb⟩ := strsL dp
    obtain ⟨a, xs, rfl, ha, hx⟩ := Dp.lst_inv dn
    have p0 : 0 < pool.length := by have := po.two; omega
    -- usable
    refine ⟨_, rfl, a, rfl, ⟨_, ha⟩, fun L nL => ?_⟩
    refine lc_it (walk_list (K := K) (a := a) (xs := xs)) (fun i H2 => ∃ acc, H2 L = some (.lst acc) ∧ DpAll K H acc (((ns.take i).filter fun p : NE => decide (p.2.2 < 2)).map nD) ∧ Same H H2) ⟨[], upd_same, .nil, same_upd nL⟩ (fun i H2 _ ⟨_, _, _, s2⟩ => s2.seq ha) ?_ ?_
    · rintro i y H2 H3 hi ⟨acc, hL, hacc, s2⟩ ⟨rfl, hy⟩
      obtain ⟨dd, hd, dpy⟩ := DpAll.get' hx hy
      obtain ⟨p, hp, rfl⟩ := get_map hd
      obtain ⟨t, rfl, ht⟩ := nD_inv dpy
      refine ⟨rfl, _, rfl, t, _, _, _, rfl, rfl, Same.sqt s2 ht, atI_nat (j := 2) rfl, _, _, rfl, rfl, _, rfl, ?_⟩
      have ef := filter_snoc (p := fun p : NE => decide (p.2.2 < 2)) hp
      by_cases e : p.2.2 < 2
      · refine cT (k := decide ((p.2.2 : Int) < 2)) (decide_eq_true (by omega)) ⟨_, rfl, _, hL, ?_, ?_⟩
        · have e1 := DpAll.length hacc
          rw [List.length_map] at e1
          have e2 := List.length_filter_le (fun p : NE => decide (p.2.2 < 2)) (ns.take i)
          have e3 := List.length_take_le' i ns
          exact small1000 (by omega)
        · refine ⟨_, upd_same, ?_, fun b o eb => by rw [upd_ne (ne_of_none eb nL)]; exact s2 _ _ eb⟩
          rw [show (if decide (p.2.2 < 2) = true then [p] else []) = [p] by simp [e]] at ef
          rw [ef, List.map_append]
          exact DpAll.snoc hacc (nD_of ht)
      · refine cF (k := decide ((p.2.2 : Int) < 2)) (decide_eq_false (by omega)) ⟨acc, hL, ?_, s2⟩
        rw [show (if decide (p.2.2 < 2) = true then [p] else []) = [] by simp [e], List.append_nil] at ef
        rw [ef]
        exact hacc
    · rintro H2 ⟨acc, hL, hacc, s2⟩
      have el : xs.length = ns.length := by rw [DpAll.length hx, List.length_map]
      rw [List.take_of_length_le (show ns.length ≤ xs.length by omega)] at hacc
      have dr2 := dr.same s2
      have nd : L ≠ d ∧ L ≠ l := dr.ne nL
      refine ⟨_, rfl, d, l, rfl, dr2, fun z1 H3 _ _ dr3 k3 => ?_⟩
      refine ⟨_, _, rfl, rfl, (by show (0 : Int) < 5; decide), ?_⟩
      have hL3 := k3 _ _ hL nd.1
      have k03 : Kp d H H3 := (Kp.of s2).trans k3
      have Z : DpAll K H3 acc ((ns.filter fun p : NE => decide (p.2.2 < 2)).map nD) := DpAll.kl (.dr k03 dr) hacc (ns_noL _)
      have hb3 := SqL.kpA hb (far_strs _) dr k03
      by_cases hc : z1 % 5 < 3 ∧ 0 < acc.length
      · refine ⟨_, rfl, _, _, rfl, rfl, _, rfl, ite2 (fun e => ?_) (fun e => absurd (decide_eq_true hc.1) e)⟩
        refine ⟨_, rfl, L, _, rfl, .inl (SqL.of hL3), _, _, rfl, rfl, _, rfl, ?_⟩
        refine cT (k := decide ((0 : Int) < (acc.length : Nat))) (decide_eq_true (by omega)) ?_
        refine ⟨_, rfl, _, rfl, d, l, rfl, dr3, fun z2 H4 _ _ dr4 k4 => ?_⟩
        have hL4 := k4 _ _ hL3 nd.1
        obtain ⟨v, hv, hat⟩ := atI_mod z2 hc.2
        obtain ⟨t1, ht1, dv⟩ := DpAll.inMem Z hv
        obtain ⟨p, hp, rfl⟩ := List.mem_map.mp ht1
        obtain ⟨hp1, hp2⟩ := List.mem_filter.mp hp
        obtain ⟨t, rfl, ht⟩ := nD_inv (Dp.kl (.dr k4 dr3) dv (noL_nD p))
        refine ⟨_, rfl, L, _, rfl, .inl (SqL.of hL4), _, _, rfl, rfl, (by omega), L, _, _, _, rfl, rfl, SqL.of hL4, hat, ?_⟩
        have a3 := ok.ar p hp1
        refine ⟨_, rfl, t, _, _, _, rfl, rfl, ht, atI_nat (j := 0) rfl, ?_⟩
        refine ⟨_, rfl, t, _, _, _, rfl, rfl, ht, atI_nat (j := 1) rfl, p.2.1, rfl, by omega, by omega, fun M nM => ?_⟩
        have k04 := k03.trans k4
        have hb4 := SqL.kpA hb (far_strs _) dr k04
        obtain ⟨nMd, nMl⟩ := dr4.ne nM
        refine lc_it walk_range (fun i H5 => ∃ as : List Str, DrA H5 d l ∧ Kp d H4 H5 ∧ H5 M = some (.lst (as.map V.str)) ∧ as.length = i ∧ ∀ x, x ∈ as → x ∈ pool) ⟨[], dr4.same (same_upd nM), .of (same_upd nM), upd_same, rfl, fun x hx => nomatch hx⟩ (fun _ _ _ _ => trivial) ?_ ?_
        · rintro i y H5 H6 hi ⟨as, dr5, k5, hM, len, hs⟩ ⟨rfl, rfl⟩
          refine ⟨rfl, _, rfl, _, rfl, d, l, rfl, dr5, fun z6 H7 _ _ dr7 k7 => ?_⟩
          have hb7 := SqL.kpA hb4 (far_strs _) dr4 (k5.trans k7)
          obtain ⟨x, hx, hax⟩ := atI_str (as := pool) z6 p0
          have hM7 := k7 _ _ hM nMd
          refine ⟨_, rfl, b, _, rfl, .inl hb7, _, _, rfl, rfl, (by rw [List.length_map]; omega), b, _, _, _, rfl, rfl, hb7, hax, _, hM7, ?_, as ++ [x], dr7.kp Kp.upd ⟨nMd, nMl⟩, kp_own (k5.trans k7) nM, ?_, ?_, ?_⟩
          · rw [List.length_map]
            exact small1000 (by omega)
          · rw [upd_same, List.map_append]; rfl
          · rw [List.length_append, len]; rfl
          · intro y hy
            rcases List.mem_append.mp hy with hy | hy
            · exact hs y hy
            · rw [List.mem_singleton.mp hy]; exact hx
        · rintro H5 ⟨as, dr5, k5, hM, len, hs⟩
          refine ⟨M, _, rfl, .inl ⟨SqL.of hM, fun u nu => ?_⟩⟩
          refine ⟨(by show 3 ≤ sizeLine; decide), fun r nr => ?_⟩
          have s7 := same_upd (o := .tup (as.map V.str)) nu
          have s8 := same_upd (o := .tup [.str "rel", .str p.1, .ref u]) nr
          refine q _ _ (.mk (.rel p.1 as) []) (dr5.same (s7.trans s8)) ((k04.trans k5).trans (.of (s7.trans s8))) ?_ (.rel ok hp1 (by simpa using hp2) len (fun x hx => po.nm x (hs x hx)) hs)
          rw [Fm.data_mk]
          exact .tup (.inl (.inl upd_same)) (.cons (.str _) (.cons (.str _) (.cons (tS_of (Same.sqt s8 (.inl (.inl upd_same)))) .nil)))
      · refine swap2 (fun rest => ⟨_, rfl, _, _, rfl, rfl, _, rfl, ite2 (fun e => ⟨_, rfl, L, _, rfl, .inl (SqL.of hL3), _, _, rfl, rfl, _, rfl, cF (k := decide ((0 : Int) < (acc.length : Nat))) (decide_eq_false fun z => hc ⟨of_decide_eq_true e, by omega⟩) rest⟩) (fun e => iteF rest)⟩) ?_
        refine ⟨(by show 2 ≤ sizeLine; decide), fun c nc => ?_⟩
        have s3 := same_upd (o := .lst ((["eq", "less"] : List Str).map V.str)) nc
        have dr3' := dr3.same s3
        have nc3 := dr3.ne nc
        refine ⟨_, rfl, d, l, rfl, dr3', fun z2 H4 _ _ dr4 k4 => ?_⟩
        obtain ⟨wd, hw, hat⟩ := atI_str (as := ["eq", "less"]) z2 (by decide)
        have hc4 := k4 _ _ upd_same nc3.1
        refine ⟨_, _, rfl, rfl, (by show (0 : Int) < 2; decide), c, _, _, _, rfl, rfl, SqL.of hc4, hat, ?_⟩
        have k04 := (k03.trans (.of s3)).trans k4
        have hb4 := SqL.kpA hb (far_strs _) dr k04
        refine ⟨_, rfl, _, rfl, _, rfl, d, l, rfl, dr4, fun z5 H5 _ _ dr5 k5 => ?_⟩
        obtain ⟨x, hx, hax⟩ := atI_str (as := pool) z5 p0
        have hb5 := SqL.kpA hb4 (far_strs _) dr4 k5
        refine ⟨_, rfl, b, _, rfl, .inl hb5, _, _, rfl, rfl, (by rw [List.length_map]; omega), b, _, _, _, rfl, rfl, hb5, hax, ?_⟩
        refine ⟨_, rfl, _, rfl, d, l, rfl, dr5, fun z6 H6 _ _ dr6 k6 => ?_⟩
        obtain ⟨y, hy, hay⟩ := atI_str (as := pool) z6 p0
        have hb6 := SqL.kpA hb5 (far_strs _) dr5 k6
        refine ⟨_, rfl, b, _, rfl, .inl hb6, _, _, rfl, rfl, (by rw [List.length_map]; omega), b, _, _, _, rfl, rfl, hb6, hay, ?_⟩
        refine ⟨(by show 3 ≤ sizeLine; decide), fun r nr => ?_⟩
        have s8 := same_upd (o := .tup [.str wd, .str x, .str y]) nr
        have k06 := (k04.trans k5).trans k6
        rcases List.mem_cons.mp hw with rfl | hw
        · refine q _ _ (.mk (.eq x y) []) (dr6.same s8) (k06.trans (.of s8)) ?_ (.cmp (.inl ⟨x, y, rfl, ⟨po.nm x hx, hx⟩, po.nm y hy, hy⟩))
          rw [Fm.data_mk]
          exact .tup (.inl (.inl upd_same)) (.cons (.str _) (.cons (.str _) (.cons (.str _) .nil)))
        · rw [List.mem_singleton.mp hw] at s8 ⊢
          refine q _ _ (.mk (.less x y) []) (dr6.same s8) (k06.trans (.of s8)) ?_ (.cmp (.inr ⟨x, y, rfl, ⟨po.nm x hx, hx⟩, po.nm y hy, hy⟩))
          rw [Fm.data_mk]
          exact .tup (.inl (.inl upd_same)) (.cons (.str _) (.cons (.str _) (.cons (.str _) .nil)))
end
/-! ### the law's formulas are made -/
def kindsL : List Str := ["some", "all", "lfp", "pfp", "tc", "guess"]
/-- the list of kinds: some of the six -/
def Dk (K : PySem.W.Frag) (H : Hp) (v : V) : Prop := ∃ kl : List Str, 0 < kl.length ∧ (∀ x, x ∈ kl → x ∈ kindsL) ∧ Dp K H v (.list (kl.map PyData.str))
theorem Dk.kpA {K : PySem.W.Frag} {H H' : Hp} {d l : Addr} {v : V} (h : Dk K H v) (r : DrA H d l) (k : Kp d H H') : Dk K H' v := by
  obtain ⟨kl, a, b, c⟩ := h
  exact ⟨kl, a, b, Dp.kpA c r (good_strl _) k⟩
structure GA (K : PySem.W.Frag) (H : Hp) (d l : Addr) (vp vn vk : V) (pool : List Str) (ns : List NE) (Γ : ArE) (n : Nat) : Prop where
  dr : DrA H d l
  dp : Dp K H vp (.list (pool.map PyData.str))
  dn : Dp K H vn (nsD ns)
  dk : Dk K H vk
  ok : NOk ns Γ
  po : Pool pool
  few : ns.length + n ≤ 60
theorem GA.kp {K : PySem.W.Frag} {H H' : Hp} {d l : Addr} {vp vn vk : V} {pool : List Str} {ns : List NE} {Γ : ArE} {n : Nat} (g : GA K H d l vp vn vk pool ns Γ n) (k : Kp d H H') (dr : DrA H' d l) : GA K H' d l vp vn vk pool ns Γ n :=
  ⟨dr, Dp.kpA g.dp g.dr (good_strl _) k, Dp.kpA g.dn g.dr (good_nsD _) k, g.dk.kpA g.dr k, g.ok, g.po, g.few⟩
theorem GA.same {K : PySem.W.Frag} {H H' : Hp} {d l : Addr} {vp vn vk : V} {pool : List Str} {ns : List NE} {Γ : ArE} {n : Nat} (g : GA K H d l vp vn vk pool ns Γ n) (k : Same H H') : GA K H' d l vp vn vk pool ns Γ n := g.kp (.of k) (g.dr.same k)
theorem strsR {K : PySem.W.Frag} {H : Hp} {a : Addr} {as : List Str} (h : Dp K H (.ref a) (.list (as.map PyData.str))) : SqL K H a (as.map V.str) := by
  obtain ⟨b, e, h⟩ := strsL h
  cases e
  exact h
def spForm (K : PySem.W.Frag) (n : Nat) : Sp := fun vs H Q _ => ∃ (d l : Addr) (k : Int) (vp vn vk : V) (pool : List Str) (ns : List NE) (Γ : ArE) (m : Nat), vs = [.ref d, .int k, vp, vn, vk] ∧ k = (m : Nat) ∧ (1 ≤ m ∧ m ≤ n) ∧ GA K H d l vp vn vk pool ns Γ m ∧
  ∀ (H' : Hp) (r : V) (f : Fm), DrA H' d l → Kp d H H' → Dp K H' r f.data → Gen pool ns Γ f m → Q r H'
def spBound (K : PySem.W.Frag) (n : Nat) : Sp := fun vs H Q _ => ∃ (d l : Addr) (k : Int) (vp vn vk : V) (pool : List Str) (ns : List NE) (Γ : ArE) (m : Nat), vs = [.ref d, .int k, vp, vn, vk] ∧ k = (m : Nat) ∧ (2 ≤ m ∧ m ≤ n) ∧ GA K H d l vp vn vk pool ns Γ m ∧
  ∀ (H' : Hp) (r : V) (f : Fm), DrA H' d l → Kp d H H' → Dp K H' r f.data → Gen pool ns Γ f m → Q r H'
theorem within_len (ns : List NE) (p : NE) : (within ns p).length ≤ ns.length + 1 := by
  unfold within
  rw [List.length_append]
  have := List.length_filter_le (fun q : NE => !decide (q.1 = p.1)) ns
  show _ + 1 ≤ _
  omega
theorem barred_len (ns : List NE) : (barred ns).length = ns.length := List.length_map ..
theorem turned_len (ns : List NE) : (turned ns).length = ns.length := List.length_map ..
def nmB (z : Str) : Bool := decide (1 ≤ z.length) && decide (z.length ≤ 12) && (z.cps.toList[0]?).all (fun c => decide (c ∈ lets.cps.toList)) && !inV (.str z) resv && z.cps.toList.all (fun c => decide (c ∈ both.cps.toList))
theorem nm_of {z : Str} (h : nmB z = true) : Nm z := by
  unfold nmB at h
  simp only [Bool.and_eq_true, decide_eq_true_eq, Bool.not_eq_true', List.all_eq_true] at h
  obtain ⟨⟨⟨⟨h1, h2⟩, h3⟩, h4⟩, h5⟩ := h
  refine ⟨h1, h2, fun c hc => ?_, h4, h5⟩
  rw [hc] at h3
  simpa using h3
section
variable {P : Program} {w : World} {K : PySem.W.Frag} {mg : Str → Option Value} {base : Heap}
theorem sc_bound : FnScope ["draws", "deep", "pool", "names", "kinds", "pick", "args", "given", "name", "inner_v", "arity", "x"] ["draws", "deep", "pool", "names", "kinds"] (defScope (top 70)) := ⟨rfl, rfl, rfl, by decide +kernel, rfl, by decide +kernel, by decide +kernel⟩
theorem has_bound {n : Nat} (D : Def K mg "_law_bound" ["draws", "deep", "pool", "names", "kinds"] (top 70)) (T : Txt mg) (C1 : Has P w K mg base 2 "_law_draw" ["draws"] spDraw) (C2 : Has P w K mg base 3 "_law_some_of" ["draws", "pool", "many"] (spSomeOf K))
    (C3 : Has P w K mg base 1 "_law_within" ["names", "name", "arity", "mode"] (spWithin K)) (C4 : Has P w K mg base 1 "_law_barred" ["names"] (spMode K barred)) (C5 : Has P w K mg base (4 + 2 * n) "_law_formula" ["draws", "deep", "pool", "names", "kinds"] (spForm K n)) :
    Has P w K mg base (4 + 2 * n + 1) "_law_bound" ["draws", "deep", "pool", "names", "kinds"] (spBound K (n + 1)) := D.has fun f fd F => by
  obtain ⟨f1, fd1, G_law_draw, g_law_draw, k_law_draw, b_law_draw⟩ := C1
  obtain ⟨f2, fd2, G_law_some_of, g_law_some_of, k_law_some_of, b_law_some_of⟩ := C2
  obtain ⟨f3, fd3, G_law_within, g_law_within, k_law_within, b_law_within⟩ := C3
  obtain ⟨f4, fd4, G_law_barred, g_law_barred, k_law_barred, b_law_barred⟩ := C4
  obtain ⟨f5, fd5, G_law_formula, g_law_formula, k_law_formula, b_law_formula⟩ := C5
  refine F.ok sc_bound (fun vs H Q E h => ?_) (fun cdv A outer s H vs Q E hr h => ?_)
  · obtain ⟨d, l, k, vp, vn, vk, pool, ns, Γ, m, rfl, _⟩ := h; rfl
  · obtain ⟨d, l, k, vp, vn, vk, pool, ns, Γ, m0, rfl, hk, h2, ga, q⟩ := h
    obtain ⟨m, rfl⟩ : ∃ m, m0 = m + 1 := ⟨m0 - 1, by omega⟩
    have R_law_draw : Room 2 _ := hr.mono (Nat.le_trans (by decide) (Nat.le_add_right 4 (2 * n)))
    have R_law_some_of : Room 3 _ := hr.mono (Nat.le_trans (by decide) (Nat.le_add_right 4 (2 * n)))
    have R_law_within : Room 1 _ := hr.mono (Nat.le_trans (by decide) (Nat.le_add_right 4 (2 * n)))
    have R_law_barred : Room 1 _ := hr.mono (Nat.le_trans (by decide) (Nat.le_add_right 4 (2 * n)))
    have R_law_formula : Room (4 + 2 * n) _ := hr
    refine ⟨_, PSs.nox (pss_cons (ps_set (i := 5) sc_bound.nd rfl (Or.inl rfl) (pe_ix ix_list (pv 4) (pe_op op_mod (pe_call G_law_draw R_law_draw (by rfl) g_law_draw k_law_draw b_law_draw .nil pass0 (pa_cons (pv 0) pa_nil)) (pe_callB call_len_seq (by rfl) T.n_len PySem.boot_len (pa_cons (pv 4) pa_nil))) (fun _ _ => rfl))) (pss_cons (ps_if (PW.pt (pw_and (pt_cmpR op_eq (pe_callB call_len_seq (by rfl) T.n_len PySem.boot_len (pa_cons (pv 2) pa_nil)) pe_int (nomark _)) (pw_and1 (pt_cmpR op_eq (pv 5) pe_str (nomark _))))) pss_never pss_nil) (pss_cons (ps_set (i := 6) sc_bound.nd rfl (Or.inl rfl) (pe_call G_law_some_of R_law_some_of (by rfl) g_law_some_of k_law_some_of b_law_some_of .nil pass0 (pa_cons (pv 0) (pa_cons (pv 2) (pa_cons (pe_callB (call_min2 rfl) (by rfl) T.n_min (by decide +kernel) (pa_cons (pe_callB call_len_seq (by rfl) T.n_len PySem.boot_len (pa_cons (pv 2) pa_nil)) (pa_cons (pe_ix ix_list (pe_lst (pa_cons pe_int (pa_cons pe_int (pa_cons pe_int (pa_cons pe_int (pa_cons pe_int (pa_cons pe_int pa_nil))))))) (pe_op op_mod (pe_call G_law_draw R_law_draw (by rfl) g_law_draw k_law_draw b_law_draw .nil pass0 (pa_cons (pv 0) pa_nil)) pe_int) (fun _ _ => rfl)) pa_nil))) pa_nil))))) (pss_cons (ps_set (i := 7) sc_bound.nd rfl (Or.inl rfl) (pe_callTy call_tuple_of (by rfl) T.n_tuple (by decide +kernel) (pa_cons (pe_lc (own := [("x", 11)]) rfl sc_bound.nd (pi_list (pv 6)) (blkOk_by (N := ["draws", "deep", "pool", "names", "kinds", "pick", "args", "given", "name", "inner_v", "arity", "x"]) (sc := defScope (top 70)) (by decide +kernel)) (fun _ _ _ _ _ => (pg_name (i := 11) sc_bound.nd rfl (Or.inl rfl))) (fun _ _ _ _ _ => pts_nil) (fun _ _ _ _ _ => (pe_ix (ix_listK (K := K) rfl) (pv 2) (pe_op op_mod (pe_call G_law_draw R_law_draw (by rfl) g_law_draw k_law_draw b_law_draw .nil pass0 (pa_cons (pv 0) pa_nil)) (pe_callB (call_len_seqK (K := K) rfl) (by rfl) T.n_len PySem.boot_len (pa_cons (pv 2) pa_nil))) (fun _ _ => rfl)))) pa_nil))) (pss_cons (ps_set (i := 8) sc_bound.nd rfl (Or.inl rfl) (pe_ix ix_list (pe_lst (pa_cons pe_str (pa_cons pe_str (pa_cons pe_str pa_nil)))) (pe_op op_mod (pe_call G_law_draw R_law_draw (by rfl) g_law_draw k_law_draw b_law_draw .nil pass0 (pa_cons (pv 0) pa_nil)) pe_int) (fun _ _ => rfl))) (pss_cons (ps_if (PW.pt (pw_or (pt_cmpR op_eq (pv 5) pe_str (nomark _)) (pw_or1 (pt_cmpR op_eq (pv 5) pe_str (nomark _))))) (pss_one (ps_ret (pe_tup (pa_cons (pv 5) (pa_cons (pe_callTy call_tuple_of (by rfl) T.n_tuple (by decide +kernel) (pa_cons (pv 6) pa_nil)) (pa_cons (pe_call G_law_formula R_law_formula (by rfl) g_law_formula k_law_formula b_law_formula .nil pass0 (pa_cons (pv 0) (pa_cons (pe_op op_sub (pv 1) pe_int) (pa_cons (pv 2) (pa_cons (pv 3) (pa_cons (pv 4) pa_nil)))))) pa_nil)))))) pss_nil) (pss_cons (ps_if (pt_cmpR op_eq (pv 5) pe_str (nomark _)) (pss_cons (ps_set (i := 9) sc_bound.nd rfl (Or.inl rfl) (pe_call G_law_within R_law_within (by rfl) g_law_within k_law_within b_law_within .nil pass0 (pa_cons (pv 3) (pa_cons (pv 8) (pa_cons (pe_callB call_len_seq (by rfl) T.n_len PySem.boot_len (pa_cons (pv 6) pa_nil)) (pa_cons pe_int pa_nil)))))) (pss_one (ps_ret (pe_tup (pa_cons pe_str (pa_cons (pv 8) (pa_cons (pe_callTy call_tuple_of (by rfl) T.n_tuple (by decide +kernel) (pa_cons (pv 6) pa_nil)) (pa_cons (pe_call G_law_formula R_law_formula (by rfl) g_law_formula k_law_formula b_law_formula .nil pass0 (pa_cons (pv 0) (pa_cons (pe_op op_sub (pv 1) pe_int) (pa_cons (pv 2) (pa_cons (pv 9) (pa_cons (pv 4) pa_nil)))))) (pa_cons (pv 7) pa_nil))))))))) pss_nil) (pss_cons (ps_if (pt_cmpR op_eq (pv 5) pe_str (nomark _)) (pss_cons (ps_set (i := 9) sc_bound.nd rfl (Or.inl rfl) (pe_call G_law_within R_law_within (by rfl) g_law_within k_law_within b_law_within .nil pass0 (pa_cons (pe_call G_law_barred R_law_barred (by rfl) g_law_barred k_law_barred b_law_barred .nil pass0 (pa_cons (pv 3) pa_nil)) (pa_cons (pv 8) (pa_cons (pe_callB call_len_seq (by rfl) T.n_len PySem.boot_len (pa_cons (pv 6) pa_nil)) (pa_cons pe_int pa_nil)))))) (pss_one (ps_ret (pe_tup (pa_cons pe_str (pa_cons (pv 8) (pa_cons (pe_callTy call_tuple_of (by rfl) T.n_tuple (by decide +kernel) (pa_cons (pv 6) pa_nil)) (pa_cons (pe_call G_law_formula R_law_formula (by rfl) g_law_formula k_law_formula b_law_formula .nil pass0 (pa_cons (pv 0) (pa_cons (pe_op op_sub (pv 1) pe_int) (pa_cons (pv 2) (pa_cons (pv 9) (pa_cons (pv 4) pa_nil)))))) (pa_cons (pv 7) pa_nil))))))))) pss_nil) (pss_cons (ps_if (pt_cmpR op_eq (pv 5) pe_str (nomark _)) (pss_cons (ps_set (i := 6) sc_bound.nd rfl (Or.inl rfl) (pe_call G_law_some_of R_law_some_of (by rfl) g_law_some_of k_law_some_of b_law_some_of .nil pass0 (pa_cons (pv 0) (pa_cons (pv 2) (pa_cons pe_int pa_nil))))) (pss_cons (ps_set (i := 7) sc_bound.nd rfl (Or.inl rfl) (pe_tup (pa_cons (pe_ix ix_list (pv 2) (pe_op op_mod (pe_call G_law_draw R_law_draw (by rfl) g_law_draw k_law_draw b_law_draw .nil pass0 (pa_cons (pv 0) pa_nil)) (pe_callB call_len_seq (by rfl) T.n_len PySem.boot_len (pa_cons (pv 2) pa_nil))) (fun _ _ => rfl)) (pa_cons (pe_ix ix_list (pv 2) (pe_op op_mod (pe_call G_law_draw R_law_draw (by rfl) g_law_draw k_law_draw b_law_draw .nil pass0 (pa_cons (pv 0) pa_nil)) (pe_callB call_len_seq (by rfl) T.n_len PySem.boot_len (pa_cons (pv 2) pa_nil))) (fun _ _ => rfl)) pa_nil)))) (pss_one (ps_ret (pe_tup (pa_cons pe_str (pa_cons (pe_callTy call_tuple_of (by rfl) T.n_tuple (by decide +kernel) (pa_cons (pv 6) pa_nil)) (pa_cons (pe_call G_law_formula R_law_formula (by rfl) g_law_formula k_law_formula b_law_formula .nil pass0 (pa_cons (pv 0) (pa_cons (pe_op op_sub (pv 1) pe_int) (pa_cons (pv 2) (pa_cons (pv 3) (pa_cons (pv 4) pa_nil)))))) (pa_cons (pv 7) pa_nil))))))))) pss_nil) (pss_cons (ps_set (i := 10) sc_bound.nd rfl (Or.inl rfl) (pe_op op_mod (pe_call G_law_draw R_law_draw (by rfl) g_law_draw k_law_draw b_law_draw .nil pass0 (pa_cons (pv 0) pa_nil)) pe_int)) (pss_cons (ps_set (i := 9) sc_bound.nd rfl (Or.inl rfl) (pe_call G_law_within R_law_within (by rfl) g_law_within k_law_within b_law_within .nil pass0 (pa_cons (pv 3) (pa_cons (pv 8) (pa_cons (pv 10) (pa_cons pe_int pa_nil)))))) (pss_one (ps_ret (pe_tup (pa_cons pe_str (pa_cons (pv 8) (pa_cons (pv 10) (pa_cons (pe_call G_law_formula R_law_formula (by rfl) g_law_formula k_law_formula b_law_formula .nil pass0 (pa_cons (pv 0) (pa_cons (pe_op op_sub (pv 1) pe_int) (pa_cons (pv 2) (pa_cons (pv 9) (pa_cons (pv 4) pa_nil)))))) pa_nil)))))))))))))))))), ?_⟩
    obtain ⟨bp, rfl, _⟩ := strsL ga.dp
    obtain ⟨kl, kl0, klS, dk0⟩ := ga.dk
    obtain ⟨bk, rfl, hbk⟩ := strsL dk0
    have p2 := ga.po.two
    have p20 := ga.po.few
    have lp : (pool.map V.str).length = pool.length := List.length_map ..
    -- pick
    refine ⟨_, rfl, _, rfl, d, l, rfl, ga.dr, fun z1 H1 _ _ dr1 k1 => ?_⟩
    have ga1 := ga.kp k1 dr1
    obtain ⟨pick, hpick0, hat⟩ := atI_str (as := kl) z1 kl0
    have hpick := klS pick hpick0
    have hbk1 := SqL.kpA hbk (far_strs _) ga.dr k1
    refine ⟨_, rfl, bk, _, rfl, .inl hbk1, _, _, rfl, rfl, (by rw [List.length_map]; omega), bk, _, _, _, rfl, rfl, hbk1, hat, ?_⟩
    refine ⟨_, rfl, bp, _, rfl, .inl (strsR ga1.dp), rfl, _, rfl, ?_⟩
    refine cF (k := decide (V.int ((pool.map V.str).length : Nat) = V.int 1)) (decide_eq_false fun z => by have := V.int.inj z; omega) (iteF ?_)
    -- args
    refine ⟨_, rfl, _, rfl, _, rfl, bp, _, rfl, .inl (strsR ga1.dp), ?_⟩
    refine ⟨(by show 6 ≤ sizeLine; decide), fun c nc => ?_⟩
    have ga2 := ga1.same (same_upd (o := .lst [.int 1, .int 1, .int 1, .int 2, .int 2, .int 3]) nc)
    have ncd := (dr1.ne nc).1
    refine ⟨_, rfl, d, l, rfl, ga2.dr, fun z2 H2 _ _ dr2 k2 => ?_⟩
    have ga3 := ga2.kp k2 dr2
    have kk3 : Kp d H H2 := (k1.trans (.of (same_upd nc))).trans k2
    obtain ⟨v6, hv6, hat6⟩ := atI_mod (xs := [.int 1, .int 1, .int 1, .int 2, .int 2, .int 3]) z2 (by decide)
    obtain ⟨j, rfl, j1, j3⟩ : ∃ j : Nat, v6 = .int (j : Int) ∧ 1 ≤ j ∧ j ≤ 3 := by
      simp only [List.mem_cons, List.not_mem_nil, or_false] at hv6
      rcases hv6 with rfl | rfl | rfl | rfl | rfl | rfl
      · exact ⟨1, rfl, by decide, by decide⟩
      · exact ⟨1, rfl, by decide, by decide⟩
      · exact ⟨1, rfl, by decide, by decide⟩
      · exact ⟨2, rfl, by decide, by decide⟩
      · exact ⟨2, rfl, by decide, by decide⟩
      · exact ⟨3, rfl, by decide, by decide⟩
    refine ⟨_, _, rfl, rfl, (by show (0 : Int) < 6; decide), c, _, _, _, rfl, rfl, SqL.of (k2 _ _ upd_same ncd), hat6, ?_⟩
    have em : (if (j : Int) < ((pool.map V.str).length : Int) then (j : Int) else ((pool.map V.str).length : Int)) = ((min j pool.length : Nat) : Int) := by
      rw [lp]
      split <;> omega
    refine ⟨_, _, rfl, ?_⟩
    refine ⟨d, l, .ref bp, pool, min j pool.length, by rw [em]; rfl, dr2, Dp.wod dr2 ga3.dp (good_strl _), Nat.min_le_right _ _, p20, fun H3 ra ch dr3 k3 dch lch sub nd => ?_⟩
    have ga4 := ga3.kp k3 dr3
    have kk4 := kk3.trans k3
    have hra : SqL K H3 ra (ch.map V.str) := strsR (Dp.same wo_sub dch)
    have own : OwnOk ch := ⟨by omega, by omega, fun x hx => ga.po.nm x (sub x hx), nd ga.po.nd⟩
    have lc : (ch.map V.str).length = ch.length := List.length_map ..
    -- given
    refine ⟨_, rfl, ra, rfl, ⟨_, hra⟩, fun M nM => ?_⟩
    obtain ⟨nMd, nMl⟩ := dr3.ne nM
    refine lc_it (walk_list (K := K) (a := ra) (xs := ch.map V.str)) (fun i H5 => ∃ as : List Str, DrA H5 d l ∧ Kp d H3 H5 ∧ H5 M = some (.lst (as.map V.str)) ∧ as.length = i ∧ ∀ x, x ∈ as → x ∈ pool) ⟨[], dr3.same (same_upd nM), .of (same_upd nM), upd_same, rfl, fun x hx => nomatch hx⟩ (fun i H5 _ ⟨_, _, k5, _⟩ => SqL.kpA hra (far_strs _) dr3 k5) ?_ ?_
    · rintro i y H5 H6 hi ⟨as, dr5, k5, hM, len, hs⟩ ⟨rfl, _⟩
      refine ⟨rfl, _, rfl, _, rfl, d, l, rfl, dr5, fun z6 H7 _ _ dr7 k7 => ?_⟩
      have ga7 := ga4.kp (k5.trans k7) dr7
      obtain ⟨x, hx, hax⟩ := atI_str (as := pool) z6 (by omega)
      have hM7 := k7 _ _ hM nMd
      refine ⟨_, rfl, bp, _, rfl, .inl (strsR ga7.dp), _, _, rfl, rfl, (by omega), bp, _, _, _, rfl, rfl, strsR ga7.dp, hax, _, hM7, ?_, as ++ [x], dr7.kp Kp.upd ⟨nMd, nMl⟩, kp_own (k5.trans k7) nM, ?_, ?_, ?_⟩
      · rw [List.length_map]
        exact small1000 (by omega)
      · rw [upd_same, List.map_append]; rfl
      · rw [List.length_append, len]; rfl
      · intro y hy
        rcases List.mem_append.mp hy with hy | hy
        · exact hs y hy
        · rw [List.mem_singleton.mp hy]; exact hx
    · rintro H5 ⟨as, dr5, k5, hM, len, hva⟩
      have nas : Names as := fun x hx => ga.po.nm x (hva x hx)
      rw [lc] at len
      refine ⟨M, _, rfl, .inl ⟨SqL.of hM, fun u nu => ?_⟩⟩
      have su := same_upd (o := .tup (as.map V.str)) nu
      -- name
      refine ⟨(by show 3 ≤ sizeLine; decide), fun c2 nc2 => ?_⟩
      have sc2 := same_upd (o := .lst ((["r", "s", "e"] : List Str).map V.str)) nc2
      have dr6 := (dr5.same su).same sc2
      have nc2d := ((dr5.same su).ne nc2).1
      refine ⟨_, rfl, d, l, rfl, dr6, fun z3 H7 _ _ dr7 k7 => ?_⟩
      obtain ⟨nm, hnm, hatn⟩ := atI_str (as := ["r", "s", "e"]) z3 (by decide)
      have nmN : Nm nm := by
        simp only [List.mem_cons, List.not_mem_nil, or_false] at hnm
        rcases hnm with rfl | rfl | rfl <;> exact nm_of (by decide +kernel)
      have nm5 : nm ∈ five := by
        simp only [List.mem_cons, List.not_mem_nil, or_false] at hnm
        rcases hnm with rfl | rfl | rfl <;> decide +kernel
      refine ⟨_, _, rfl, rfl, (by show (0 : Int) < 3; decide), c2, _, _, _, rfl, rfl, SqL.of (k7 _ _ upd_same nc2d), hatn, ?_⟩
      have k37 : Kp d H3 H7 := ((k5.trans (.of su)).trans (.of sc2)).trans k7
      have kk7 := kk4.trans k37
      have ga7 := ga4.kp k37 dr7
      have hra7 : SqL K H7 ra (ch.map V.str) := SqL.kpA hra (far_strs _) dr3 k37
      have hu7 : SqT K H7 u (as.map V.str) := SqT.kl (.dr k7 dr6) (Same.sqt sc2 (.inl (.inl upd_same)))
      clear hatn hat6 hat hra hM
      have n1 : 1 ≤ m ∧ m ≤ n := by omega
      have f60 := ga.few
      simp only [kindsL, List.mem_cons, List.not_mem_nil, or_false] at hpick
      rcases hpick with rfl | rfl | rfl | rfl | rfl | rfl
      · refine ⟨_, rfl, rfl, _, rfl, cT (k := decide (V.str "some" = V.str "some")) (by decide +kernel) (iteT ?_)⟩
        refine ⟨_, rfl, _, rfl, ra, _, rfl, .inl ⟨hra7, fun u2 nu2 => ?_⟩⟩
        have su2 := same_upd (o := .tup (ch.map V.str)) nu2
        have ga8 := ga7.same su2
        refine ⟨_, rfl, _, rfl, _, _, rfl, rfl, _, rfl, _, rfl, _, rfl, d, l, _, .ref bp, vn, .ref bk, pool, ns, Γ, m, rfl, by omega, n1, ⟨ga8.dr, ga8.dp, ga8.dn, ga8.dk, ga8.ok, ga8.po, by omega⟩, fun H8 rf g dr8 k8 dg hg => ?_⟩
        refine ⟨(by show 3 ≤ sizeLine; decide), fun rr nr => ?_⟩
        have s8 := same_upd (o := .tup [.str "some", .ref u2, rf]) nr
        refine q _ _ (.mk (.ex ch) [g]) (dr8.same s8) (((kk7.trans (.of su2)).trans k8).trans (.of s8)) ?_ (.quant (.inl rfl) own sub hg)
        rw [Fm.data_mk]
        exact .tup (.inl (.inl upd_same)) (.cons (.str _) (.cons (tS_of (Same.sqt s8 (SqT.kl (.dr k8 ga8.dr) (.inl (.inl upd_same))))) (.cons (Dp.same s8 dg) .nil)))
      · refine ⟨_, rfl, rfl, _, rfl, cF (k := decide (V.str "all" = V.str "some")) (by decide +kernel) ⟨_, rfl, rfl, _, rfl, cT (k := decide (V.str "all" = V.str "all")) (by decide +kernel) ?_⟩⟩
        refine ⟨_, rfl, _, rfl, ra, _, rfl, .inl ⟨hra7, fun u2 nu2 => ?_⟩⟩
        have su2 := same_upd (o := .tup (ch.map V.str)) nu2
        have ga8 := ga7.same su2
        refine ⟨_, rfl, _, rfl, _, _, rfl, rfl, _, rfl, _, rfl, _, rfl, d, l, _, .ref bp, vn, .ref bk, pool, ns, Γ, m, rfl, by omega, n1, ⟨ga8.dr, ga8.dp, ga8.dn, ga8.dk, ga8.ok, ga8.po, by omega⟩, fun H8 rf g dr8 k8 dg hg => ?_⟩
        refine ⟨(by show 3 ≤ sizeLine; decide), fun rr nr => ?_⟩
        have s8 := same_upd (o := .tup [.str "all", .ref u2, rf]) nr
        refine q _ _ (.mk (.al ch) [g]) (dr8.same s8) (((kk7.trans (.of su2)).trans k8).trans (.of s8)) ?_ (.quant (.inr rfl) own sub hg)
        rw [Fm.data_mk]
        exact .tup (.inl (.inl upd_same)) (.cons (.str _) (.cons (tS_of (Same.sqt s8 (SqT.kl (.dr k8 ga8.dr) (.inl (.inl upd_same))))) (.cons (Dp.same s8 dg) .nil)))
      · refine ⟨_, rfl, rfl, _, rfl, cF (k := decide (V.str "lfp" = V.str "some")) (by decide +kernel) ⟨_, rfl, rfl, _, rfl, cF (k := decide (V.str "lfp" = V.str "all")) (by decide +kernel) ?_⟩⟩
        refine ⟨_, rfl, rfl, _, rfl, cT (k := decide (V.str "lfp" = V.str "lfp")) (by decide +kernel) ?_⟩
        refine ⟨_, rfl, _, rfl, _, rfl, ra, _, rfl, .inl hra7, ?_⟩
        refine ⟨vn, nm, (ch.map V.str).length, 1, ns, rfl, ga7.dn, by omega, fun H8 ri s8 di => ?_⟩
        rw [lc] at di
        have ga8 := ga7.same s8
        have wl := within_len ns (nm, ch.length, 1)
        refine ⟨_, rfl, _, rfl, ra, _, rfl, .inl ⟨s8.seq hra7, fun u2 nu2 => ?_⟩⟩
        have su2 := same_upd (o := .tup (ch.map V.str)) nu2
        have ga9 := ga8.same su2
        refine ⟨_, rfl, _, rfl, _, _, rfl, rfl, _, rfl, _, rfl, _, rfl, d, l, _, .ref bp, ri, .ref bk, pool, within ns (nm, ch.length, 1), Hd.env (.lfp nm ch as) Γ, m, rfl, by omega, n1, ⟨ga9.dr, ga9.dp, Dp.same su2 di, ga9.dk, ga9.ok.within nmN nm5 (by show ch.length ≤ 3; omega) (by show 1 ≤ 3; decide) (fun x => rfl), ga9.po, by omega⟩, fun H9 rf g dr9 k9 dg hg => ?_⟩
        refine ⟨_, rfl, (by show 5 ≤ sizeLine; decide), fun rr nr => ?_⟩
        have s9 := same_upd (o := .tup [.str "lfp", .str nm, .ref u2, rf, .ref u]) nr
        refine q _ _ (.mk (.lfp nm ch as) [g]) (dr9.same s9) ((((kk7.trans (.of s8)).trans (.of su2)).trans k9).trans (.of s9)) ?_ (.lfp nmN own len nas sub hva hg)
        rw [Fm.data_mk]
        exact .tup (.inl (.inl upd_same)) (.cons (.str _) (.cons (.str _) (.cons (tS_of (Same.sqt s9 (SqT.kl (.dr k9 ga9.dr) (.inl (.inl upd_same))))) (.cons (Dp.same s9 dg) (.cons (tS_of (Same.sqt s9 (SqT.kl (.dr k9 ga9.dr) (Same.sqt su2 (Same.sqt s8 hu7))))) .nil)))))
      · refine ⟨_, rfl, rfl, _, rfl, cF (k := decide (V.str "pfp" = V.str "some")) (by decide +kernel) ⟨_, rfl, rfl, _, rfl, cF (k := decide (V.str "pfp" = V.str "all")) (by decide +kernel) ?_⟩⟩
        refine ⟨_, rfl, rfl, _, rfl, cF (k := decide (V.str "pfp" = V.str "lfp")) (by decide +kernel) ?_⟩
        refine ⟨_, rfl, rfl, _, rfl, cT (k := decide (V.str "pfp" = V.str "pfp")) (by decide +kernel) ?_⟩
        refine ⟨_, rfl, vn, ns, rfl, ga7.dn, by omega, ga7.ok.md, fun H7b rb s7b db => ?_⟩
        refine ⟨_, rfl, _, rfl, ra, _, rfl, .inl (s7b.seq hra7), ?_⟩
        have bl := barred_len ns
        refine ⟨rb, nm, (ch.map V.str).length, 0, barred ns, rfl, db, by omega, fun H8 ri s8b di => ?_⟩
        have s8 := s7b.trans s8b
        rw [lc] at di
        have ga8 := ga7.same s8
        have wl := within_len (barred ns) (nm, ch.length, 0)
        refine ⟨_, rfl, _, rfl, ra, _, rfl, .inl ⟨s8.seq hra7, fun u2 nu2 => ?_⟩⟩
        have su2 := same_upd (o := .tup (ch.map V.str)) nu2
        have ga9 := ga8.same su2
        refine ⟨_, rfl, _, rfl, _, _, rfl, rfl, _, rfl, _, rfl, _, rfl, d, l, _, .ref bp, ri, .ref bk, pool, within (barred ns) (nm, ch.length, 0), Hd.env (.pfp nm ch as) Γ, m, rfl, by omega, n1, ⟨ga9.dr, ga9.dp, Dp.same su2 di, ga9.dk, ga9.ok.barred.within nmN nm5 (by show ch.length ≤ 3; omega) (by show 0 ≤ 3; decide) (fun x => rfl), ga9.po, by omega⟩, fun H9 rf g dr9 k9 dg hg => ?_⟩
        refine ⟨_, rfl, (by show 5 ≤ sizeLine; decide), fun rr nr => ?_⟩
        have s9 := same_upd (o := .tup [.str "pfp", .str nm, .ref u2, rf, .ref u]) nr
        refine q _ _ (.mk (.pfp nm ch as) [g]) (dr9.same s9) ((((kk7.trans (.of s8)).trans (.of su2)).trans k9).trans (.of s9)) ?_ (.pfp nmN own len nas sub hva hg)
        rw [Fm.data_mk]
        exact .tup (.inl (.inl upd_same)) (.cons (.str _) (.cons (.str _) (.cons (tS_of (Same.sqt s9 (SqT.kl (.dr k9 ga9.dr) (.inl (.inl upd_same))))) (.cons (Dp.same s9 dg) (.cons (tS_of (Same.sqt s9 (SqT.kl (.dr k9 ga9.dr) (Same.sqt su2 (Same.sqt s8 hu7))))) .nil)))))
      · refine ⟨_, rfl, rfl, _, rfl, cF (k := decide (V.str "tc" = V.str "some")) (by decide +kernel) ⟨_, rfl, rfl, _, rfl, cF (k := decide (V.str "tc" = V.str "all")) (by decide +kernel) ?_⟩⟩
        refine ⟨_, rfl, rfl, _, rfl, cF (k := decide (V.str "tc" = V.str "lfp")) (by decide +kernel) ?_⟩
        refine ⟨_, rfl, rfl, _, rfl, cF (k := decide (V.str "tc" = V.str "pfp")) (by decide +kernel) ?_⟩
        refine ⟨_, rfl, rfl, _, rfl, cT (k := decide (V.str "tc" = V.str "tc")) (by decide +kernel) ?_⟩
        refine ⟨_, rfl, _, rfl, d, l, .ref bp, pool, 2, rfl, ga7.dr, Dp.wod ga7.dr ga7.dp (good_strl _), p2, p20, fun H8 ra2 ch2 dr8 k8 dch2 lch2 sub2 nd2 => ?_⟩
        have ga8 := ga7.kp k8 dr8
        have hra8 : SqL K H8 ra2 (ch2.map V.str) := strsR (Dp.same wo_sub dch2)
        refine ⟨_, rfl, _, rfl, d, l, rfl, dr8, fun z5 H9 _ _ dr9 k9 => ?_⟩
        have ga9 := ga8.kp k9 dr9
        obtain ⟨x, hx, hax⟩ := atI_str (as := pool) z5 (by omega)
        refine ⟨_, rfl, bp, _, rfl, .inl (strsR ga9.dp), _, _, rfl, rfl, (by omega), bp, _, _, _, rfl, rfl, strsR ga9.dp, hax, ?_⟩
        refine ⟨_, rfl, _, rfl, d, l, rfl, dr9, fun z6 H10 _ _ dr10 k10 => ?_⟩
        have ga10 := ga9.kp k10 dr10
        obtain ⟨y, hy, hay⟩ := atI_str (as := pool) z6 (by omega)
        refine ⟨_, rfl, bp, _, rfl, .inl (strsR ga10.dp), _, _, rfl, rfl, (by omega), bp, _, _, _, rfl, rfl, strsR ga10.dp, hay, ?_⟩
        refine ⟨(by show 2 ≤ sizeLine; decide), fun ug nug => ?_⟩
        have sg := same_upd (o := .tup [.str x, .str y]) nug
        have ga11 := ga10.same sg
        have k8_11 : Kp d H8 _ := (k9.trans k10).trans (.of sg)
        refine ⟨_, rfl, ra2, _, rfl, .inl ⟨SqL.kpA hra8 (far_strs _) dr8 k8_11, fun u2 nu2 => ?_⟩⟩
        have su2 := same_upd (o := .tup (ch2.map V.str)) nu2
        have ga12 := ga11.same su2
        refine ⟨_, rfl, _, rfl, _, _, rfl, rfl, _, rfl, _, rfl, _, rfl, d, l, _, .ref bp, vn, .ref bk, pool, ns, Γ, m, rfl, by omega, n1, ⟨ga12.dr, ga12.dp, ga12.dn, ga12.dk, ga12.ok, ga12.po, by omega⟩, fun H13 rf g dr13 k13 dg hg => ?_⟩
        refine ⟨_, rfl, (by show 4 ≤ sizeLine; decide), fun rr nr => ?_⟩
        have s9 := same_upd (o := .tup [.str "tc", .ref u2, rf, .ref ug]) nr
        have xy : ∀ z, z ∈ [x, y] → z ∈ pool := fun z hz => by
          rcases List.mem_cons.mp hz with rfl | hz
          · exact hx
          · rw [List.mem_singleton.mp hz]; exact hy
        refine q _ _ (.mk (.tc ch2 [x, y]) [g]) (dr13.same s9) (((((kk7.trans k8).trans k8_11).trans (.of su2)).trans k13).trans (.of s9)) ?_ (.tc lch2 (fun z hz => ga.po.nm z (sub2 z hz)) (nd2 ga.po.nd) rfl (fun z hz => ga.po.nm z (xy z hz)) sub2 xy hg)
        rw [Fm.data_mk]
        exact .tup (.inl (.inl upd_same)) (.cons (.str _) (.cons (tS_of (Same.sqt s9 (SqT.kl (.dr k13 ga12.dr) (.inl (.inl upd_same))))) (.cons (Dp.same s9 dg) (.cons (tS_of (as := [x, y]) (Same.sqt s9 (SqT.kl (.dr k13 ga12.dr) (Same.sqt su2 (.inl (.inl upd_same)))))) .nil))))
      · refine ⟨_, rfl, rfl, _, rfl, cF (k := decide (V.str "guess" = V.str "some")) (by decide +kernel) ⟨_, rfl, rfl, _, rfl, cF (k := decide (V.str "guess" = V.str "all")) (by decide +kernel) ?_⟩⟩
        refine ⟨_, rfl, rfl, _, rfl, cF (k := decide (V.str "guess" = V.str "lfp")) (by decide +kernel) ?_⟩
        refine ⟨_, rfl, rfl, _, rfl, cF (k := decide (V.str "guess" = V.str "pfp")) (by decide +kernel) ?_⟩
        refine ⟨_, rfl, rfl, _, rfl, cF (k := decide (V.str "guess" = V.str "tc")) (by decide +kernel) ?_⟩
        refine ⟨_, rfl, d, l, rfl, ga7.dr, fun z4 H8 _ _ dr8 k8 => ?_⟩
        have ga8 := ga7.kp k8 dr8
        refine ⟨_, _, rfl, rfl, (by show (0 : Int) < 2; decide), ?_⟩
        obtain ⟨ka, hka, ka1⟩ : ∃ k : Nat, z4 % 2 = (k : Int) ∧ k ≤ 1 := ⟨(z4 % 2).toNat, by omega, by omega⟩
        show gName 10 (V.int (z4 % 2)) _ _ _
        rw [hka]
        refine ⟨_, rfl, _, rfl, _, rfl, ?_⟩
        refine ⟨vn, nm, ka, 0, ns, rfl, ga8.dn, by omega, fun H9 ri s9 di => ?_⟩
        have ga9 := ga8.same s9
        have wl := within_len ns (nm, ka, 0)
        refine ⟨_, rfl, _, rfl, ?_⟩
        refine ⟨_, rfl, _, rfl, _, _, rfl, rfl, _, rfl, _, rfl, _, rfl, d, l, _, .ref bp, ri, .ref bk, pool, within ns (nm, ka, 0), Hd.env (.gs nm ka) Γ, m, rfl, by omega, n1, ⟨ga9.dr, ga9.dp, di, ga9.dk, ga9.ok.within nmN nm5 (by show ka ≤ 3; omega) (by show 0 ≤ 3; decide) (fun x => rfl), ga9.po, by omega⟩, fun H10 rf g dr10 k10 dg hg => ?_⟩
        refine ⟨(by show 4 ≤ sizeLine; decide), fun rr nr => ?_⟩
        have s10 := same_upd (o := .tup [.str "guess", .str nm, .int (ka : Nat), rf]) nr
        refine q _ _ (.mk (.gs nm ka) [g]) (dr10.same s10) ((((kk7.trans k8).trans (.of s9)).trans k10).trans (.of s10)) ?_ (.gs nmN (by omega) hg)
        rw [Fm.data_mk]
        exact .tup (.inl (.inl upd_same)) (.cons (.str _) (.cons (.str _) (.cons (.int _) (.cons (Dp.same s10 dg) .nil))))
end
def spNamesL (K : PySem.W.Frag) : Sp := fun vs H Q _ => ∃ (d l : Addr), vs = [.ref d] ∧ DrA H d l ∧ ∀ (H' : Hp) (r : V) (ns : List NE) (Γ : ArE), DrA H' d l → Kp d H H' → Dp K H' r (nsD ns) → NOk ns Γ → ns.length ≤ 3 → Q r H'
def namesL : List NE := [(("e" : Str), 2, 0), (("p" : Str), 1, 0), (("q" : Str), 0, 0)]
def envL : ArE := fun x => if x = "e" then some 2 else if x = "p" then some 1 else some 0
theorem namesL_ok : NOk namesL envL := by
  have c : ∀ p, p ∈ namesL → p = (("e" : Str), 2, 0) ∨ p = (("p" : Str), 1, 0) ∨ p = (("q" : Str), 0, 0) := fun p hp => by simpa [namesL] using hp
  refine ⟨fun p hp => ?_, fun p hp => ?_, fun p hp => ?_, fun p hp => ?_, fun p q hp hq e => ?_, fun p hp => ?_⟩
  · rcases c p hp with rfl | rfl | rfl <;> exact nm_of (by decide +kernel)
  · rcases c p hp with rfl | rfl | rfl <;> decide
  · rcases c p hp with rfl | rfl | rfl <;> decide
  · rcases c p hp with rfl | rfl | rfl <;> decide +kernel
  · rcases c p hp with rfl | rfl | rfl <;> rcases c q hq with rfl | rfl | rfl <;> first | rfl | exact absurd e (by decide +kernel)
  · rcases c p hp with rfl | rfl | rfl <;> decide +kernel
theorem NOk.sub {ns ms : List NE} {Γ : ArE} (k : NOk ns Γ) (h : ∀ p, p ∈ ms → p ∈ ns) : NOk ms Γ :=
  ⟨fun p hp => k.nm p (h p hp), fun p hp => k.ar p (h p hp), fun p hp => k.md p (h p hp), fun p hp => k.fit p (h p hp), fun p q hp hq e => k.uni p q (h p hp) (h q hq) e, fun p hp => k.fv p (h p hp)⟩
theorem cut_map {xs : List V} {j : Nat} (h : xs.length < 1000) (k : j ≤ xs.length) : cutV xs none (some ((j : Nat) : Int)) = xs.take j := by
  unfold cutV
  have e1 : HT.sIx xs.length 0 none = 0 := rfl
  have e2 : HT.sIx xs.length xs.length (some ((j : Nat) : Int)) = j := by
    simp only [HT.sIx]
    split <;> omega
  rw [e1, e2]
  rfl
section
variable {P : Program} {w : World} {K : PySem.W.Frag} {mg : Str → Option Value} {base : Heap}
theorem DpAll.takeN {H : Hp} : ∀ {vs : List V} {ts : List PyData} (j : Nat), DpAll K H vs ts → DpAll K H (vs.take j) (ts.take j)
  | _, _, 0, _ => by rw [List.take_zero, List.take_zero]; exact .nil
  | _, _, j + 1, .nil => .nil
  | _, _, j + 1, .cons a t => .cons a (DpAll.takeN j t)
theorem sc_names : FnScope ["draws"] ["draws"] (defScope (top 72)) := ⟨rfl, rfl, rfl, by decide +kernel, rfl, by decide +kernel, by decide +kernel⟩
theorem has_names (D : Def K mg "_law_names" ["draws"] (top 72)) (T : Txt mg) (C1 : Has P w K mg base 2 "_law_draw" ["draws"] spDraw) : Has P w K mg base 3 "_law_names" ["draws"] (spNamesL K) := D.has fun f fd F => by
  obtain ⟨f1, fd1, G_law_draw, g_law_draw, k_law_draw, b_law_draw⟩ := C1
  refine F.ok sc_names (fun vs H Q E h => ?_) (fun cdv A outer s H vs Q E hr h => ?_)
  · obtain ⟨d, l, rfl, _⟩ := h; rfl
  · obtain ⟨d, l, rfl, dr, q⟩ := h
    have R_law_draw : Room 2 _ := hr
    refine ⟨_, PSs.nox (pss_one (ps_ret (pe_slice sl_list (pe_lst (pa_cons (pe_tup (pa_cons pe_str (pa_cons pe_int (pa_cons pe_int pa_nil)))) (pa_cons (pe_tup (pa_cons pe_str (pa_cons pe_int (pa_cons pe_int pa_nil)))) (pa_cons (pe_tup (pa_cons pe_str (pa_cons pe_int (pa_cons pe_int pa_nil)))) pa_nil)))) po_none (po_some (pe_op op_add pe_int (pe_op op_mod (pe_call G_law_draw R_law_draw (by rfl) g_law_draw k_law_draw b_law_draw .nil pass0 (pa_cons (pv 0) pa_nil)) pe_int)))))), ?_⟩
    refine ⟨(by show 3 ≤ sizeLine; decide), fun t1 n1 => ⟨(by show 3 ≤ sizeLine; decide), fun t2 n2 => ⟨(by show 3 ≤ sizeLine; decide), fun t3 n3 => ?_⟩⟩⟩
    have s1 := same_upd (o := .tup [.str "e", .int 2, .int 0]) n1
    have s2 := same_upd (o := .tup [.str "p", .int 1, .int 0]) n2
    have s3 := same_upd (o := .tup [.str "q", .int 0, .int 0]) n3
    refine ⟨(by show 3 ≤ sizeLine; decide), fun c nc => ?_⟩
    have s4 := same_upd (o := .lst [.ref t1, .ref t2, .ref t3]) nc
    have s14 := ((s1.trans s2).trans s3).trans s4
    have dr4 := dr.same s14
    have nd := ((dr.same ((s1.trans s2).trans s3)).ne nc).1
    have dall : DpAll K _ [.ref t1, .ref t2, .ref t3] (namesL.map nD) := .cons (nD_of (p := ("e", 2, 0)) (Same.sqt (s2.trans s3) (.inl (.inl upd_same)))) (.cons (nD_of (p := ("p", 1, 0)) (Same.sqt s3 (.inl (.inl upd_same)))) (.cons (nD_of (p := ("q", 0, 0)) (.inl (.inl upd_same))) .nil))
    refine ⟨_, rfl, d, l, rfl, dr4, fun z H5 _ _ dr5 k5 => ?_⟩
    refine ⟨_, _, rfl, rfl, (by show (0 : Int) < 3; decide), ?_⟩
    obtain ⟨j, hj, j2⟩ : ∃ k : Nat, z % 3 = (k : Int) ∧ k ≤ 2 := ⟨(z % 3).toNat, by omega, by omega⟩
    refine ⟨_, _, rfl, rfl, ?_⟩
    refine ⟨((1 + j : Nat) : Int), congrArg V.int (by omega), c, _, rfl, SqL.of (k5 _ _ upd_same nd), fun r nr => ?_⟩
    have s6 := same_upd (o := .lst (cutV [.ref t1, .ref t2, .ref t3] none (some ((1 + j : Nat) : Int)))) nr
    refine q _ (.ref r) (namesL.take (1 + j)) envL (dr5.same s6) (((Kp.of s14).trans k5).trans (.of s6)) (.lst (.inl (.inl upd_same)) ?_) (namesL_ok.sub fun p hp => List.mem_of_mem_take hp) (List.length_take_le' _ _)
    have ec := cut_map (xs := [.ref t1, .ref t2, .ref t3]) (j := 1 + j) (by show 3 < 1000; decide) (by show 1 + j ≤ 3; omega)
    revert s6
    rw [ec, List.map_take]
    intro s6
    exact DpAll.takeN _ (DpAll.same s6 (DpAll.kl (.dr k5 dr4) (DpAll.same s4 dall) (ns_noL _)))
theorem sc_formula : FnScope ["draws", "deep", "pool", "names", "kinds", "pick", "word", "many", "k"] ["draws", "deep", "pool", "names", "kinds"] (defScope (top 71)) := ⟨rfl, rfl, rfl, by decide +kernel, rfl, by decide +kernel, by decide +kernel⟩
theorem has_formula (D : Def K mg "_law_formula" ["draws", "deep", "pool", "names", "kinds"] (top 71)) (T : Txt mg) (C1 : Has P w K mg base 2 "_law_draw" ["draws"] spDraw) (C2 : Has P w K mg base 3 "_law_atom" ["draws", "pool", "names"] (spAtom K))
    (C3 : Has P w K mg base 1 "_law_turned" ["names"] (spMode K turned)) (C4 : ∀ n, Has P w K mg base (4 + 2 * n) "_law_formula" ["draws", "deep", "pool", "names", "kinds"] (spForm K n) → Has P w K mg base (4 + 2 * n + 1) "_law_bound" ["draws", "deep", "pool", "names", "kinds"] (spBound K (n + 1))) :
    ∀ n : Nat, Has P w K mg base (4 + 2 * n) "_law_formula" ["draws", "deep", "pool", "names", "kinds"] (spForm K n) := by
  obtain ⟨f1, fd1, G_law_draw, g_law_draw, k_law_draw, b_law_draw⟩ := C1
  obtain ⟨f2, fd2, G_law_atom, g_law_atom, k_law_atom, b_law_atom⟩ := C2
  obtain ⟨f3, fd3, G_law_turned, g_law_turned, k_law_turned, b_law_turned⟩ := C3
  intro n
  induction n with
  | zero =>
    refine D.has fun f fd F => F.ok sc_formula (fun vs H Q E h => ?_) (fun cdv A outer s H vs Q E hr h => ?_)
    · obtain ⟨d, l, k, vp, vn, vk, pool, ns, Γ, m, rfl, _⟩ := h; rfl
    · obtain ⟨d, l, k, vp, vn, vk, pool, ns, Γ, m, rfl, _, h0, _⟩ := h
      omega
  | succ n ih =>
    obtain ⟨f5, fd5, G_law_bound, g_law_bound, k_law_bound, b_law_bound⟩ := C4 n ih
    obtain ⟨f4, fd4, G_law_formula, g_law_formula, k_law_formula, b_law_formula⟩ := ih
    show Has P w K mg base (4 + 2 * n + 1 + 1) "_law_formula" ["draws", "deep", "pool", "names", "kinds"] (spForm K (n + 1))
    refine D.has fun f fd F => F.ok sc_formula (fun vs H Q E h => ?_) (fun cdv A outer s H vs Q E hr h => ?_)
    · obtain ⟨d, l, k, vp, vn, vk, pool, ns, Γ, m, rfl, _⟩ := h; rfl
    · obtain ⟨d, l, k, vp, vn, vk, pool, ns, Γ, m0, rfl, hk, h1, ga, q⟩ := h
      obtain ⟨m, rfl⟩ : ∃ m, m0 = m + 1 := ⟨m0 - 1, by omega⟩
      have R_law_draw : Room 2 _ := hr.mono (Nat.le_trans (Nat.le_trans (by decide) (Nat.le_add_right 4 (2 * n))) (Nat.le_add_right _ 1))
      have R_law_atom : Room 3 _ := hr.mono (Nat.le_trans (Nat.le_trans (by decide) (Nat.le_add_right 4 (2 * n))) (Nat.le_add_right _ 1))
      have R_law_turned : Room 1 _ := hr.mono (Nat.le_trans (Nat.le_trans (by decide) (Nat.le_add_right 4 (2 * n))) (Nat.le_add_right _ 1))
      have R_law_formula : Room (4 + 2 * n) _ := hr.mono (Nat.le_add_right _ 1)
      have R_law_bound : Room (4 + 2 * n + 1) _ := hr
      refine ⟨_, PSs.nox (pss_cons (ps_set (i := 5) sc_formula.nd rfl (Or.inl rfl) (pe_op op_mod (pe_call G_law_draw R_law_draw (by rfl) g_law_draw k_law_draw b_law_draw .nil pass0 (pa_cons (pv 0) pa_nil)) pe_int)) (pss_cons (ps_if (PW.pt (pw_or (pt_cmpR op_le (pv 1) pe_int (nomark _)) (pw_or1 (pt_cmpR op_eq (pv 5) pe_int (nomark _))))) (pss_one (ps_ret (pe_call G_law_atom R_law_atom (by rfl) g_law_atom k_law_atom b_law_atom .nil pass0 (pa_cons (pv 0) (pa_cons (pv 2) (pa_cons (pv 3) pa_nil)))))) pss_nil) (pss_cons (ps_if (pt_cmpR op_eq (pv 5) pe_int (nomark _)) (pss_one (ps_ret (pe_tup (pa_cons pe_str (pa_cons (pe_call G_law_formula R_law_formula (by rfl) g_law_formula k_law_formula b_law_formula .nil pass0 (pa_cons (pv 0) (pa_cons (pe_op op_sub (pv 1) pe_int) (pa_cons (pv 2) (pa_cons (pe_call G_law_turned R_law_turned (by rfl) g_law_turned k_law_turned b_law_turned .nil pass0 (pa_cons (pv 3) pa_nil)) (pa_cons (pv 4) pa_nil)))))) pa_nil))))) pss_nil) (pss_cons (ps_if (pt_cmpR op_lt (pv 5) pe_int (nomark _)) (pss_cons (ps_set (i := 6) sc_formula.nd rfl (Or.inl rfl) (pe_ix ix_list (pe_lst (pa_cons pe_str (pa_cons pe_str pa_nil))) (pe_op op_mod (pe_call G_law_draw R_law_draw (by rfl) g_law_draw k_law_draw b_law_draw .nil pass0 (pa_cons (pv 0) pa_nil)) pe_int) (fun _ _ => rfl))) (pss_cons (ps_set (i := 7) sc_formula.nd rfl (Or.inl rfl) (pe_ix ix_list (pe_lst (pa_cons pe_int (pa_cons pe_int (pa_cons pe_int (pa_cons pe_int (pa_cons pe_int (pa_cons pe_int pa_nil))))))) (pe_op op_mod (pe_call G_law_draw R_law_draw (by rfl) g_law_draw k_law_draw b_law_draw .nil pass0 (pa_cons (pv 0) pa_nil)) pe_int) (fun _ _ => rfl))) (pss_one (ps_ret (pe_tup (pa_cons (pv 6) (pa_cons (pe_callTy call_tuple_of (by rfl) T.n_tuple (by decide +kernel) (pa_cons (pe_lc (own := [("k", 8)]) rfl sc_formula.nd (pi_range1 (by rfl) T.n_range (pa_cons (pv 7) pa_nil)) (blkOk_by (N := ["draws", "deep", "pool", "names", "kinds", "pick", "word", "many", "k"]) (sc := defScope (top 71)) (by decide +kernel)) (fun _ _ _ _ _ => (pg_name (i := 8) sc_formula.nd rfl (Or.inl rfl))) (fun _ _ _ _ _ => pts_nil) (fun _ _ _ _ _ => (pe_call G_law_formula R_law_formula (by rfl) g_law_formula k_law_formula b_law_formula .nil pass0 (pa_cons (pv 0) (pa_cons (pe_op op_sub (pv 1) pe_int) (pa_cons (pv 2) (pa_cons (pv 3) (pa_cons (pv 4) pa_nil)))))))) pa_nil)) pa_nil))))))) pss_nil) (pss_one (ps_ret (pe_call G_law_bound R_law_bound (by rfl) g_law_bound k_law_bound b_law_bound .nil pass0 (pa_cons (pv 0) (pa_cons (pv 1) (pa_cons (pv 2) (pa_cons (pv 3) (pa_cons (pv 4) pa_nil)))))))))))), ?_⟩
      have f60 := ga.few
      refine ⟨_, rfl, d, l, rfl, ga.dr, fun z1 H1 _ _ dr1 k1 => ?_⟩
      have ga1 := ga.kp k1 dr1
      refine ⟨_, _, rfl, rfl, (by show (0 : Int) < 6; decide), ?_⟩
      by_cases ha : m = 0 ∨ z1 % 6 = 0
      · -- an atom
        have atom : tCall (spAtom K) [] E0 (tCons (tVar 0) (tCons (tVar 2) (tCons (tVar 3) tNil))) [some (.ref d), some (.int k), some vp, some vn, some vk, some (.int (z1 % 6)), none, none, none] H1 Q := by
          refine ⟨_, rfl, _, rfl, _, rfl, d, l, vp, vn, pool, ns, Γ, rfl, dr1, ga1.dp, ga1.dn, ga1.ok, ga1.po, by omega, fun H2 r f dr2 k2 df gf => ?_⟩
          exact q H2 r f dr2 (k1.trans k2) df (gf.mono (by omega))
        by_cases hn : m = 0
        · refine ⟨_, rfl, _, _, rfl, rfl, _, rfl, cT (k := decide (k ≤ 1)) (decide_eq_true (by omega)) (iteT atom)⟩
        · have hz : z1 % 6 = 0 := ha.resolve_left hn
          refine ⟨_, rfl, _, _, rfl, rfl, _, rfl, cF (k := decide (k ≤ 1)) (decide_eq_false (by omega)) ⟨_, rfl, rfl, _, rfl, cT (k := decide (V.int (z1 % 6) = V.int 0)) (decide_eq_true (by rw [hz])) atom⟩⟩
      · have hn : m ≠ 0 := fun z => ha (.inl z)
        have hz : z1 % 6 ≠ 0 := fun z => ha (.inr z)
        refine ⟨_, rfl, _, _, rfl, rfl, _, rfl, cF (k := decide (k ≤ 1)) (decide_eq_false (by omega)) ⟨_, rfl, rfl, _, rfl, cF (k := decide (V.int (z1 % 6) = V.int 0)) (decide_eq_false fun z => hz (V.int.inj z)) ?_⟩⟩
        refine ⟨_, rfl, rfl, _, rfl, ?_⟩
        by_cases h1z : z1 % 6 = 1
        · refine cT (k := decide (V.int (z1 % 6) = V.int 1)) (decide_eq_true (by rw [h1z])) ?_
          refine ⟨_, rfl, _, rfl, _, _, rfl, rfl, _, rfl, _, rfl, vn, ns, rfl, ga1.dn, by omega, ga1.ok.md, fun H2 rt s2 dt => ?_⟩
          have ga2 := ga1.same s2
          have tl := turned_len ns
          refine ⟨_, rfl, d, l, _, vp, rt, vk, pool, turned ns, Γ, m, rfl, by omega, by omega, ⟨ga2.dr, ga2.dp, dt, ga2.dk, ga2.ok.turned, ga2.po, by omega⟩, fun H3 rf g dr3 k3 dg hg => ?_⟩
          refine ⟨(by show 2 ≤ sizeLine; decide), fun rr nr => ?_⟩
          have s4 := same_upd (o := .tup [.str "not", rf]) nr
          refine q _ _ (.mk .no [g]) (dr3.same s4) (((k1.trans (.of s2)).trans k3).trans (.of s4)) ?_ (.no hg)
          rw [Fm.data_mk]
          exact .tup (.inl (.inl upd_same)) (.cons (.str _) (.cons (Dp.same s4 dg) .nil))
        · refine cF (k := decide (V.int (z1 % 6) = V.int 1)) (decide_eq_false fun z => h1z (V.int.inj z)) ?_
          refine ⟨_, rfl, _, _, rfl, rfl, _, rfl, ?_⟩
          by_cases h4 : z1 % 6 < 4
          · refine cT (k := decide (z1 % 6 < 4)) (decide_eq_true h4) ?_
            -- word
            refine ⟨(by show 2 ≤ sizeLine; decide), fun c nc => ?_⟩
            have s2 := same_upd (o := .lst ((["and", "or"] : List Str).map V.str)) nc
            have ncd := (dr1.ne nc).1
            refine ⟨_, rfl, d, l, rfl, dr1.same s2, fun z2 H3 _ _ dr3 k3 => ?_⟩
            obtain ⟨wd, hw, hat⟩ := atI_str (as := ["and", "or"]) z2 (by decide)
            refine ⟨_, _, rfl, rfl, (by show (0 : Int) < 2; decide), c, _, _, _, rfl, rfl, SqL.of (k3 _ _ upd_same ncd), hat, ?_⟩
            -- many
            refine ⟨(by show 6 ≤ sizeLine; decide), fun c2 nc2 => ?_⟩
            have s4 := same_upd (o := .lst [.int 0, .int 1, .int 2, .int 2, .int 2, .int 3]) nc2
            have nc2d := (dr3.ne nc2).1
            refine ⟨_, rfl, d, l, rfl, dr3.same s4, fun z3 H5 _ _ dr5 k5 => ?_⟩
            obtain ⟨v6, hv6, hat6⟩ := atI_mod (xs := [.int 0, .int 1, .int 2, .int 2, .int 2, .int 3]) z3 (by decide)
            obtain ⟨j, rfl, j3⟩ : ∃ j : Nat, v6 = .int (j : Int) ∧ j ≤ 3 := by
              simp only [List.mem_cons, List.not_mem_nil, or_false] at hv6
              rcases hv6 with rfl | rfl | rfl | rfl | rfl | rfl
              · exact ⟨0, rfl, by decide⟩
              · exact ⟨1, rfl, by decide⟩
              · exact ⟨2, rfl, by decide⟩
              · exact ⟨2, rfl, by decide⟩
              · exact ⟨2, rfl, by decide⟩
              · exact ⟨3, rfl, by decide⟩
            refine ⟨_, _, rfl, rfl, (by show (0 : Int) < 6; decide), c2, _, _, _, rfl, rfl, SqL.of (k5 _ _ upd_same nc2d), hat6, ?_⟩
            have k15 : Kp d H1 H5 := (((Kp.of s2).trans k3).trans (.of s4)).trans k5
            have ga5 := ga1.kp k15 dr5
            -- the parts
            refine ⟨_, rfl, _, rfl, j, rfl, by omega, by omega, fun M nM => ?_⟩
            obtain ⟨nMd, nMl⟩ := dr5.ne nM
            refine lc_it walk_range (fun i H6 => ∃ (vs : List V) (gs : List Fm), DrA H6 d l ∧ Kp d H5 H6 ∧ H6 M = some (.lst vs) ∧ DpAll K H6 vs (gs.map Fm.data) ∧ gs.length = i ∧ ∀ g, g ∈ gs → Gen pool ns Γ g m) ⟨[], [], dr5.same (same_upd nM), .of (same_upd nM), upd_same, .nil, rfl, fun x hx => nomatch hx⟩ (fun _ _ _ _ => trivial) ?_ ?_
            · rintro i y H6 H7 hi ⟨vs, gs, dr6, k6, hM, hvs, len, hs⟩ ⟨rfl, rfl⟩
              have ga6 := ga5.kp k6 dr6
              refine ⟨rfl, _, rfl, _, rfl, _, _, rfl, rfl, _, rfl, _, rfl, _, rfl, d, l, _, vp, vn, vk, pool, ns, Γ, m, rfl, by omega, by omega, ⟨ga6.dr, ga6.dp, ga6.dn, ga6.dk, ga6.ok, ga6.po, by omega⟩, fun H8 rf g dr8 k8 dg hg => ?_⟩
              have hM8 := k8 _ _ hM nMd
              have lv := DpAll.length hvs
              rw [List.length_map] at lv
              refine ⟨_, hM8, small1000 (by omega), vs ++ [rf], gs ++ [g], dr8.kp Kp.upd ⟨nMd, nMl⟩, kp_own (k6.trans k8) nM, upd_same, ?_, by rw [List.length_append, len]; rfl, fun x hx => ?_⟩
              · rw [List.map_append]
                exact DpAll.kl (Kl.upd hM8) (DpAll.snoc (DpAll.kl (.dr k8 dr6) hvs (fms_noL _)) dg) (by rw [noLs_append, fms_noL, fms_noL]; rfl)
              · rcases List.mem_append.mp hx with hx | hx
                · exact hs x hx
                · rw [List.mem_singleton.mp hx]; exact hg
            · rintro H6 ⟨vs, gs, dr6, k6, hM, hvs, len, hs⟩
              refine ⟨M, _, rfl, .inl ⟨SqL.of hM, fun u nu => ?_⟩⟩
              refine ⟨(by show 2 ≤ sizeLine; decide), fun r nr => ?_⟩
              have s7 := same_upd (o := .tup vs) nu
              have s8 := same_upd (o := .tup [.str wd, .ref u]) nr
              have kk : Kp d H _ := ((k1.trans k15).trans k6).trans (.of (s7.trans s8))
              have dd : DpAll K (upd (upd H6 u (.tup vs)) r (.tup [.str wd, .ref u])) vs (gs.map Fm.data) := DpAll.same (s7.trans s8) hvs
              rcases List.mem_cons.mp hw with rfl | hw
              · refine q _ _ (.mk .con gs) (dr6.same (s7.trans s8)) kk ?_ (.con (.inl rfl) hs (by omega))
                rw [Fm.data_mk]
                exact .tup (.inl (.inl upd_same)) (.cons (.str _) (.cons (.tup (Same.sqt s8 (.inl (.inl upd_same))) dd) .nil))
              · have ew := List.mem_singleton.mp hw
                subst ew
                refine q _ _ (.mk .dis gs) (dr6.same (s7.trans s8)) kk ?_ (.con (.inr rfl) hs (by omega))
                rw [Fm.data_mk]
                exact .tup (.inl (.inl upd_same)) (.cons (.str _) (.cons (.tup (Same.sqt s8 (.inl (.inl upd_same))) dd) .nil))
          · refine cF (k := decide (z1 % 6 < 4)) (decide_eq_false h4) ?_
            refine ⟨_, rfl, _, rfl, _, rfl, _, rfl, _, rfl, d, l, _, vp, vn, vk, pool, ns, Γ, m + 1, rfl, hk, by omega, ga1, fun H3 rf g dr3 k3 dg hg => ?_⟩
            exact q H3 rf g dr3 (k1.trans k3) dg hg
end
theorem one_of {ps : List Fm} (h : ps.length = 1) : ∃ g, ps = [g] := by
  match ps, h with
  | [g], _ => exact ⟨g, rfl⟩
theorem Same.none {H H' : Hp} {r : Addr} (s : Same H H') (e : H' r = Option.none) : H r = Option.none := by
  cases q : H r with
  | none => rfl
  | some o => rw [s _ _ q] at e; cases e
theorem none_of {ps : List Fm} (h : ps.length = 0) : ps = [] := List.length_eq_zero_iff.mp h
/-- a look at a formula -/
def spLook (K : PySem.W.Frag) (R : Fm → PyData) : Sp := fun vs H Q _ => ∃ (v : V) (f : Fm), vs = [v] ∧ Dp K H v f.data ∧ f.Ok ∧ ∀ (H' : Hp) (r : V), Same H H' → Dp K H' r (R f) → Q r H'
def spParts (K : PySem.W.Frag) : Sp := fun vs H Q _ => ∃ (v : V) (f : Fm), vs = [v] ∧ Dp K H v f.data ∧ f.Ok ∧ ∀ (H' : Hp) (r : Addr) (ys : List V), Same H H' → H r = none → H' r = some (.lst ys) → DpAll K H' ys (f.parts.map Fm.data) → Q (.ref r) H'
section
variable {P : Program} {w : World} {K : PySem.W.Frag} {mg : Str → Option Value} {base : Heap}
theorem sc_law_parts : FnScope ["f"] ["f"] (defScope (top 73)) := ⟨rfl, rfl, rfl, by decide +kernel, rfl, by decide +kernel, by decide +kernel⟩
theorem has_law_parts (D : Def K mg "_law_parts" ["f"] (top 73)) (T : Txt mg) : Has P w K mg base 1 "_law_parts" ["f"] (spParts K) := D.has fun f fd F => by
  refine F.ok sc_law_parts (fun vs H Q E h => ?_) (fun cdv A outer s H vs Q E hr h => ?_)
  · obtain ⟨v, f, rfl, _⟩ := h; rfl
  · obtain ⟨v, f, rfl, dp, ok, q⟩ := h
    refine ⟨_, PSs.nox (pss_cons (ps_if (pt_cmpR op_eq (pe_ix ix_tup (pv 0) pe_int (fun _ _ => rfl)) pe_str (nomark _)) (pss_one (ps_ret (pe_lst (pa_cons (pe_ix ix_tup (pv 0) pe_int (fun _ _ => rfl)) pa_nil)))) pss_nil) (pss_cons (ps_if (PW.pt (pw_or (pt_cmpR op_eq (pe_ix ix_tup (pv 0) pe_int (fun _ _ => rfl)) pe_str (nomark _)) (pw_or1 (pt_cmpR op_eq (pe_ix ix_tup (pv 0) pe_int (fun _ _ => rfl)) pe_str (nomark _))))) (pss_one (ps_ret (pe_callTy call_list_of (by rfl) T.n_list (by decide +kernel) (pa_cons (pe_ix ix_tup (pv 0) pe_int (fun _ _ => rfl)) pa_nil)))) pss_nil) (pss_cons (ps_if (pt_cmpR op_in_seq (pe_ix ix_tup (pv 0) pe_int (fun _ _ => rfl)) (pe_lst (pa_cons pe_str (pa_cons pe_str (pa_cons pe_str pa_nil)))) (by rfl)) (pss_one (ps_ret (pe_lst (pa_cons (pe_ix ix_tup (pv 0) pe_int (fun _ _ => rfl)) pa_nil)))) pss_nil) (pss_cons (ps_if (pt_cmpR op_in_seq (pe_ix ix_tup (pv 0) pe_int (fun _ _ => rfl)) (pe_lst (pa_cons pe_str (pa_cons pe_str (pa_cons pe_str pa_nil)))) (by rfl)) (pss_one (ps_ret (pe_lst (pa_cons (pe_ix ix_tup (pv 0) pe_int (fun _ _ => rfl)) pa_nil)))) pss_nil) (pss_one (ps_ret (pe_lst pa_nil))))))), ?_⟩
    obtain ⟨h, ps⟩ := f
    rw [Fm.data_mk] at dp
    have fit := ok.hd_
    obtain ⟨a, xs, rfl, hT, hx⟩ := hd_inv dp
    clear dp
    cases h with
    | rel n as =>
      obtain rfl := none_of fit.2.2.2
      obtain ⟨v1, w1, rfl, e1, hx⟩ := DpAll.cons_inv hx
      obtain ⟨v2, w2, rfl, e2, hx⟩ := DpAll.cons_inv hx
      obtain rfl := DpAll.nil_inv hx
      refine ⟨_, rfl, a, _, _, _, rfl, rfl, hT, atI_nat (j := 0) rfl, rfl, _, rfl, cF (k := decide (V.str "rel" = V.str "not")) (by decide +kernel) ?_⟩
      refine ⟨_, rfl, a, _, _, _, rfl, rfl, hT, atI_nat (j := 0) rfl, rfl, _, rfl, cF (k := decide (V.str "rel" = V.str "and")) (by decide +kernel) ⟨_, rfl, a, _, _, _, rfl, rfl, hT, atI_nat (j := 0) rfl, rfl, _, rfl, cF (k := decide (V.str "rel" = V.str "or")) (by decide +kernel) ?_⟩⟩
      refine ⟨_, rfl, a, _, _, _, rfl, rfl, hT, atI_nat (j := 0) rfl, (by show 3 ≤ sizeLine; decide), fun p1 np1 => ⟨_, _, rfl, .inl (SqL.of upd_same), rfl, rfl, _, rfl, cF (k := inV (.str "rel") [.str "some", .str "all", .str "tc"]) (by decide +kernel) ?_⟩⟩
      have t1 := same_upd (o := .lst [V.str "some", .str "all", .str "tc"]) np1
      refine ⟨_, rfl, a, _, _, _, rfl, rfl, (Same.sqt t1 hT), atI_nat (j := 0) rfl, (by show 3 ≤ sizeLine; decide), fun p2 np2 => ⟨_, _, rfl, .inl (SqL.of upd_same), rfl, rfl, _, rfl, cF (k := inV (.str "rel") [.str "lfp", .str "pfp", .str "guess"]) (by decide +kernel) ?_⟩⟩
      have t2 := same_upd (o := .lst [V.str "lfp", .str "pfp", .str "guess"]) np2
      have u2 := t1.trans t2
      refine ⟨(by show 0 ≤ sizeLine; decide), fun r nr => ?_⟩
      have sr := same_upd (o := .lst []) nr
      exact q _ r _ (Same.trans (u2) sr) (Same.none (u2) nr) upd_same .nil
    | eq x y =>
      obtain rfl := none_of fit.2.2
      obtain ⟨v1, w1, rfl, e1, hx⟩ := DpAll.cons_inv hx
      obtain ⟨v2, w2, rfl, e2, hx⟩ := DpAll.cons_inv hx
      obtain rfl := DpAll.nil_inv hx
      refine ⟨_, rfl, a, _, _, _, rfl, rfl, hT, atI_nat (j := 0) rfl, rfl, _, rfl, cF (k := decide (V.str "eq" = V.str "not")) (by decide +kernel) ?_⟩
      refine ⟨_, rfl, a, _, _, _, rfl, rfl, hT, atI_nat (j := 0) rfl, rfl, _, rfl, cF (k := decide (V.str "eq" = V.str "and")) (by decide +kernel) ⟨_, rfl, a, _, _, _, rfl, rfl, hT, atI_nat (j := 0) rfl, rfl, _, rfl, cF (k := decide (V.str "eq" = V.str "or")) (by decide +kernel) ?_⟩⟩
      refine ⟨_, rfl, a, _, _, _, rfl, rfl, hT, atI_nat (j := 0) rfl, (by show 3 ≤ sizeLine; decide), fun p1 np1 => ⟨_, _, rfl, .inl (SqL.of upd_same), rfl, rfl, _, rfl, cF (k := inV (.str "eq") [.str "some", .str "all", .str "tc"]) (by decide +kernel) ?_⟩⟩
      have t1 := same_upd (o := .lst [V.str "some", .str "all", .str "tc"]) np1
      refine ⟨_, rfl, a, _, _, _, rfl, rfl, (Same.sqt t1 hT), atI_nat (j := 0) rfl, (by show 3 ≤ sizeLine; decide), fun p2 np2 => ⟨_, _, rfl, .inl (SqL.of upd_same), rfl, rfl, _, rfl, cF (k := inV (.str "eq") [.str "lfp", .str "pfp", .str "guess"]) (by decide +kernel) ?_⟩⟩
      have t2 := same_upd (o := .lst [V.str "lfp", .str "pfp", .str "guess"]) np2
      have u2 := t1.trans t2
      refine ⟨(by show 0 ≤ sizeLine; decide), fun r nr => ?_⟩
      have sr := same_upd (o := .lst []) nr
      exact q _ r _ (Same.trans (u2) sr) (Same.none (u2) nr) upd_same .nil
    | less x y =>
      obtain rfl := none_of fit.2.2
      obtain ⟨v1, w1, rfl, e1, hx⟩ := DpAll.cons_inv hx
      obtain ⟨v2, w2, rfl, e2, hx⟩ := DpAll.cons_inv hx
      obtain rfl := DpAll.nil_inv hx
      refine ⟨_, rfl, a, _, _, _, rfl, rfl, hT, atI_nat (j := 0) rfl, rfl, _, rfl, cF (k := decide (V.str "less" = V.str "not")) (by decide +kernel) ?_⟩
      refine ⟨_, rfl, a, _, _, _, rfl, rfl, hT, atI_nat (j := 0) rfl, rfl, _, rfl, cF (k := decide (V.str "less" = V.str "and")) (by decide +kernel) ⟨_, rfl, a, _, _, _, rfl, rfl, hT, atI_nat (j := 0) rfl, rfl, _, rfl, cF (k := decide (V.str "less" = V.str "or")) (by decide +kernel) ?_⟩⟩
      refine ⟨_, rfl, a, _, _, _, rfl, rfl, hT, atI_nat (j := 0) rfl, (by show 3 ≤ sizeLine; decide), fun p1 np1 => ⟨_, _, rfl, .inl (SqL.of upd_same), rfl, rfl, _, rfl, cF (k := inV (.str "less") [.str "some", .str "all", .str "tc"]) (by decide +kernel) ?_⟩⟩
      have t1 := same_upd (o := .lst [V.str "some", .str "all", .str "tc"]) np1
      refine ⟨_, rfl, a, _, _, _, rfl, rfl, (Same.sqt t1 hT), atI_nat (j := 0) rfl, (by show 3 ≤ sizeLine; decide), fun p2 np2 => ⟨_, _, rfl, .inl (SqL.of upd_same), rfl, rfl, _, rfl, cF (k := inV (.str "less") [.str "lfp", .str "pfp", .str "guess"]) (by decide +kernel) ?_⟩⟩
      have t2 := same_upd (o := .lst [V.str "lfp", .str "pfp", .str "guess"]) np2
      have u2 := t1.trans t2
      refine ⟨(by show 0 ≤ sizeLine; decide), fun r nr => ?_⟩
      have sr := same_upd (o := .lst []) nr
      exact q _ r _ (Same.trans (u2) sr) (Same.none (u2) nr) upd_same .nil
    | no =>
      obtain ⟨g, rfl⟩ := one_of fit
      obtain ⟨v1, w1, rfl, e1, hx⟩ := DpAll.cons_inv hx
      obtain rfl := DpAll.nil_inv hx
      refine ⟨_, rfl, a, _, _, _, rfl, rfl, hT, atI_nat (j := 0) rfl, rfl, _, rfl, cT (k := decide (V.str "not" = V.str "not")) (by decide +kernel) ?_⟩
      refine ⟨_, rfl, a, _, _, _, rfl, rfl, hT, atI_nat (j := 1) rfl, (by show 1 ≤ sizeLine; decide), fun r nr => ?_⟩
      have sr := same_upd (o := .lst [v1]) nr
      exact q _ r _ (Same.trans (Same.refl H) sr) (Same.none (Same.refl H) nr) upd_same (.cons (Dp.same (Same.trans (Same.refl H) sr) e1) .nil)
    | con =>
      obtain ⟨v1, w1, rfl, e1, hx⟩ := DpAll.cons_inv hx
      obtain rfl := DpAll.nil_inv hx
      refine ⟨_, rfl, a, _, _, _, rfl, rfl, hT, atI_nat (j := 0) rfl, rfl, _, rfl, cF (k := decide (V.str "and" = V.str "not")) (by decide +kernel) ?_⟩
      refine ⟨_, rfl, a, _, _, _, rfl, rfl, hT, atI_nat (j := 0) rfl, rfl, _, rfl, cT (k := decide (V.str "and" = V.str "and")) (by decide +kernel) (iteT ?_)⟩
      obtain ⟨b, ys, rfl, hb, hy⟩ := Dp.tup_inv e1
      refine ⟨_, rfl, a, _, _, _, rfl, rfl, hT, atI_nat (j := 1) rfl, b, _, rfl, .inr hb, fun r nr => ?_⟩
      have sr := same_upd (o := .lst ys) nr
      exact q _ r _ (Same.trans (Same.refl H) sr) (Same.none (Same.refl H) nr) upd_same (DpAll.same (Same.trans (Same.refl H) sr) hy)
    | dis =>
      obtain ⟨v1, w1, rfl, e1, hx⟩ := DpAll.cons_inv hx
      obtain rfl := DpAll.nil_inv hx
      refine ⟨_, rfl, a, _, _, _, rfl, rfl, hT, atI_nat (j := 0) rfl, rfl, _, rfl, cF (k := decide (V.str "or" = V.str "not")) (by decide +kernel) ?_⟩
      refine ⟨_, rfl, a, _, _, _, rfl, rfl, hT, atI_nat (j := 0) rfl, rfl, _, rfl, cF (k := decide (V.str "or" = V.str "and")) (by decide +kernel) ⟨_, rfl, a, _, _, _, rfl, rfl, hT, atI_nat (j := 0) rfl, rfl, _, rfl, cT (k := decide (V.str "or" = V.str "or")) (by decide +kernel) ?_⟩⟩
      obtain ⟨b, ys, rfl, hb, hy⟩ := Dp.tup_inv e1
      refine ⟨_, rfl, a, _, _, _, rfl, rfl, hT, atI_nat (j := 1) rfl, b, _, rfl, .inr hb, fun r nr => ?_⟩
      have sr := same_upd (o := .lst ys) nr
      exact q _ r _ (Same.trans (Same.refl H) sr) (Same.none (Same.refl H) nr) upd_same (DpAll.same (Same.trans (Same.refl H) sr) hy)
    | ex us =>
      obtain ⟨g, rfl⟩ := one_of fit.2
      obtain ⟨v1, w1, rfl, e1, hx⟩ := DpAll.cons_inv hx
      obtain ⟨v2, w2, rfl, e2, hx⟩ := DpAll.cons_inv hx
      obtain rfl := DpAll.nil_inv hx
      refine ⟨_, rfl, a, _, _, _, rfl, rfl, hT, atI_nat (j := 0) rfl, rfl, _, rfl, cF (k := decide (V.str "some" = V.str "not")) (by decide +kernel) ?_⟩
      refine ⟨_, rfl, a, _, _, _, rfl, rfl, hT, atI_nat (j := 0) rfl, rfl, _, rfl, cF (k := decide (V.str "some" = V.str "and")) (by decide +kernel) ⟨_, rfl, a, _, _, _, rfl, rfl, hT, atI_nat (j := 0) rfl, rfl, _, rfl, cF (k := decide (V.str "some" = V.str "or")) (by decide +kernel) ?_⟩⟩
      refine ⟨_, rfl, a, _, _, _, rfl, rfl, hT, atI_nat (j := 0) rfl, (by show 3 ≤ sizeLine; decide), fun p1 np1 => ⟨_, _, rfl, .inl (SqL.of upd_same), rfl, rfl, _, rfl, cT (k := inV (.str "some") [.str "some", .str "all", .str "tc"]) (by decide +kernel) ?_⟩⟩
      have t1 := same_upd (o := .lst [V.str "some", .str "all", .str "tc"]) np1
      refine ⟨_, rfl, a, _, _, _, rfl, rfl, (Same.sqt t1 hT), atI_nat (j := 2) rfl, (by show 1 ≤ sizeLine; decide), fun r nr => ?_⟩
      have sr := same_upd (o := .lst [v2]) nr
      exact q _ r _ (Same.trans (t1) sr) (Same.none (t1) nr) upd_same (.cons (Dp.same (Same.trans (t1) sr) e2) .nil)
    | al us =>
      obtain ⟨g, rfl⟩ := one_of fit.2
      obtain ⟨v1, w1, rfl, e1, hx⟩ := DpAll.cons_inv hx
      obtain ⟨v2, w2, rfl, e2, hx⟩ := DpAll.cons_inv hx
      obtain rfl := DpAll.nil_inv hx
      refine ⟨_, rfl, a, _, _, _, rfl, rfl, hT, atI_nat (j := 0) rfl, rfl, _, rfl, cF (k := decide (V.str "all" = V.str "not")) (by decide +kernel) ?_⟩
      refine ⟨_, rfl, a, _, _, _, rfl, rfl, hT, atI_nat (j := 0) rfl, rfl, _, rfl, cF (k := decide (V.str "all" = V.str "and")) (by decide +kernel) ⟨_, rfl, a, _, _, _, rfl, rfl, hT, atI_nat (j := 0) rfl, rfl, _, rfl, cF (k := decide (V.str "all" = V.str "or")) (by decide +kernel) ?_⟩⟩
      refine ⟨_, rfl, a, _, _, _, rfl, rfl, hT, atI_nat (j := 0) rfl, (by show 3 ≤ sizeLine; decide), fun p1 np1 => ⟨_, _, rfl, .inl (SqL.of upd_same), rfl, rfl, _, rfl, cT (k := inV (.str "all") [.str "some", .str "all", .str "tc"]) (by decide +kernel) ?_⟩⟩
      have t1 := same_upd (o := .lst [V.str "some", .str "all", .str "tc"]) np1
      refine ⟨_, rfl, a, _, _, _, rfl, rfl, (Same.sqt t1 hT), atI_nat (j := 2) rfl, (by show 1 ≤ sizeLine; decide), fun r nr => ?_⟩
      have sr := same_upd (o := .lst [v2]) nr
      exact q _ r _ (Same.trans (t1) sr) (Same.none (t1) nr) upd_same (.cons (Dp.same (Same.trans (t1) sr) e2) .nil)
    | lfp n us as =>
      obtain ⟨g, rfl⟩ := one_of fit.2.2.2.2
      obtain ⟨v1, w1, rfl, e1, hx⟩ := DpAll.cons_inv hx
      obtain ⟨v2, w2, rfl, e2, hx⟩ := DpAll.cons_inv hx
      obtain ⟨v3, w3, rfl, e3, hx⟩ := DpAll.cons_inv hx
      obtain ⟨v4, w4, rfl, e4, hx⟩ := DpAll.cons_inv hx
      obtain rfl := DpAll.nil_inv hx
      refine ⟨_, rfl, a, _, _, _, rfl, rfl, hT, atI_nat (j := 0) rfl, rfl, _, rfl, cF (k := decide (V.str "lfp" = V.str "not")) (by decide +kernel) ?_⟩
      refine ⟨_, rfl, a, _, _, _, rfl, rfl, hT, atI_nat (j := 0) rfl, rfl, _, rfl, cF (k := decide (V.str "lfp" = V.str "and")) (by decide +kernel) ⟨_, rfl, a, _, _, _, rfl, rfl, hT, atI_nat (j := 0) rfl, rfl, _, rfl, cF (k := decide (V.str "lfp" = V.str "or")) (by decide +kernel) ?_⟩⟩
      refine ⟨_, rfl, a, _, _, _, rfl, rfl, hT, atI_nat (j := 0) rfl, (by show 3 ≤ sizeLine; decide), fun p1 np1 => ⟨_, _, rfl, .inl (SqL.of upd_same), rfl, rfl, _, rfl, cF (k := inV (.str "lfp") [.str "some", .str "all", .str "tc"]) (by decide +kernel) ?_⟩⟩
      have t1 := same_upd (o := .lst [V.str "some", .str "all", .str "tc"]) np1
      refine ⟨_, rfl, a, _, _, _, rfl, rfl, (Same.sqt t1 hT), atI_nat (j := 0) rfl, (by show 3 ≤ sizeLine; decide), fun p2 np2 => ⟨_, _, rfl, .inl (SqL.of upd_same), rfl, rfl, _, rfl, cT (k := inV (.str "lfp") [.str "lfp", .str "pfp", .str "guess"]) (by decide +kernel) ?_⟩⟩
      have t2 := same_upd (o := .lst [V.str "lfp", .str "pfp", .str "guess"]) np2
      have u2 := t1.trans t2
      refine ⟨_, rfl, a, _, _, _, rfl, rfl, (Same.sqt u2 hT), atI_nat (j := 3) rfl, (by show 1 ≤ sizeLine; decide), fun r nr => ?_⟩
      have sr := same_upd (o := .lst [v3]) nr
      exact q _ r _ (Same.trans (u2) sr) (Same.none (u2) nr) upd_same (.cons (Dp.same (Same.trans (u2) sr) e3) .nil)
    | pfp n us as =>
      obtain ⟨g, rfl⟩ := one_of fit.2.2.2.2
      obtain ⟨v1, w1, rfl, e1, hx⟩ := DpAll.cons_inv hx
      obtain ⟨v2, w2, rfl, e2, hx⟩ := DpAll.cons_inv hx
      obtain ⟨v3, w3, rfl, e3, hx⟩ := DpAll.cons_inv hx
      obtain ⟨v4, w4, rfl, e4, hx⟩ := DpAll.cons_inv hx
      obtain rfl := DpAll.nil_inv hx
      refine ⟨_, rfl, a, _, _, _, rfl, rfl, hT, atI_nat (j := 0) rfl, rfl, _, rfl, cF (k := decide (V.str "pfp" = V.str "not")) (by decide +kernel) ?_⟩
      refine ⟨_, rfl, a, _, _, _, rfl, rfl, hT, atI_nat (j := 0) rfl, rfl, _, rfl, cF (k := decide (V.str "pfp" = V.str "and")) (by decide +kernel) ⟨_, rfl, a, _, _, _, rfl, rfl, hT, atI_nat (j := 0) rfl, rfl, _, rfl, cF (k := decide (V.str "pfp" = V.str "or")) (by decide +kernel) ?_⟩⟩
      refine ⟨_, rfl, a, _, _, _, rfl, rfl, hT, atI_nat (j := 0) rfl, (by show 3 ≤ sizeLine; decide), fun p1 np1 => ⟨_, _, rfl, .inl (SqL.of upd_same), rfl, rfl, _, rfl, cF (k := inV (.str "pfp") [.str "some", .str "all", .str "tc"]) (by decide +kernel) ?_⟩⟩
      have t1 := same_upd (o := .lst [V.str "some", .str "all", .str "tc"]) np1
      refine ⟨_, rfl, a, _, _, _, rfl, rfl, (Same.sqt t1 hT), atI_nat (j := 0) rfl, (by show 3 ≤ sizeLine; decide), fun p2 np2 => ⟨_, _, rfl, .inl (SqL.of upd_same), rfl, rfl, _, rfl, cT (k := inV (.str "pfp") [.str "lfp", .str "pfp", .str "guess"]) (by decide +kernel) ?_⟩⟩
      have t2 := same_upd (o := .lst [V.str "lfp", .str "pfp", .str "guess"]) np2
      have u2 := t1.trans t2
      refine ⟨_, rfl, a, _, _, _, rfl, rfl, (Same.sqt u2 hT), atI_nat (j := 3) rfl, (by show 1 ≤ sizeLine; decide), fun r nr => ?_⟩
      have sr := same_upd (o := .lst [v3]) nr
      exact q _ r _ (Same.trans (u2) sr) (Same.none (u2) nr) upd_same (.cons (Dp.same (Same.trans (u2) sr) e3) .nil)
    | tc us as =>
      obtain ⟨g, rfl⟩ := one_of fit.2.2.2.2.2
      obtain ⟨v1, w1, rfl, e1, hx⟩ := DpAll.cons_inv hx
      obtain ⟨v2, w2, rfl, e2, hx⟩ := DpAll.cons_inv hx
      obtain ⟨v3, w3, rfl, e3, hx⟩ := DpAll.cons_inv hx
      obtain rfl := DpAll.nil_inv hx
      refine ⟨_, rfl, a, _, _, _, rfl, rfl, hT, atI_nat (j := 0) rfl, rfl, _, rfl, cF (k := decide (V.str "tc" = V.str "not")) (by decide +kernel) ?_⟩
      refine ⟨_, rfl, a, _, _, _, rfl, rfl, hT, atI_nat (j := 0) rfl, rfl, _, rfl, cF (k := decide (V.str "tc" = V.str "and")) (by decide +kernel) ⟨_, rfl, a, _, _, _, rfl, rfl, hT, atI_nat (j := 0) rfl, rfl, _, rfl, cF (k := decide (V.str "tc" = V.str "or")) (by decide +kernel) ?_⟩⟩
      refine ⟨_, rfl, a, _, _, _, rfl, rfl, hT, atI_nat (j := 0) rfl, (by show 3 ≤ sizeLine; decide), fun p1 np1 => ⟨_, _, rfl, .inl (SqL.of upd_same), rfl, rfl, _, rfl, cT (k := inV (.str "tc") [.str "some", .str "all", .str "tc"]) (by decide +kernel) ?_⟩⟩
      have t1 := same_upd (o := .lst [V.str "some", .str "all", .str "tc"]) np1
      refine ⟨_, rfl, a, _, _, _, rfl, rfl, (Same.sqt t1 hT), atI_nat (j := 2) rfl, (by show 1 ≤ sizeLine; decide), fun r nr => ?_⟩
      have sr := same_upd (o := .lst [v2]) nr
      exact q _ r _ (Same.trans (t1) sr) (Same.none (t1) nr) upd_same (.cons (Dp.same (Same.trans (t1) sr) e2) .nil)
    | gs n k =>
      obtain ⟨g, rfl⟩ := one_of fit.2.2
      obtain ⟨v1, w1, rfl, e1, hx⟩ := DpAll.cons_inv hx
      obtain ⟨v2, w2, rfl, e2, hx⟩ := DpAll.cons_inv hx
      obtain ⟨v3, w3, rfl, e3, hx⟩ := DpAll.cons_inv hx
      obtain rfl := DpAll.nil_inv hx
      refine ⟨_, rfl, a, _, _, _, rfl, rfl, hT, atI_nat (j := 0) rfl, rfl, _, rfl, cF (k := decide (V.str "guess" = V.str "not")) (by decide +kernel) ?_⟩
      refine ⟨_, rfl, a, _, _, _, rfl, rfl, hT, atI_nat (j := 0) rfl, rfl, _, rfl, cF (k := decide (V.str "guess" = V.str "and")) (by decide +kernel) ⟨_, rfl, a, _, _, _, rfl, rfl, hT, atI_nat (j := 0) rfl, rfl, _, rfl, cF (k := decide (V.str "guess" = V.str "or")) (by decide +kernel) ?_⟩⟩
      refine ⟨_, rfl, a, _, _, _, rfl, rfl, hT, atI_nat (j := 0) rfl, (by show 3 ≤ sizeLine; decide), fun p1 np1 => ⟨_, _, rfl, .inl (SqL.of upd_same), rfl, rfl, _, rfl, cF (k := inV (.str "guess") [.str "some", .str "all", .str "tc"]) (by decide +kernel) ?_⟩⟩
      have t1 := same_upd (o := .lst [V.str "some", .str "all", .str "tc"]) np1
      refine ⟨_, rfl, a, _, _, _, rfl, rfl, (Same.sqt t1 hT), atI_nat (j := 0) rfl, (by show 3 ≤ sizeLine; decide), fun p2 np2 => ⟨_, _, rfl, .inl (SqL.of upd_same), rfl, rfl, _, rfl, cT (k := inV (.str "guess") [.str "lfp", .str "pfp", .str "guess"]) (by decide +kernel) ?_⟩⟩
      have t2 := same_upd (o := .lst [V.str "lfp", .str "pfp", .str "guess"]) np2
      have u2 := t1.trans t2
      refine ⟨_, rfl, a, _, _, _, rfl, rfl, (Same.sqt u2 hT), atI_nat (j := 3) rfl, (by show 1 ≤ sizeLine; decide), fun r nr => ?_⟩
      have sr := same_upd (o := .lst [v3]) nr
      exact q _ r _ (Same.trans (u2) sr) (Same.none (u2) nr) upd_same (.cons (Dp.same (Same.trans (u2) sr) e3) .nil)
end
theorem parts_len {h : Hd} {n : Nat} (k : h.Ok n) : n ≤ 40 := by
  cases h with
  | rel m as => have := k.2.2.2; omega
  | eq x y => have := k.2.2; omega
  | less x y => have := k.2.2; omega
  | no => have : n = 1 := k; omega
  | con => exact k
  | dis => exact k
  | ex vs => have := k.2; omega
  | al vs => have := k.2; omega
  | lfp m vs as => have := k.2.2.2.2; omega
  | pfp m vs as => have := k.2.2.2.2; omega
  | tc vs as => have := k.2.2.2.2.2; omega
  | gs m j => have := k.2.2; omega
theorem sumN_le {b : Nat} : ∀ (xs : List Nat), (∀ x, x ∈ xs → x ≤ b) → sumN xs ≤ xs.length * b
  | [], _ => Nat.zero_le _
  | x :: xs, h => by
    have a := h x (List.mem_cons_self ..)
    have c := sumN_le xs fun y hy => h y (List.mem_cons_of_mem _ hy)
    show x + sumN xs ≤ (xs.length + 1) * b
    rw [Nat.succ_mul]
    omega
theorem own_le {h : Hd} {n : Nat} (k : h.Ok n) : h.own.length ≤ 8 := by
  cases h with
  | rel m as => exact Nat.zero_le _
  | eq x y => exact Nat.zero_le _
  | less x y => exact Nat.zero_le _
  | no => exact Nat.zero_le _
  | con => exact Nat.zero_le _
  | dis => exact Nat.zero_le _
  | ex vs => have := k.1.2.1; exact Nat.le_trans this (by decide)
  | al vs => have := k.1.2.1; exact Nat.le_trans this (by decide)
  | lfp m vs as => have := k.2.1.2.1; exact Nat.le_trans this (by decide)
  | pfp m vs as => have := k.2.1.2.1; exact Nat.le_trans this (by decide)
  | tc vs as => show vs.length ≤ 8; have := k.1; omega
  | gs m j => exact Nat.zero_le _
/-! ### the textual form -/
abbrev Lc (z : Str) : List Nat := TL.tl z
def spL (as : List Str) : List Nat := TL.joinL [32] (as.map Lc)
def cmL (ts : List (List Nat)) : List Nat := TL.joinL [44, 32] ts
theorem str_of {a : Str} {l : List Nat} (h : Lc a = l) : a = ⟨l.toArray⟩ := by
  obtain ⟨c⟩ := a
  have e : c.toList = l := h
  rw [← e]
theorem Lc_mk (l : List Nat) : Lc ⟨l.toArray⟩ = l := by simp [TL.tl]
theorem Lc_len (z : Str) : z.length = (Lc z).length := by simp [TL.tl, Str.length]
theorem Lc_app (a b : Str) : Lc (a ++ b) = Lc a ++ Lc b := TL.tl_append a b
def Hd.tx (h : Hd) (ts : List (List Nat)) : List Nat := match h with
  | .rel n as => Lc n ++ [40] ++ spL as ++ [41]
  | .eq x y => Lc x ++ [32, 61, 32] ++ Lc y
  | .less x y => Lc x ++ [32, 60, 32] ++ Lc y
  | .no => Lc "not" ++ [40] ++ cmL ts ++ [41]
  | .con => if ts = [] then Lc "true" else Lc "and" ++ [40] ++ cmL ts ++ [41]
  | .dis => if ts = [] then Lc "false" else Lc "or" ++ [40] ++ cmL ts ++ [41]
  | .ex vs => Lc "some" ++ [40] ++ spL vs ++ [58, 32] ++ cmL ts ++ [41]
  | .al vs => Lc "all" ++ [40] ++ spL vs ++ [58, 32] ++ cmL ts ++ [41]
  | .lfp n vs as => Lc "lfp" ++ [40] ++ spL (n :: vs) ++ [58, 32] ++ cmL ts ++ [41, 40] ++ spL as ++ [41]
  | .pfp n vs as => Lc "pfp" ++ [40] ++ spL (n :: vs) ++ [58, 32] ++ cmL ts ++ [41, 40] ++ spL as ++ [41]
  | .tc vs as => Lc "tc" ++ [40] ++ spL vs ++ [58, 32] ++ cmL ts ++ [41, 40] ++ spL as ++ [41]
  | .gs n k => Lc "guess" ++ [40] ++ Lc n ++ [32] ++ [48 + k] ++ [58, 32] ++ cmL ts ++ [41]
def Fm.tx : Fm → List Nat := Fm.fold Hd.tx
theorem Fm.tx_mk (h : Hd) (ps : List Fm) : (Fm.mk h ps).tx = h.tx (ps.map Fm.tx) := Fm.fold_mk _ h ps
def Fm.text (f : Fm) : Str := ⟨f.tx.toArray⟩
theorem Fm.text_L (f : Fm) : Lc f.text = f.tx := Lc_mk _
theorem Lc_join (y : Str) (xs : List Str) : Lc (Txt.join y xs) = TL.joinL (Lc y) (xs.map Lc) := by
  rw [TL.join_eq]
  exact TL.tl_join y xs
/-! lengths -/
theorem joinL_len (S : List Nat) : ∀ (ts : List (List Nat)), (TL.joinL S ts).length ≤ sumN (ts.map fun t => t.length + S.length)
  | [] => Nat.zero_le _
  | [t] => by
    show t.length ≤ t.length + S.length + 0
    omega
  | t :: u :: r => by
    have ih := joinL_len S (u :: r)
    show (t ++ (S ++ TL.joinL S (u :: r))).length ≤ t.length + S.length + sumN ((u :: r).map fun t => t.length + S.length)
    rw [List.length_append, List.length_append]
    omega
theorem spL_len {as : List Str} (h : Names as) : (spL as).length ≤ 13 * as.length := by
  have a := joinL_len [32] (as.map Lc)
  have b := sumN_le (b := 13) ((as.map Lc).map fun t => t.length + [32].length) fun x hx => by
    obtain ⟨t, ht, rfl⟩ := List.mem_map.mp hx
    obtain ⟨z, hz, rfl⟩ := List.mem_map.mp ht
    have := (h z hz).hi
    rw [Lc_len] at this
    show (Lc z).length + 1 ≤ 13
    omega
  rw [List.length_map, List.length_map] at b
  show (TL.joinL [32] (as.map Lc)).length ≤ _
  omega
theorem cmL_len (ts : List (List Nat)) : (cmL ts).length ≤ sumN (ts.map fun t => t.length + 2) := joinL_len [44, 32] ts
theorem nm_len {z : Str} (h : Nm z) : (Lc z).length ≤ 12 := by have := h.hi; rw [Lc_len] at this; exact this
theorem args_le {h : Hd} {n : Nat} (k : h.Ok n) : h.args.length ≤ 8 := by
  cases h with
  | rel m as => have := k.2.1; exact Nat.le_trans this (by decide)
  | eq x y => show 2 ≤ 8; decide
  | less x y => show 2 ≤ 8; decide
  | no => exact Nat.zero_le _
  | con => exact Nat.zero_le _
  | dis => exact Nat.zero_le _
  | ex vs => exact Nat.zero_le _
  | al vs => exact Nat.zero_le _
  | lfp m vs as => have := k.2.1.2.1; have e := k.2.2.1; show as.length ≤ 8; omega
  | pfp m vs as => have := k.2.1.2.1; have e := k.2.2.1; show as.length ≤ 8; omega
  | tc vs as => show as.length ≤ 8; have := k.1; have e := k.2.2.2.1; omega
  | gs m j => exact Nat.zero_le _
theorem own_names {h : Hd} {n : Nat} (k : h.Ok n) : Names h.own := by
  cases h with
  | ex vs => exact k.1.2.2.1
  | al vs => exact k.1.2.2.1
  | lfp m vs as => exact k.2.1.2.2.1
  | pfp m vs as => exact k.2.1.2.2.1
  | tc vs as => exact k.2.1
  | _ => exact fun v hv => nomatch hv
theorem args_names {h : Hd} {n : Nat} (k : h.Ok n) : Names h.args := by
  cases h with
  | rel m as => exact k.2.2.1
  | eq x y =>
    intro v hv
    rcases List.mem_cons.mp hv with rfl | hv
    · exact k.1
    · rw [List.mem_singleton.mp hv]; exact k.2.1
  | less x y =>
    intro v hv
    rcases List.mem_cons.mp hv with rfl | hv
    · exact k.1
    · rw [List.mem_singleton.mp hv]; exact k.2.1
  | lfp m vs as => exact k.2.2.2.1
  | pfp m vs as => exact k.2.2.2.1
  | tc vs as => exact k.2.2.2.2.1
  | _ => exact fun v hv => nomatch hv
theorem lit_len : (Lc "true").length = 4 ∧ (Lc "false").length = 5 ∧ (Lc "and").length = 3 ∧ (Lc "or").length = 2 ∧ (Lc "not").length = 3 ∧ (Lc "some").length = 4 ∧ (Lc "all").length = 3 ∧ (Lc "lfp").length = 3 ∧ (Lc "pfp").length = 3 ∧ (Lc "tc").length = 2 ∧ (Lc "guess").length = 5 := by decide +kernel
theorem tx_hd {h : Hd} {ts : List (List Nat)} (k : h.Ok ts.length) : (h.tx ts).length ≤ 270 + (cmL ts).length := by
  obtain ⟨l1, l2, l3, l4, l5, l6, l7, l8, l9, l10, l11⟩ := lit_len
  have o := own_le k
  have a := args_le k
  have no := spL_len (own_names k)
  have na := spL_len (args_names k)
  cases h with
  | rel m as => have := nm_len k.1; simp only [Hd.tx, List.length_append, List.length_cons, List.length_nil]; simp only [Hd.args] at a na; omega
  | eq x y => have := nm_len k.1; have := nm_len k.2.1; simp only [Hd.tx, List.length_append, List.length_cons, List.length_nil]; omega
  | less x y => have := nm_len k.1; have := nm_len k.2.1; simp only [Hd.tx, List.length_append, List.length_cons, List.length_nil]; omega
  | no => simp only [Hd.tx, List.length_append, List.length_cons, List.length_nil]; omega
  | con => simp only [Hd.tx]; split <;> (try simp only [List.length_append, List.length_cons, List.length_nil]) <;> omega
  | dis => simp only [Hd.tx]; split <;> (try simp only [List.length_append, List.length_cons, List.length_nil]) <;> omega
  | ex vs => simp only [Hd.tx, List.length_append, List.length_cons, List.length_nil]; simp only [Hd.own] at o no; omega
  | al vs => simp only [Hd.tx, List.length_append, List.length_cons, List.length_nil]; simp only [Hd.own] at o no; omega
  | lfp m vs as =>
    have n2 := spL_len (as := m :: vs) fun v hv => by
      rcases List.mem_cons.mp hv with rfl | hv
      · exact k.1
      · exact own_names k v hv
    simp only [List.length_cons] at n2
    simp only [Hd.tx, List.length_append, List.length_cons, List.length_nil]
    simp only [Hd.own, Hd.args] at o a no na
    omega
  | pfp m vs as =>
    have n2 := spL_len (as := m :: vs) fun v hv => by
      rcases List.mem_cons.mp hv with rfl | hv
      · exact k.1
      · exact own_names k v hv
    simp only [List.length_cons] at n2
    simp only [Hd.tx, List.length_append, List.length_cons, List.length_nil]
    simp only [Hd.own, Hd.args] at o a no na
    omega
  | tc vs as => simp only [Hd.tx, List.length_append, List.length_cons, List.length_nil]; simp only [Hd.own, Hd.args] at o a no na; omega
  | gs m j => have := nm_len k.1; simp only [Hd.tx, List.length_append, List.length_cons, List.length_nil]; omega
theorem tx_len : ∀ f : Fm, f.Ok → f.tx.length + 2 ≤ 272 * f.cnt := Fm.ind fun h ps ih ok => by
  rw [Fm.tx_mk, Fm.cnt_mk]
  have a := tx_hd (h := h) (ts := ps.map Fm.tx) (by rw [List.length_map]; exact ok.hd_)
  have b := cmL_len (ps.map Fm.tx)
  have c : ∀ qs : List Fm, (∀ q, q ∈ qs → q ∈ ps) → sumN ((qs.map Fm.tx).map fun t => t.length + 2) ≤ 272 * sumN (qs.map Fm.cnt) := by
    intro qs
    induction qs with
    | nil => intro _; exact Nat.zero_le _
    | cons q qs ihq =>
      intro hq
      have d := ih q (hq q (List.mem_cons_self ..)) (ok.part (hq q (List.mem_cons_self ..)))
      have e := ihq fun x hx => hq x (List.mem_cons_of_mem _ hx)
      show q.tx.length + 2 + sumN ((qs.map Fm.tx).map fun t => t.length + 2) ≤ 272 * (q.cnt + sumN (qs.map Fm.cnt))
      omega
  have d := c ps fun _ h => h
  omega
/-- a formula's text has room -/
theorem tx_fits {f : Fm} (ok : f.Ok) (c : f.cnt ≤ 2000) : f.tx.length ≤ 544000 := by
  have := tx_len f ok
  omega
theorem fit_line {n : Nat} (h : n ≤ 1000000) : n ≤ sizeLine := Nat.le_trans h (by decide)
/-! ### writing a formula -/
def Hd.words : Hd → List Str
  | .ex vs => vs
  | .al vs => vs
  | .tc vs _ => vs
  | .lfp n vs _ => n :: vs
  | .pfp n vs _ => n :: vs
  | .gs n k => [n, toString (k : Int)]
  | _ => []
def Hd.binds : Hd → Bool
  | .ex _ => true
  | .al _ => true
  | .tc _ _ => true
  | .lfp _ _ _ => true
  | .pfp _ _ _ => true
  | .gs _ _ => true
  | _ => false
theorem str_ext {a b : Str} (h : Lc a = Lc b) : a = b := by rw [str_of h, ← str_of (a := b) rfl]
theorem dig_L {k : Nat} (h : k ≤ 3) : Lc (toString ((k : Nat) : Int)) = [48 + k] := by
  match k, h with
  | 0, _ => decide +kernel
  | 1, _ => decide +kernel
  | 2, _ => decide +kernel
  | 3, _ => decide +kernel
theorem dig_log {k : Nat} (h : k ≤ 3) : ((k : Nat) : Int).natAbs.log2 < 1920 := by
  match k, h with
  | 0, _ => decide +kernel
  | 1, _ => decide +kernel
  | 2, _ => decide +kernel
  | 3, _ => decide +kernel
theorem c_sp : Lc " " = [32] := by decide +kernel
theorem c_po : Lc "(" = [40] := by decide +kernel
theorem c_pc : Lc ")" = [41] := by decide +kernel
theorem c_co : Lc ": " = [58, 32] := by decide +kernel
theorem c_pp : Lc ")(" = [41, 40] := by decide +kernel
theorem c_cm : Lc ", " = [44, 32] := by decide +kernel
theorem c_em : Lc Str.empty = [] := rfl
theorem c_eq : Lc "=" = [61] := by decide +kernel
theorem c_lt : Lc "<" = [60] := by decide +kernel
theorem join_fit {as : List Str} (h : ∀ v, v ∈ as → v.length ≤ 12) (l : as.length ≤ 10) : (as.map (·.length)).sum + as.length * (" " : Str).length ≤ 16777216 := by
  have a : ∀ bs : List Str, (∀ v, v ∈ bs → v.length ≤ 12) → (bs.map (·.length)).sum ≤ 12 * bs.length := by
    intro bs
    induction bs with
    | nil => intro _; exact Nat.le_refl 0
    | cons b bs ih =>
      intro hb
      have c := hb b (List.mem_cons_self ..)
      have d := ih fun v hv => hb v (List.mem_cons_of_mem _ hv)
      rw [List.map_cons, List.sum_cons, List.length_cons]
      omega
  have b := a as h
  have e : (" " : Str).length = 1 := by decide +kernel
  rw [e]
  omega
theorem dig_len {k : Nat} (h : k ≤ 3) : (toString ((k : Nat) : Int) : Str).length ≤ 12 := by rw [Lc_len, dig_L h]; show 1 ≤ 12; decide
theorem words_fit {h : Hd} {n : Nat} (k : h.Ok n) : (∀ v, v ∈ h.words → v.length ≤ 12) ∧ h.words.length ≤ 10 := by
  have o := own_le k
  have on := own_names k
  cases h with
  | ex vs => exact ⟨fun v hv => (on v hv).hi, Nat.le_trans o (by decide)⟩
  | al vs => exact ⟨fun v hv => (on v hv).hi, Nat.le_trans o (by decide)⟩
  | tc vs as => exact ⟨fun v hv => (on v hv).hi, Nat.le_trans o (by decide)⟩
  | lfp m vs as => exact ⟨fun v hv => by
      rcases List.mem_cons.mp hv with rfl | hv
      · exact k.1.hi
      · exact (on v hv).hi, by show vs.length + 1 ≤ 10; have : vs.length ≤ 8 := o; omega⟩
  | pfp m vs as => exact ⟨fun v hv => by
      rcases List.mem_cons.mp hv with rfl | hv
      · exact k.1.hi
      · exact (on v hv).hi, by show vs.length + 1 ≤ 10; have : vs.length ≤ 8 := o; omega⟩
  | gs m j => exact ⟨fun v hv => by
      rcases List.mem_cons.mp hv with rfl | hv
      · exact k.1.hi
      · rw [List.mem_singleton.mp hv]; exact dig_len k.2.1, by show 2 ≤ 10; decide⟩
  | _ => exact ⟨(fun v hv => nomatch hv), (by show 0 ≤ 10; decide)⟩
theorem spJ (as : List Str) : Lc (Txt.join " " as) = spL as := by rw [Lc_join, c_sp]; rfl
theorem words_len {h : Hd} {n : Nat} (k : h.Ok n) : (Lc (Txt.join " " h.words)).length ≤ 140 := by
  obtain ⟨a, b⟩ := words_fit k
  rw [Lc_join]
  have c := joinL_len (Lc " ") (h.words.map Lc)
  have d := sumN_le (b := 13) ((h.words.map Lc).map fun t => t.length + (Lc " ").length) fun x hx => by
    obtain ⟨t, ht, rfl⟩ := List.mem_map.mp hx
    obtain ⟨z, hz, rfl⟩ := List.mem_map.mp ht
    have := a z hz
    rw [Lc_len] at this
    rw [c_sp]
    show (Lc z).length + 1 ≤ 13
    omega
  rw [List.length_map, List.length_map] at d
  omega
theorem word_len : ∀ k : Kd, (Lc k.word).length ≤ 5 := by intro k; cases k <;> decide +kernel
theorem Same.none' {H H' : Hp} {r : Addr} (s : Same H H') (e : H' r = Option.none) : H r = Option.none := by
  cases q : H r with
  | none => rfl
  | some o => rw [s _ _ q] at e; cases e
theorem cnt_part {h : Hd} {ps : List Fm} {p : Fm} (hp : p ∈ ps) : p.cnt < (Fm.mk h ps).cnt := by
  rw [Fm.cnt_mk]
  have := le_sumN (List.mem_map_of_mem (f := Fm.cnt) hp)
  omega
theorem spL_pos {as : List Str} (h : Names as) (l : 1 ≤ as.length) : 1 ≤ (spL as).length := by
  cases as with
  | nil => exact absurd l (by decide)
  | cons a r =>
    have := (h a (List.mem_cons_self ..)).lo
    rw [Lc_len] at this
    cases r with
    | nil => exact this
    | cons b r =>
      show 1 ≤ (Lc a ++ ([32] ++ TL.joinL [32] ((b :: r).map Lc))).length
      rw [List.length_append]
      omega
theorem texts_sum {ps : List Fm} (h : ∀ p, p ∈ ps → p.Ok) : ((ps.map Fm.text).map (·.length)).sum + ps.length * 2 ≤ 272 * sumN (ps.map Fm.cnt) ∧ sumN (((ps.map Fm.text).map Lc).map fun t => t.length + 2) ≤ 272 * sumN (ps.map Fm.cnt) := by
  induction ps with
  | nil => exact ⟨Nat.le_refl 0, Nat.le_refl 0⟩
  | cons p ps ih =>
    obtain ⟨a, b⟩ := ih fun q hq => h q (List.mem_cons_of_mem _ hq)
    have c := tx_len p (h p (List.mem_cons_self ..))
    rw [← p.text_L] at c
    have d : p.text.length = (Lc p.text).length := Lc_len _
    refine ⟨?_, ?_⟩
    · rw [List.map_cons, List.map_cons, List.sum_cons, List.length_cons]
      show p.text.length + ((ps.map Fm.text).map (·.length)).sum + (ps.length + 1) * 2 ≤ 272 * (p.cnt + sumN (ps.map Fm.cnt))
      omega
    · show (Lc p.text).length + 2 + sumN (((ps.map Fm.text).map Lc).map fun t => t.length + 2) ≤ 272 * (p.cnt + sumN (ps.map Fm.cnt))
      omega
theorem texts_fit {h : Hd} {ps : List Fm} (ok : (Fm.mk h ps).Ok) (c : (Fm.mk h ps).cnt ≤ 2000) : ((ps.map Fm.text).map (·.length)).sum + (ps.map Fm.text).length * (", " : Str).length ≤ 16777216 ∧ (Lc (Txt.join ", " (ps.map Fm.text))).length ≤ 544000 := by
  obtain ⟨a, b⟩ := texts_sum fun p hp => ok.part hp
  rw [Fm.cnt_mk] at c
  have e : (", " : Str).length = 2 := by decide +kernel
  refine ⟨?_, ?_⟩
  · rw [e, List.length_map]
    omega
  · rw [Lc_join, c_cm]
    have d := joinL_len [44, 32] ((ps.map Fm.text).map Lc)
    have f : (fun t : List Nat => t.length + ([44, 32] : List Nat).length) = fun t => t.length + 2 := rfl
    rw [f] at d
    omega
theorem c_le : Lc " = " = [32, 61, 32] := by decide +kernel
theorem c_ll : Lc " < " = [32, 60, 32] := by decide +kernel
theorem c_tcp : Lc "tc(" = Lc "tc" ++ [40] := by decide +kernel
theorem c_gsp : Lc "guess(" = Lc "guess" ++ [40] := by decide +kernel
/-! ### data that == may be asked of -/
theorem both_lt : ∀ c, c ∈ both.cps.toList → c < 1114112 := by decide +kernel
theorem nm_lay {z : Str} (h : Nm z) : PyData.canLay0 (.str z) = true := by
  have e : z.cps.all (fun c => decide (c < 1114112)) = true := by
    rw [← Array.all_toList, List.all_eq_true]
    exact fun c hc => decide_eq_true (both_lt c (h.all_ c hc))
  unfold PyData.canLay0
  exact e
theorem layAll : ∀ {ts : List PyData}, (∀ t, t ∈ ts → PyData.canLay0 t = true) → PyData.canLayAll0 ts = true
  | [], _ => by unfold PyData.canLayAll0; rfl
  | t :: ts, h => by
    unfold PyData.canLayAll0
    rw [h t (List.mem_cons_self ..), layAll fun u hu => h u (List.mem_cons_of_mem _ hu)]
    rfl
theorem lay_tup {ts : List PyData} (h : ∀ t, t ∈ ts → PyData.canLay0 t = true) : PyData.canLay0 (.tuple ts) = true := by
  unfold PyData.canLay0
  exact layAll h
theorem lay_tS {as : List Str} (h : Names as) : PyData.canLay0 (tS as) = true := lay_tup fun t ht => by
  obtain ⟨z, hz, rfl⟩ := List.mem_map.mp ht
  exact nm_lay (h z hz)
theorem lay_int (i : Int) : PyData.canLay0 (.int i) = true := by unfold PyData.canLay0; rfl
theorem depAll {n : Nat} : ∀ {ts : List PyData}, (∀ t, t ∈ ts → PyData.depth t ≤ n) → PyData.depthAll ts ≤ n
  | [], _ => by unfold PyData.depthAll; exact Nat.zero_le _
  | t :: ts, h => by
    unfold PyData.depthAll
    exact Nat.max_le.mpr ⟨h t (List.mem_cons_self ..), depAll fun u hu => h u (List.mem_cons_of_mem _ hu)⟩
theorem dep_tup {n : Nat} {ts : List PyData} (h : ∀ t, t ∈ ts → PyData.depth t ≤ n) : PyData.depth (.tuple ts) ≤ n + 1 := by
  unfold PyData.depth
  exact Nat.succ_le_succ (depAll h)
theorem dep_str (z : Str) : PyData.depth (.str z) = 0 := by unfold PyData.depth; rfl
theorem dep_int (z : Int) : PyData.depth (.int z) = 0 := by unfold PyData.depth; rfl
theorem dep_tS (as : List Str) : PyData.depth (tS as) ≤ 1 := dep_tup fun t ht => by
  obtain ⟨z, hz, rfl⟩ := List.mem_map.mp ht
  exact Nat.le_of_eq (dep_str z)
theorem rest_mem {h : Hd} {ds : List PyData} {t : PyData} (m : t ∈ h.rest ds) : t ∈ ds ∨ t = .tuple ds ∨ (∃ z, t = .str z) ∨ (∃ i, t = .int i) ∨ (∃ as, t = tS as ∧ (as = h.own ∨ as = h.args)) := by
  cases h with
  | rel n as =>
    simp only [Hd.rest, List.mem_cons, List.not_mem_nil, or_false] at m
    rcases m with rfl | rfl
    · exact .inr (.inr (.inl ⟨_, rfl⟩))
    · exact .inr (.inr (.inr (.inr ⟨as, rfl, .inr rfl⟩)))
  | eq x y => simp only [Hd.rest, List.mem_cons, List.not_mem_nil, or_false] at m; rcases m with rfl | rfl <;> simp
  | less x y => simp only [Hd.rest, List.mem_cons, List.not_mem_nil, or_false] at m; rcases m with rfl | rfl <;> simp
  | no => exact .inl m
  | con => simp only [Hd.rest, List.mem_cons, List.not_mem_nil, or_false] at m; exact .inr (.inl m)
  | dis => simp only [Hd.rest, List.mem_cons, List.not_mem_nil, or_false] at m; exact .inr (.inl m)
  | ex vs => simp only [Hd.rest, List.mem_cons] at m; rcases m with rfl | m; exact .inr (.inr (.inr (.inr ⟨_, rfl, .inl rfl⟩))); exact .inl m
  | al vs => simp only [Hd.rest, List.mem_cons] at m; rcases m with rfl | m; exact .inr (.inr (.inr (.inr ⟨_, rfl, .inl rfl⟩))); exact .inl m
  | lfp n vs as =>
    simp only [Hd.rest, List.mem_cons, List.mem_append, List.not_mem_nil, or_false] at m
    rcases m with rfl | rfl | m | rfl
    · exact .inr (.inr (.inl ⟨_, rfl⟩))
    · exact .inr (.inr (.inr (.inr ⟨_, rfl, .inl rfl⟩)))
    · exact .inl m
    · exact .inr (.inr (.inr (.inr ⟨_, rfl, .inr rfl⟩)))
  | pfp n vs as =>
    simp only [Hd.rest, List.mem_cons, List.mem_append, List.not_mem_nil, or_false] at m
    rcases m with rfl | rfl | m | rfl
    · exact .inr (.inr (.inl ⟨_, rfl⟩))
    · exact .inr (.inr (.inr (.inr ⟨_, rfl, .inl rfl⟩)))
    · exact .inl m
    · exact .inr (.inr (.inr (.inr ⟨_, rfl, .inr rfl⟩)))
  | tc vs as =>
    simp only [Hd.rest, List.mem_cons, List.mem_append, List.not_mem_nil, or_false] at m
    rcases m with rfl | m | rfl
    · exact .inr (.inr (.inr (.inr ⟨_, rfl, .inl rfl⟩)))
    · exact .inl m
    · exact .inr (.inr (.inr (.inr ⟨_, rfl, .inr rfl⟩)))
  | gs n k =>
    simp only [Hd.rest, List.mem_cons] at m
    rcases m with rfl | rfl | m
    · exact .inr (.inr (.inl ⟨_, rfl⟩))
    · exact .inr (.inr (.inr (.inl ⟨_, rfl⟩)))
    · exact .inl m
theorem rest_str {h : Hd} {n : Nat} {ds : List PyData} (k : h.Ok n) {z : Str} (hd : ∀ t, t ∈ ds → ∃ us, t = .tuple us) (m : PyData.str z ∈ h.rest ds) : Nm z := by
  have no : PyData.str z ∈ ds → False := fun q => by obtain ⟨us, e⟩ := hd _ q; cases e
  cases h with
  | rel x as => simp only [Hd.rest, List.mem_cons, List.not_mem_nil, or_false, tS] at m; rcases m with e | e; cases e; exact k.1; cases e
  | eq x y => simp only [Hd.rest, List.mem_cons, List.not_mem_nil, or_false] at m; rcases m with e | e; cases e; exact k.1; cases e; exact k.2.1
  | less x y => simp only [Hd.rest, List.mem_cons, List.not_mem_nil, or_false] at m; rcases m with e | e; cases e; exact k.1; cases e; exact k.2.1
  | no => exact (no m).elim
  | con => simp only [Hd.rest, List.mem_cons, List.not_mem_nil, or_false] at m; cases m
  | dis => simp only [Hd.rest, List.mem_cons, List.not_mem_nil, or_false] at m; cases m
  | ex vs => simp only [Hd.rest, List.mem_cons, tS] at m; rcases m with e | e; cases e; exact (no e).elim
  | al vs => simp only [Hd.rest, List.mem_cons, tS] at m; rcases m with e | e; cases e; exact (no e).elim
  | lfp x vs as => simp only [Hd.rest, List.mem_cons, List.mem_append, List.not_mem_nil, or_false, tS] at m; rcases m with e | e | e | e; cases e; exact k.1; cases e; exact (no e).elim; cases e
  | pfp x vs as => simp only [Hd.rest, List.mem_cons, List.mem_append, List.not_mem_nil, or_false, tS] at m; rcases m with e | e | e | e; cases e; exact k.1; cases e; exact (no e).elim; cases e
  | tc vs as => simp only [Hd.rest, List.mem_cons, List.mem_append, List.not_mem_nil, or_false, tS] at m; rcases m with e | e | e; cases e; exact (no e).elim; cases e
  | gs x j => simp only [Hd.rest, List.mem_cons] at m; rcases m with e | e | e; cases e; exact k.1; cases e; exact (no e).elim
theorem word_lay : ∀ k : Kd, PyData.canLay0 (.str k.word) = true := by intro k; cases k <;> decide +kernel
theorem data_tup (f : Fm) : ∃ us, f.data = .tuple us := by obtain ⟨h, ps⟩ := f; rw [Fm.data_mk]; exact ⟨_, rfl⟩
theorem lay_fm : ∀ f : Fm, f.Ok → PyData.canLay0 f.data = true ∧ PyData.depth f.data ≤ 2 * f.dep := Fm.ind fun h ps ih ok => by
  rw [Fm.data_mk, Fm.dep_mk]
  have a : ∀ t, t ∈ ps.map Fm.data → PyData.canLay0 t = true := fun t ht => by
    obtain ⟨p, hp, rfl⟩ := List.mem_map.mp ht
    exact (ih p hp (ok.part hp)).1
  have b : ∀ t, t ∈ ps.map Fm.data → PyData.depth t ≤ 2 * maxN (ps.map Fm.dep) := fun t ht => by
    obtain ⟨p, hp, rfl⟩ := List.mem_map.mp ht
    have c := (ih p hp (ok.part hp)).2
    have d := le_maxN (List.mem_map_of_mem (f := Fm.dep) hp)
    omega
  have tu : ∀ t, t ∈ ps.map Fm.data → ∃ us, t = .tuple us := fun t ht => by
    obtain ⟨p, hp, rfl⟩ := List.mem_map.mp ht
    exact data_tup p
  refine ⟨lay_tup fun t ht => ?_, ?_⟩
  · rcases List.mem_cons.mp ht with rfl | ht
    · exact word_lay _
    · rcases rest_mem ht with m | rfl | ⟨z, rfl⟩ | ⟨i, rfl⟩ | ⟨as, rfl, e⟩
      · exact a t m
      · exact lay_tup a
      · exact nm_lay (rest_str ok.hd_ tu ht)
      · exact lay_int i
      · rcases e with rfl | rfl
        · exact lay_tS (own_names ok.hd_)
        · exact lay_tS (args_names ok.hd_)
  · have c := dep_tup (n := 2 * maxN (ps.map Fm.dep) + 1) (ts := .str h.word :: h.rest (ps.map Fm.data)) fun t ht => by
      rcases List.mem_cons.mp ht with rfl | ht
      · rw [dep_str]; omega
      · rcases rest_mem ht with m | rfl | ⟨z, rfl⟩ | ⟨i, rfl⟩ | ⟨as, rfl, e⟩
        · exact Nat.le_succ_of_le (b t m)
        · exact dep_tup b
        · rw [dep_str]; omega
        · rw [dep_int]; omega
        · exact Nat.le_trans (dep_tS as) (by omega)
    show PyData.depth (.tuple (.str h.word :: h.rest (ps.map Fm.data))) ≤ _
    omega
/-- x == y where x may be as deep as it likes -/
def rEqE (K : PySem.W.Frag) : R2 := fun x y H Q => ∃ d e, Dp K H x d ∧ Dp K H y e ∧ PyData.canLay0 d = true ∧ SeqAt.shaped e = true ∧ Q (.bl (PyData.eqv d e)) H
theorem op_eqE {X : Cx} (hu : X.A.units + 64 < cLine) : OpR X (compareOp .Eq) (rEqE X.K) := by
  intro ps s1 τ G x y a b W J ra rb h
  obtain ⟨d, e, hd, he, sd, se, q⟩ := h
  obtain ⟨_, one⟩ := Dp.reads J d x a hd ra
  obtain ⟨_, two⟩ := Dp.reads J e y b he rb
  have room : X.A.units + min d.depth e.depth < cLine := by
    have d1 := SeqAt.depth_of_shaped se
    have d2 := Nat.min_le_right d.depth e.depth
    omega
  exact PySem.SeqAt.compareEq_reads one two sd (SeqAt.canLay_of_shaped se) room ⟨.bl _, G, J, rfl, q⟩
def eD (z : Str) : PyData := .tuple [.str z, .tuple []]
theorem eqv_no {h : Hd} {ds : List PyData} {z : Str} (e : (h.word == z) = false) : PyData.eqv (h.data ds) (eD z) = false := by
  show PyData.eqv (.tuple (.str h.word :: h.rest ds)) (.tuple [.str z, .tuple []]) = false
  simp only [PyData.eqv, PyData.eqvAll, e, Bool.false_and]
theorem eqv_j {h : Hd} {ds : List PyData} {z : Str} (e : (h.word == z) = true) (r : h.rest ds = [.tuple ds]) : PyData.eqv (h.data ds) (eD z) = ds.isEmpty := by
  show PyData.eqv (.tuple (.str h.word :: h.rest ds)) (.tuple [.str z, .tuple []]) = ds.isEmpty
  rw [r]
  cases ds <;> simp [PyData.eqv, PyData.eqvAll, e]
def spLList (K : PySem.W.Frag) : Sp := fun vs H Q _ => ∃ (v : V) (as : List Str), vs = [v] ∧ Dp K H v (tS as) ∧ Names as ∧ as.length ≤ 8 ∧ Q (.str (Txt.join " " as)) H
def spLText (K : PySem.W.Frag) (n : Nat) : Sp := fun vs H Q _ => ∃ (v : V) (f : Fm), vs = [v] ∧ Dp K H v f.data ∧ f.Ok ∧ f.cnt ≤ 2000 ∧ f.dep ≤ n ∧ ∀ (H' : Hp), Same H H' → Q (.str f.text) H'
section
variable {P : Program} {w : World} {K : PySem.W.Frag} {mg : Str → Option Value} {base : Heap}
theorem sc_llist : FnScope ["row"] ["row"] (defScope (top 74)) := ⟨rfl, rfl, rfl, by decide +kernel, rfl, by decide +kernel, by decide +kernel⟩
theorem has_llist (D : Def K mg "_law_list" ["row"] (top 74)) : Has P w K mg base 1 "_law_list" ["row"] (spLList K) := D.has fun f fd F => by
  refine F.ok sc_llist (fun vs H Q E h => ?_) (fun cdv A outer s H vs Q E hr h => ?_)
  · obtain ⟨v, as, rfl, _⟩ := h; rfl
  · obtain ⟨v, as, rfl, dp, nm, l, q⟩ := h
    refine ⟨_, PSs.nox (pss_one (ps_ret (pe_bm PySem.F.plainAttrs_str PySem.F.slot_str_join PySem.F.type_str_join mt_join pe_str (pa_cons (pv 0) pa_nil)))), ?_⟩
    obtain ⟨t, rfl, ht⟩ := tS_inv dp
    exact ⟨rfl, _, rfl, _, _, as, rfl, rfl, .inr ht, join_fit (fun v hv => (nm v hv).hi) (Nat.le_trans l (by decide)), q⟩
theorem sc_ltext : FnScope ["f", "inner_v", "part"] ["f"] (defScope (top 75)) := ⟨rfl, rfl, rfl, by decide +kernel, rfl, by decide +kernel, by decide +kernel⟩
theorem has_ltext (D : Def K mg "_law_text" ["f"] (top 75)) (T : Txt mg) (C1 : Has P w K mg base 1 "_law_parts" ["f"] (spParts K)) (C2 : Has P w K mg base 1 "_law_list" ["row"] (spLList K)) :
    ∀ n : Nat, Has P w K mg base (2 + n) "_law_text" ["f"] (spLText K n) := by
  obtain ⟨f1, fd1, G_law_parts, g_law_parts, k_law_parts, b_law_parts⟩ := C1
  obtain ⟨f2, fd2, G_law_list, g_law_list, k_law_list, b_law_list⟩ := C2
  intro n
  induction n with
  | zero =>
    refine D.has fun f fd F => F.ok sc_ltext (fun vs H Q E h => ?_) (fun cdv A outer s H vs Q E hr h => ?_)
    · obtain ⟨v, f, rfl, _⟩ := h; rfl
    · obtain ⟨v, f, rfl, _, _, _, h0, _⟩ := h
      have := dep_pos f
      omega
  | succ n ih =>
    obtain ⟨f4, fd4, G_law_text, g_law_text, k_law_text, b_law_text⟩ := ih
    refine D.has fun f fd F => F.ok sc_ltext (fun vs H Q E h => ?_) (fun cdv A outer s H vs Q E hr h => ?_)
    · obtain ⟨v, f, rfl, _⟩ := h; rfl
    · obtain ⟨v, f, rfl, dp, ok, hc, hn, q⟩ := h
      have R_law_parts : Room 1 _ := hr.mono (Nat.le_trans (by decide) (Nat.le_add_right 2 n))
      have R_law_list : Room 1 _ := hr.mono (Nat.le_trans (by decide) (Nat.le_add_right 2 n))
      have R_law_text : Room (2 + n) _ := hr
      refine ⟨_, PSs.nox (pss_cons (ps_if (pt_cmpR op_eq (pe_ix ix_tup (pv 0) pe_int (fun _ _ => rfl)) pe_str (nomark _)) (pss_one (ps_ret (pe_op op_add_str (pe_op op_add_str (pe_op op_add_str (pe_ix ix_tup (pv 0) pe_int (fun _ _ => rfl)) pe_str) (pe_call G_law_list R_law_list (by rfl) g_law_list k_law_list b_law_list .nil pass0 (pa_cons (pe_ix ix_tup (pv 0) pe_int (fun _ _ => rfl)) pa_nil))) pe_str))) pss_nil) (pss_cons (ps_if (pt_cmpR op_eq (pe_ix ix_tup (pv 0) pe_int (fun _ _ => rfl)) pe_str (nomark _)) (pss_one (ps_ret (pe_op op_add_str (pe_op op_add_str (pe_ix ix_tup (pv 0) pe_int (fun _ _ => rfl)) pe_str) (pe_ix ix_tup (pv 0) pe_int (fun _ _ => rfl))))) pss_nil) (pss_cons (ps_if (pt_cmpR op_eq (pe_ix ix_tup (pv 0) pe_int (fun _ _ => rfl)) pe_str (nomark _)) (pss_one (ps_ret (pe_op op_add_str (pe_op op_add_str (pe_ix ix_tup (pv 0) pe_int (fun _ _ => rfl)) pe_str) (pe_ix ix_tup (pv 0) pe_int (fun _ _ => rfl))))) pss_nil) (pss_cons (ps_if (pt_cmpR (op_eqE hr.units) (pv 0) (pe_tup (pa_cons pe_str (pa_cons (pe_tup pa_nil) pa_nil))) (nomark _)) (pss_one (ps_ret pe_str)) pss_nil) (pss_cons (ps_if (pt_cmpR (op_eqE hr.units) (pv 0) (pe_tup (pa_cons pe_str (pa_cons (pe_tup pa_nil) pa_nil))) (nomark _)) (pss_one (ps_ret pe_str)) pss_nil) (pss_cons (ps_set (i := 1) sc_ltext.nd rfl (Or.inl rfl) (pe_bm PySem.F.plainAttrs_str PySem.F.slot_str_join PySem.F.type_str_join mt_join pe_str (pa_cons (pe_lc (own := [("part", 2)]) rfl sc_ltext.nd (pi_list (pe_call G_law_parts R_law_parts (by rfl) g_law_parts k_law_parts b_law_parts .nil pass0 (pa_cons (pv 0) pa_nil))) (blkOk_by (N := ["f", "inner_v", "part"]) (sc := defScope (top 75)) (by decide +kernel)) (fun _ _ _ _ _ => (pg_name (i := 2) sc_ltext.nd rfl (Or.inl rfl))) (fun _ _ _ _ _ => pts_nil) (fun _ _ _ _ _ => (pe_call G_law_text R_law_text (by rfl) g_law_text k_law_text b_law_text .nil pass0 (pa_cons (pv 2) pa_nil)))) pa_nil))) (pss_cons (ps_if (pt_cmpR op_in_seq (pe_ix ix_tup (pv 0) pe_int (fun _ _ => rfl)) (pe_lst (pa_cons pe_str (pa_cons pe_str (pa_cons pe_str pa_nil)))) (by rfl)) (pss_one (ps_ret (pe_op op_add_str (pe_op op_add_str (pe_op op_add_str (pe_ix ix_tup (pv 0) pe_int (fun _ _ => rfl)) pe_str) (pv 1)) pe_str))) pss_nil) (pss_cons (ps_if (PW.pt (pw_or (pt_cmpR op_eq (pe_ix ix_tup (pv 0) pe_int (fun _ _ => rfl)) pe_str (nomark _)) (pw_or1 (pt_cmpR op_eq (pe_ix ix_tup (pv 0) pe_int (fun _ _ => rfl)) pe_str (nomark _))))) (pss_one (ps_ret (pe_op op_add_str (pe_op op_add_str (pe_op op_add_str (pe_op op_add_str (pe_op op_add_str (pe_ix ix_tup (pv 0) pe_int (fun _ _ => rfl)) pe_str) (pe_call G_law_list R_law_list (by rfl) g_law_list k_law_list b_law_list .nil pass0 (pa_cons (pe_ix ix_tup (pv 0) pe_int (fun _ _ => rfl)) pa_nil))) pe_str) (pv 1)) pe_str))) pss_nil) (pss_cons (ps_if (pt_cmpR op_eq (pe_ix ix_tup (pv 0) pe_int (fun _ _ => rfl)) pe_str (nomark _)) (pss_one (ps_ret (pe_op op_add_str (pe_op op_add_str (pe_op op_add_str (pe_op op_add_str (pe_op op_add_str (pe_op op_add_str pe_str (pe_call G_law_list R_law_list (by rfl) g_law_list k_law_list b_law_list .nil pass0 (pa_cons (pe_ix ix_tup (pv 0) pe_int (fun _ _ => rfl)) pa_nil))) pe_str) (pv 1)) pe_str) (pe_call G_law_list R_law_list (by rfl) g_law_list k_law_list b_law_list .nil pass0 (pa_cons (pe_ix ix_tup (pv 0) pe_int (fun _ _ => rfl)) pa_nil))) pe_str))) pss_nil) (pss_cons (ps_if (pt_cmpR op_eq (pe_ix ix_tup (pv 0) pe_int (fun _ _ => rfl)) pe_str (nomark _)) (pss_one (ps_ret (pe_op op_add_str (pe_op op_add_str (pe_op op_add_str (pe_op op_add_str (pe_op op_add_str (pe_op op_add_str pe_str (pe_ix ix_tup (pv 0) pe_int (fun _ _ => rfl))) pe_str) (pe_callTy call_str_int (by rfl) T.n_str (by decide +kernel) (pa_cons (pe_ix ix_tup (pv 0) pe_int (fun _ _ => rfl)) pa_nil))) pe_str) (pv 1)) pe_str))) pss_nil) (pss_one (ps_ret (pe_op op_add_str (pe_op op_add_str (pe_op op_add_str (pe_op op_add_str (pe_op op_add_str (pe_op op_add_str (pe_op op_add_str (pe_op op_add_str (pe_op op_add_str (pe_ix ix_tup (pv 0) pe_int (fun _ _ => rfl)) pe_str) (pe_ix ix_tup (pv 0) pe_int (fun _ _ => rfl))) pe_str) (pe_call G_law_list R_law_list (by rfl) g_law_list k_law_list b_law_list .nil pass0 (pa_cons (pe_ix ix_tup (pv 0) pe_int (fun _ _ => rfl)) pa_nil))) pe_str) (pv 1)) pe_str) (pe_call G_law_list R_law_list (by rfl) g_law_list k_law_list b_law_list .nil pass0 (pa_cons (pe_ix ix_tup (pv 0) pe_int (fun _ _ => rfl)) pa_nil))) pe_str))))))))))))), ?_⟩
      have sh := (lay_fm f ok).1
      have dpF := dp
      obtain ⟨h, ps⟩ := f
      rw [Fm.data_mk] at dp sh
      have okh := ok.hd_
      have p40 : ps.length ≤ 40 := parts_len ok.hd_
      have al := args_le okh
      have ol := own_le okh
      have an := args_names okh
      have on := own_names okh
      have wl := words_len okh
      have tl := tx_fits ok hc
      have sal := spL_len an
      have sol := spL_len on
      have ftl := texts_fit ok hc
      have il := ftl.2
      have lw := lit_len
      have bi : (Txt.join ", " (ps.map Fm.text)).length ≤ 544000 := by rw [Lc_len]; exact il
      have te : (ps.map Fm.text).map Lc = ps.map Fm.tx := by rw [List.map_map]; exact List.map_congr_left fun g _ => g.text_L
      have dp0 := dp
      obtain ⟨a, xs, rfl, hT, hx⟩ := hd_inv dp
      cases h with
      | rel n as =>
        obtain rfl := none_of okh.2.2.2
        obtain ⟨v1, w1, rfl, e1, hx1⟩ := DpAll.cons_inv hx
        obtain ⟨v2, w2, rfl, e2, hx2⟩ := DpAll.cons_inv hx1
        obtain rfl := DpAll.nil_inv hx2
        obtain rfl := Dp.str_inv e1
        obtain ⟨t2, rfl, ht2⟩ := tS_inv e2
        refine ⟨_, rfl, a, _, _, _, rfl, rfl, hT, atI_nat (j := 0) rfl, rfl, _, rfl, cT (k := decide (V.str "rel" = V.str "rel")) (by decide +kernel) ?_⟩
        have lx := nm_len okh.1
        have sal2 : (spL as).length ≤ 13 * as.length := sal
        have al2 : as.length ≤ 8 := al
        refine ⟨_, rfl, a, _, _, _, rfl, rfl, hT, atI_nat (j := 1) rfl, _, _, rfl, rfl, ?_, _, rfl, a, _, _, _, rfl, rfl, hT, atI_nat (j := 2) rfl, .ref t2, _, rfl, tS_of ht2, an, al, _, _, rfl, rfl, ?_, _, _, rfl, rfl, ?_, ?_⟩
        · exact fit_line (by simp only [Lc_len, Lc_app, List.length_append, c_sp, c_po, c_pc, c_co, c_pp, c_tcp, c_gsp, spJ, List.length_cons, List.length_nil] at *; omega)
        · exact fit_line (by simp only [Lc_len, Lc_app, List.length_append, c_sp, c_po, c_pc, c_co, c_pp, c_tcp, c_gsp, spJ, List.length_cons, List.length_nil] at *; omega)
        · exact fit_line (by simp only [Lc_len, Lc_app, List.length_append, c_sp, c_po, c_pc, c_co, c_pp, c_tcp, c_gsp, spJ, List.length_cons, List.length_nil] at *; omega)
        have z := q _ (.refl _)
        have e : Fm.text (.mk (.rel n as) []) = (((n ++ ("(" : Str)) ++ (Txt.join " " as)) ++ (")" : Str)) := str_ext (by rw [Fm.text_L, Fm.tx_mk]; simp only [Lc_app, c_sp, c_po, c_pc, c_co, c_pp, c_em, c_eq, c_lt, c_tcp, c_gsp, c_le, c_ll, spJ, Lc_join, c_cm]; simp only [Hd.tx]; rfl)
        rw [e] at z
        exact z
      | eq x y =>
        obtain rfl := none_of okh.2.2
        obtain ⟨v1, w1, rfl, e1, hx1⟩ := DpAll.cons_inv hx
        obtain ⟨v2, w2, rfl, e2, hx2⟩ := DpAll.cons_inv hx1
        obtain rfl := DpAll.nil_inv hx2
        obtain rfl := Dp.str_inv e1
        obtain rfl := Dp.str_inv e2
        refine ⟨_, rfl, a, _, _, _, rfl, rfl, hT, atI_nat (j := 0) rfl, rfl, _, rfl, cF (k := decide (V.str "eq" = V.str "rel")) (by decide +kernel) ?_⟩
        refine ⟨_, rfl, a, _, _, _, rfl, rfl, hT, atI_nat (j := 0) rfl, rfl, _, rfl, cT (k := decide (V.str "eq" = V.str "eq")) (by decide +kernel) ?_⟩
        have lx := nm_len okh.1
        have ly := nm_len okh.2.1
        refine ⟨_, rfl, a, _, _, _, rfl, rfl, hT, atI_nat (j := 1) rfl, _, _, rfl, rfl, ?_, _, rfl, a, _, _, _, rfl, rfl, hT, atI_nat (j := 2) rfl, _, _, rfl, rfl, ?_, ?_⟩
        · exact fit_line (by simp only [Lc_len, Lc_app, List.length_append, c_sp, c_po, c_pc, c_co, c_pp, c_tcp, c_gsp, c_le, c_ll, spJ, List.length_cons, List.length_nil] at *; omega)
        · exact fit_line (by simp only [Lc_len, Lc_app, List.length_append, c_sp, c_po, c_pc, c_co, c_pp, c_tcp, c_gsp, c_le, c_ll, spJ, List.length_cons, List.length_nil] at *; omega)
        have z := q _ (.refl _)
        have e : Fm.text (.mk (.eq x y) []) = ((x ++ (" = " : Str)) ++ y) := str_ext (by rw [Fm.text_L, Fm.tx_mk]; simp only [Lc_app, c_sp, c_po, c_pc, c_co, c_pp, c_em, c_eq, c_lt, c_tcp, c_gsp, c_le, c_ll, spJ, Lc_join, c_cm]; simp only [Hd.tx])
        rw [e] at z
        exact z
      | less x y =>
        obtain rfl := none_of okh.2.2
        obtain ⟨v1, w1, rfl, e1, hx1⟩ := DpAll.cons_inv hx
        obtain ⟨v2, w2, rfl, e2, hx2⟩ := DpAll.cons_inv hx1
        obtain rfl := DpAll.nil_inv hx2
        obtain rfl := Dp.str_inv e1
        obtain rfl := Dp.str_inv e2
        refine ⟨_, rfl, a, _, _, _, rfl, rfl, hT, atI_nat (j := 0) rfl, rfl, _, rfl, cF (k := decide (V.str "less" = V.str "rel")) (by decide +kernel) ?_⟩
        refine ⟨_, rfl, a, _, _, _, rfl, rfl, hT, atI_nat (j := 0) rfl, rfl, _, rfl, cF (k := decide (V.str "less" = V.str "eq")) (by decide +kernel) ?_⟩
        refine ⟨_, rfl, a, _, _, _, rfl, rfl, hT, atI_nat (j := 0) rfl, rfl, _, rfl, cT (k := decide (V.str "less" = V.str "less")) (by decide +kernel) ?_⟩
        have lx := nm_len okh.1
        have ly := nm_len okh.2.1
        refine ⟨_, rfl, a, _, _, _, rfl, rfl, hT, atI_nat (j := 1) rfl, _, _, rfl, rfl, ?_, _, rfl, a, _, _, _, rfl, rfl, hT, atI_nat (j := 2) rfl, _, _, rfl, rfl, ?_, ?_⟩
        · exact fit_line (by simp only [Lc_len, Lc_app, List.length_append, c_sp, c_po, c_pc, c_co, c_pp, c_tcp, c_gsp, c_le, c_ll, spJ, List.length_cons, List.length_nil] at *; omega)
        · exact fit_line (by simp only [Lc_len, Lc_app, List.length_append, c_sp, c_po, c_pc, c_co, c_pp, c_tcp, c_gsp, c_le, c_ll, spJ, List.length_cons, List.length_nil] at *; omega)
        have z := q _ (.refl _)
        have e : Fm.text (.mk (.less x y) []) = ((x ++ (" < " : Str)) ++ y) := str_ext (by rw [Fm.text_L, Fm.tx_mk]; simp only [Lc_app, c_sp, c_po, c_pc, c_co, c_pp, c_em, c_eq, c_lt, c_tcp, c_gsp, c_le, c_ll, spJ, Lc_join, c_cm]; simp only [Hd.tx])
        rw [e] at z
        exact z
      | no =>
        obtain ⟨g0, rfl⟩ := one_of okh
        obtain ⟨v1, w1, rfl, e1, hx1⟩ := DpAll.cons_inv hx
        obtain rfl := DpAll.nil_inv hx1
        refine ⟨_, rfl, a, _, _, _, rfl, rfl, hT, atI_nat (j := 0) rfl, rfl, _, rfl, cF (k := decide (V.str "not" = V.str "rel")) (by decide +kernel) ?_⟩
        refine ⟨_, rfl, a, _, _, _, rfl, rfl, hT, atI_nat (j := 0) rfl, rfl, _, rfl, cF (k := decide (V.str "not" = V.str "eq")) (by decide +kernel) ?_⟩
        refine ⟨_, rfl, a, _, _, _, rfl, rfl, hT, atI_nat (j := 0) rfl, rfl, _, rfl, cF (k := decide (V.str "not" = V.str "less")) (by decide +kernel) ?_⟩
        refine ⟨_, rfl, (by show 0 ≤ sizeLine; decide), fun p0 n0 => ⟨(by show 2 ≤ sizeLine; decide), fun p1 n1 => ?_⟩⟩
        have a0 := same_upd (o := .tup []) n0
        have a1 := same_upd (o := .tup [.str "and", .ref p0]) n1
        have u0 := (a0.trans a1)
        have de0 : Dp K _ (.ref p1) (eD "and") := .tup (SqT.of upd_same) (.cons (.str _) (.cons (.tup (Same.sqt a1 (SqT.of upd_same)) .nil) .nil))
        refine ⟨_, _, Dp.same u0 dp0, de0, sh, by decide +kernel, _, rfl, cF (k := PyData.eqv (Hd.data (.no) _) (eD "and")) (eqv_no (show (Kd.word .no == ("and" : Str)) = false by decide +kernel)) ?_⟩
        refine ⟨_, rfl, (by show 0 ≤ sizeLine; decide), fun p2 n2 => ⟨(by show 2 ≤ sizeLine; decide), fun p3 n3 => ?_⟩⟩
        have a2 := same_upd (o := .tup []) n2
        have a3 := same_upd (o := .tup [.str "or", .ref p2]) n3
        have u1 := (u0.trans (a2.trans a3))
        have de1 : Dp K _ (.ref p3) (eD "or") := .tup (SqT.of upd_same) (.cons (.str _) (.cons (.tup (Same.sqt a3 (SqT.of upd_same)) .nil) .nil))
        refine ⟨_, _, Dp.same u1 dp0, de1, sh, by decide +kernel, _, rfl, cF (k := PyData.eqv (Hd.data (.no) _) (eD "or")) (eqv_no (show (Kd.word .no == ("or" : Str)) = false by decide +kernel)) ?_⟩
        refine ⟨rfl, _, rfl, .ref a, _, rfl, Dp.same u1 dpF, ok, fun H3 b ys s3 nb hb hy => ⟨b, rfl, ⟨_, SqL.of hb⟩, fun L nL => ?_⟩⟩
        have hy : DpAll K H3 ys (List.map Fm.data [g0]) := hy
        have s13 := u1.trans s3
        have yl : ys.length = List.length [g0] := by rw [DpAll.length hy, List.length_map]
        refine lc_it (walk_list (K := K) (a := b) (xs := ys)) (fun i H4 => Same H3 H4 ∧ H4 L = some (.lst (((List.take i [g0]).map Fm.text).map V.str))) ⟨same_upd nL, upd_same⟩ (fun i H4 _ ⟨s4, _⟩ => SqL.of (s4 _ _ hb)) ?_ ?_
        · rintro i y H4 H5 hi ⟨s4, hL⟩ ⟨rfl, hy2⟩
          obtain ⟨dd, hd, dpy⟩ := DpAll.get' hy hy2
          obtain ⟨g, hg, rfl⟩ := get_map hd
          have mem := List.mem_of_getElem? hg
          have dl : g.dep < (Fm.mk (.no) [g0]).dep := dep_part mem
          have cl : g.cnt < (Fm.mk (.no) [g0]).cnt := cnt_part mem
          refine ⟨rfl, _, rfl, y, g, rfl, Dp.same s4 dpy, ok.part mem, by omega, by omega, fun H6 s6 => ⟨_, s6 _ _ hL, ?_, fun b o eb => ?_, ?_⟩⟩
          · rw [List.length_map, List.length_map]
            have := List.length_take_le' i [g0]
            exact small1000 (by omega)
          · rw [upd_ne (ne_of_none eb nL)]
            exact s6 _ _ (s4 _ _ eb)
          · rw [upd_same, List.take_add_one, hg, List.map_append, List.map_append]
            rfl
        rintro H4 ⟨s4, hL⟩
        rw [List.take_of_length_le (show List.length [g0] ≤ ys.length by omega)] at hL
        refine ⟨_, _, List.map Fm.text [g0], rfl, rfl, .inl (SqL.of hL), ftl.1, ?_⟩
        have s14 := s13.trans s4
        refine ⟨_, rfl, a, _, _, _, rfl, rfl, (Same.sqt s14 hT), atI_nat (j := 0) rfl, (by show 3 ≤ sizeLine; decide), fun q1 m1 => ⟨_, _, rfl, .inl (SqL.of upd_same), rfl, rfl, _, rfl, cT (k := inV (.str "not") [.str "not", .str "and", .str "or"]) (by decide +kernel) ?_⟩⟩
        have s15 := s14.trans (same_upd (o := .lst [.str "not", .str "and", .str "or"]) m1)
        have lwd : (Lc (Hd.word .no)).length ≤ 5 := word_len _
        refine ⟨_, rfl, a, _, _, _, rfl, rfl, (Same.sqt s15 hT), atI_nat (j := 0) rfl, _, _, rfl, rfl, ?_, _, rfl, _, _, rfl, rfl, ?_, _, _, rfl, rfl, ?_, ?_⟩
        · exact fit_line (by simp only [Lc_len, Lc_app, List.length_append, c_sp, c_po, c_pc, c_co, c_pp, c_tcp, c_gsp, spJ, List.length_cons, List.length_nil] at *; omega)
        · exact fit_line (by simp only [Lc_len, Lc_app, List.length_append, c_sp, c_po, c_pc, c_co, c_pp, c_tcp, c_gsp, spJ, List.length_cons, List.length_nil] at *; omega)
        · exact fit_line (by simp only [Lc_len, Lc_app, List.length_append, c_sp, c_po, c_pc, c_co, c_pp, c_tcp, c_gsp, spJ, List.length_cons, List.length_nil] at *; omega)
        have z := q _ s15
        have e : Fm.text (.mk .no [g0]) = (((("not" : Str) ++ ("(" : Str)) ++ (Txt.join ", " (List.map Fm.text [g0]))) ++ (")" : Str)) := str_ext (by rw [Fm.text_L, Fm.tx_mk]; simp only [Lc_app, c_sp, c_po, c_pc, c_co, c_pp, c_em, c_eq, c_lt, c_tcp, c_gsp, c_le, c_ll, spJ, Lc_join, c_cm]; simp only [Hd.tx, te]; rfl)
        rw [e] at z
        exact z
      | con =>
        obtain ⟨v1, w1, rfl, e1, hx1⟩ := DpAll.cons_inv hx
        obtain rfl := DpAll.nil_inv hx1
        refine ⟨_, rfl, a, _, _, _, rfl, rfl, hT, atI_nat (j := 0) rfl, rfl, _, rfl, cF (k := decide (V.str "and" = V.str "rel")) (by decide +kernel) ?_⟩
        refine ⟨_, rfl, a, _, _, _, rfl, rfl, hT, atI_nat (j := 0) rfl, rfl, _, rfl, cF (k := decide (V.str "and" = V.str "eq")) (by decide +kernel) ?_⟩
        refine ⟨_, rfl, a, _, _, _, rfl, rfl, hT, atI_nat (j := 0) rfl, rfl, _, rfl, cF (k := decide (V.str "and" = V.str "less")) (by decide +kernel) ?_⟩
        refine ⟨_, rfl, (by show 0 ≤ sizeLine; decide), fun p0 n0 => ⟨(by show 2 ≤ sizeLine; decide), fun p1 n1 => ?_⟩⟩
        have a0 := same_upd (o := .tup []) n0
        have a1 := same_upd (o := .tup [.str "and", .ref p0]) n1
        have u0 := (a0.trans a1)
        have de0 : Dp K _ (.ref p1) (eD "and") := .tup (SqT.of upd_same) (.cons (.str _) (.cons (.tup (Same.sqt a1 (SqT.of upd_same)) .nil) .nil))
        by_cases em : ps = []
        · subst em
          refine ⟨_, _, Dp.same u0 dp0, de0, sh, by decide +kernel, _, rfl, cT (k := PyData.eqv (Hd.data .con (([] : List Fm).map Fm.data)) (eD "and")) (eqv_j (by decide +kernel) rfl) ?_⟩
          have z := q _ u0
          have e : Fm.text (.mk .con []) = ("true" : Str) := str_ext (by rw [Fm.text_L, Fm.tx_mk]; rfl)
          rw [e] at z
          exact z
        refine ⟨_, _, Dp.same u0 dp0, de0, sh, by decide +kernel, _, rfl, cF (k := PyData.eqv (Hd.data .con (ps.map Fm.data)) (eD "and")) (by rw [eqv_j (by decide +kernel) rfl]; cases ps with | nil => exact absurd rfl em | cons _ _ => rfl) ?_⟩
        refine ⟨_, rfl, (by show 0 ≤ sizeLine; decide), fun p2 n2 => ⟨(by show 2 ≤ sizeLine; decide), fun p3 n3 => ?_⟩⟩
        have a2 := same_upd (o := .tup []) n2
        have a3 := same_upd (o := .tup [.str "or", .ref p2]) n3
        have u1 := (u0.trans (a2.trans a3))
        have de1 : Dp K _ (.ref p3) (eD "or") := .tup (SqT.of upd_same) (.cons (.str _) (.cons (.tup (Same.sqt a3 (SqT.of upd_same)) .nil) .nil))
        refine ⟨_, _, Dp.same u1 dp0, de1, sh, by decide +kernel, _, rfl, cF (k := PyData.eqv (Hd.data (.con) _) (eD "or")) (eqv_no (show (Kd.word .con == ("or" : Str)) = false by decide +kernel)) ?_⟩
        refine ⟨rfl, _, rfl, .ref a, _, rfl, Dp.same u1 dpF, ok, fun H3 b ys s3 nb hb hy => ⟨b, rfl, ⟨_, SqL.of hb⟩, fun L nL => ?_⟩⟩
        have hy : DpAll K H3 ys (List.map Fm.data ps) := hy
        have s13 := u1.trans s3
        have yl : ys.length = List.length ps := by rw [DpAll.length hy, List.length_map]
        refine lc_it (walk_list (K := K) (a := b) (xs := ys)) (fun i H4 => Same H3 H4 ∧ H4 L = some (.lst (((List.take i ps).map Fm.text).map V.str))) ⟨same_upd nL, upd_same⟩ (fun i H4 _ ⟨s4, _⟩ => SqL.of (s4 _ _ hb)) ?_ ?_
        · rintro i y H4 H5 hi ⟨s4, hL⟩ ⟨rfl, hy2⟩
          obtain ⟨dd, hd, dpy⟩ := DpAll.get' hy hy2
          obtain ⟨g, hg, rfl⟩ := get_map hd
          have mem := List.mem_of_getElem? hg
          have dl : g.dep < (Fm.mk (.con) ps).dep := dep_part mem
          have cl : g.cnt < (Fm.mk (.con) ps).cnt := cnt_part mem
          refine ⟨rfl, _, rfl, y, g, rfl, Dp.same s4 dpy, ok.part mem, by omega, by omega, fun H6 s6 => ⟨_, s6 _ _ hL, ?_, fun b o eb => ?_, ?_⟩⟩
          · rw [List.length_map, List.length_map]
            have := List.length_take_le' i ps
            exact small1000 (by omega)
          · rw [upd_ne (ne_of_none eb nL)]
            exact s6 _ _ (s4 _ _ eb)
          · rw [upd_same, List.take_add_one, hg, List.map_append, List.map_append]
            rfl
        rintro H4 ⟨s4, hL⟩
        rw [List.take_of_length_le (show List.length ps ≤ ys.length by omega)] at hL
        refine ⟨_, _, List.map Fm.text ps, rfl, rfl, .inl (SqL.of hL), ftl.1, ?_⟩
        have s14 := s13.trans s4
        refine ⟨_, rfl, a, _, _, _, rfl, rfl, (Same.sqt s14 hT), atI_nat (j := 0) rfl, (by show 3 ≤ sizeLine; decide), fun q1 m1 => ⟨_, _, rfl, .inl (SqL.of upd_same), rfl, rfl, _, rfl, cT (k := inV (.str "and") [.str "not", .str "and", .str "or"]) (by decide +kernel) ?_⟩⟩
        have s15 := s14.trans (same_upd (o := .lst [.str "not", .str "and", .str "or"]) m1)
        have lwd : (Lc (Hd.word .con)).length ≤ 5 := word_len _
        refine ⟨_, rfl, a, _, _, _, rfl, rfl, (Same.sqt s15 hT), atI_nat (j := 0) rfl, _, _, rfl, rfl, ?_, _, rfl, _, _, rfl, rfl, ?_, _, _, rfl, rfl, ?_, ?_⟩
        · exact fit_line (by simp only [Lc_len, Lc_app, List.length_append, c_sp, c_po, c_pc, c_co, c_pp, c_tcp, c_gsp, spJ, List.length_cons, List.length_nil] at *; omega)
        · exact fit_line (by simp only [Lc_len, Lc_app, List.length_append, c_sp, c_po, c_pc, c_co, c_pp, c_tcp, c_gsp, spJ, List.length_cons, List.length_nil] at *; omega)
        · exact fit_line (by simp only [Lc_len, Lc_app, List.length_append, c_sp, c_po, c_pc, c_co, c_pp, c_tcp, c_gsp, spJ, List.length_cons, List.length_nil] at *; omega)
        have z := q _ s15
        have e : Fm.text (.mk .con ps) = (((("and" : Str) ++ ("(" : Str)) ++ (Txt.join ", " (List.map Fm.text ps))) ++ (")" : Str)) := str_ext (by rw [Fm.text_L, Fm.tx_mk]; simp only [Lc_app, c_sp, c_po, c_pc, c_co, c_pp, c_em, c_eq, c_lt, c_tcp, c_gsp, c_le, c_ll, spJ, Lc_join, c_cm]; simp only [Hd.tx, te, if_neg (show ¬ ps.map Fm.tx = [] from fun z => em (List.map_eq_nil_iff.mp z))]; rfl)
        rw [e] at z
        exact z
      | dis =>
        obtain ⟨v1, w1, rfl, e1, hx1⟩ := DpAll.cons_inv hx
        obtain rfl := DpAll.nil_inv hx1
        refine ⟨_, rfl, a, _, _, _, rfl, rfl, hT, atI_nat (j := 0) rfl, rfl, _, rfl, cF (k := decide (V.str "or" = V.str "rel")) (by decide +kernel) ?_⟩
        refine ⟨_, rfl, a, _, _, _, rfl, rfl, hT, atI_nat (j := 0) rfl, rfl, _, rfl, cF (k := decide (V.str "or" = V.str "eq")) (by decide +kernel) ?_⟩
        refine ⟨_, rfl, a, _, _, _, rfl, rfl, hT, atI_nat (j := 0) rfl, rfl, _, rfl, cF (k := decide (V.str "or" = V.str "less")) (by decide +kernel) ?_⟩
        refine ⟨_, rfl, (by show 0 ≤ sizeLine; decide), fun p0 n0 => ⟨(by show 2 ≤ sizeLine; decide), fun p1 n1 => ?_⟩⟩
        have a0 := same_upd (o := .tup []) n0
        have a1 := same_upd (o := .tup [.str "and", .ref p0]) n1
        have u0 := (a0.trans a1)
        have de0 : Dp K _ (.ref p1) (eD "and") := .tup (SqT.of upd_same) (.cons (.str _) (.cons (.tup (Same.sqt a1 (SqT.of upd_same)) .nil) .nil))
        refine ⟨_, _, Dp.same u0 dp0, de0, sh, by decide +kernel, _, rfl, cF (k := PyData.eqv (Hd.data (.dis) _) (eD "and")) (eqv_no (show (Kd.word .dis == ("and" : Str)) = false by decide +kernel)) ?_⟩
        refine ⟨_, rfl, (by show 0 ≤ sizeLine; decide), fun p2 n2 => ⟨(by show 2 ≤ sizeLine; decide), fun p3 n3 => ?_⟩⟩
        have a2 := same_upd (o := .tup []) n2
        have a3 := same_upd (o := .tup [.str "or", .ref p2]) n3
        have u1 := (u0.trans (a2.trans a3))
        have de1 : Dp K _ (.ref p3) (eD "or") := .tup (SqT.of upd_same) (.cons (.str _) (.cons (.tup (Same.sqt a3 (SqT.of upd_same)) .nil) .nil))
        by_cases em : ps = []
        · subst em
          refine ⟨_, _, Dp.same u1 dp0, de1, sh, by decide +kernel, _, rfl, cT (k := PyData.eqv (Hd.data .dis (([] : List Fm).map Fm.data)) (eD "or")) (eqv_j (by decide +kernel) rfl) ?_⟩
          have z := q _ u1
          have e : Fm.text (.mk .dis []) = ("false" : Str) := str_ext (by rw [Fm.text_L, Fm.tx_mk]; rfl)
          rw [e] at z
          exact z
        refine ⟨_, _, Dp.same u1 dp0, de1, sh, by decide +kernel, _, rfl, cF (k := PyData.eqv (Hd.data .dis (ps.map Fm.data)) (eD "or")) (by rw [eqv_j (by decide +kernel) rfl]; cases ps with | nil => exact absurd rfl em | cons _ _ => rfl) ?_⟩
        refine ⟨rfl, _, rfl, .ref a, _, rfl, Dp.same u1 dpF, ok, fun H3 b ys s3 nb hb hy => ⟨b, rfl, ⟨_, SqL.of hb⟩, fun L nL => ?_⟩⟩
        have hy : DpAll K H3 ys (List.map Fm.data ps) := hy
        have s13 := u1.trans s3
        have yl : ys.length = List.length ps := by rw [DpAll.length hy, List.length_map]
        refine lc_it (walk_list (K := K) (a := b) (xs := ys)) (fun i H4 => Same H3 H4 ∧ H4 L = some (.lst (((List.take i ps).map Fm.text).map V.str))) ⟨same_upd nL, upd_same⟩ (fun i H4 _ ⟨s4, _⟩ => SqL.of (s4 _ _ hb)) ?_ ?_
        · rintro i y H4 H5 hi ⟨s4, hL⟩ ⟨rfl, hy2⟩
          obtain ⟨dd, hd, dpy⟩ := DpAll.get' hy hy2
          obtain ⟨g, hg, rfl⟩ := get_map hd
          have mem := List.mem_of_getElem? hg
          have dl : g.dep < (Fm.mk (.dis) ps).dep := dep_part mem
          have cl : g.cnt < (Fm.mk (.dis) ps).cnt := cnt_part mem
          refine ⟨rfl, _, rfl, y, g, rfl, Dp.same s4 dpy, ok.part mem, by omega, by omega, fun H6 s6 => ⟨_, s6 _ _ hL, ?_, fun b o eb => ?_, ?_⟩⟩
          · rw [List.length_map, List.length_map]
            have := List.length_take_le' i ps
            exact small1000 (by omega)
          · rw [upd_ne (ne_of_none eb nL)]
            exact s6 _ _ (s4 _ _ eb)
          · rw [upd_same, List.take_add_one, hg, List.map_append, List.map_append]
            rfl
        rintro H4 ⟨s4, hL⟩
        rw [List.take_of_length_le (show List.length ps ≤ ys.length by omega)] at hL
        refine ⟨_, _, List.map Fm.text ps, rfl, rfl, .inl (SqL.of hL), ftl.1, ?_⟩
        have s14 := s13.trans s4
        refine ⟨_, rfl, a, _, _, _, rfl, rfl, (Same.sqt s14 hT), atI_nat (j := 0) rfl, (by show 3 ≤ sizeLine; decide), fun q1 m1 => ⟨_, _, rfl, .inl (SqL.of upd_same), rfl, rfl, _, rfl, cT (k := inV (.str "or") [.str "not", .str "and", .str "or"]) (by decide +kernel) ?_⟩⟩
        have s15 := s14.trans (same_upd (o := .lst [.str "not", .str "and", .str "or"]) m1)
        have lwd : (Lc (Hd.word .dis)).length ≤ 5 := word_len _
        refine ⟨_, rfl, a, _, _, _, rfl, rfl, (Same.sqt s15 hT), atI_nat (j := 0) rfl, _, _, rfl, rfl, ?_, _, rfl, _, _, rfl, rfl, ?_, _, _, rfl, rfl, ?_, ?_⟩
        · exact fit_line (by simp only [Lc_len, Lc_app, List.length_append, c_sp, c_po, c_pc, c_co, c_pp, c_tcp, c_gsp, spJ, List.length_cons, List.length_nil] at *; omega)
        · exact fit_line (by simp only [Lc_len, Lc_app, List.length_append, c_sp, c_po, c_pc, c_co, c_pp, c_tcp, c_gsp, spJ, List.length_cons, List.length_nil] at *; omega)
        · exact fit_line (by simp only [Lc_len, Lc_app, List.length_append, c_sp, c_po, c_pc, c_co, c_pp, c_tcp, c_gsp, spJ, List.length_cons, List.length_nil] at *; omega)
        have z := q _ s15
        have e : Fm.text (.mk .dis ps) = (((("or" : Str) ++ ("(" : Str)) ++ (Txt.join ", " (List.map Fm.text ps))) ++ (")" : Str)) := str_ext (by rw [Fm.text_L, Fm.tx_mk]; simp only [Lc_app, c_sp, c_po, c_pc, c_co, c_pp, c_em, c_eq, c_lt, c_tcp, c_gsp, c_le, c_ll, spJ, Lc_join, c_cm]; simp only [Hd.tx, te, if_neg (show ¬ ps.map Fm.tx = [] from fun z => em (List.map_eq_nil_iff.mp z))]; rfl)
        rw [e] at z
        exact z
      | ex vs =>
        obtain ⟨g0, rfl⟩ := one_of okh.2
        obtain ⟨v1, w1, rfl, e1, hx1⟩ := DpAll.cons_inv hx
        obtain ⟨v2, w2, rfl, e2, hx2⟩ := DpAll.cons_inv hx1
        obtain rfl := DpAll.nil_inv hx2
        obtain ⟨t1, rfl, ht1⟩ := tS_inv e1
        refine ⟨_, rfl, a, _, _, _, rfl, rfl, hT, atI_nat (j := 0) rfl, rfl, _, rfl, cF (k := decide (V.str "some" = V.str "rel")) (by decide +kernel) ?_⟩
        refine ⟨_, rfl, a, _, _, _, rfl, rfl, hT, atI_nat (j := 0) rfl, rfl, _, rfl, cF (k := decide (V.str "some" = V.str "eq")) (by decide +kernel) ?_⟩
        refine ⟨_, rfl, a, _, _, _, rfl, rfl, hT, atI_nat (j := 0) rfl, rfl, _, rfl, cF (k := decide (V.str "some" = V.str "less")) (by decide +kernel) ?_⟩
        refine ⟨_, rfl, (by show 0 ≤ sizeLine; decide), fun p0 n0 => ⟨(by show 2 ≤ sizeLine; decide), fun p1 n1 => ?_⟩⟩
        have a0 := same_upd (o := .tup []) n0
        have a1 := same_upd (o := .tup [.str "and", .ref p0]) n1
        have u0 := (a0.trans a1)
        have de0 : Dp K _ (.ref p1) (eD "and") := .tup (SqT.of upd_same) (.cons (.str _) (.cons (.tup (Same.sqt a1 (SqT.of upd_same)) .nil) .nil))
        refine ⟨_, _, Dp.same u0 dp0, de0, sh, by decide +kernel, _, rfl, cF (k := PyData.eqv (Hd.data (.ex vs) _) (eD "and")) (eqv_no (show (Kd.word .ex == ("and" : Str)) = false by decide +kernel)) ?_⟩
        refine ⟨_, rfl, (by show 0 ≤ sizeLine; decide), fun p2 n2 => ⟨(by show 2 ≤ sizeLine; decide), fun p3 n3 => ?_⟩⟩
        have a2 := same_upd (o := .tup []) n2
        have a3 := same_upd (o := .tup [.str "or", .ref p2]) n3
        have u1 := (u0.trans (a2.trans a3))
        have de1 : Dp K _ (.ref p3) (eD "or") := .tup (SqT.of upd_same) (.cons (.str _) (.cons (.tup (Same.sqt a3 (SqT.of upd_same)) .nil) .nil))
        refine ⟨_, _, Dp.same u1 dp0, de1, sh, by decide +kernel, _, rfl, cF (k := PyData.eqv (Hd.data (.ex vs) _) (eD "or")) (eqv_no (show (Kd.word .ex == ("or" : Str)) = false by decide +kernel)) ?_⟩
        refine ⟨rfl, _, rfl, .ref a, _, rfl, Dp.same u1 dpF, ok, fun H3 b ys s3 nb hb hy => ⟨b, rfl, ⟨_, SqL.of hb⟩, fun L nL => ?_⟩⟩
        have hy : DpAll K H3 ys (List.map Fm.data [g0]) := hy
        have s13 := u1.trans s3
        have yl : ys.length = List.length [g0] := by rw [DpAll.length hy, List.length_map]
        refine lc_it (walk_list (K := K) (a := b) (xs := ys)) (fun i H4 => Same H3 H4 ∧ H4 L = some (.lst (((List.take i [g0]).map Fm.text).map V.str))) ⟨same_upd nL, upd_same⟩ (fun i H4 _ ⟨s4, _⟩ => SqL.of (s4 _ _ hb)) ?_ ?_
        · rintro i y H4 H5 hi ⟨s4, hL⟩ ⟨rfl, hy2⟩
          obtain ⟨dd, hd, dpy⟩ := DpAll.get' hy hy2
          obtain ⟨g, hg, rfl⟩ := get_map hd
          have mem := List.mem_of_getElem? hg
          have dl : g.dep < (Fm.mk (.ex vs) [g0]).dep := dep_part mem
          have cl : g.cnt < (Fm.mk (.ex vs) [g0]).cnt := cnt_part mem
          refine ⟨rfl, _, rfl, y, g, rfl, Dp.same s4 dpy, ok.part mem, by omega, by omega, fun H6 s6 => ⟨_, s6 _ _ hL, ?_, fun b o eb => ?_, ?_⟩⟩
          · rw [List.length_map, List.length_map]
            have := List.length_take_le' i [g0]
            exact small1000 (by omega)
          · rw [upd_ne (ne_of_none eb nL)]
            exact s6 _ _ (s4 _ _ eb)
          · rw [upd_same, List.take_add_one, hg, List.map_append, List.map_append]
            rfl
        rintro H4 ⟨s4, hL⟩
        rw [List.take_of_length_le (show List.length [g0] ≤ ys.length by omega)] at hL
        refine ⟨_, _, List.map Fm.text [g0], rfl, rfl, .inl (SqL.of hL), ftl.1, ?_⟩
        have s14 := s13.trans s4
        refine ⟨_, rfl, a, _, _, _, rfl, rfl, (Same.sqt s14 hT), atI_nat (j := 0) rfl, (by show 3 ≤ sizeLine; decide), fun q1 m1 => ⟨_, _, rfl, .inl (SqL.of upd_same), rfl, rfl, _, rfl, cF (k := inV (.str "some") [.str "not", .str "and", .str "or"]) (by decide +kernel) ?_⟩⟩
        have s15 := s14.trans (same_upd (o := .lst [.str "not", .str "and", .str "or"]) m1)
        have lwd : (Lc (Hd.word (.ex vs))).length ≤ 5 := word_len _
        refine ⟨_, rfl, a, _, _, _, rfl, rfl, (Same.sqt s15 hT), atI_nat (j := 0) rfl, rfl, _, rfl, cT (k := decide (V.str "some" = V.str "some")) (by decide +kernel) (iteT ?_)⟩
        have sol2 : (spL vs).length ≤ 13 * vs.length := sol
        have ol2 : vs.length ≤ 8 := ol
        refine ⟨_, rfl, a, _, _, _, rfl, rfl, (Same.sqt s15 hT), atI_nat (j := 0) rfl, _, _, rfl, rfl, ?_, _, rfl, a, _, _, _, rfl, rfl, (Same.sqt s15 hT), atI_nat (j := 1) rfl, .ref t1, _, rfl, tS_of (Same.sqt s15 ht1), on, ol, _, _, rfl, rfl, ?_, _, _, rfl, rfl, ?_, _, rfl, _, _, rfl, rfl, ?_, _, _, rfl, rfl, ?_, ?_⟩
        · exact fit_line (by simp only [Lc_len, Lc_app, List.length_append, c_sp, c_po, c_pc, c_co, c_pp, c_tcp, c_gsp, spJ, List.length_cons, List.length_nil] at *; omega)
        · exact fit_line (by simp only [Lc_len, Lc_app, List.length_append, c_sp, c_po, c_pc, c_co, c_pp, c_tcp, c_gsp, spJ, List.length_cons, List.length_nil] at *; omega)
        · exact fit_line (by simp only [Lc_len, Lc_app, List.length_append, c_sp, c_po, c_pc, c_co, c_pp, c_tcp, c_gsp, spJ, List.length_cons, List.length_nil] at *; omega)
        · exact fit_line (by simp only [Lc_len, Lc_app, List.length_append, c_sp, c_po, c_pc, c_co, c_pp, c_tcp, c_gsp, spJ, List.length_cons, List.length_nil] at *; omega)
        · exact fit_line (by simp only [Lc_len, Lc_app, List.length_append, c_sp, c_po, c_pc, c_co, c_pp, c_tcp, c_gsp, spJ, List.length_cons, List.length_nil] at *; omega)
        have z := q _ s15
        have e : Fm.text (.mk (.ex vs) [g0]) = (((((("some" : Str) ++ ("(" : Str)) ++ (Txt.join " " vs)) ++ (": " : Str)) ++ (Txt.join ", " (List.map Fm.text [g0]))) ++ (")" : Str)) := str_ext (by rw [Fm.text_L, Fm.tx_mk]; simp only [Lc_app, c_sp, c_po, c_pc, c_co, c_pp, c_em, c_eq, c_lt, c_tcp, c_gsp, c_le, c_ll, spJ, Lc_join, c_cm]; simp only [Hd.tx, te, List.append_assoc] <;> rfl)
        rw [e] at z
        exact z
      | al vs =>
        obtain ⟨g0, rfl⟩ := one_of okh.2
        obtain ⟨v1, w1, rfl, e1, hx1⟩ := DpAll.cons_inv hx
        obtain ⟨v2, w2, rfl, e2, hx2⟩ := DpAll.cons_inv hx1
        obtain rfl := DpAll.nil_inv hx2
        obtain ⟨t1, rfl, ht1⟩ := tS_inv e1
        refine ⟨_, rfl, a, _, _, _, rfl, rfl, hT, atI_nat (j := 0) rfl, rfl, _, rfl, cF (k := decide (V.str "all" = V.str "rel")) (by decide +kernel) ?_⟩
        refine ⟨_, rfl, a, _, _, _, rfl, rfl, hT, atI_nat (j := 0) rfl, rfl, _, rfl, cF (k := decide (V.str "all" = V.str "eq")) (by decide +kernel) ?_⟩
        refine ⟨_, rfl, a, _, _, _, rfl, rfl, hT, atI_nat (j := 0) rfl, rfl, _, rfl, cF (k := decide (V.str "all" = V.str "less")) (by decide +kernel) ?_⟩
        refine ⟨_, rfl, (by show 0 ≤ sizeLine; decide), fun p0 n0 => ⟨(by show 2 ≤ sizeLine; decide), fun p1 n1 => ?_⟩⟩
        have a0 := same_upd (o := .tup []) n0
        have a1 := same_upd (o := .tup [.str "and", .ref p0]) n1
        have u0 := (a0.trans a1)
        have de0 : Dp K _ (.ref p1) (eD "and") := .tup (SqT.of upd_same) (.cons (.str _) (.cons (.tup (Same.sqt a1 (SqT.of upd_same)) .nil) .nil))
        refine ⟨_, _, Dp.same u0 dp0, de0, sh, by decide +kernel, _, rfl, cF (k := PyData.eqv (Hd.data (.al vs) _) (eD "and")) (eqv_no (show (Kd.word .al == ("and" : Str)) = false by decide +kernel)) ?_⟩
        refine ⟨_, rfl, (by show 0 ≤ sizeLine; decide), fun p2 n2 => ⟨(by show 2 ≤ sizeLine; decide), fun p3 n3 => ?_⟩⟩
        have a2 := same_upd (o := .tup []) n2
        have a3 := same_upd (o := .tup [.str "or", .ref p2]) n3
        have u1 := (u0.trans (a2.trans a3))
        have de1 : Dp K _ (.ref p3) (eD "or") := .tup (SqT.of upd_same) (.cons (.str _) (.cons (.tup (Same.sqt a3 (SqT.of upd_same)) .nil) .nil))
        refine ⟨_, _, Dp.same u1 dp0, de1, sh, by decide +kernel, _, rfl, cF (k := PyData.eqv (Hd.data (.al vs) _) (eD "or")) (eqv_no (show (Kd.word .al == ("or" : Str)) = false by decide +kernel)) ?_⟩
        refine ⟨rfl, _, rfl, .ref a, _, rfl, Dp.same u1 dpF, ok, fun H3 b ys s3 nb hb hy => ⟨b, rfl, ⟨_, SqL.of hb⟩, fun L nL => ?_⟩⟩
        have hy : DpAll K H3 ys (List.map Fm.data [g0]) := hy
        have s13 := u1.trans s3
        have yl : ys.length = List.length [g0] := by rw [DpAll.length hy, List.length_map]
        refine lc_it (walk_list (K := K) (a := b) (xs := ys)) (fun i H4 => Same H3 H4 ∧ H4 L = some (.lst (((List.take i [g0]).map Fm.text).map V.str))) ⟨same_upd nL, upd_same⟩ (fun i H4 _ ⟨s4, _⟩ => SqL.of (s4 _ _ hb)) ?_ ?_
        · rintro i y H4 H5 hi ⟨s4, hL⟩ ⟨rfl, hy2⟩
          obtain ⟨dd, hd, dpy⟩ := DpAll.get' hy hy2
          obtain ⟨g, hg, rfl⟩ := get_map hd
          have mem := List.mem_of_getElem? hg
          have dl : g.dep < (Fm.mk (.al vs) [g0]).dep := dep_part mem
          have cl : g.cnt < (Fm.mk (.al vs) [g0]).cnt := cnt_part mem
          refine ⟨rfl, _, rfl, y, g, rfl, Dp.same s4 dpy, ok.part mem, by omega, by omega, fun H6 s6 => ⟨_, s6 _ _ hL, ?_, fun b o eb => ?_, ?_⟩⟩
          · rw [List.length_map, List.length_map]
            have := List.length_take_le' i [g0]
            exact small1000 (by omega)
          · rw [upd_ne (ne_of_none eb nL)]
            exact s6 _ _ (s4 _ _ eb)
          · rw [upd_same, List.take_add_one, hg, List.map_append, List.map_append]
            rfl
        rintro H4 ⟨s4, hL⟩
        rw [List.take_of_length_le (show List.length [g0] ≤ ys.length by omega)] at hL
        refine ⟨_, _, List.map Fm.text [g0], rfl, rfl, .inl (SqL.of hL), ftl.1, ?_⟩
        have s14 := s13.trans s4
        refine ⟨_, rfl, a, _, _, _, rfl, rfl, (Same.sqt s14 hT), atI_nat (j := 0) rfl, (by show 3 ≤ sizeLine; decide), fun q1 m1 => ⟨_, _, rfl, .inl (SqL.of upd_same), rfl, rfl, _, rfl, cF (k := inV (.str "all") [.str "not", .str "and", .str "or"]) (by decide +kernel) ?_⟩⟩
        have s15 := s14.trans (same_upd (o := .lst [.str "not", .str "and", .str "or"]) m1)
        have lwd : (Lc (Hd.word (.al vs))).length ≤ 5 := word_len _
        refine ⟨_, rfl, a, _, _, _, rfl, rfl, (Same.sqt s15 hT), atI_nat (j := 0) rfl, rfl, _, rfl, cF (k := decide (V.str "all" = V.str "some")) (by decide +kernel) ⟨_, rfl, a, _, _, _, rfl, rfl, (Same.sqt s15 hT), atI_nat (j := 0) rfl, rfl, _, rfl, cT (k := decide (V.str "all" = V.str "all")) (by decide +kernel) ?_⟩⟩
        have sol2 : (spL vs).length ≤ 13 * vs.length := sol
        have ol2 : vs.length ≤ 8 := ol
        refine ⟨_, rfl, a, _, _, _, rfl, rfl, (Same.sqt s15 hT), atI_nat (j := 0) rfl, _, _, rfl, rfl, ?_, _, rfl, a, _, _, _, rfl, rfl, (Same.sqt s15 hT), atI_nat (j := 1) rfl, .ref t1, _, rfl, tS_of (Same.sqt s15 ht1), on, ol, _, _, rfl, rfl, ?_, _, _, rfl, rfl, ?_, _, rfl, _, _, rfl, rfl, ?_, _, _, rfl, rfl, ?_, ?_⟩
        · exact fit_line (by simp only [Lc_len, Lc_app, List.length_append, c_sp, c_po, c_pc, c_co, c_pp, c_tcp, c_gsp, spJ, List.length_cons, List.length_nil] at *; omega)
        · exact fit_line (by simp only [Lc_len, Lc_app, List.length_append, c_sp, c_po, c_pc, c_co, c_pp, c_tcp, c_gsp, spJ, List.length_cons, List.length_nil] at *; omega)
        · exact fit_line (by simp only [Lc_len, Lc_app, List.length_append, c_sp, c_po, c_pc, c_co, c_pp, c_tcp, c_gsp, spJ, List.length_cons, List.length_nil] at *; omega)
        · exact fit_line (by simp only [Lc_len, Lc_app, List.length_append, c_sp, c_po, c_pc, c_co, c_pp, c_tcp, c_gsp, spJ, List.length_cons, List.length_nil] at *; omega)
        · exact fit_line (by simp only [Lc_len, Lc_app, List.length_append, c_sp, c_po, c_pc, c_co, c_pp, c_tcp, c_gsp, spJ, List.length_cons, List.length_nil] at *; omega)
        have z := q _ s15
        have e : Fm.text (.mk (.al vs) [g0]) = (((((("all" : Str) ++ ("(" : Str)) ++ (Txt.join " " vs)) ++ (": " : Str)) ++ (Txt.join ", " (List.map Fm.text [g0]))) ++ (")" : Str)) := str_ext (by rw [Fm.text_L, Fm.tx_mk]; simp only [Lc_app, c_sp, c_po, c_pc, c_co, c_pp, c_em, c_eq, c_lt, c_tcp, c_gsp, c_le, c_ll, spJ, Lc_join, c_cm]; simp only [Hd.tx, te, List.append_assoc] <;> rfl)
        rw [e] at z
        exact z
      | lfp n vs as =>
        obtain ⟨g0, rfl⟩ := one_of okh.2.2.2.2
        obtain ⟨v1, w1, rfl, e1, hx1⟩ := DpAll.cons_inv hx
        obtain ⟨v2, w2, rfl, e2, hx2⟩ := DpAll.cons_inv hx1
        obtain ⟨v3, w3, rfl, e3, hx3⟩ := DpAll.cons_inv hx2
        obtain ⟨v4, w4, rfl, e4, hx4⟩ := DpAll.cons_inv hx3
        obtain rfl := DpAll.nil_inv hx4
        obtain rfl := Dp.str_inv e1
        obtain ⟨t2, rfl, ht2⟩ := tS_inv e2
        obtain ⟨t4, rfl, ht4⟩ := tS_inv e4
        refine ⟨_, rfl, a, _, _, _, rfl, rfl, hT, atI_nat (j := 0) rfl, rfl, _, rfl, cF (k := decide (V.str "lfp" = V.str "rel")) (by decide +kernel) ?_⟩
        refine ⟨_, rfl, a, _, _, _, rfl, rfl, hT, atI_nat (j := 0) rfl, rfl, _, rfl, cF (k := decide (V.str "lfp" = V.str "eq")) (by decide +kernel) ?_⟩
        refine ⟨_, rfl, a, _, _, _, rfl, rfl, hT, atI_nat (j := 0) rfl, rfl, _, rfl, cF (k := decide (V.str "lfp" = V.str "less")) (by decide +kernel) ?_⟩
        refine ⟨_, rfl, (by show 0 ≤ sizeLine; decide), fun p0 n0 => ⟨(by show 2 ≤ sizeLine; decide), fun p1 n1 => ?_⟩⟩
        have a0 := same_upd (o := .tup []) n0
        have a1 := same_upd (o := .tup [.str "and", .ref p0]) n1
        have u0 := (a0.trans a1)
        have de0 : Dp K _ (.ref p1) (eD "and") := .tup (SqT.of upd_same) (.cons (.str _) (.cons (.tup (Same.sqt a1 (SqT.of upd_same)) .nil) .nil))
        refine ⟨_, _, Dp.same u0 dp0, de0, sh, by decide +kernel, _, rfl, cF (k := PyData.eqv (Hd.data (.lfp n vs as) _) (eD "and")) (eqv_no (show (Kd.word .lfp == ("and" : Str)) = false by decide +kernel)) ?_⟩
        refine ⟨_, rfl, (by show 0 ≤ sizeLine; decide), fun p2 n2 => ⟨(by show 2 ≤ sizeLine; decide), fun p3 n3 => ?_⟩⟩
        have a2 := same_upd (o := .tup []) n2
        have a3 := same_upd (o := .tup [.str "or", .ref p2]) n3
        have u1 := (u0.trans (a2.trans a3))
        have de1 : Dp K _ (.ref p3) (eD "or") := .tup (SqT.of upd_same) (.cons (.str _) (.cons (.tup (Same.sqt a3 (SqT.of upd_same)) .nil) .nil))
        refine ⟨_, _, Dp.same u1 dp0, de1, sh, by decide +kernel, _, rfl, cF (k := PyData.eqv (Hd.data (.lfp n vs as) _) (eD "or")) (eqv_no (show (Kd.word .lfp == ("or" : Str)) = false by decide +kernel)) ?_⟩
        refine ⟨rfl, _, rfl, .ref a, _, rfl, Dp.same u1 dpF, ok, fun H3 b ys s3 nb hb hy => ⟨b, rfl, ⟨_, SqL.of hb⟩, fun L nL => ?_⟩⟩
        have hy : DpAll K H3 ys (List.map Fm.data [g0]) := hy
        have s13 := u1.trans s3
        have yl : ys.length = List.length [g0] := by rw [DpAll.length hy, List.length_map]
        refine lc_it (walk_list (K := K) (a := b) (xs := ys)) (fun i H4 => Same H3 H4 ∧ H4 L = some (.lst (((List.take i [g0]).map Fm.text).map V.str))) ⟨same_upd nL, upd_same⟩ (fun i H4 _ ⟨s4, _⟩ => SqL.of (s4 _ _ hb)) ?_ ?_
        · rintro i y H4 H5 hi ⟨s4, hL⟩ ⟨rfl, hy2⟩
          obtain ⟨dd, hd, dpy⟩ := DpAll.get' hy hy2
          obtain ⟨g, hg, rfl⟩ := get_map hd
          have mem := List.mem_of_getElem? hg
          have dl : g.dep < (Fm.mk (.lfp n vs as) [g0]).dep := dep_part mem
          have cl : g.cnt < (Fm.mk (.lfp n vs as) [g0]).cnt := cnt_part mem
          refine ⟨rfl, _, rfl, y, g, rfl, Dp.same s4 dpy, ok.part mem, by omega, by omega, fun H6 s6 => ⟨_, s6 _ _ hL, ?_, fun b o eb => ?_, ?_⟩⟩
          · rw [List.length_map, List.length_map]
            have := List.length_take_le' i [g0]
            exact small1000 (by omega)
          · rw [upd_ne (ne_of_none eb nL)]
            exact s6 _ _ (s4 _ _ eb)
          · rw [upd_same, List.take_add_one, hg, List.map_append, List.map_append]
            rfl
        rintro H4 ⟨s4, hL⟩
        rw [List.take_of_length_le (show List.length [g0] ≤ ys.length by omega)] at hL
        refine ⟨_, _, List.map Fm.text [g0], rfl, rfl, .inl (SqL.of hL), ftl.1, ?_⟩
        have s14 := s13.trans s4
        refine ⟨_, rfl, a, _, _, _, rfl, rfl, (Same.sqt s14 hT), atI_nat (j := 0) rfl, (by show 3 ≤ sizeLine; decide), fun q1 m1 => ⟨_, _, rfl, .inl (SqL.of upd_same), rfl, rfl, _, rfl, cF (k := inV (.str "lfp") [.str "not", .str "and", .str "or"]) (by decide +kernel) ?_⟩⟩
        have s15 := s14.trans (same_upd (o := .lst [.str "not", .str "and", .str "or"]) m1)
        refine ⟨_, rfl, a, _, _, _, rfl, rfl, (Same.sqt s15 hT), atI_nat (j := 0) rfl, rfl, _, rfl, cF (k := decide (V.str "lfp" = V.str "some")) (by decide +kernel) ⟨_, rfl, a, _, _, _, rfl, rfl, (Same.sqt s15 hT), atI_nat (j := 0) rfl, rfl, _, rfl, cF (k := decide (V.str "lfp" = V.str "all")) (by decide +kernel) ?_⟩⟩
        refine ⟨_, rfl, a, _, _, _, rfl, rfl, (Same.sqt s15 hT), atI_nat (j := 0) rfl, rfl, _, rfl, cF (k := decide (V.str "lfp" = V.str "tc")) (by decide +kernel) ?_⟩
        refine ⟨_, rfl, a, _, _, _, rfl, rfl, (Same.sqt s15 hT), atI_nat (j := 0) rfl, rfl, _, rfl, cF (k := decide (V.str "lfp" = V.str "guess")) (by decide +kernel) ?_⟩
        have lx := nm_len okh.1
        have sol2 : (spL vs).length ≤ 13 * vs.length := sol
        have ol2 : vs.length ≤ 8 := ol
        have sal2 : (spL as).length ≤ 13 * as.length := sal
        have al2 : as.length ≤ 8 := al
        have v1 : 1 ≤ vs.length := okh.2.1.1
        obtain ⟨x0, vs0, rfl⟩ : ∃ x0 vs0, vs = x0 :: vs0 := by cases vs with | nil => exact absurd v1 (by decide) | cons x0 vs0 => exact ⟨x0, vs0, rfl⟩
        have lwd : (Lc (Hd.word (.lfp n (x0 :: vs0) as))).length ≤ 5 := word_len _
        refine ⟨_, rfl, a, _, _, _, rfl, rfl, (Same.sqt s15 hT), atI_nat (j := 0) rfl, _, _, rfl, rfl, ?_, _, rfl, a, _, _, _, rfl, rfl, (Same.sqt s15 hT), atI_nat (j := 1) rfl, _, _, rfl, rfl, ?_, _, _, rfl, rfl, ?_, _, rfl, a, _, _, _, rfl, rfl, (Same.sqt s15 hT), atI_nat (j := 2) rfl, .ref t2, _, rfl, tS_of (Same.sqt s15 ht2), on, ol, _, _, rfl, rfl, ?_, _, _, rfl, rfl, ?_, _, rfl, _, _, rfl, rfl, ?_, _, _, rfl, rfl, ?_, _, rfl, a, _, _, _, rfl, rfl, (Same.sqt s15 hT), atI_nat (j := 4) rfl, .ref t4, _, rfl, tS_of (Same.sqt s15 ht4), an, al, _, _, rfl, rfl, ?_, _, _, rfl, rfl, ?_, ?_⟩
        · exact fit_line (by simp only [Lc_len, Lc_app, List.length_append, c_sp, c_po, c_pc, c_co, c_pp, c_tcp, c_gsp, spJ, List.length_cons, List.length_nil] at *; omega)
        · exact fit_line (by simp only [Lc_len, Lc_app, List.length_append, c_sp, c_po, c_pc, c_co, c_pp, c_tcp, c_gsp, spJ, List.length_cons, List.length_nil] at *; omega)
        · exact fit_line (by simp only [Lc_len, Lc_app, List.length_append, c_sp, c_po, c_pc, c_co, c_pp, c_tcp, c_gsp, spJ, List.length_cons, List.length_nil] at *; omega)
        · exact fit_line (by simp only [Lc_len, Lc_app, List.length_append, c_sp, c_po, c_pc, c_co, c_pp, c_tcp, c_gsp, spJ, List.length_cons, List.length_nil] at *; omega)
        · exact fit_line (by simp only [Lc_len, Lc_app, List.length_append, c_sp, c_po, c_pc, c_co, c_pp, c_tcp, c_gsp, spJ, List.length_cons, List.length_nil] at *; omega)
        · exact fit_line (by simp only [Lc_len, Lc_app, List.length_append, c_sp, c_po, c_pc, c_co, c_pp, c_tcp, c_gsp, spJ, List.length_cons, List.length_nil] at *; omega)
        · exact fit_line (by simp only [Lc_len, Lc_app, List.length_append, c_sp, c_po, c_pc, c_co, c_pp, c_tcp, c_gsp, spJ, List.length_cons, List.length_nil] at *; omega)
        · exact fit_line (by simp only [Lc_len, Lc_app, List.length_append, c_sp, c_po, c_pc, c_co, c_pp, c_tcp, c_gsp, spJ, List.length_cons, List.length_nil] at *; omega)
        · exact fit_line (by simp only [Lc_len, Lc_app, List.length_append, c_sp, c_po, c_pc, c_co, c_pp, c_tcp, c_gsp, spJ, List.length_cons, List.length_nil] at *; omega)
        have z := q _ s15
        have e : Fm.text (.mk (.lfp n (x0 :: vs0) as) [g0]) = (((((((((("lfp" : Str) ++ ("(" : Str)) ++ n) ++ (" " : Str)) ++ (Txt.join " " (x0 :: vs0))) ++ (": " : Str)) ++ (Txt.join ", " (List.map Fm.text [g0]))) ++ (")(" : Str)) ++ (Txt.join " " as)) ++ (")" : Str)) := str_ext (by rw [Fm.text_L, Fm.tx_mk]; simp only [Lc_app, c_sp, c_po, c_pc, c_co, c_pp, c_em, c_eq, c_lt, c_tcp, c_gsp, c_le, c_ll, spJ, Lc_join, c_cm]; simp only [Hd.tx, te, spL, List.map_cons, TL.joinL, List.append_assoc] <;> rfl)
        rw [e] at z
        exact z
      | pfp n vs as =>
        obtain ⟨g0, rfl⟩ := one_of okh.2.2.2.2
        obtain ⟨v1, w1, rfl, e1, hx1⟩ := DpAll.cons_inv hx
        obtain ⟨v2, w2, rfl, e2, hx2⟩ := DpAll.cons_inv hx1
        obtain ⟨v3, w3, rfl, e3, hx3⟩ := DpAll.cons_inv hx2
        obtain ⟨v4, w4, rfl, e4, hx4⟩ := DpAll.cons_inv hx3
        obtain rfl := DpAll.nil_inv hx4
        obtain rfl := Dp.str_inv e1
        obtain ⟨t2, rfl, ht2⟩ := tS_inv e2
        obtain ⟨t4, rfl, ht4⟩ := tS_inv e4
        refine ⟨_, rfl, a, _, _, _, rfl, rfl, hT, atI_nat (j := 0) rfl, rfl, _, rfl, cF (k := decide (V.str "pfp" = V.str "rel")) (by decide +kernel) ?_⟩
        refine ⟨_, rfl, a, _, _, _, rfl, rfl, hT, atI_nat (j := 0) rfl, rfl, _, rfl, cF (k := decide (V.str "pfp" = V.str "eq")) (by decide +kernel) ?_⟩
        refine ⟨_, rfl, a, _, _, _, rfl, rfl, hT, atI_nat (j := 0) rfl, rfl, _, rfl, cF (k := decide (V.str "pfp" = V.str "less")) (by decide +kernel) ?_⟩
        refine ⟨_, rfl, (by show 0 ≤ sizeLine; decide), fun p0 n0 => ⟨(by show 2 ≤ sizeLine; decide), fun p1 n1 => ?_⟩⟩
        have a0 := same_upd (o := .tup []) n0
        have a1 := same_upd (o := .tup [.str "and", .ref p0]) n1
        have u0 := (a0.trans a1)
        have de0 : Dp K _ (.ref p1) (eD "and") := .tup (SqT.of upd_same) (.cons (.str _) (.cons (.tup (Same.sqt a1 (SqT.of upd_same)) .nil) .nil))
        refine ⟨_, _, Dp.same u0 dp0, de0, sh, by decide +kernel, _, rfl, cF (k := PyData.eqv (Hd.data (.pfp n vs as) _) (eD "and")) (eqv_no (show (Kd.word .pfp == ("and" : Str)) = false by decide +kernel)) ?_⟩
        refine ⟨_, rfl, (by show 0 ≤ sizeLine; decide), fun p2 n2 => ⟨(by show 2 ≤ sizeLine; decide), fun p3 n3 => ?_⟩⟩
        have a2 := same_upd (o := .tup []) n2
        have a3 := same_upd (o := .tup [.str "or", .ref p2]) n3
        have u1 := (u0.trans (a2.trans a3))
        have de1 : Dp K _ (.ref p3) (eD "or") := .tup (SqT.of upd_same) (.cons (.str _) (.cons (.tup (Same.sqt a3 (SqT.of upd_same)) .nil) .nil))
        refine ⟨_, _, Dp.same u1 dp0, de1, sh, by decide +kernel, _, rfl, cF (k := PyData.eqv (Hd.data (.pfp n vs as) _) (eD "or")) (eqv_no (show (Kd.word .pfp == ("or" : Str)) = false by decide +kernel)) ?_⟩
        refine ⟨rfl, _, rfl, .ref a, _, rfl, Dp.same u1 dpF, ok, fun H3 b ys s3 nb hb hy => ⟨b, rfl, ⟨_, SqL.of hb⟩, fun L nL => ?_⟩⟩
        have hy : DpAll K H3 ys (List.map Fm.data [g0]) := hy
        have s13 := u1.trans s3
        have yl : ys.length = List.length [g0] := by rw [DpAll.length hy, List.length_map]
        refine lc_it (walk_list (K := K) (a := b) (xs := ys)) (fun i H4 => Same H3 H4 ∧ H4 L = some (.lst (((List.take i [g0]).map Fm.text).map V.str))) ⟨same_upd nL, upd_same⟩ (fun i H4 _ ⟨s4, _⟩ => SqL.of (s4 _ _ hb)) ?_ ?_
        · rintro i y H4 H5 hi ⟨s4, hL⟩ ⟨rfl, hy2⟩
          obtain ⟨dd, hd, dpy⟩ := DpAll.get' hy hy2
          obtain ⟨g, hg, rfl⟩ := get_map hd
          have mem := List.mem_of_getElem? hg
          have dl : g.dep < (Fm.mk (.pfp n vs as) [g0]).dep := dep_part mem
          have cl : g.cnt < (Fm.mk (.pfp n vs as) [g0]).cnt := cnt_part mem
          refine ⟨rfl, _, rfl, y, g, rfl, Dp.same s4 dpy, ok.part mem, by omega, by omega, fun H6 s6 => ⟨_, s6 _ _ hL, ?_, fun b o eb => ?_, ?_⟩⟩
          · rw [List.length_map, List.length_map]
            have := List.length_take_le' i [g0]
            exact small1000 (by omega)
          · rw [upd_ne (ne_of_none eb nL)]
            exact s6 _ _ (s4 _ _ eb)
          · rw [upd_same, List.take_add_one, hg, List.map_append, List.map_append]
            rfl
        rintro H4 ⟨s4, hL⟩
        rw [List.take_of_length_le (show List.length [g0] ≤ ys.length by omega)] at hL
        refine ⟨_, _, List.map Fm.text [g0], rfl, rfl, .inl (SqL.of hL), ftl.1, ?_⟩
        have s14 := s13.trans s4
        refine ⟨_, rfl, a, _, _, _, rfl, rfl, (Same.sqt s14 hT), atI_nat (j := 0) rfl, (by show 3 ≤ sizeLine; decide), fun q1 m1 => ⟨_, _, rfl, .inl (SqL.of upd_same), rfl, rfl, _, rfl, cF (k := inV (.str "pfp") [.str "not", .str "and", .str "or"]) (by decide +kernel) ?_⟩⟩
        have s15 := s14.trans (same_upd (o := .lst [.str "not", .str "and", .str "or"]) m1)
        refine ⟨_, rfl, a, _, _, _, rfl, rfl, (Same.sqt s15 hT), atI_nat (j := 0) rfl, rfl, _, rfl, cF (k := decide (V.str "pfp" = V.str "some")) (by decide +kernel) ⟨_, rfl, a, _, _, _, rfl, rfl, (Same.sqt s15 hT), atI_nat (j := 0) rfl, rfl, _, rfl, cF (k := decide (V.str "pfp" = V.str "all")) (by decide +kernel) ?_⟩⟩
        refine ⟨_, rfl, a, _, _, _, rfl, rfl, (Same.sqt s15 hT), atI_nat (j := 0) rfl, rfl, _, rfl, cF (k := decide (V.str "pfp" = V.str "tc")) (by decide +kernel) ?_⟩
        refine ⟨_, rfl, a, _, _, _, rfl, rfl, (Same.sqt s15 hT), atI_nat (j := 0) rfl, rfl, _, rfl, cF (k := decide (V.str "pfp" = V.str "guess")) (by decide +kernel) ?_⟩
        have lx := nm_len okh.1
        have sol2 : (spL vs).length ≤ 13 * vs.length := sol
        have ol2 : vs.length ≤ 8 := ol
        have sal2 : (spL as).length ≤ 13 * as.length := sal
        have al2 : as.length ≤ 8 := al
        have v1 : 1 ≤ vs.length := okh.2.1.1
        obtain ⟨x0, vs0, rfl⟩ : ∃ x0 vs0, vs = x0 :: vs0 := by cases vs with | nil => exact absurd v1 (by decide) | cons x0 vs0 => exact ⟨x0, vs0, rfl⟩
        have lwd : (Lc (Hd.word (.pfp n (x0 :: vs0) as))).length ≤ 5 := word_len _
        refine ⟨_, rfl, a, _, _, _, rfl, rfl, (Same.sqt s15 hT), atI_nat (j := 0) rfl, _, _, rfl, rfl, ?_, _, rfl, a, _, _, _, rfl, rfl, (Same.sqt s15 hT), atI_nat (j := 1) rfl, _, _, rfl, rfl, ?_, _, _, rfl, rfl, ?_, _, rfl, a, _, _, _, rfl, rfl, (Same.sqt s15 hT), atI_nat (j := 2) rfl, .ref t2, _, rfl, tS_of (Same.sqt s15 ht2), on, ol, _, _, rfl, rfl, ?_, _, _, rfl, rfl, ?_, _, rfl, _, _, rfl, rfl, ?_, _, _, rfl, rfl, ?_, _, rfl, a, _, _, _, rfl, rfl, (Same.sqt s15 hT), atI_nat (j := 4) rfl, .ref t4, _, rfl, tS_of (Same.sqt s15 ht4), an, al, _, _, rfl, rfl, ?_, _, _, rfl, rfl, ?_, ?_⟩
        · exact fit_line (by simp only [Lc_len, Lc_app, List.length_append, c_sp, c_po, c_pc, c_co, c_pp, c_tcp, c_gsp, spJ, List.length_cons, List.length_nil] at *; omega)
        · exact fit_line (by simp only [Lc_len, Lc_app, List.length_append, c_sp, c_po, c_pc, c_co, c_pp, c_tcp, c_gsp, spJ, List.length_cons, List.length_nil] at *; omega)
        · exact fit_line (by simp only [Lc_len, Lc_app, List.length_append, c_sp, c_po, c_pc, c_co, c_pp, c_tcp, c_gsp, spJ, List.length_cons, List.length_nil] at *; omega)
        · exact fit_line (by simp only [Lc_len, Lc_app, List.length_append, c_sp, c_po, c_pc, c_co, c_pp, c_tcp, c_gsp, spJ, List.length_cons, List.length_nil] at *; omega)
        · exact fit_line (by simp only [Lc_len, Lc_app, List.length_append, c_sp, c_po, c_pc, c_co, c_pp, c_tcp, c_gsp, spJ, List.length_cons, List.length_nil] at *; omega)
        · exact fit_line (by simp only [Lc_len, Lc_app, List.length_append, c_sp, c_po, c_pc, c_co, c_pp, c_tcp, c_gsp, spJ, List.length_cons, List.length_nil] at *; omega)
        · exact fit_line (by simp only [Lc_len, Lc_app, List.length_append, c_sp, c_po, c_pc, c_co, c_pp, c_tcp, c_gsp, spJ, List.length_cons, List.length_nil] at *; omega)
        · exact fit_line (by simp only [Lc_len, Lc_app, List.length_append, c_sp, c_po, c_pc, c_co, c_pp, c_tcp, c_gsp, spJ, List.length_cons, List.length_nil] at *; omega)
        · exact fit_line (by simp only [Lc_len, Lc_app, List.length_append, c_sp, c_po, c_pc, c_co, c_pp, c_tcp, c_gsp, spJ, List.length_cons, List.length_nil] at *; omega)
        have z := q _ s15
        have e : Fm.text (.mk (.pfp n (x0 :: vs0) as) [g0]) = (((((((((("pfp" : Str) ++ ("(" : Str)) ++ n) ++ (" " : Str)) ++ (Txt.join " " (x0 :: vs0))) ++ (": " : Str)) ++ (Txt.join ", " (List.map Fm.text [g0]))) ++ (")(" : Str)) ++ (Txt.join " " as)) ++ (")" : Str)) := str_ext (by rw [Fm.text_L, Fm.tx_mk]; simp only [Lc_app, c_sp, c_po, c_pc, c_co, c_pp, c_em, c_eq, c_lt, c_tcp, c_gsp, c_le, c_ll, spJ, Lc_join, c_cm]; simp only [Hd.tx, te, spL, List.map_cons, TL.joinL, List.append_assoc] <;> rfl)
        rw [e] at z
        exact z
      | tc vs as =>
        obtain ⟨g0, rfl⟩ := one_of okh.2.2.2.2.2
        obtain ⟨v1, w1, rfl, e1, hx1⟩ := DpAll.cons_inv hx
        obtain ⟨v2, w2, rfl, e2, hx2⟩ := DpAll.cons_inv hx1
        obtain ⟨v3, w3, rfl, e3, hx3⟩ := DpAll.cons_inv hx2
        obtain rfl := DpAll.nil_inv hx3
        obtain ⟨t1, rfl, ht1⟩ := tS_inv e1
        obtain ⟨t3, rfl, ht3⟩ := tS_inv e3
        refine ⟨_, rfl, a, _, _, _, rfl, rfl, hT, atI_nat (j := 0) rfl, rfl, _, rfl, cF (k := decide (V.str "tc" = V.str "rel")) (by decide +kernel) ?_⟩
        refine ⟨_, rfl, a, _, _, _, rfl, rfl, hT, atI_nat (j := 0) rfl, rfl, _, rfl, cF (k := decide (V.str "tc" = V.str "eq")) (by decide +kernel) ?_⟩
        refine ⟨_, rfl, a, _, _, _, rfl, rfl, hT, atI_nat (j := 0) rfl, rfl, _, rfl, cF (k := decide (V.str "tc" = V.str "less")) (by decide +kernel) ?_⟩
        refine ⟨_, rfl, (by show 0 ≤ sizeLine; decide), fun p0 n0 => ⟨(by show 2 ≤ sizeLine; decide), fun p1 n1 => ?_⟩⟩
        have a0 := same_upd (o := .tup []) n0
        have a1 := same_upd (o := .tup [.str "and", .ref p0]) n1
        have u0 := (a0.trans a1)
        have de0 : Dp K _ (.ref p1) (eD "and") := .tup (SqT.of upd_same) (.cons (.str _) (.cons (.tup (Same.sqt a1 (SqT.of upd_same)) .nil) .nil))
        refine ⟨_, _, Dp.same u0 dp0, de0, sh, by decide +kernel, _, rfl, cF (k := PyData.eqv (Hd.data (.tc vs as) _) (eD "and")) (eqv_no (show (Kd.word .tc == ("and" : Str)) = false by decide +kernel)) ?_⟩
        refine ⟨_, rfl, (by show 0 ≤ sizeLine; decide), fun p2 n2 => ⟨(by show 2 ≤ sizeLine; decide), fun p3 n3 => ?_⟩⟩
        have a2 := same_upd (o := .tup []) n2
        have a3 := same_upd (o := .tup [.str "or", .ref p2]) n3
        have u1 := (u0.trans (a2.trans a3))
        have de1 : Dp K _ (.ref p3) (eD "or") := .tup (SqT.of upd_same) (.cons (.str _) (.cons (.tup (Same.sqt a3 (SqT.of upd_same)) .nil) .nil))
        refine ⟨_, _, Dp.same u1 dp0, de1, sh, by decide +kernel, _, rfl, cF (k := PyData.eqv (Hd.data (.tc vs as) _) (eD "or")) (eqv_no (show (Kd.word .tc == ("or" : Str)) = false by decide +kernel)) ?_⟩
        refine ⟨rfl, _, rfl, .ref a, _, rfl, Dp.same u1 dpF, ok, fun H3 b ys s3 nb hb hy => ⟨b, rfl, ⟨_, SqL.of hb⟩, fun L nL => ?_⟩⟩
        have hy : DpAll K H3 ys (List.map Fm.data [g0]) := hy
        have s13 := u1.trans s3
        have yl : ys.length = List.length [g0] := by rw [DpAll.length hy, List.length_map]
        refine lc_it (walk_list (K := K) (a := b) (xs := ys)) (fun i H4 => Same H3 H4 ∧ H4 L = some (.lst (((List.take i [g0]).map Fm.text).map V.str))) ⟨same_upd nL, upd_same⟩ (fun i H4 _ ⟨s4, _⟩ => SqL.of (s4 _ _ hb)) ?_ ?_
        · rintro i y H4 H5 hi ⟨s4, hL⟩ ⟨rfl, hy2⟩
          obtain ⟨dd, hd, dpy⟩ := DpAll.get' hy hy2
          obtain ⟨g, hg, rfl⟩ := get_map hd
          have mem := List.mem_of_getElem? hg
          have dl : g.dep < (Fm.mk (.tc vs as) [g0]).dep := dep_part mem
          have cl : g.cnt < (Fm.mk (.tc vs as) [g0]).cnt := cnt_part mem
          refine ⟨rfl, _, rfl, y, g, rfl, Dp.same s4 dpy, ok.part mem, by omega, by omega, fun H6 s6 => ⟨_, s6 _ _ hL, ?_, fun b o eb => ?_, ?_⟩⟩
          · rw [List.length_map, List.length_map]
            have := List.length_take_le' i [g0]
            exact small1000 (by omega)
          · rw [upd_ne (ne_of_none eb nL)]
            exact s6 _ _ (s4 _ _ eb)
          · rw [upd_same, List.take_add_one, hg, List.map_append, List.map_append]
            rfl
        rintro H4 ⟨s4, hL⟩
        rw [List.take_of_length_le (show List.length [g0] ≤ ys.length by omega)] at hL
        refine ⟨_, _, List.map Fm.text [g0], rfl, rfl, .inl (SqL.of hL), ftl.1, ?_⟩
        have s14 := s13.trans s4
        refine ⟨_, rfl, a, _, _, _, rfl, rfl, (Same.sqt s14 hT), atI_nat (j := 0) rfl, (by show 3 ≤ sizeLine; decide), fun q1 m1 => ⟨_, _, rfl, .inl (SqL.of upd_same), rfl, rfl, _, rfl, cF (k := inV (.str "tc") [.str "not", .str "and", .str "or"]) (by decide +kernel) ?_⟩⟩
        have s15 := s14.trans (same_upd (o := .lst [.str "not", .str "and", .str "or"]) m1)
        have lwd : (Lc (Hd.word (.tc vs as))).length ≤ 5 := word_len _
        refine ⟨_, rfl, a, _, _, _, rfl, rfl, (Same.sqt s15 hT), atI_nat (j := 0) rfl, rfl, _, rfl, cF (k := decide (V.str "tc" = V.str "some")) (by decide +kernel) ⟨_, rfl, a, _, _, _, rfl, rfl, (Same.sqt s15 hT), atI_nat (j := 0) rfl, rfl, _, rfl, cF (k := decide (V.str "tc" = V.str "all")) (by decide +kernel) ?_⟩⟩
        refine ⟨_, rfl, a, _, _, _, rfl, rfl, (Same.sqt s15 hT), atI_nat (j := 0) rfl, rfl, _, rfl, cT (k := decide (V.str "tc" = V.str "tc")) (by decide +kernel) ?_⟩
        have sol2 : (spL vs).length ≤ 13 * vs.length := sol
        have ol2 : vs.length ≤ 8 := ol
        have sal2 : (spL as).length ≤ 13 * as.length := sal
        have al2 : as.length ≤ 8 := al
        refine ⟨_, rfl, a, _, _, _, rfl, rfl, (Same.sqt s15 hT), atI_nat (j := 1) rfl, .ref t1, _, rfl, tS_of (Same.sqt s15 ht1), on, ol, _, _, rfl, rfl, ?_, _, _, rfl, rfl, ?_, _, rfl, _, _, rfl, rfl, ?_, _, _, rfl, rfl, ?_, _, rfl, a, _, _, _, rfl, rfl, (Same.sqt s15 hT), atI_nat (j := 3) rfl, .ref t3, _, rfl, tS_of (Same.sqt s15 ht3), an, al, _, _, rfl, rfl, ?_, _, _, rfl, rfl, ?_, ?_⟩
        · exact fit_line (by simp only [Lc_len, Lc_app, List.length_append, c_sp, c_po, c_pc, c_co, c_pp, c_tcp, c_gsp, spJ, List.length_cons, List.length_nil] at *; omega)
        · exact fit_line (by simp only [Lc_len, Lc_app, List.length_append, c_sp, c_po, c_pc, c_co, c_pp, c_tcp, c_gsp, spJ, List.length_cons, List.length_nil] at *; omega)
        · exact fit_line (by simp only [Lc_len, Lc_app, List.length_append, c_sp, c_po, c_pc, c_co, c_pp, c_tcp, c_gsp, spJ, List.length_cons, List.length_nil] at *; omega)
        · exact fit_line (by simp only [Lc_len, Lc_app, List.length_append, c_sp, c_po, c_pc, c_co, c_pp, c_tcp, c_gsp, spJ, List.length_cons, List.length_nil] at *; omega)
        · exact fit_line (by simp only [Lc_len, Lc_app, List.length_append, c_sp, c_po, c_pc, c_co, c_pp, c_tcp, c_gsp, spJ, List.length_cons, List.length_nil] at *; omega)
        · exact fit_line (by simp only [Lc_len, Lc_app, List.length_append, c_sp, c_po, c_pc, c_co, c_pp, c_tcp, c_gsp, spJ, List.length_cons, List.length_nil] at *; omega)
        have z := q _ s15
        have e : Fm.text (.mk (.tc vs as) [g0]) = ((((((("tc(" : Str) ++ (Txt.join " " vs)) ++ (": " : Str)) ++ (Txt.join ", " (List.map Fm.text [g0]))) ++ (")(" : Str)) ++ (Txt.join " " as)) ++ (")" : Str)) := str_ext (by rw [Fm.text_L, Fm.tx_mk]; simp only [Lc_app, c_sp, c_po, c_pc, c_co, c_pp, c_em, c_eq, c_lt, c_tcp, c_gsp, c_le, c_ll, spJ, Lc_join, c_cm]; simp only [Hd.tx, te, List.append_assoc] <;> rfl)
        rw [e] at z
        exact z
      | gs n k =>
        obtain ⟨g0, rfl⟩ := one_of okh.2.2
        obtain ⟨v1, w1, rfl, e1, hx1⟩ := DpAll.cons_inv hx
        obtain ⟨v2, w2, rfl, e2, hx2⟩ := DpAll.cons_inv hx1
        obtain ⟨v3, w3, rfl, e3, hx3⟩ := DpAll.cons_inv hx2
        obtain rfl := DpAll.nil_inv hx3
        obtain rfl := Dp.str_inv e1
        obtain rfl := Dp.int_inv e2
        refine ⟨_, rfl, a, _, _, _, rfl, rfl, hT, atI_nat (j := 0) rfl, rfl, _, rfl, cF (k := decide (V.str "guess" = V.str "rel")) (by decide +kernel) ?_⟩
        refine ⟨_, rfl, a, _, _, _, rfl, rfl, hT, atI_nat (j := 0) rfl, rfl, _, rfl, cF (k := decide (V.str "guess" = V.str "eq")) (by decide +kernel) ?_⟩
        refine ⟨_, rfl, a, _, _, _, rfl, rfl, hT, atI_nat (j := 0) rfl, rfl, _, rfl, cF (k := decide (V.str "guess" = V.str "less")) (by decide +kernel) ?_⟩
        refine ⟨_, rfl, (by show 0 ≤ sizeLine; decide), fun p0 n0 => ⟨(by show 2 ≤ sizeLine; decide), fun p1 n1 => ?_⟩⟩
        have a0 := same_upd (o := .tup []) n0
        have a1 := same_upd (o := .tup [.str "and", .ref p0]) n1
        have u0 := (a0.trans a1)
        have de0 : Dp K _ (.ref p1) (eD "and") := .tup (SqT.of upd_same) (.cons (.str _) (.cons (.tup (Same.sqt a1 (SqT.of upd_same)) .nil) .nil))
        refine ⟨_, _, Dp.same u0 dp0, de0, sh, by decide +kernel, _, rfl, cF (k := PyData.eqv (Hd.data (.gs n k) _) (eD "and")) (eqv_no (show (Kd.word .gs == ("and" : Str)) = false by decide +kernel)) ?_⟩
        refine ⟨_, rfl, (by show 0 ≤ sizeLine; decide), fun p2 n2 => ⟨(by show 2 ≤ sizeLine; decide), fun p3 n3 => ?_⟩⟩
        have a2 := same_upd (o := .tup []) n2
        have a3 := same_upd (o := .tup [.str "or", .ref p2]) n3
        have u1 := (u0.trans (a2.trans a3))
        have de1 : Dp K _ (.ref p3) (eD "or") := .tup (SqT.of upd_same) (.cons (.str _) (.cons (.tup (Same.sqt a3 (SqT.of upd_same)) .nil) .nil))
        refine ⟨_, _, Dp.same u1 dp0, de1, sh, by decide +kernel, _, rfl, cF (k := PyData.eqv (Hd.data (.gs n k) _) (eD "or")) (eqv_no (show (Kd.word .gs == ("or" : Str)) = false by decide +kernel)) ?_⟩
        refine ⟨rfl, _, rfl, .ref a, _, rfl, Dp.same u1 dpF, ok, fun H3 b ys s3 nb hb hy => ⟨b, rfl, ⟨_, SqL.of hb⟩, fun L nL => ?_⟩⟩
        have hy : DpAll K H3 ys (List.map Fm.data [g0]) := hy
        have s13 := u1.trans s3
        have yl : ys.length = List.length [g0] := by rw [DpAll.length hy, List.length_map]
        refine lc_it (walk_list (K := K) (a := b) (xs := ys)) (fun i H4 => Same H3 H4 ∧ H4 L = some (.lst (((List.take i [g0]).map Fm.text).map V.str))) ⟨same_upd nL, upd_same⟩ (fun i H4 _ ⟨s4, _⟩ => SqL.of (s4 _ _ hb)) ?_ ?_
        · rintro i y H4 H5 hi ⟨s4, hL⟩ ⟨rfl, hy2⟩
          obtain ⟨dd, hd, dpy⟩ := DpAll.get' hy hy2
          obtain ⟨g, hg, rfl⟩ := get_map hd
          have mem := List.mem_of_getElem? hg
          have dl : g.dep < (Fm.mk (.gs n k) [g0]).dep := dep_part mem
          have cl : g.cnt < (Fm.mk (.gs n k) [g0]).cnt := cnt_part mem
          refine ⟨rfl, _, rfl, y, g, rfl, Dp.same s4 dpy, ok.part mem, by omega, by omega, fun H6 s6 => ⟨_, s6 _ _ hL, ?_, fun b o eb => ?_, ?_⟩⟩
          · rw [List.length_map, List.length_map]
            have := List.length_take_le' i [g0]
            exact small1000 (by omega)
          · rw [upd_ne (ne_of_none eb nL)]
            exact s6 _ _ (s4 _ _ eb)
          · rw [upd_same, List.take_add_one, hg, List.map_append, List.map_append]
            rfl
        rintro H4 ⟨s4, hL⟩
        rw [List.take_of_length_le (show List.length [g0] ≤ ys.length by omega)] at hL
        refine ⟨_, _, List.map Fm.text [g0], rfl, rfl, .inl (SqL.of hL), ftl.1, ?_⟩
        have s14 := s13.trans s4
        refine ⟨_, rfl, a, _, _, _, rfl, rfl, (Same.sqt s14 hT), atI_nat (j := 0) rfl, (by show 3 ≤ sizeLine; decide), fun q1 m1 => ⟨_, _, rfl, .inl (SqL.of upd_same), rfl, rfl, _, rfl, cF (k := inV (.str "guess") [.str "not", .str "and", .str "or"]) (by decide +kernel) ?_⟩⟩
        have s15 := s14.trans (same_upd (o := .lst [.str "not", .str "and", .str "or"]) m1)
        have lwd : (Lc (Hd.word (.gs n k))).length ≤ 5 := word_len _
        refine ⟨_, rfl, a, _, _, _, rfl, rfl, (Same.sqt s15 hT), atI_nat (j := 0) rfl, rfl, _, rfl, cF (k := decide (V.str "guess" = V.str "some")) (by decide +kernel) ⟨_, rfl, a, _, _, _, rfl, rfl, (Same.sqt s15 hT), atI_nat (j := 0) rfl, rfl, _, rfl, cF (k := decide (V.str "guess" = V.str "all")) (by decide +kernel) ?_⟩⟩
        refine ⟨_, rfl, a, _, _, _, rfl, rfl, (Same.sqt s15 hT), atI_nat (j := 0) rfl, rfl, _, rfl, cF (k := decide (V.str "guess" = V.str "tc")) (by decide +kernel) ?_⟩
        refine ⟨_, rfl, a, _, _, _, rfl, rfl, (Same.sqt s15 hT), atI_nat (j := 0) rfl, rfl, _, rfl, cT (k := decide (V.str "guess" = V.str "guess")) (by decide +kernel) ?_⟩
        have lx := nm_len okh.1
        have j3 := okh.2.1
        have ld : (Lc (toString ((k : Nat) : Int))).length = 1 := by rw [dig_L j3]; rfl
        have lg := dig_log j3
        refine ⟨_, rfl, a, _, _, _, rfl, rfl, (Same.sqt s15 hT), atI_nat (j := 1) rfl, _, _, rfl, rfl, ?_, _, _, rfl, rfl, ?_, _, rfl, a, _, _, _, rfl, rfl, (Same.sqt s15 hT), atI_nat (j := 2) rfl, ((k : Nat) : Int), rfl, lg, _, _, rfl, rfl, ?_, _, _, rfl, rfl, ?_, _, rfl, _, _, rfl, rfl, ?_, _, _, rfl, rfl, ?_, ?_⟩
        · exact fit_line (by simp only [Lc_len, Lc_app, List.length_append, c_sp, c_po, c_pc, c_co, c_pp, c_tcp, c_gsp, spJ, List.length_cons, List.length_nil] at *; omega)
        · exact fit_line (by simp only [Lc_len, Lc_app, List.length_append, c_sp, c_po, c_pc, c_co, c_pp, c_tcp, c_gsp, spJ, List.length_cons, List.length_nil] at *; omega)
        · exact fit_line (by simp only [Lc_len, Lc_app, List.length_append, c_sp, c_po, c_pc, c_co, c_pp, c_tcp, c_gsp, spJ, List.length_cons, List.length_nil] at *; omega)
        · exact fit_line (by simp only [Lc_len, Lc_app, List.length_append, c_sp, c_po, c_pc, c_co, c_pp, c_tcp, c_gsp, spJ, List.length_cons, List.length_nil] at *; omega)
        · exact fit_line (by simp only [Lc_len, Lc_app, List.length_append, c_sp, c_po, c_pc, c_co, c_pp, c_tcp, c_gsp, spJ, List.length_cons, List.length_nil] at *; omega)
        · exact fit_line (by simp only [Lc_len, Lc_app, List.length_append, c_sp, c_po, c_pc, c_co, c_pp, c_tcp, c_gsp, spJ, List.length_cons, List.length_nil] at *; omega)
        have z := q _ s15
        have e : Fm.text (.mk (.gs n k) [g0]) = ((((((("guess(" : Str) ++ n) ++ (" " : Str)) ++ (toString ((k : Nat) : Int))) ++ (": " : Str)) ++ (Txt.join ", " (List.map Fm.text [g0]))) ++ (")" : Str)) := str_ext (by rw [Fm.text_L, Fm.tx_mk]; simp only [Lc_app, c_sp, c_po, c_pc, c_co, c_pp, c_em, c_eq, c_lt, c_tcp, c_gsp, c_le, c_ll, spJ, Lc_join, c_cm]; simp only [Hd.tx, te, dig_L okh.2.1, List.append_assoc] <;> rfl)
        rw [e] at z
        exact z
end
/-! ### the reader -/
/-- a method as the top leaves it -/
def DefM (K : PySem.W.Frag) (c m q : Str) (ps : List Str) (st : Stmt) : Prop := ∃ f fd, FunD K m q (defArgs st) (defBody st) (defScope st) [] [] f fd ∧ Meth K (He.ga K c) m f ∧ Binds K fd ps []
def HasM (P : Program) (w : World) (K : PySem.W.Frag) (mg : Str → Option Value) (base : Heap) (k : Nat) (c m : Str) (ps : List Str) (sp : Sp) : Prop :=
  ∃ f fd, FnOk P w K mg base CX0 k f fd ps sp ∧ Meth K (He.ga K c) m f ∧ Binds K fd ps []
theorem DefM.has {P : Program} {w : World} {K : PySem.W.Frag} {mg : Str → Option Value} {base : Heap} {c m q : Str} {ps : List Str} {st : Stmt} {k : Nat} {sp : Sp} (D : DefM K c m q ps st)
    (h : ∀ f fd, FunD K m q (defArgs st) (defBody st) (defScope st) [] [] f fd → FnOk P w K mg base CX0 k f fd ps sp) : HasM P w K mg base k c m ps sp := by
  obtain ⟨f, fd, F, g, b⟩ := D
  exact ⟨f, fd, h f fd F, g, b⟩
structure RdC (K : PySem.W.Frag) : Prop where
  cls : Cls K (He.ga K "Reader")
  nt : NoAttr K (He.ga K "Reader") "text"
  np : NoAttr K (He.ga K "Reader") "place"
  nl : NoAttr K (He.ga K "Reader") "levels_left"
def rdF (z : Str) (i l : Nat) : List (Str × V) := [("text", .str z), ("place", .int (i : Nat)), ("levels_left", .int (l : Nat))]
/-- a reader of z at r: what is left of it, how many levels -/
def RdR (K : PySem.W.Frag) (H : Hp) (r : Addr) (z : Str) (cs : List Nat) (l : Nat) : Prop :=
  ∃ i dx, H r = some (.ins (He.ga K "Reader") dx (rdF z i l)) ∧ i ≤ z.length ∧ (Lc z).drop i = cs
/-- all but instances stays -/
def Ki (H H' : Hp) : Prop := ∀ b o, H b = some o → (∀ C dx fs, o ≠ .ins C dx fs) → H' b = some o
theorem Ki.refl (H : Hp) : Ki H H := fun _ _ e _ => e
theorem Ki.of {H H' : Hp} (s : Same H H') : Ki H H' := fun b o e _ => s b o e
theorem Ki.trans {H H1 H2 : Hp} (a : Ki H H1) (b : Ki H1 H2) : Ki H H2 := fun c o e n => b c o (a c o e n) n
theorem Ki.upd {H : Hp} {r C dx : Addr} {fs : List (Str × V)} {o : HO} (h : H r = some (.ins C dx fs)) : Ki H (L2.upd H r o) := fun b x e n => by
  rw [upd_ne fun z => by rw [z, h] at e; exact n _ _ _ (Option.some.inj e).symm]
  exact e
theorem Ki.lst {H H' : Hp} (k : Ki H H') {p : Addr} {xs : List V} (h : H p = some (.lst xs)) : H' p = some (.lst xs) := k _ _ h fun _ _ _ z => nomatch z
section
variable {K : PySem.W.Frag} {H H' : Hp}
theorem SqT.ki {a : Addr} {xs : List V} (k : Ki H H') (h : SqT K H a xs) : SqT K H' a xs := by
  rcases h with (h | ⟨o, h⟩) | h
  · exact .inl (.inl (k _ _ h fun _ _ _ z => nomatch z))
  · exact .inl (.inr ⟨o, k _ _ h fun _ _ _ z => nomatch z⟩)
  · exact .inr h
theorem SqL.ki {a : Addr} {xs : List V} (k : Ki H H') (h : SqL K H a xs) : SqL K H' a xs := by
  rcases h with (h | ⟨o, h⟩) | h
  · exact .inl (.inl (k _ _ h fun _ _ _ z => nomatch z))
  · exact .inl (.inr ⟨o, k _ _ h fun _ _ _ z => nomatch z⟩)
  · exact .inr h
mutual
theorem Dp.ki (k : Ki H H') : ∀ {v : V} {t : PyData}, Dp K H v t → Dp K H' v t
  | _, _, .non => .non
  | _, _, .bl b => .bl b
  | _, _, .int i => .int i
  | _, _, .str x => .str x
  | _, _, .lst h t => .lst (SqL.ki k h) (DpAll.ki k t)
  | _, _, .tup h t => .tup (SqT.ki k h) (DpAll.ki k t)
theorem DpAll.ki (k : Ki H H') : ∀ {vs : List V} {ts : List PyData}, DpAll K H vs ts → DpAll K H' vs ts
  | _, _, .nil => .nil
  | _, _, .cons h t => .cons (Dp.ki k h) (DpAll.ki k t)
end
theorem RdR.same {r : Addr} {z : Str} {cs : List Nat} {l : Nat} (h : RdR K H r z cs l) (s : Same H H') : RdR K H' r z cs l := by
  obtain ⟨i, dx, h1, h2, h3⟩ := h
  exact ⟨i, dx, s _ _ h1, h2, h3⟩
theorem RdR.ne {r p : Addr} {z : Str} {cs : List Nat} {l : Nat} (h : RdR K H r z cs l) (np : H p = none) : p ≠ r := by
  obtain ⟨i, dx, h1, h2, h3⟩ := h
  intro e
  rw [e, h1] at np
  cases np
/-- a list of one's own is changed -/
theorem RdR.upd {r p : Addr} {z : Str} {cs : List Nat} {l : Nat} {o : HO} (h : RdR K H r z cs l) (n : p ≠ r) : RdR K (L2.upd H p o) r z cs l := by
  obtain ⟨i, dx, h1, h2, h3⟩ := h
  exact ⟨i, dx, by rw [upd_ne n.symm]; exact h1, h2, h3⟩
theorem RdR.nl {r p : Addr} {z : Str} {cs : List Nat} {l : Nat} {xs : List V} (h : RdR K H r z cs l) (e : H p = some (.lst xs)) : p ≠ r := by
  obtain ⟨i, dx, h1, h2, h3⟩ := h
  intro z
  rw [z, h1] at e
  cases e
end
theorem putP (z : Str) (i l : Nat) (j : Int) : putF "place" (.int j) (rdF z i l) = ([("text", V.str z), ("place", V.int j), ("levels_left", V.int (l : Nat))] : List (Str × V)) := rfl
theorem putL (z : Str) (i l : Nat) (j : Int) : putF "levels_left" (.int j) (rdF z i l) = ([("text", V.str z), ("place", V.int (i : Nat)), ("levels_left", V.int j)] : List (Str × V)) := rfl
/-- what is a sign of a name -/
def An (c : Nat) : Prop := c ∈ both.cps.toList
/-- a name's sign does not come next -/
def Stp (cs : List Nat) : Prop := ∀ c, cs[0]? = some c → ¬ An c
theorem stp_nil : Stp [] := fun c h => nomatch h
theorem stp_cons {c : Nat} {cs : List Nat} (h : ¬ An c) : Stp (c :: cs) := fun d e => by cases e; exact h
instance (c : Nat) : Decidable (An c) := inferInstanceAs (Decidable (c ∈ both.cps.toList))
theorem an_40 : ¬ An 40 := by decide +kernel
theorem an_41 : ¬ An 41 := by decide +kernel
theorem an_58 : ¬ An 58 := by decide +kernel
theorem an_32 : ¬ An 32 := by decide +kernel
theorem an_44 : ¬ An 44 := by decide +kernel
def Big (z : Str) : Prop := z.length ≤ 1000000
theorem Big.line {z : Str} (h : Big z) : z.length ≤ sizeLine := fit_line h
theorem drop_len {z : Str} {i : Nat} {cs : List Nat} (h : (Lc z).drop i = cs) (hi : i ≤ z.length) : i + cs.length = z.length := by
  rw [← h, List.length_drop, Lc_len]
  rw [Lc_len] at hi
  omega
theorem cut_pre {z : Str} {i n : Nat} {cs : List Nat} (h : (Lc z).drop i = cs) (hi : i ≤ z.length) : cutS z (some (i : Int)) (some ((i : Int) + (n : Int))) = ⟨(cs.take n).toArray⟩ := by
  have e : ((i : Int) + (n : Int)) = ((i + n : Nat) : Int) := by omega
  have l := drop_len h hi
  unfold cutS
  rw [e, HT.sIx_nat, HT.sIx_nat, Nat.min_eq_left hi]
  show (⟨(((Lc z).drop i).take (min (i + n) z.length - i)).toArray⟩ : Str) = _
  rw [h]
  congr 2
  by_cases c : i + n ≤ z.length
  · rw [Nat.min_eq_left c, Nat.add_sub_cancel_left]
  · rw [List.take_of_length_le (by omega), List.take_of_length_le (by omega)]
def spInit (K : PySem.W.Frag) : Sp := fun vs H Q _ => ∃ (r dx : Addr) (z : Str) (l : Nat), vs = [.ref r, .str z, .int (l : Nat)] ∧ H r = some (.ins (He.ga K "Reader") dx []) ∧ ∀ H' : Hp, RdR K H' r z (Lc z) l → Ki H H' → Q .non H'
def spTakes (K : PySem.W.Frag) : Sp := fun vs H Q _ => ∃ (r : Addr) (z sg : Str) (cs : List Nat) (l : Nat), vs = [.ref r, .str sg] ∧ RdR K H r z cs l ∧ Big z ∧ sg.length ≤ 100 ∧
  (cs.take sg.length ≠ Lc sg → Q (.bl false) H) ∧ ∀ rest, cs = Lc sg ++ rest → ∀ H' : Hp, RdR K H' r z rest l → Ki H H' → Q (.bl true) H'
def spNeeds (K : PySem.W.Frag) : Sp := fun vs H Q _ => ∃ (r : Addr) (z sg : Str) (rest : List Nat) (l : Nat), vs = [.ref r, .str sg] ∧ RdR K H r z (Lc sg ++ rest) l ∧ Big z ∧ sg.length ≤ 100 ∧ ∀ H' : Hp, RdR K H' r z rest l → Ki H H' → Q .non H'
def spWord (K : PySem.W.Frag) : Sp := fun vs H Q _ => ∃ (r : Addr) (z nm : Str) (rest : List Nat) (l : Nat), vs = [.ref r] ∧ RdR K H r z (Lc nm ++ rest) l ∧ Big z ∧ (∀ c, c ∈ Lc nm → An c) ∧ Stp rest ∧ ∀ H' : Hp, RdR K H' r z rest l → Ki H H' → Q (.str nm) H'
def spNames (K : PySem.W.Frag) : Sp := fun vs H Q _ => ∃ (r : Addr) (z sg : Str) (as : List Str) (rest : List Nat) (l : Nat), vs = [.ref r, .str sg] ∧ RdR K H r z (spL as ++ (Lc sg ++ rest)) l ∧ Big z ∧ sg.length ≤ 100 ∧ as ≠ [] ∧ as.length ≤ 100 ∧ (∀ a, a ∈ as → ∀ c, c ∈ Lc a → An c) ∧
  (∃ c s, Lc sg = c :: s ∧ ¬ An c ∧ c ≠ 32) ∧ ∀ (H' : Hp) (t : V), RdR K H' r z rest l → Ki H H' → Dp K H' t (tS as) → Q t H'
def spIn (K : PySem.W.Frag) : Sp := fun vs H Q _ => ∃ (r : Addr) (z : Str) (cs : List Nat) (l : Nat), vs = [.ref r] ∧ RdR K H r z cs (l + 1) ∧ ∀ H' : Hp, RdR K H' r z cs l → Ki H H' → Q .non H'
def spOut (K : PySem.W.Frag) : Sp := fun vs H Q _ => ∃ (r : Addr) (z : Str) (cs : List Nat) (l : Nat), vs = [.ref r] ∧ RdR K H r z cs l ∧ ∀ H' : Hp, RdR K H' r z cs (l + 1) → Ki H H' → Q .non H'
section
variable {P : Program} {w : World} {K : PySem.W.Frag} {mg : Str → Option Value} {base : Heap}
theorem sc_r_init : FnScope ["self", "text", "most_deep"] ["self", "text", "most_deep"] (defScope (inClass (top 41) 0)) := ⟨rfl, rfl, rfl, by decide +kernel, rfl, by decide +kernel, by decide +kernel⟩
theorem has_r_init (D : DefM K "Reader" "__init__" "Reader.__init__" ["self", "text", "most_deep"] (inClass (top 41) 0)) (RD : RdC K) : HasM P w K mg base 1 "Reader" "__init__" ["self", "text", "most_deep"] (spInit K) := D.has fun f fd F => by
  refine F.ok sc_r_init (fun vs H Q E h => ?_) (fun cdv A outer s H vs Q E hr h => ?_)
  · obtain ⟨r, dx, z, l, rfl, _⟩ := h; rfl
  · obtain ⟨r, dx, z, l, rfl, h1, q⟩ := h
    refine ⟨_, PSs.nox (pss_cons (ps_fld (pv 0) (pv 1) rfl) (pss_cons (ps_fld (pv 0) pe_int rfl) (pss_one (ps_fld (pv 0) (pv 2) rfl)))), ?_⟩
    refine ⟨_, rfl, _, rfl, r, _, dx, _, rfl, h1, RD.cls, RD.nt, (by show 0 < 1000; decide), ?_⟩
    refine ⟨_, rfl, r, _, dx, _, rfl, upd_same, RD.cls, RD.np, (by show 1 < 1000; decide), ?_⟩
    refine ⟨_, rfl, _, rfl, r, _, dx, _, rfl, upd_same, RD.cls, RD.nl, (by show 2 < 1000; decide), ?_⟩
    refine q _ ⟨0, dx, upd_same, Nat.zero_le _, List.drop_zero⟩ ?_
    exact ((Ki.upd h1).trans (Ki.upd upd_same)).trans (Ki.upd upd_same)
theorem sc_r_takes : FnScope ["self", "sign", "end"] ["self", "sign"] (defScope (inClass (top 41) 1)) := ⟨rfl, rfl, rfl, by decide +kernel, rfl, by decide +kernel, by decide +kernel⟩
theorem has_r_takes (D : DefM K "Reader" "takes" "Reader.takes" ["self", "sign"] (inClass (top 41) 1)) (T : Txt mg) (RD : RdC K) : HasM P w K mg base 1 "Reader" "takes" ["self", "sign"] (spTakes K) := D.has fun f fd F => by
  refine F.ok sc_r_takes (fun vs H Q E h => ?_) (fun cdv A outer s H vs Q E hr h => ?_)
  · obtain ⟨r, z, sg, cs, l, rfl, _⟩ := h; rfl
  · obtain ⟨r, z, sg, cs, l, rfl, ⟨i, dx, h1, hi, hd⟩, big, sl, qf, qt⟩ := h
    refine ⟨_, PSs.nox (pss_cons (ps_set (i := 2) sc_r_takes.nd rfl (Or.inl rfl) (pe_op op_add (pe_fld (pv 0) rfl) (pe_callB call_len_str (by rfl) T.n_len PySem.boot_len (pa_cons (pv 1) pa_nil)))) (pss_cons (ps_if (pt_cmpR op_ne (pe_slice sl_str (pe_fld (pv 0) rfl) (po_some (pe_fld (pv 0) rfl)) (po_some (pv 2))) (pv 1) (nomark _)) (pss_one (ps_ret pe_bl)) pss_nil) (pss_cons (ps_fld (pv 0) (pv 2) rfl) (pss_one (ps_ret pe_bl))))), ?_⟩
    refine ⟨_, rfl, r, _, dx, _, _, rfl, h1, RD.cls, RD.np, rfl, _, rfl, sg, rfl, fit_line (by omega), _, _, rfl, rfl, ?_⟩
    refine ⟨_, rfl, r, _, dx, _, _, rfl, h1, RD.cls, RD.nt, rfl, _, rfl, r, _, dx, _, _, rfl, h1, RD.cls, RD.np, rfl, _, rfl, _, rfl, _, rfl, z, rfl, big.line, _, rfl, rfl, _, rfl, ?_⟩
    have ec : cutS z (some (i : Int)) (some ((i : Int) + ((sg.length : Nat) : Int))) = ⟨(cs.take sg.length).toArray⟩ := cut_pre hd hi
    by_cases e : cs.take sg.length = Lc sg
    · have e2 : cutS z (some (i : Int)) (some ((i : Int) + ((sg.length : Nat) : Int))) = sg := by rw [ec, e]
      refine cF (k := !decide (V.str (cutS z (some (i : Int)) (some ((i : Int) + ((sg.length : Nat) : Int)))) = V.str sg)) (nd_f (by rw [e2])) ?_
      have er : cs = Lc sg ++ cs.drop sg.length := by rw [← e, List.take_append_drop]
      have dl := drop_len hd hi
      have sgl : sg.length = (Lc sg).length := Lc_len sg
      have cl : sg.length ≤ cs.length := by
        have := congrArg List.length er
        rw [List.length_append] at this
        omega
      refine ⟨_, rfl, _, rfl, r, _, dx, _, rfl, h1, RD.cls, RD.np, (by show 3 < 1000; decide), ?_⟩
      rw [putP]
      refine qt _ er _ ⟨i + sg.length, dx, ?_, by omega, ?_⟩ (Ki.upd h1)
      · rw [upd_same]
        rfl
      · rw [← List.drop_drop, hd]
    · refine cT (k := !decide (V.str (cutS z (some (i : Int)) (some ((i : Int) + ((sg.length : Nat) : Int)))) = V.str sg)) (nd_t fun x => e ?_) (qf e)
      have x2 := V.str.inj x
      rw [ec] at x2
      have x3 := congrArg Lc x2
      rw [Lc_mk] at x3
      exact x3
theorem sc_r_needs : FnScope ["self", "sign"] ["self", "sign"] (defScope (inClass (top 41) 2)) := ⟨rfl, rfl, rfl, by decide +kernel, rfl, by decide +kernel, by decide +kernel⟩
theorem has_r_needs (D : DefM K "Reader" "needs" "Reader.needs" ["self", "sign"] (inClass (top 41) 2)) (RD : RdC K) (C1 : HasM P w K mg base 1 "Reader" "takes" ["self", "sign"] (spTakes K)) : HasM P w K mg base 2 "Reader" "needs" ["self", "sign"] (spNeeds K) := D.has fun f fd F => by
  obtain ⟨f1, fd1, M_takes, hm_takes, bm_takes⟩ := C1
  refine F.ok sc_r_needs (fun vs H Q E h => ?_) (fun cdv A outer s H vs Q E hr h => ?_)
  · obtain ⟨r, z, sg, cs, l, rfl, _⟩ := h; rfl
  · obtain ⟨r, z, sg, rest, l, rfl, rd, big, sl, q⟩ := h
    have RM_takes : Room 1 _ := hr
    refine ⟨_, PSs.nox (pss_one (ps_if (pt_not (pt_val (pe_meth (pv 0) RD.cls hm_takes M_takes RM_takes bm_takes .nil pass0 (pa_cons (pv 1) pa_nil)))) pss_never pss_nil)), ?_⟩
    obtain ⟨i, dx, h1, hi, hd⟩ := rd
    refine ⟨_, rfl, r, dx, _, rfl, h1, rfl, _, rfl, r, z, sg, _, l, rfl, ⟨i, dx, h1, hi, hd⟩, big, sl, fun no => absurd ?_ no, fun rest' e H' rd' k' => ⟨_, rfl, iteF ?_⟩⟩
    · rw [Lc_len]
      exact List.take_left' rfl
    · have er : rest = rest' := List.append_cancel_left e
      rw [er] at q
      exact q H' rd' k'
theorem sc_r_word : FnScope ["self", "start"] ["self"] (defScope (inClass (top 41) 3)) := ⟨rfl, rfl, rfl, by decide +kernel, rfl, by decide +kernel, by decide +kernel⟩
theorem has_r_word (D : DefM K "Reader" "word" "Reader.word" ["self"] (inClass (top 41) 3)) (T : Txt mg) (RD : RdC K) (k1 : ∃ t, mg "LETTERS" = some (.str lets t)) (k2 : ∃ t, mg "FIGURES" = some (.str figs t)) : HasM P w K mg base 1 "Reader" "word" ["self"] (spWord K) := D.has fun f fd F => by
  obtain ⟨t1, c_LETTERS⟩ := k1
  obtain ⟨t2, c_FIGURES⟩ := k2
  refine F.ok sc_r_word (fun vs H Q E h => ?_) (fun cdv A outer s H vs Q E hr h => ?_)
  · obtain ⟨r, z, nm, rest, l, rfl, _⟩ := h; rfl
  · obtain ⟨r, z, nm, rest, l, rfl, ⟨i, dx, h1, hi, hd⟩, big, an, st, q⟩ := h
    refine ⟨_, PSs.nox (pss_cons (ps_set (i := 1) sc_r_word.nd rfl (Or.inl rfl) (pe_fld (pv 0) rfl)) (pss_cons (ps_while PassesOwn.never (PW.pt (pw_and (pt_cmpR op_lt (pe_fld (pv 0) rfl) (pe_callB call_len_str (by rfl) T.n_len PySem.boot_len (pa_cons (pe_fld (pv 0) rfl) pa_nil)) (nomark _)) (pw_and1 (pt_cmpR op_in_sign (pe_ix ix_str (pe_fld (pv 0) rfl) (pe_fld (pv 0) rfl) (fun _ _ => rfl)) (pe_op op_add_str (pe_glob (v := .str "abcdefghijklmnopqrstuvwxyz") (by rfl) c_LETTERS ⟨_, rfl⟩) (pe_glob (v := .str "0123456789") (by rfl) c_FIGURES ⟨_, rfl⟩)) (by rfl))))) (pss_one (ps_fldaug (pv 0) pe_int in_add))) (pss_one (ps_ret (pe_slice sl_str (pe_fld (pv 0) rfl) (po_some (pv 1)) (po_some (pe_fld (pv 0) rfl))))))), ?_⟩
    have dl := drop_len hd hi
    rw [List.length_append] at dl
    have zl : z.length = (Lc z).length := Lc_len z
    have lb : lets.length + figs.length ≤ sizeLine := by decide +kernel
    have eb : (lets ++ figs : Str).cps.toList = both.cps.toList := by rw [both_eq]; exact TL.tl_append lets figs
    have at_ : ∀ k, (Lc z)[i + k]? = (Lc nm ++ rest)[k]? := fun k => by rw [← hd, List.getElem?_drop]
    refine ⟨_, rfl, r, _, dx, _, _, rfl, h1, RD.cls, RD.np, rfl, ?_⟩
    refine ⟨fun m σ H2 => ∃ k, k + m = (Lc nm).length ∧ σ = [some (.ref r), some (.int (i : Nat))] ∧ H2 r = some (.ins (He.ga K "Reader") dx (rdF z (i + k) l)) ∧ Ki H H2, ⟨(Lc nm).length, 0, Nat.zero_add _, rfl, h1, .refl _⟩, ?_⟩
    rintro m σ H2 ⟨k, hk, rfl, h2, k2⟩
    refine ⟨_, rfl, r, _, dx, _, _, rfl, h2, RD.cls, RD.np, rfl, _, rfl, r, _, dx, _, _, rfl, h2, RD.cls, RD.nt, rfl, z, rfl, big.line, _, _, rfl, rfl, _, rfl, ?_⟩
    -- behind the word
    have done : ∀ {D : Ends}, m = 0 → (∀ H' : Hp, RdR K H' r z rest l → Ki H H' → D.rt (.str nm) H') → (∀ σ' H', D.nx σ' H' ↔ True) → True := fun _ _ _ => trivial
    have fin : m = 0 → RdR K H2 r z rest l := fun e => by
      have ek : k = (Lc nm).length := by omega
      refine ⟨i + k, dx, h2, by omega, ?_⟩
      rw [← List.drop_drop, hd, ek, List.drop_left]
    have cutw : m = 0 → cutS z (some (i : Int)) (some (((i + k : Nat)) : Int)) = nm := fun e => by
      have ek : k = (Lc nm).length := by omega
      rw [Int.natCast_add, cut_pre hd hi, ek, List.take_left]
    by_cases hl : i + k < z.length
    · refine cT (k := decide (((i + k : Nat) : Int) < ((z.length : Nat) : Int))) (decide_eq_true (by omega)) ?_
      obtain ⟨c, hc⟩ : ∃ c, (Lc z)[i + k]? = some c := ⟨_, List.getElem?_eq_getElem (by omega)⟩
      refine ⟨_, rfl, r, _, dx, _, _, rfl, h2, RD.cls, RD.nt, rfl, _, rfl, r, _, dx, _, _, rfl, h2, RD.cls, RD.np, rfl, z, _, c, rfl, rfl, big.line, atI_nat hc, _, _, rfl, rfl, lb, c, _, rfl, rfl, _, rfl, ?_⟩
      have hc2 := (at_ k).symm.trans hc
      by_cases m0 : m = 0
      · have ek : k = (Lc nm).length := by omega
        have na : ¬ An c := by
          rw [ek, List.getElem?_append_right (Nat.le_refl _), Nat.sub_self] at hc2
          exact st c hc2
        refine cF (k := decide (c ∈ (lets ++ figs : Str).cps.toList)) (decide_eq_false (by rw [eb]; exact na)) ?_
        refine ⟨_, rfl, r, _, dx, _, _, rfl, h2, RD.cls, RD.nt, rfl, _, rfl, _, rfl, _, rfl, r, _, dx, _, _, rfl, h2, RD.cls, RD.np, rfl, _, rfl, z, rfl, big.line, ?_⟩
        have z1 := q H2 (fin m0) k2
        rw [← cutw m0] at z1
        exact z1
      · have ok : An c := by
          rw [List.getElem?_append_left (by omega)] at hc2
          exact an c (List.mem_of_getElem? hc2)
        refine cT (k := decide (c ∈ (lets ++ figs : Str).cps.toList)) (decide_eq_true (by rw [eb]; exact ok)) ?_
        refine ⟨fun σ' H' => ∃ m', m' < m ∧ ∃ k, k + m' = (Lc nm).length ∧ σ' = [some (.ref r), some (.int (i : Nat))] ∧ H' r = some (.ins (He.ga K "Reader") dx (rdF z (i + k) l)) ∧ Ki H H', fun σ' H' h => h, ?_⟩
        refine ⟨_, rfl, r, _, dx, _, _, rfl, h2, RD.cls, RD.np, rfl, _, _, rfl, rfl, dx, _, h2, (by show 3 < 1000; decide), ?_⟩
        refine ⟨m - 1, by omega, k + 1, by omega, rfl, ?_, k2.trans (Ki.upd h2)⟩
        rw [upd_same, putP]
        have e : ((i + k : Nat) : Int) + 1 = ((i + (k + 1) : Nat) : Int) := by omega
        rw [e]
        rfl
    · refine cF (k := decide (((i + k : Nat) : Int) < ((z.length : Nat) : Int))) (decide_eq_false (by omega)) ?_
      have m0 : m = 0 := by omega
      refine ⟨_, rfl, r, _, dx, _, _, rfl, h2, RD.cls, RD.nt, rfl, _, rfl, _, rfl, _, rfl, r, _, dx, _, _, rfl, h2, RD.cls, RD.np, rfl, _, rfl, z, rfl, big.line, ?_⟩
      have z1 := q H2 (fin m0) k2
      rw [← cutw m0] at z1
      exact z1
theorem sc_r_in : FnScope ["self"] ["self"] (defScope (inClass (top 41) 5)) := ⟨rfl, rfl, rfl, by decide +kernel, rfl, by decide +kernel, by decide +kernel⟩
theorem has_r_in (D : DefM K "Reader" "goes_in" "Reader.goes_in" ["self"] (inClass (top 41) 5)) (RD : RdC K) : HasM P w K mg base 1 "Reader" "goes_in" ["self"] (spIn K) := D.has fun f fd F => by
  refine F.ok sc_r_in (fun vs H Q E h => ?_) (fun cdv A outer s H vs Q E hr h => ?_)
  · obtain ⟨r, z, cs, l, rfl, _⟩ := h; rfl
  · obtain ⟨r, z, cs, l, rfl, ⟨i, dx, h1, hi, hd⟩, q⟩ := h
    refine ⟨_, PSs.nox (pss_cons (ps_if (pt_cmpR op_lt (pe_fld (pv 0) rfl) pe_int (nomark _)) pss_never pss_nil) (pss_one (ps_fldaug (pv 0) pe_int in_sub))), ?_⟩
    refine ⟨_, rfl, r, _, dx, _, _, rfl, h1, RD.cls, RD.nl, rfl, _, _, rfl, rfl, _, rfl, cF (k := decide (((l + 1 : Nat) : Int) < 1)) (decide_eq_false (by omega)) ?_⟩
    refine ⟨_, rfl, r, _, dx, _, _, rfl, h1, RD.cls, RD.nl, rfl, _, _, rfl, rfl, dx, _, h1, (by show 3 < 1000; decide), ?_⟩
    refine q _ ⟨i, dx, ?_, hi, hd⟩ (Ki.upd h1)
    rw [upd_same, putL]
    have e : ((l + 1 : Nat) : Int) - 1 = ((l : Nat) : Int) := by omega
    rw [e]
    rfl
theorem sc_r_out : FnScope ["self"] ["self"] (defScope (inClass (top 41) 6)) := ⟨rfl, rfl, rfl, by decide +kernel, rfl, by decide +kernel, by decide +kernel⟩
theorem has_r_out (D : DefM K "Reader" "goes_out" "Reader.goes_out" ["self"] (inClass (top 41) 6)) (RD : RdC K) : HasM P w K mg base 1 "Reader" "goes_out" ["self"] (spOut K) := D.has fun f fd F => by
  refine F.ok sc_r_out (fun vs H Q E h => ?_) (fun cdv A outer s H vs Q E hr h => ?_)
  · obtain ⟨r, z, cs, l, rfl, _⟩ := h; rfl
  · obtain ⟨r, z, cs, l, rfl, ⟨i, dx, h1, hi, hd⟩, q⟩ := h
    refine ⟨_, PSs.nox (pss_one (ps_fldaug (pv 0) pe_int in_add)), ?_⟩
    refine ⟨_, rfl, r, _, dx, _, _, rfl, h1, RD.cls, RD.nl, rfl, _, _, rfl, rfl, dx, _, h1, (by show 3 < 1000; decide), ?_⟩
    refine q _ ⟨i, dx, ?_, hi, hd⟩ (Ki.upd h1)
    rw [upd_same, putL]
    have e : ((l : Nat) : Int) + 1 = ((l + 1 : Nat) : Int) := by omega
    rw [e]
    rfl
end
/-! ### errors that fly on, errors raised in a suite -/
section
variable {X : Cx}
theorem passN : Passes (L2N.CX X.prog X.w) X E0 := fun _ _ _ _ _ _ _ ⟨_, _, _, _, _, _, _, _, _, _, _, _, z⟩ => z.elim
/-- raise X('m') where nothing is handled, its context told -/
theorem ps_raiseXN {x m : Str} {j : Nat} {p p2 pos pos' : Pos} {W : WX} (c : XC X.K X.mg x) (hc : X.calm = true) (tk : L2N.Takes X W) (hg : Gl X x) (hdb : (x == ("__debug__" : Str)) = false := by decide) :
    PS X (.Raise (some (.Call (.Name x p) [.Constant (.str m) j p2] [] pos)) none pos') (fun _ σ H => W (.ref (He.ga X.K x)) none σ H) :=
  L2N.ps_raise hc tk (L2N.pmk_own PySem.F.excBase_ValueError c.ex c.g c.k (raises_own c.b c.t) hg hdb)
/-- X('m'), its six fields told -/
theorem pmk5X {x m : Str} {j : Nat} {p p2 pos : Pos} (c : XC X.K X.mg x) (hg : Gl X x) (hdb : (x == ("__debug__" : Str)) = false := by decide) : L2H.PMk5 X (.Call (.Name x p) [.Constant (.str m) j p2] [] pos) (fun _ G Q => Q (.ref (He.ga X.K x)) none G) := by
  intro ps s0 τ G Q J hq
  have one : PA X [.Constant (.str m) j p2] (tCons (tC (.str m)) tNil) := pa_cons pe_str pa_nil
  have ran := one.run pos ps s0 τ G (fun ws G1 => ws = [V.str m] ∧ G = G1) J ⟨rfl, rfl⟩
  refine wpAny_Call_Name_kw (ld_glob J hg c.g (PySem.W.callWith_K (h₀ := X.base) J.ok.mod.kin c.k (thn ran fun us t1 told => ?_)) hdb)
  obtain ⟨ws, G1, J1, rel, e1, e2⟩ := told
  subst e1 e2
  refine ⟨J1.kIn, ?_⟩
  cases rel with
  | cons ra rb =>
    cases rb
    obtain ⟨w1, w2, w3, w4, w5, w6, w7, w8, w9, w10, w11, w12, w13, w14, w15, w16, w17, oC, oN, oI, oT⟩ := exc_obj J1.kIn c.ex
    exact wpAny_call_exc_subT PySem.F.excBase_ValueError oT oC oN oI (fun g e made => L2H.mk_of5 J1 made (raises_own c.b c.t) hq (J1.hok.gone made.new)) (by show 1 ≤ sizeLine; decide)
end
/-! ### data of any kind: names, variables -/
def tyD : PyData → String
  | .none => "NoneType"
  | .bool _ => "bool"
  | .int _ => "int"
  | .str _ => "str"
  | .list _ => "list"
  | .tuple _ => "tuple"
  | .dict _ => "dict"
theorem ty_lstX {K : PySem.W.Frag} {H : Hp} {a : Addr} {xs : List V} (h : SqL K H a xs) : TyX K H (.ref a) (.type "list") := by
  rcases h with (h | ⟨o, h⟩) | ⟨o, its, n, h, c, _⟩
  · exact .base (.lst h)
  · exact .base (.frz h)
  · exact .kList h c
theorem dp_ty {K : PySem.W.Frag} {H : Hp} {v : V} {t : PyData} (h : Dp K H v t) : TyX K H v (.type (tyD t)) := by
  cases h with
  | non => exact .base .non
  | bl b => exact .base (.bl b)
  | int i => exact .base (.int i)
  | str x => exact .base (.str x)
  | lst h _ => exact ty_lstX h
  | tup h _ => exact ty_tup h
theorem hk_fit {n : Nat} (h : n ≤ 100001) : n < sizeLine := Nat.lt_of_le_of_lt h (by decide)
/-- data with no more than a hundred thousand things in a tuple or list, texts not too long -/
inductive Ord : PyData → Prop
  | non : Ord .none
  | bl (b : Bool) : Ord (.bool b)
  | int (i : Int) : Ord (.int i)
  | str {z : Str} (h : z.length ≤ sizeLine) : Ord (.str z)
  | lst {ts : List PyData} (l : ts.length ≤ 100000) (h : ∀ t, t ∈ ts → Ord t) : Ord (.list ts)
  | tup {ts : List PyData} (l : ts.length ≤ 100000) (h : ∀ t, t ∈ ts → Ord t) : Ord (.tuple ts)
theorem same_own {H H' : Hp} {p : Addr} {o : HO} (k : Same H H') (np : H p = none) : Same H (upd H' p o) := fun b x e => by
  rw [upd_ne (ne_of_none e np)]
  exact k b x e
theorem of_isNm {z : Str} (h : isNm z = true) : Nm z := by
  unfold isNm at h
  exact @of_decide_eq_true _ (_) h
theorem name_use {K : PySem.W.Frag} {H : Hp} {v : V} {t : PyData} {Q : VK} {E : XK} (dp : Dp K H v t) (o : Ord t) (q : ∀ b : Bool, (b = true → ∃ z, t = .str z ∧ Nm z) → Q (.bl b) H) : spIsName K [v] H Q E := by
  cases o with
  | str hz =>
    cases dp
    exact .inl ⟨_, rfl, hz, q _ fun e => ⟨_, rfl, of_isNm e⟩⟩
  | non => exact .inr ⟨_, _, rfl, dp_ty dp, (by decide +kernel), q false fun z => nomatch z⟩
  | bl b => exact .inr ⟨_, _, rfl, dp_ty dp, (by show kitB "bool" "str" = some false; decide +kernel), q false fun z => nomatch z⟩
  | int i => exact .inr ⟨_, _, rfl, dp_ty dp, (by show kitB "int" "str" = some false; decide +kernel), q false fun z => nomatch z⟩
  | lst _ _ => exact .inr ⟨_, _, rfl, dp_ty dp, (by show kitB "list" "str" = some false; decide +kernel), q false fun z => nomatch z⟩
  | tup _ _ => exact .inr ⟨_, _, rfl, dp_ty dp, (by show kitB "tuple" "str" = some false; decide +kernel), q false fun z => nomatch z⟩
theorem strs_of : ∀ ts : List PyData, (∀ t, t ∈ ts → ∃ z, t = .str z ∧ Nm z) → ∃ as : List Str, ts = as.map PyData.str ∧ Names as
  | [], _ => ⟨[], rfl, fun x hx => nomatch hx⟩
  | t :: ts, h => by
    obtain ⟨z, e, nz⟩ := h t (List.mem_cons_self ..)
    obtain ⟨as, e2, n2⟩ := strs_of ts fun x hx => h x (List.mem_cons_of_mem _ hx)
    exact ⟨z :: as, by rw [e, e2]; rfl, fun x hx => by
      rcases List.mem_cons.mp hx with rfl | hx
      · exact nz
      · exact n2 x hx⟩
def VarsD (t : PyData) (ns : List Int) : Prop := ∃ as : List Str, t = tS as ∧ Names as ∧ (as.length : Int) ∈ ns
def spVarsX (K : PySem.W.Frag) : Sp := fun vs H Q _ => ∃ (v : V) (t : PyData) (c : Addr) (ns : List Int), vs = [v, .ref c] ∧ Dp K H v t ∧ Ord t ∧ SqT K H c (ns.map V.int) ∧ ∀ (H' : Hp) (b : Bool), Same H H' → (b = true → VarsD t ns) → Q (.bl b) H'
def spDiffX (K : PySem.W.Frag) : Sp := fun vs H Q _ => ∃ (v : V) (t : PyData) (c : Addr) (ns : List Int), vs = [v, .ref c] ∧ Dp K H v t ∧ Ord t ∧ SqT K H c (ns.map V.int) ∧ (∀ i, i ∈ ns → i ≤ 1000) ∧ ∀ (H' : Hp) (b : Bool), Same H H' → (b = true → ∃ as : List Str, t = tS as ∧ Names as ∧ (as.length : Int) ∈ ns ∧ as.Nodup) → Q (.bl b) H'
def spWholeX (K : PySem.W.Frag) : Sp := fun vs H Q _ => ∃ (v : V) (t : PyData), vs = [v] ∧ Dp K H v t ∧ Ord t ∧ ∀ b : Bool, (b = true → ∃ i, t = .int i) → Q (.bl b) H
def spBetwX (K : PySem.W.Frag) : Sp := fun vs H Q _ => ∃ (v : V) (t : PyData) (lo hi : Int), vs = [v, .int lo, .int hi] ∧ Dp K H v t ∧ Ord t ∧ ∀ b : Bool, (b = true → ∃ i, t = .int i ∧ lo ≤ i ∧ i ≤ hi) → Q (.bl b) H
section
variable {P : Program} {w : World} {K : PySem.W.Frag} {mg : Str → Option Value} {base : Heap}
theorem has_varsX (D : Def K mg "_are_variables" ["value", "counts"] (top 23)) (T : Txt mg) (C1 : Has P w K mg base 1 "is_name" ["text"] (spIsName K)) : Has P w K mg base 2 "_are_variables" ["value", "counts"] (spVarsX K) := D.has fun f fd F => by
  obtain ⟨f1, fd1, G_is_name, g_is_name, k_is_name, b_is_name⟩ := C1
  refine F.ok sc_are_variables (fun vs H Q E h => ?_) (fun cdv A outer s H vs Q E hr h => ?_)
  · obtain ⟨v, as, c, ns, rfl, _⟩ := h; rfl
  · obtain ⟨v, t, c, ns, rfl, dp, o, hc, q⟩ := h
    have R_is_name : Room 1 _ := hr.mono (by decide)
    refine ⟨_, PSs.nox (pss_cons (ps_if (PW.pt (pw_or (pt_not (pt_val (pe_callB call_isi (by rfl) T.n_isinstance (by decide +kernel) (pa_cons (pv 0) (pa_cons (pe_bltn (v := .ty "tuple") (by rfl) T.n_tuple (by decide +kernel) rfl) pa_nil))))) (pw_or1 (pt_cmpR op_notIn_seq (pe_callB call_len_seq (by rfl) T.n_len PySem.boot_len (pa_cons (pv 0) pa_nil)) (pv 1) (by rfl))))) (pss_one (ps_ret pe_bl)) pss_nil) (pss_one (ps_ret (pe_callB (cr_all rfl) (by rfl) T.n_all (by decide +kernel) (pa_cons (pe_lc (own := [("variable", 2)]) rfl sc_are_variables.nd (pi_tup (pv 0)) (blkOk_by (N := ["value", "counts", "variable"]) (sc := defScope (top 23)) (by decide +kernel)) (fun _ _ _ _ _ => (pg_name (i := 2) sc_are_variables.nd rfl (Or.inl rfl))) (fun _ _ _ _ _ => pts_nil) (fun _ _ _ _ _ => (pe_call G_is_name R_is_name (by rfl) g_is_name k_is_name b_is_name .nil pass0 (pa_cons (pv 2) pa_nil)))) pa_nil))))), ?_⟩
    cases o with
    | tup l ho =>
      rename_i ts
      obtain ⟨a, ys, rfl, ht, hy⟩ := Dp.tup_inv dp
      have ly := DpAll.length hy
      refine ⟨_, rfl, _, _, _, _, _, rfl, .ty _, ty_tup ht, kit_ty (b := "tuple") (r := true) (by decide +kernel), _, rfl, iteF ?_⟩
      refine ⟨_, rfl, a, _, rfl, .inr ht, _, rfl, c, _, rfl, .inr hc, rfl, flat_ints ns, _, rfl, ?_⟩
      have el : inV (.int (ys.length : Nat)) (ns.map V.int) = decide ((ts.length : Int) ∈ ns) := by rw [inV_int, ly]
      by_cases hin : (ts.length : Int) ∈ ns
      · refine cF (k := !inV (.int (ys.length : Nat)) (ns.map V.int)) (by rw [el, decide_eq_true hin]; rfl) ?_
        refine ⟨_, rfl, a, rfl, ⟨_, ht⟩, fun L nL => ?_⟩
        refine lc_it (walk_tup (K := K) (a := a) (xs := ys)) (fun i H2 => ∃ bs : List Bool, H2 L = some (.lst (bs.map V.bl)) ∧ bs.length = i ∧ (bs.all id = true → ∀ d, d ∈ ts.take i → ∃ z, d = .str z ∧ Nm z) ∧ Same H H2)
          ⟨[], upd_same, rfl, (fun _ d hd => by simp at hd), same_upd nL⟩ (fun i H2 _ ⟨_, _, _, _, s2⟩ => Same.sqt s2 ht) ?_ ?_
        · rintro i y H2 H3 hi ⟨bs, hL, lb, ab, s2⟩ ⟨rfl, hyi⟩
          obtain ⟨d, hd, dpy⟩ := DpAll.get' hy hyi
          have mem := List.mem_of_getElem? hd
          refine ⟨rfl, _, rfl, ?_⟩
          dsimp only [tNil]
          refine name_use (Dp.same s2 dpy) (ho d mem) fun b hb => ?_
          have il : i < ts.length := (List.getElem?_eq_some_iff.mp hd).1
          refine ⟨bs.map V.bl, hL, hk_fit (by rw [List.length_map]; omega), bs ++ [b], ?_, by rw [List.length_append, lb]; rfl, fun e x hx => ?_, same_own s2 nL⟩
          · rw [upd_same, List.map_append]; rfl
          · rw [List.all_append] at e
            obtain ⟨e1, e2⟩ := Bool.and_eq_true_iff.mp e
            rw [List.take_add_one, hd] at hx
            rcases List.mem_append.mp hx with hx | hx
            · exact ab e1 x hx
            · rw [show x = d by simpa using hx]
              exact hb (by simpa using e2)
        · rintro H2 ⟨bs, hL, lb, ab, s2⟩
          refine ⟨L, bs, rfl, SqL.of hL, q H2 _ s2 fun e => ?_⟩
          rw [show ts.take ys.length = ts from List.take_of_length_le (by omega)] at ab
          obtain ⟨as, e1, n1⟩ := strs_of ts (ab e)
          exact ⟨as, by rw [e1]; rfl, n1, by rw [e1, List.length_map] at hin; exact hin⟩
      · refine cT (k := !inV (.int (ys.length : Nat)) (ns.map V.int)) (by rw [el, decide_eq_false hin]; rfl) (q H false (.refl H) fun z => nomatch z)
    | non => exact ⟨_, rfl, _, _, _, _, _, rfl, .ty _, dp_ty dp, kit_ty (b := "tuple") (r := false) (by decide +kernel), _, rfl, iteT (q H false (.refl H) fun z => nomatch z)⟩
    | bl b => exact ⟨_, rfl, _, _, _, _, _, rfl, .ty _, dp_ty dp, kit_ty (a := "bool") (b := "tuple") (r := false) (by decide +kernel), _, rfl, iteT (q H false (.refl H) fun z => nomatch z)⟩
    | int b => exact ⟨_, rfl, _, _, _, _, _, rfl, .ty _, dp_ty dp, kit_ty (a := "int") (b := "tuple") (r := false) (by decide +kernel), _, rfl, iteT (q H false (.refl H) fun z => nomatch z)⟩
    | str b => exact ⟨_, rfl, _, _, _, _, _, rfl, .ty _, dp_ty dp, kit_ty (a := "str") (b := "tuple") (r := false) (by decide +kernel), _, rfl, iteT (q H false (.refl H) fun z => nomatch z)⟩
    | lst _ _ => exact ⟨_, rfl, _, _, _, _, _, rfl, .ty _, dp_ty dp, kit_ty (a := "list") (b := "tuple") (r := false) (by decide +kernel), _, rfl, iteT (q H false (.refl H) fun z => nomatch z)⟩
theorem has_diffX (D : Def K mg "are_different" ["value", "counts"] (top 24)) (T : Txt mg) (C1 : Has P w K mg base 2 "_are_variables" ["value", "counts"] (spVarsX K)) : Has P w K mg base 3 "are_different" ["value", "counts"] (spDiffX K) := D.has fun f fd F => by
  obtain ⟨f1, fd1, G_are_variables, g_are_variables, k_are_variables, b_are_variables⟩ := C1
  refine F.ok sc_are_different (fun vs H Q E h => ?_) (fun cdv A outer s H vs Q E hr h => ?_)
  · obtain ⟨v, as, c, ns, rfl, _⟩ := h; rfl
  · obtain ⟨v, t, c, ns, rfl, dp, o, hc, sm, q⟩ := h
    have R_are_variables : Room 2 _ := hr.mono (by decide)
    refine ⟨_, PSs.nox (pss_one (ps_ret (pe_and (pe_call G_are_variables R_are_variables (by rfl) g_are_variables k_are_variables b_are_variables .nil pass0 (pa_cons (pv 0) (pa_cons (pv 1) pa_nil))) (pe_one (pe_cmpR op_eq (pe_callB call_lenSK (by rfl) T.n_len PySem.boot_len (pa_cons (pe_callTy (cr_setK rfl) (by rfl) T.n_set (by decide +kernel) (pa_cons (pv 0) pa_nil)) pa_nil)) (pe_callB call_len_seq (by rfl) T.n_len PySem.boot_len (pa_cons (pv 0) pa_nil)) (nomark _)))))), ?_⟩
    refine ⟨_, rfl, _, rfl, v, t, c, ns, rfl, dp, o, hc, fun H1 b s1 hb => ⟨_, rfl, ?_⟩⟩
    cases b with
    | false => exact iteF (q H1 false s1 fun z => nomatch z)
    | true =>
      refine iteT ?_
      obtain ⟨as, rfl, nm, few⟩ := hb rfl
      obtain ⟨t, rfl, ht⟩ := tS_inv (Dp.same s1 dp)
      have l1 : as.length ≤ 1000 := by
        have := sm _ few
        omega
      refine ⟨_, rfl, t, as.map Sum.inr, rfl, .inr (by rw [strs_kV]; exact ht), (by rw [List.length_map]; omega), fun p c2 np hc2 => ?_⟩
      have s2 := s1.trans (same_upd (o := SetK P w p (memK (as.map Sum.inr)) c2) np)
      refine ⟨p, _, _, rfl, upd_same, _, rfl, t, _, rfl, .inr (Same.sqt (same_upd np) ht), rfl, q _ _ s2 fun e => ⟨as, rfl, nm, few, ?_⟩⟩
      have z := hc2.all
      rw [nodup_inr, List.length_map] at z
      have h2 : (c2 : Int) = ((as.map V.str).length : Nat) := V.int.inj (of_decide_eq_true e)
      rw [List.length_map] at h2
      exact z.mp (by omega)
theorem has_wholeX (D : Def K mg "is_whole" ["value"] (top 7)) (T : Txt mg) : Has P w K mg base 1 "is_whole" ["value"] (spWholeX K) := D.has fun f fd F => by
  refine F.ok sc_is_whole (fun vs H Q E h => ?_) (fun cdv A outer s H vs Q E hr h => ?_)
  · obtain ⟨v, t, rfl, _⟩ := h; rfl
  · obtain ⟨v, t, rfl, dp, o, q⟩ := h
    refine ⟨_, PSs.nox (pss_one (ps_ret (pe_and (pe_callB call_isi (by rfl) T.n_isinstance (by decide +kernel) (pa_cons (pv 0) (pa_cons (pe_bltn (v := .ty "int") (by rfl) T.n_int (by decide +kernel) rfl) pa_nil))) (pe_one (pe_not (pe_callB call_isi (by rfl) T.n_isinstance (by decide +kernel) (pa_cons (pv 0) (pa_cons (pe_bltn (v := .ty "bool") (by rfl) T.n_bool (by decide +kernel) rfl) pa_nil)))))))), ?_⟩
    cases o with
    | int i => exact isi_q rfl (dp_ty dp) (m := "int") (b := true) (by decide +kernel) ⟨_, rfl, iteT (isi_q rfl (dp_ty dp) (m := "int") (b := false) (by decide +kernel) ⟨_, rfl, q _ fun _ => ⟨i, rfl⟩⟩)⟩
    | bl b => exact isi_q rfl (dp_ty dp) (m := "bool") (b := true) (by decide +kernel) ⟨_, rfl, iteT (isi_q rfl (dp_ty dp) (m := "bool") (b := true) (by decide +kernel) ⟨_, rfl, q _ fun z => nomatch z⟩)⟩
    | str z => exact isi_q rfl (dp_ty dp) (m := "str") (b := false) (by decide +kernel) ⟨_, rfl, iteF (q _ fun z => nomatch z)⟩
    | non => exact isi_q rfl (dp_ty dp) (m := "NoneType") (b := false) (by decide +kernel) ⟨_, rfl, iteF (q _ fun z => nomatch z)⟩
    | lst _ _ => exact isi_q rfl (dp_ty dp) (m := "list") (b := false) (by decide +kernel) ⟨_, rfl, iteF (q _ fun z => nomatch z)⟩
    | tup _ _ => exact isi_q rfl (dp_ty dp) (m := "tuple") (b := false) (by decide +kernel) ⟨_, rfl, iteF (q _ fun z => nomatch z)⟩
theorem has_betwX (D : Def K mg "is_between" ["value", "low", "high"] (top 8)) (C1 : Has P w K mg base 1 "is_whole" ["value"] (spWholeX K)) : Has P w K mg base 2 "is_between" ["value", "low", "high"] (spBetwX K) := D.has fun f fd F => by
  obtain ⟨f1, fd1, G_is_whole, g_is_whole, k_is_whole, b_is_whole⟩ := C1
  refine F.ok sc_is_between (fun vs H Q E h => ?_) (fun cdv A outer s H vs Q E hr h => ?_)
  · obtain ⟨v, t, lo, hi, rfl, _⟩ := h; rfl
  · obtain ⟨v, t, lo, hi, rfl, dp, o, q⟩ := h
    have R_is_whole : Room 1 _ := hr.mono (by decide)
    refine ⟨_, PSs.nox (pss_one (ps_ret (pe_and (pe_call G_is_whole R_is_whole (by rfl) g_is_whole k_is_whole b_is_whole .nil pass0 (pa_cons (pv 0) pa_nil)) (pe_one (pe_chain op_le op_le (pv 1) (pv 0) (pv 2)))))), ?_⟩
    refine ⟨_, rfl, v, t, rfl, dp, o, fun b hb => ⟨_, rfl, ?_⟩⟩
    cases b with
    | false => exact iteF (q _ fun z => nomatch z)
    | true =>
      obtain ⟨i, rfl⟩ := hb rfl
      obtain rfl := Dp.int_inv dp
      refine iteT ⟨_, rfl, _, rfl, _, _, rfl, rfl, _, rfl, ?_⟩
      by_cases e : lo ≤ i
      · exact cT (decide_eq_true e) ⟨_, rfl, _, _, rfl, rfl, q _ fun z => ⟨i, rfl, e, of_decide_eq_true z⟩⟩
      · exact cF (decide_eq_false e) (q _ fun z => nomatch z)
/-- a test of heads, of any data as long as the head's word says -/
def spTestX (K : PySem.W.Frag) (x : Str) : Sp := fun vs H Q _ => ∃ (v : V) (k : Kd) (ds : List PyData), vs = [v] ∧ Dp K H v (.tuple (.str k.word :: ds)) ∧ ds.length + 1 = k.many ∧ (∀ d, d ∈ ds → Ord d) ∧ k.test = x ∧
  ∀ (H' : Hp) (b : Bool), Same H H' → (b = true → ∃ (h : Hd) (ps : List PyData), ds = h.rest ps ∧ h.kd = k ∧ h.Ok ps.length) → Q (.bl b) H'
theorem len2 {α : Type} {l : List α} (h : l.length = 2) : ∃ a b, l = [a, b] := by
  match l, h with
  | [a, b], _ => exact ⟨a, b, rfl⟩
theorem len3 {α : Type} {l : List α} (h : l.length = 3) : ∃ a b c, l = [a, b, c] := by
  match l, h with
  | [a, b, c], _ => exact ⟨a, b, c, rfl⟩
theorem len4 {α : Type} {l : List α} (h : l.length = 4) : ∃ a b c d, l = [a, b, c, d] := by
  match l, h with
  | [a, b, c, d], _ => exact ⟨a, b, c, d, rfl⟩
theorem tup2 {H : Hp} {v : V} {w : Str} {a b : PyData} (dp : Dp K H v (.tuple [.str w, a, b])) : ∃ t v1 v2, v = .ref t ∧ SqT K H t [.str w, v1, v2] ∧ Dp K H v1 a ∧ Dp K H v2 b := by
  obtain ⟨t, xs, rfl, hT, hx⟩ := Dp.tup_inv dp
  obtain ⟨v0, ws, rfl, h0, hx⟩ := DpAll.cons_inv hx
  obtain ⟨v1, ws, rfl, h1, hx⟩ := DpAll.cons_inv hx
  obtain ⟨v2, ws, rfl, h2, hx⟩ := DpAll.cons_inv hx
  obtain rfl := DpAll.nil_inv hx
  rw [Dp.str_inv h0] at hT
  exact ⟨t, v1, v2, rfl, hT, h1, h2⟩
theorem tup3 {H : Hp} {v : V} {w : Str} {a b c : PyData} (dp : Dp K H v (.tuple [.str w, a, b, c])) : ∃ t v1 v2 v3, v = .ref t ∧ SqT K H t [.str w, v1, v2, v3] ∧ Dp K H v1 a ∧ Dp K H v2 b ∧ Dp K H v3 c := by
  obtain ⟨t, xs, rfl, hT, hx⟩ := Dp.tup_inv dp
  obtain ⟨v0, ws, rfl, h0, hx⟩ := DpAll.cons_inv hx
  obtain ⟨v1, ws, rfl, h1, hx⟩ := DpAll.cons_inv hx
  obtain ⟨v2, ws, rfl, h2, hx⟩ := DpAll.cons_inv hx
  obtain ⟨v3, ws, rfl, h3, hx⟩ := DpAll.cons_inv hx
  obtain rfl := DpAll.nil_inv hx
  rw [Dp.str_inv h0] at hT
  exact ⟨t, v1, v2, v3, rfl, hT, h1, h2, h3⟩
theorem tup4 {H : Hp} {v : V} {w : Str} {a b c d : PyData} (dp : Dp K H v (.tuple [.str w, a, b, c, d])) : ∃ t v1 v2 v3 v4, v = .ref t ∧ SqT K H t [.str w, v1, v2, v3, v4] ∧ Dp K H v1 a ∧ Dp K H v2 b ∧ Dp K H v3 c ∧ Dp K H v4 d := by
  obtain ⟨t, xs, rfl, hT, hx⟩ := Dp.tup_inv dp
  obtain ⟨v0, ws, rfl, h0, hx⟩ := DpAll.cons_inv hx
  obtain ⟨v1, ws, rfl, h1, hx⟩ := DpAll.cons_inv hx
  obtain ⟨v2, ws, rfl, h2, hx⟩ := DpAll.cons_inv hx
  obtain ⟨v3, ws, rfl, h3, hx⟩ := DpAll.cons_inv hx
  obtain ⟨v4, ws, rfl, h4, hx⟩ := DpAll.cons_inv hx
  obtain rfl := DpAll.nil_inv hx
  rw [Dp.str_inv h0] at hT
  exact ⟨t, v1, v2, v3, v4, rfl, hT, h1, h2, h3, h4⟩
theorem own6 : ∀ i, i ∈ ([1, 2, 3, 4, 5, 6] : List Int) → i ≤ 1000 := fun i h => by
  simp only [List.mem_cons, List.not_mem_nil, or_false] at h
  omega
theorem tc4 : ∀ i, i ∈ ([2, 4, 6, 8] : List Int) → i ≤ 1000 := fun i h => by
  simp only [List.mem_cons, List.not_mem_nil, or_false] at h
  omega
theorem counts7 {n : Nat} (h : (n : Int) ∈ ([0, 1, 2, 3, 4, 5, 6] : List Int)) : n ≤ 6 := by
  simp only [List.mem_cons, List.not_mem_nil, or_false] at h
  omega
theorem counts6 {n : Nat} (h : (n : Int) ∈ ([1, 2, 3, 4, 5, 6] : List Int)) : 1 ≤ n ∧ n ≤ 6 := by
  simp only [List.mem_cons, List.not_mem_nil, or_false] at h
  omega
theorem counts4 {n : Nat} (h : (n : Int) ∈ ([2, 4, 6, 8] : List Int)) : n = 2 ∨ n = 4 ∨ n = 6 ∨ n = 8 := by
  simp only [List.mem_cons, List.not_mem_nil, or_false] at h
  omega
theorem has_relX (D : Def K mg "_is_rel" ["value"] (top 25)) (S : Shp K w mg) (C1 : Has P w K mg base 1 "is_name" ["text"] (spIsName K)) (C2 : Has P w K mg base 2 "_are_variables" ["value", "counts"] (spVarsX K)) : Has P w K mg base 4 "_is_rel" ["value"] (spTestX K "_is_rel") := D.has fun f fd F => by
  obtain ⟨f1, fd1, G_is_name, g_is_name, k_is_name, b_is_name⟩ := C1
  obtain ⟨f2, fd2, G_are_variables, g_are_variables, k_are_variables, b_are_variables⟩ := C2
  have c_REL_COUNTS := S.relG
  refine F.ok sc_is_rel (fun vs H Q E h => ?_) (fun cdv A outer s H vs Q E hr h => ?_)
  · obtain ⟨v, k, ds, rfl, _⟩ := h; rfl
  · obtain ⟨v, k, ds, rfl, dp, len, os, tn, q⟩ := h
    have R_is_name : Room 1 _ := hr.mono (by decide)
    have R_are_variables : Room 2 _ := hr.mono (by decide)
    refine ⟨_, PSs.nox (pss_one (ps_ret (pe_and (pe_call G_is_name R_is_name (by rfl) g_is_name k_is_name b_is_name .nil pass0 (pa_cons (pe_ix ix_tup (pv 0) pe_int (fun _ _ => rfl)) pa_nil)) (pe_one (pe_call G_are_variables R_are_variables (by rfl) g_are_variables k_are_variables b_are_variables .nil pass0 (pa_cons (pe_ix ix_tup (pv 0) pe_int (fun _ _ => rfl)) (pa_cons (pe_glob (v := .ref (He.ga K "REL_COUNTS")) (by rfl) c_REL_COUNTS rfl) pa_nil))))))), ?_⟩
    obtain rfl := (kd_tn _).1 tn
    obtain ⟨d1, d2, rfl⟩ := len2 (show ds.length = 2 from Nat.succ.inj len)
    obtain ⟨a, v1, v2, rfl, hT, h1, h2⟩ := tup2 dp
    refine ⟨_, rfl, a, _, _, _, rfl, rfl, hT, atI_nat (j := 1) rfl, ?_⟩
    dsimp only [tNil]
    refine name_use h1 (os _ (List.mem_cons_self ..)) fun b hb => ⟨_, rfl, ?_⟩
    cases b with
    | false => exact iteF (q H _ (.refl H) fun z => nomatch z)
    | true =>
      obtain ⟨n, rfl, nn⟩ := hb rfl
      refine iteT ⟨_, rfl, a, _, _, _, rfl, rfl, hT, atI_nat (j := 2) rfl, v2, d2, _, [0, 1, 2, 3, 4, 5, 6], rfl, h2, os _ (List.mem_cons_of_mem _ (List.mem_cons_self ..)), S.relC _, fun H1 b s1 hb => q H1 b s1 fun e => ?_⟩
      obtain ⟨as, rfl, na, la⟩ := hb e
      exact ⟨.rel n as, [], rfl, rfl, nn, counts7 la, na, rfl⟩
theorem has_comparisonX (D : Def K mg "_is_comparison" ["value"] (top 26)) (C1 : Has P w K mg base 1 "is_name" ["text"] (spIsName K)) : Has P w K mg base 4 "_is_comparison" ["value"] (spTestX K "_is_comparison") := D.has fun f fd F => by
  obtain ⟨f1, fd1, G_is_name, g_is_name, k_is_name, b_is_name⟩ := C1
  refine F.ok sc_is_comparison (fun vs H Q E h => ?_) (fun cdv A outer s H vs Q E hr h => ?_)
  · obtain ⟨v, k, ds, rfl, _⟩ := h; rfl
  · obtain ⟨v, k, ds, rfl, dp, len, os, tn, q⟩ := h
    have R_is_name : Room 1 _ := hr.mono (by decide)
    refine ⟨_, PSs.nox (pss_one (ps_ret (pe_and (pe_call G_is_name R_is_name (by rfl) g_is_name k_is_name b_is_name .nil pass0 (pa_cons (pe_ix ix_tup (pv 0) pe_int (fun _ _ => rfl)) pa_nil)) (pe_one (pe_call G_is_name R_is_name (by rfl) g_is_name k_is_name b_is_name .nil pass0 (pa_cons (pe_ix ix_tup (pv 0) pe_int (fun _ _ => rfl)) pa_nil)))))), ?_⟩
    have kk := (kd_tn _).2.1 tn
    obtain ⟨d1, d2, rfl⟩ := len2 (show ds.length = 2 by rcases kk with rfl | rfl <;> exact Nat.succ.inj len)
    obtain ⟨a, v1, v2, rfl, hT, h1, h2⟩ := tup2 dp
    refine ⟨_, rfl, a, _, _, _, rfl, rfl, hT, atI_nat (j := 1) rfl, ?_⟩
    dsimp only [tNil]
    refine name_use h1 (os _ (List.mem_cons_self ..)) fun b hb => ⟨_, rfl, ?_⟩
    cases b with
    | false => exact iteF (q H _ (.refl H) fun z => nomatch z)
    | true =>
      obtain ⟨n, rfl, nn⟩ := hb rfl
      refine iteT ⟨_, rfl, a, _, _, _, rfl, rfl, hT, atI_nat (j := 2) rfl, ?_⟩
      dsimp only [tNil]
      refine name_use h2 (os _ (List.mem_cons_of_mem _ (List.mem_cons_self ..))) fun b hb => q H b (.refl H) fun e => ?_
      obtain ⟨m, rfl, nm⟩ := hb e
      rcases kk with rfl | rfl
      · exact ⟨.eq n m, [], rfl, rfl, nn, nm, rfl⟩
      · exact ⟨.less n m, [], rfl, rfl, nn, nm, rfl⟩
theorem kd_neg : ∀ k : Kd, k.test = "_is_negation" → k = .no := by intro k; cases k <;> decide +kernel
theorem has_negationX (D : Def K mg "_is_negation" ["_value"] (top 27)) : Has P w K mg base 4 "_is_negation" ["_value"] (spTestX K "_is_negation") := D.has fun f fd F => by
  refine F.ok sc_is_negation (fun vs H Q E h => ?_) (fun cdv A outer s H vs Q E hr h => ?_)
  · obtain ⟨v, k, ds, rfl, _⟩ := h; rfl
  · obtain ⟨v, k, ds, rfl, dp, len, os, tn, q⟩ := h
    refine ⟨_, PSs.nox (pss_one (ps_ret pe_bl)), ?_⟩
    obtain rfl := kd_neg _ tn
    obtain ⟨d, rfl⟩ := List.length_eq_one_iff.mp (show ds.length = 1 from Nat.succ.inj len)
    exact q H true (.refl H) fun _ => ⟨.no, [d], rfl, rfl, rfl⟩
theorem has_joinedX (D : Def K mg "_is_joined" ["value"] (top 28)) (T : Txt mg) (S : Shp K w mg) : Has P w K mg base 4 "_is_joined" ["value"] (spTestX K "_is_joined") := D.has fun f fd F => by
  obtain ⟨t1, c_MOST_JOINED⟩ := S.joined
  refine F.ok sc_is_joined (fun vs H Q E h => ?_) (fun cdv A outer s H vs Q E hr h => ?_)
  · obtain ⟨v, k, ds, rfl, _⟩ := h; rfl
  · obtain ⟨v, k, ds, rfl, dp, len, os, tn, q⟩ := h
    refine ⟨_, PSs.nox (pss_one (ps_ret (pe_and (pe_callB call_isi (by rfl) T.n_isinstance (by decide +kernel) (pa_cons (pe_ix ix_tup (pv 0) pe_int (fun _ _ => rfl)) (pa_cons (pe_bltn (v := .ty "tuple") (by rfl) T.n_tuple (by decide +kernel) rfl) pa_nil))) (pe_one (pe_cmpR op_le (pe_callB call_len_seq (by rfl) T.n_len PySem.boot_len (pa_cons (pe_ix ix_tup (pv 0) pe_int (fun _ _ => rfl)) pa_nil)) (pe_glob (v := .int 40) (by rfl) c_MOST_JOINED ⟨_, rfl⟩) (nomark _)))))), ?_⟩
    have kk := (kd_tn _).2.2.1 tn
    obtain ⟨d, rfl⟩ := List.length_eq_one_iff.mp (show ds.length = 1 by rcases kk with rfl | rfl <;> exact Nat.succ.inj len)
    obtain ⟨a, xs, rfl, hT, hx⟩ := Dp.tup_inv dp
    obtain ⟨v0, ws, rfl, h0, hx⟩ := DpAll.cons_inv hx
    obtain ⟨v1, ws, rfl, h1, hx⟩ := DpAll.cons_inv hx
    obtain rfl := DpAll.nil_inv hx
    rw [Dp.str_inv h0] at hT
    have od := os d (List.mem_cons_self ..)
    cases od with
    | @tup ts l ho =>
      obtain ⟨b, ys, rfl, hb, hy⟩ := Dp.tup_inv h1
      refine ⟨_, rfl, a, _, _, _, rfl, rfl, hT, atI_nat (j := 1) rfl, _, _, _, _, _, rfl, .ty _, ty_tup hb, kit_ty (b := "tuple") (r := true) (by decide +kernel), _, rfl, iteT ?_⟩
      refine ⟨_, rfl, a, _, _, _, rfl, rfl, hT, atI_nat (j := 1) rfl, b, _, rfl, .inr hb, _, _, rfl, rfl, q H _ (.refl H) fun e => ?_⟩
      have l40 : ts.length ≤ 40 := by
        have e2 : ((ys.length : Nat) : Int) ≤ 40 := of_decide_eq_true e
        rw [DpAll.length hy] at e2
        omega
      rcases kk with rfl | rfl
      · exact ⟨.con, ts, rfl, rfl, l40⟩
      · exact ⟨.dis, ts, rfl, rfl, l40⟩
    | non => exact ⟨_, rfl, a, _, _, _, rfl, rfl, hT, atI_nat (j := 1) rfl, _, _, _, _, _, rfl, .ty _, dp_ty h1, kit_ty (b := "tuple") (r := false) (by decide +kernel), _, rfl, iteF (q H _ (.refl H) fun z => nomatch z)⟩
    | bl b => exact ⟨_, rfl, a, _, _, _, rfl, rfl, hT, atI_nat (j := 1) rfl, _, _, _, _, _, rfl, .ty _, dp_ty h1, kit_ty (a := "bool") (b := "tuple") (r := false) (by decide +kernel), _, rfl, iteF (q H _ (.refl H) fun z => nomatch z)⟩
    | int b => exact ⟨_, rfl, a, _, _, _, rfl, rfl, hT, atI_nat (j := 1) rfl, _, _, _, _, _, rfl, .ty _, dp_ty h1, kit_ty (a := "int") (b := "tuple") (r := false) (by decide +kernel), _, rfl, iteF (q H _ (.refl H) fun z => nomatch z)⟩
    | str b => exact ⟨_, rfl, a, _, _, _, rfl, rfl, hT, atI_nat (j := 1) rfl, _, _, _, _, _, rfl, .ty _, dp_ty h1, kit_ty (a := "str") (b := "tuple") (r := false) (by decide +kernel), _, rfl, iteF (q H _ (.refl H) fun z => nomatch z)⟩
    | lst _ _ => exact ⟨_, rfl, a, _, _, _, rfl, rfl, hT, atI_nat (j := 1) rfl, _, _, _, _, _, rfl, .ty _, dp_ty h1, kit_ty (a := "list") (b := "tuple") (r := false) (by decide +kernel), _, rfl, iteF (q H _ (.refl H) fun z => nomatch z)⟩
theorem has_quantX (D : Def K mg "_is_quantified" ["value"] (top 29)) (S : Shp K w mg) (C3 : Has P w K mg base 3 "are_different" ["value", "counts"] (spDiffX K)) : Has P w K mg base 4 "_is_quantified" ["value"] (spTestX K "_is_quantified") := D.has fun f fd F => by
  obtain ⟨f3, fd3, G_are_different, g_are_different, k_are_different, b_are_different⟩ := C3
  have c_OWN_COUNTS := S.ownG
  refine F.ok sc_is_quantified (fun vs H Q E h => ?_) (fun cdv A outer s H vs Q E hr h => ?_)
  · obtain ⟨v, k, ds, rfl, _⟩ := h; rfl
  · obtain ⟨v, k, ds, rfl, dp, len, os, tn, q⟩ := h
    have R_are_different : Room 3 _ := hr.mono (by decide)
    refine ⟨_, PSs.nox (pss_one (ps_ret (pe_call G_are_different R_are_different (by rfl) g_are_different k_are_different b_are_different .nil pass0 (pa_cons (pe_ix ix_tup (pv 0) pe_int (fun _ _ => rfl)) (pa_cons (pe_glob (v := .ref (He.ga K "OWN_COUNTS")) (by rfl) c_OWN_COUNTS rfl) pa_nil))))), ?_⟩
    have kk := (kd_tn _).2.2.2.1 tn
    obtain ⟨d1, d2, rfl⟩ := len2 (show ds.length = 2 by rcases kk with rfl | rfl <;> exact Nat.succ.inj len)
    obtain ⟨a, v1, v2, rfl, hT, h1, h2⟩ := tup2 dp
    refine ⟨_, rfl, a, _, _, _, rfl, rfl, hT, atI_nat (j := 1) rfl, v1, d1, _, [1, 2, 3, 4, 5, 6], rfl, h1, os _ (List.mem_cons_self ..), S.ownC _, own6, fun H1 b s1 hb => q H1 b s1 fun e => ?_⟩
    obtain ⟨us, rfl, nu, lu, du⟩ := hb e
    have two := counts6 lu
    rcases kk with rfl | rfl
    · exact ⟨.ex us, [d2], rfl, rfl, ⟨two.1, two.2, nu, du⟩, rfl⟩
    · exact ⟨.al us, [d2], rfl, rfl, ⟨two.1, two.2, nu, du⟩, rfl⟩
theorem has_fixX (D : Def K mg "_is_fixed_point" ["value"] (top 30)) (T : Txt mg) (S : Shp K w mg) (C1 : Has P w K mg base 1 "is_name" ["text"] (spIsName K)) (C2 : Has P w K mg base 2 "_are_variables" ["value", "counts"] (spVarsX K))
    (C3 : Has P w K mg base 3 "are_different" ["value", "counts"] (spDiffX K)) : Has P w K mg base 4 "_is_fixed_point" ["value"] (spTestX K "_is_fixed_point") := D.has fun f fd F => by
  obtain ⟨f1, fd1, G_is_name, g_is_name, k_is_name, b_is_name⟩ := C1
  obtain ⟨f2, fd2, G_are_variables, g_are_variables, k_are_variables, b_are_variables⟩ := C2
  obtain ⟨f3, fd3, G_are_different, g_are_different, k_are_different, b_are_different⟩ := C3
  have c_OWN_COUNTS := S.ownG
  refine F.ok sc_is_fixed_point (fun vs H Q E h => ?_) (fun cdv A outer s H vs Q E hr h => ?_)
  · obtain ⟨v, k, ds, rfl, _⟩ := h; rfl
  · obtain ⟨v, k, ds, rfl, dp, len, os, tn, q⟩ := h
    have R_is_name : Room 1 _ := hr.mono (by decide)
    have R_are_variables : Room 2 _ := hr.mono (by decide)
    have R_are_different : Room 3 _ := hr.mono (by decide)
    refine ⟨_, PSs.nox (pss_cons (ps_if (PW.pt (pw_or (pt_not (pt_val (pe_call G_is_name R_is_name (by rfl) g_is_name k_is_name b_is_name .nil pass0 (pa_cons (pe_ix ix_tup (pv 0) pe_int (fun _ _ => rfl)) pa_nil)))) (pw_or1 (pt_not (pt_val (pe_call G_are_different R_are_different (by rfl) g_are_different k_are_different b_are_different .nil pass0 (pa_cons (pe_ix ix_tup (pv 0) pe_int (fun _ _ => rfl)) (pa_cons (pe_glob (v := .ref (He.ga K "OWN_COUNTS")) (by rfl) c_OWN_COUNTS rfl) pa_nil)))))))) (pss_one (ps_ret pe_bl)) pss_nil) (pss_one (ps_ret (pe_call G_are_variables R_are_variables (by rfl) g_are_variables k_are_variables b_are_variables .nil pass0 (pa_cons (pe_ix ix_tup (pv 0) pe_int (fun _ _ => rfl)) (pa_cons (pe_tup (pa_cons (pe_callB call_len_seq (by rfl) T.n_len PySem.boot_len (pa_cons (pe_ix ix_tup (pv 0) pe_int (fun _ _ => rfl)) pa_nil)) pa_nil)) pa_nil)))))), ?_⟩
    have kk := (kd_tn _).2.2.2.2.1 tn
    obtain ⟨d1, d2, d3, d4, rfl⟩ := len4 (show ds.length = 4 by rcases kk with rfl | rfl <;> exact Nat.succ.inj len)
    obtain ⟨a, v1, v2, v3, v4, rfl, hT, h1, h2, h3, h4⟩ := tup4 dp
    have o1 := os d1 (by simp)
    have o2 := os d2 (by simp)
    have o4 := os d4 (by simp)
    refine ⟨_, rfl, a, _, _, _, rfl, rfl, hT, atI_nat (j := 1) rfl, ?_⟩
    dsimp only [tNil]
    refine name_use h1 o1 fun b hb => ⟨_, rfl, ?_⟩
    cases b with
    | false => exact cT (k := !false) rfl (q H _ (.refl H) fun z => nomatch z)
    | true =>
      obtain ⟨n, rfl, nn⟩ := hb rfl
      refine cF (k := !true) rfl ⟨_, rfl, a, _, _, _, rfl, rfl, hT, atI_nat (j := 2) rfl, v2, d2, _, [1, 2, 3, 4, 5, 6], rfl, h2, o2, S.ownC _, own6, fun H1 b s1 hb => ⟨_, rfl, ?_⟩⟩
      cases b with
      | false => exact cT (k := !false) rfl (q H1 _ s1 fun z => nomatch z)
      | true =>
        refine cF (k := !true) rfl ?_
        obtain ⟨us, rfl, nu, lu, du⟩ := hb rfl
        have two := counts6 lu
        have hT1 := Same.sqt s1 hT
        obtain ⟨t2, rfl, ht2⟩ := tS_inv (Dp.same s1 h2)
        refine ⟨_, rfl, a, _, _, _, rfl, rfl, hT1, atI_nat (j := 4) rfl, _, rfl, a, _, _, _, rfl, rfl, hT1, atI_nat (j := 2) rfl, t2, _, rfl, .inr ht2, (by show 1 ≤ sizeLine; decide), fun p np => ?_⟩
        refine ⟨v4, d4, p, [((us.map V.str).length : Nat)], rfl, Dp.same (s1.trans (same_upd np)) h4, o4, SqT.of upd_same, fun H2 b s2 hb => q H2 b ((s1.trans (same_upd np)).trans s2) fun e => ?_⟩
        obtain ⟨as, rfl, na, la⟩ := hb e
        have el : as.length = us.length := by
          have := List.mem_singleton.mp la
          rw [List.length_map] at this
          omega
        rcases kk with rfl | rfl
        · exact ⟨.lfp n us as, [d3], rfl, rfl, nn, ⟨two.1, two.2, nu, du⟩, el, na, rfl⟩
        · exact ⟨.pfp n us as, [d3], rfl, rfl, nn, ⟨two.1, two.2, nu, du⟩, el, na, rfl⟩
theorem has_cloX (D : Def K mg "_is_closure" ["value"] (top 31)) (T : Txt mg) (S : Shp K w mg) (C2 : Has P w K mg base 2 "_are_variables" ["value", "counts"] (spVarsX K))
    (C3 : Has P w K mg base 3 "are_different" ["value", "counts"] (spDiffX K)) : Has P w K mg base 4 "_is_closure" ["value"] (spTestX K "_is_closure") := D.has fun f fd F => by
  obtain ⟨f2, fd2, G_are_variables, g_are_variables, k_are_variables, b_are_variables⟩ := C2
  obtain ⟨f3, fd3, G_are_different, g_are_different, k_are_different, b_are_different⟩ := C3
  have c_TC_COUNTS := S.tcG
  refine F.ok sc_is_closure (fun vs H Q E h => ?_) (fun cdv A outer s H vs Q E hr h => ?_)
  · obtain ⟨v, k, ds, rfl, _⟩ := h; rfl
  · obtain ⟨v, k, ds, rfl, dp, len, os, tn, q⟩ := h
    have R_are_variables : Room 2 _ := hr.mono (by decide)
    have R_are_different : Room 3 _ := hr.mono (by decide)
    refine ⟨_, PSs.nox (pss_one (ps_ret (pe_and (pe_call G_are_different R_are_different (by rfl) g_are_different k_are_different b_are_different .nil pass0 (pa_cons (pe_ix ix_tup (pv 0) pe_int (fun _ _ => rfl)) (pa_cons (pe_glob (v := .ref (He.ga K "TC_COUNTS")) (by rfl) c_TC_COUNTS rfl) pa_nil))) (pe_one (pe_call G_are_variables R_are_variables (by rfl) g_are_variables k_are_variables b_are_variables .nil pass0 (pa_cons (pe_ix ix_tup (pv 0) pe_int (fun _ _ => rfl)) (pa_cons (pe_tup (pa_cons (pe_callB call_len_seq (by rfl) T.n_len PySem.boot_len (pa_cons (pe_ix ix_tup (pv 0) pe_int (fun _ _ => rfl)) pa_nil)) pa_nil)) pa_nil))))))), ?_⟩
    obtain rfl := (kd_tn _).2.2.2.2.2.1 tn
    obtain ⟨d1, d2, d3, rfl⟩ := len3 (show ds.length = 3 from Nat.succ.inj len)
    obtain ⟨a, v1, v2, v3, rfl, hT, h1, h2, h3⟩ := tup3 dp
    have o1 := os d1 (by simp)
    have o3 := os d3 (by simp)
    refine ⟨_, rfl, a, _, _, _, rfl, rfl, hT, atI_nat (j := 1) rfl, v1, d1, _, [2, 4, 6, 8], rfl, h1, o1, S.tcC _, tc4, fun H1 b s1 hb => ⟨_, rfl, ?_⟩⟩
    cases b with
    | false => exact iteF (q H1 _ s1 fun z => nomatch z)
    | true =>
      refine iteT ?_
      obtain ⟨us, rfl, nu, lu, du⟩ := hb rfl
      have hT1 := Same.sqt s1 hT
      obtain ⟨t2, rfl, ht2⟩ := tS_inv (Dp.same s1 h1)
      refine ⟨_, rfl, a, _, _, _, rfl, rfl, hT1, atI_nat (j := 3) rfl, _, rfl, a, _, _, _, rfl, rfl, hT1, atI_nat (j := 1) rfl, t2, _, rfl, .inr ht2, (by show 1 ≤ sizeLine; decide), fun p np => ?_⟩
      refine ⟨v3, d3, p, [((us.map V.str).length : Nat)], rfl, Dp.same (s1.trans (same_upd np)) h3, o3, SqT.of upd_same, fun H2 b s2 hb => q H2 b ((s1.trans (same_upd np)).trans s2) fun e => ?_⟩
      obtain ⟨as, rfl, na, la⟩ := hb e
      have el : as.length = us.length := by
        have := List.mem_singleton.mp la
        rw [List.length_map] at this
        omega
      exact ⟨.tc us as, [d2], rfl, rfl, counts4 lu, nu, du, el, na, rfl⟩
theorem has_guessX (D : Def K mg "_is_guess" ["value"] (top 32)) (S : Shp K w mg) (C1 : Has P w K mg base 1 "is_name" ["text"] (spIsName K)) (C2 : Has P w K mg base 2 "is_between" ["value", "low", "high"] (spBetwX K)) : Has P w K mg base 4 "_is_guess" ["value"] (spTestX K "_is_guess") := D.has fun f fd F => by
  obtain ⟨f1, fd1, G_is_name, g_is_name, k_is_name, b_is_name⟩ := C1
  obtain ⟨f2, fd2, G_is_between, g_is_between, k_is_between, b_is_between⟩ := C2
  obtain ⟨t1, c_LARGEST_GUESS⟩ := S.guess
  refine F.ok sc_is_guess (fun vs H Q E h => ?_) (fun cdv A outer s H vs Q E hr h => ?_)
  · obtain ⟨v, k, ds, rfl, _⟩ := h; rfl
  · obtain ⟨v, k, ds, rfl, dp, len, os, tn, q⟩ := h
    have R_is_name : Room 1 _ := hr.mono (by decide)
    have R_is_between : Room 2 _ := hr.mono (by decide)
    refine ⟨_, PSs.nox (pss_one (ps_ret (pe_and (pe_call G_is_name R_is_name (by rfl) g_is_name k_is_name b_is_name .nil pass0 (pa_cons (pe_ix ix_tup (pv 0) pe_int (fun _ _ => rfl)) pa_nil)) (pe_one (pe_call G_is_between R_is_between (by rfl) g_is_between k_is_between b_is_between .nil pass0 (pa_cons (pe_ix ix_tup (pv 0) pe_int (fun _ _ => rfl)) (pa_cons pe_int (pa_cons (pe_glob (v := .int 3) (by rfl) c_LARGEST_GUESS ⟨_, rfl⟩) pa_nil)))))))), ?_⟩
    obtain rfl := (kd_tn _).2.2.2.2.2.2 tn
    obtain ⟨d1, d2, d3, rfl⟩ := len3 (show ds.length = 3 from Nat.succ.inj len)
    obtain ⟨a, v1, v2, v3, rfl, hT, h1, h2, h3⟩ := tup3 dp
    have o1 := os d1 (by simp)
    have o2 := os d2 (by simp)
    refine ⟨_, rfl, a, _, _, _, rfl, rfl, hT, atI_nat (j := 1) rfl, ?_⟩
    dsimp only [tNil]
    refine name_use h1 o1 fun b hb => ⟨_, rfl, ?_⟩
    cases b with
    | false => exact iteF (q H _ (.refl H) fun z => nomatch z)
    | true =>
      obtain ⟨n, rfl, nn⟩ := hb rfl
      refine iteT ⟨_, rfl, a, _, _, _, rfl, rfl, hT, atI_nat (j := 2) rfl, v2, d2, 0, 3, rfl, h2, o2, fun b hb => q H b (.refl H) fun e => ?_⟩
      obtain ⟨i, rfl, i0, i3⟩ := hb e
      obtain ⟨j, rfl⟩ : ∃ j : Nat, i = (j : Int) := ⟨i.toNat, by omega⟩
      exact ⟨.gs n j, [d3], rfl, rfl, nn, by omega, rfl⟩
end
/-! ### data of any kind: is it a formula -/
def spShapeX (K : PySem.W.Frag) : Sp := fun vs H Q _ => ∃ (v : V) (t : PyData), vs = [v] ∧ Dp K H v t ∧ Ord t ∧ (∀ w ds, t = .tuple (.str w :: ds) → w ∈ words12 ++ (["rell"] : List Str)) ∧
  ∀ (H' : Hp) (b : Bool), Same H H' → (b = true → ∃ (h : Hd) (ps : List PyData), t = h.data ps ∧ h.Ok ps.length) → Q (.bl b) H'
theorem word_of {w : Str} (h : w ∈ words12) : ∃ k : Kd, k.word = w := by
  simp only [words12, List.mem_cons, List.not_mem_nil, or_false] at h
  rcases h with rfl | rfl | rfl | rfl | rfl | rfl | rfl | rfl | rfl | rfl | rfl | rfl
  · exact ⟨.rel, rfl⟩
  · exact ⟨.eq, rfl⟩
  · exact ⟨.less, rfl⟩
  · exact ⟨.no, rfl⟩
  · exact ⟨.con, rfl⟩
  · exact ⟨.dis, rfl⟩
  · exact ⟨.ex, rfl⟩
  · exact ⟨.al, rfl⟩
  · exact ⟨.lfp, rfl⟩
  · exact ⟨.pfp, rfl⟩
  · exact ⟨.tc, rfl⟩
  · exact ⟨.gs, rfl⟩
structure TestsX (P : Program) (w : World) (K : PySem.W.Frag) (mg : Str → Option Value) (base : Heap) : Prop where
  at_ : ∀ k : Kd, mg k.test = some (.ref (He.ga K k.test))
  has : ∀ k : Kd, ∃ ps, Has P w K mg base 4 k.test ps (spTestX K k.test)
theorem many_pos : ∀ k : Kd, 2 ≤ k.many := by intro k; cases k <;> decide
section
variable {P : Program} {w : World} {K : PySem.W.Frag} {mg : Str → Option Value} {base : Heap}
theorem has_shapeX (D : Def K mg "is_shape" ["value"] (top 34)) (T : Txt mg) (S : Shp K w mg) (LM : Miss K "LENGTHS" ["rell"]) (C : TestsX P w K mg base) : Has P w K mg base 5 "is_shape" ["value"] (spShapeX K) := by
  have c_LENGTHS := S.lens.g
  have c_TESTS := S.tests.g
  -- what is no tuple whose first thing is one of the words
  refine D.has fun f fd F => F.ok sc_is_shape (fun vs H Q E h => ?_) (fun cdv A outer s H vs Q E hr h => ?_)
  · obtain ⟨v, t, rfl, _⟩ := h; rfl
  · obtain ⟨v, t, rfl, dp, o, hw, q⟩ := h
    -- the kind that its first word has, if it has one
    obtain ⟨k0, hk0⟩ : ∃ k0 : Kd, ∀ w ds, t = .tuple (.str w :: ds) → w ∈ words12 → k0.word = w := by
      by_cases e : ∃ w ds, t = .tuple (.str w :: ds) ∧ w ∈ words12
      · obtain ⟨w, ds, rfl, m⟩ := e
        obtain ⟨k, e⟩ := word_of m
        exact ⟨k, fun w2 ds2 e2 _ => by
          cases e2
          exact e⟩
      · exact ⟨.eq, fun w ds e2 m => absurd ⟨w, ds, e2, m⟩ e⟩
    obtain ⟨ps1, f1, fd1, G1, g1, k1, b1⟩ := C.has k0
    have ef : f1 = He.ga K k0.test := by
      have := g1.symm.trans (C.at_ k0)
      injection this with this
      injection this
    have R1 : Room 4 _ := hr.mono (by decide)
    refine ⟨_, PSs.nox (pss_cons (ps_if (PW.pt (pw_or (pt_not (pt_val (pe_callB call_isi (by rfl) T.n_isinstance (by decide +kernel) (pa_cons (pv 0) (pa_cons (pe_bltn (v := .ty "tuple") (by rfl) T.n_tuple (by decide +kernel) rfl) pa_nil))))) (pw_or (pt_not (pt_truth (pv 0) (by intro _; rfl))) (pw_or1 (pt_not (pt_val (pe_callB call_isi (by rfl) T.n_isinstance (by decide +kernel) (pa_cons (pe_ix ix_tup (pv 0) pe_int (fun _ _ => rfl)) (pa_cons (pe_bltn (v := .ty "str") (by rfl) T.n_str (by decide +kernel) rfl) pa_nil))))))))) (pss_one (ps_ret pe_bl)) pss_nil) (pss_cons (ps_if (pt_cmpR op_ne (pe_kget (pe_glob (v := .ref (He.ga K "LENGTHS")) (by rfl) c_LENGTHS rfl) (pe_ix ix_tup (pv 0) pe_int (fun _ _ => rfl)) ⟨rfl, rfl, rfl, rfl⟩) (pe_callB call_len_seq (by rfl) T.n_len PySem.boot_len (pa_cons (pv 0) pa_nil)) (nomark _)) (pss_one (ps_ret pe_bl)) pss_nil) (pss_cons (ps_set (i := 1) sc_is_shape.nd rfl (Or.inl rfl) (pe_ix ix_kdict (pe_glob (v := .ref (He.ga K "TESTS")) (by rfl) c_TESTS rfl) (pe_ix ix_tup (pv 0) pe_int (fun _ _ => rfl)) (fun _ _ => rfl))) (pss_one (ps_ret (pe_callL (i := 1) G1 R1 rfl (Or.inl rfl) k1 b1 .nil pass0 (pa_cons (pv 0) pa_nil))))))), ?_⟩
    cases o with
    | non => exact ⟨_, rfl, _, _, _, _, _, rfl, .ty _, dp_ty dp, kit_ty (b := "tuple") (r := false) (by decide +kernel), _, rfl, iteT (q H false (.refl H) fun z => nomatch z)⟩
    | bl b => exact ⟨_, rfl, _, _, _, _, _, rfl, .ty _, dp_ty dp, kit_ty (a := "bool") (b := "tuple") (r := false) (by decide +kernel), _, rfl, iteT (q H false (.refl H) fun z => nomatch z)⟩
    | int b => exact ⟨_, rfl, _, _, _, _, _, rfl, .ty _, dp_ty dp, kit_ty (a := "int") (b := "tuple") (r := false) (by decide +kernel), _, rfl, iteT (q H false (.refl H) fun z => nomatch z)⟩
    | str b => exact ⟨_, rfl, _, _, _, _, _, rfl, .ty _, dp_ty dp, kit_ty (a := "str") (b := "tuple") (r := false) (by decide +kernel), _, rfl, iteT (q H false (.refl H) fun z => nomatch z)⟩
    | lst _ _ => exact ⟨_, rfl, _, _, _, _, _, rfl, .ty _, dp_ty dp, kit_ty (a := "list") (b := "tuple") (r := false) (by decide +kernel), _, rfl, iteT (q H false (.refl H) fun z => nomatch z)⟩
    | @tup ts l ho =>
      obtain ⟨a, xs, rfl, hT, hxA⟩ := Dp.tup_inv dp
      refine ⟨_, rfl, _, _, _, _, _, rfl, .ty _, ty_tup hT, kit_ty (b := "tuple") (r := true) (by decide +kernel), _, rfl, iteF ?_⟩
      cases ts with
      | nil =>
        obtain rfl := DpAll.nil_inv hxA
        exact ⟨_, rfl, false, .inr (.inl ⟨_, hT, rfl⟩), iteT (q H false (.refl H) fun z => nomatch z)⟩
      | cons t0 ds =>
        obtain ⟨v0, ws, rfl, h0, hxB⟩ := DpAll.cons_inv hxA
        have lws := DpAll.length hxB
        refine ⟨_, rfl, true, .inr (.inl ⟨_, hT, rfl⟩), iteF ?_⟩
        cases ho t0 (List.mem_cons_self ..) with
        | non => exact ⟨_, rfl, a, _, _, _, rfl, rfl, hT, atI_nat (j := 0) rfl, _, _, _, _, _, rfl, .ty _, dp_ty h0, kit_ty (b := "str") (r := false) (by decide +kernel), _, rfl, iteT (q H false (.refl H) fun z => nomatch z)⟩
        | bl b => exact ⟨_, rfl, a, _, _, _, rfl, rfl, hT, atI_nat (j := 0) rfl, _, _, _, _, _, rfl, .ty _, dp_ty h0, kit_ty (a := "bool") (b := "str") (r := false) (by decide +kernel), _, rfl, iteT (q H false (.refl H) fun z => nomatch z)⟩
        | int b => exact ⟨_, rfl, a, _, _, _, rfl, rfl, hT, atI_nat (j := 0) rfl, _, _, _, _, _, rfl, .ty _, dp_ty h0, kit_ty (a := "int") (b := "str") (r := false) (by decide +kernel), _, rfl, iteT (q H false (.refl H) fun z => nomatch z)⟩
        | lst _ _ => exact ⟨_, rfl, a, _, _, _, rfl, rfl, hT, atI_nat (j := 0) rfl, _, _, _, _, _, rfl, .ty _, dp_ty h0, kit_ty (a := "list") (b := "str") (r := false) (by decide +kernel), _, rfl, iteT (q H false (.refl H) fun z => nomatch z)⟩
        | tup _ _ => exact ⟨_, rfl, a, _, _, _, rfl, rfl, hT, atI_nat (j := 0) rfl, _, _, _, _, _, rfl, .ty _, dp_ty h0, kit_ty (a := "tuple") (b := "str") (r := false) (by decide +kernel), _, rfl, iteT (q H false (.refl H) fun z => nomatch z)⟩
        | @str w hz =>
          obtain rfl := Dp.str_inv h0
          refine ⟨_, rfl, a, _, _, _, rfl, rfl, hT, atI_nat (j := 0) rfl, _, _, _, _, _, rfl, .ty _, .base (.str _), kit_ty (b := "str") (r := true) (by decide +kernel), _, rfl, iteF ?_⟩
          obtain ⟨es, n, DL⟩ := S.lens.d
          rcases List.mem_append.mp (hw w ds rfl) with m | m
          · obtain rfl := hk0 w ds rfl m
            obtain ⟨u, n1, ru⟩ := S.lens.there _ _ (len_mem k0)
            refine ⟨_, es, n, rfl, DL, _, rfl, a, _, _, _, rfl, rfl, hT, atI_nat (j := 0) rfl, _, _, .int (k0.many : Nat), rfl, n1, ru, _, rfl, a, _, rfl, .inr hT, rfl, _, rfl, ?_⟩
            by_cases el : ds.length + 1 = k0.many
            · have e1 : decide (V.int (k0.many : Nat) = V.int (((V.str k0.word :: ws).length : Nat) : Int)) = true := decide_eq_true (by rw [List.length_cons, lws, el])
              refine cF (k := !decide (V.int (k0.many : Nat) = V.int (((V.str k0.word :: ws).length : Nat) : Int))) (by rw [e1]; rfl) ?_
              refine ⟨_, rfl, a, _, _, _, rfl, rfl, hT, atI_nat (j := 0) rfl, _, _, _, rfl, rfl, S.tests.dct (test_mem K k0), ?_⟩
              refine ⟨?_, _, rfl, _, k0, ds, rfl, dp, el, (fun d hd => ho d (List.mem_cons_of_mem _ hd)), rfl, fun H' b s hb => q H' b s fun e => ?_⟩
              · rw [ef]
                rfl
              · obtain ⟨h, ps, rfl, rfl, ok⟩ := hb e
                exact ⟨h, ps, rfl, ok⟩
            · have e1 : decide (V.int (k0.many : Nat) = V.int (((V.str k0.word :: ws).length : Nat) : Int)) = false := decide_eq_false fun z => el (by
                have := V.int.inj z
                rw [List.length_cons, lws] at this
                omega)
              exact cT (k := !decide (V.int (k0.many : Nat) = V.int (((V.str k0.word :: ws).length : Nat) : Int))) (by rw [e1]; rfl) (q H false (.refl H) fun z => nomatch z)
          · obtain rfl := List.mem_singleton.mp m
            refine ⟨_, es, n, rfl, DL, _, rfl, a, _, _, _, rfl, rfl, hT, atI_nat (j := 0) rfl, _, none, .non, rfl, LM _ (List.mem_singleton.mpr rfl), rfl, _, rfl, a, _, rfl, .inr hT, rfl, _, rfl, ?_⟩
            exact cT (k := !decide (V.non = V.int (((V.str ("rell" : Str) :: ws).length : Nat) : Int))) (by rw [decide_eq_false (fun z => nomatch z)]; rfl) (q H false (.refl H) fun z => nomatch z)
/-- data whose heads are words that the tables tell of -/
inductive Raw : PyData → Prop
  | mk {t : PyData} (o : Ord t) (hw : ∀ w ds, t = .tuple (.str w :: ds) → w ∈ words12 ++ (["rell"] : List Str)) (ps : ∀ h ps, t = Hd.data h ps → h.Ok ps.length → ∀ p, p ∈ ps → Raw p) : Raw t
theorem maxN_all {xs : List Nat} {b : Nat} (h : ∀ x, x ∈ xs → x ≤ b) : maxN xs ≤ b := by
  induction xs with
  | nil => exact Nat.zero_le _
  | cons x xs ih =>
    show max x (maxN xs) ≤ b
    have := h x (List.mem_cons_self ..)
    have := ih fun y hy => h y (List.mem_cons_of_mem _ hy)
    omega
def spCSR (K : PySem.W.Frag) (n : Nat) : Sp := fun vs H Q E => ∃ (v : V) (l p : Int) (t : PyData), vs = [v, .int l, .int p] ∧ Dp K H v t ∧ Raw t ∧ (0 ≤ l ∧ l < n) ∧ (∀ (H' : Hp) (f : Fm), Same H H' → t = f.data → f.Ok → (f.dep : Int) ≤ l → (f.cnt : Int) ≤ p → Q (.int (p - f.cnt)) H') ∧
  (∀ (H' : Hp), Same H H' → E (.ref (He.ga K "BadFormula")) none H')
theorem has_check_shapesR (D : Def K mg "_check_shapes" ["value", "levels_left", "parts_left"] (top 55)) (BF : XC K mg "BadFormula") (C1 : Has P w K mg base 5 "is_shape" ["value"] (spShapeX K)) (C2 : Has P w K mg base 1 "inner" ["formula"] (spInner K)) :
    ∀ n : Nat, HasX (L2N.CX P w) P w K mg base (6 + n) "_check_shapes" ["value", "levels_left", "parts_left"] (spCSR K n) := by
  obtain ⟨f1, fd1, G_is_shape, g_is_shape, k_is_shape, b_is_shape⟩ := C1
  obtain ⟨f2, fd2, G_inner, g_inner, k_inner, b_inner⟩ := C2
  intro n
  induction n with
  | zero =>
    refine D.has fun f fd F => F.ok sc_check_shapes (fun vs H Q E h => ?_) (fun cdv A outer s H vs Q E hr h => ?_)
    · obtain ⟨v, l, p, t, rfl, _⟩ := h; rfl
    · obtain ⟨v, l, p, t, rfl, _, _, h0, _⟩ := h
      omega
  | succ n ih =>
    obtain ⟨f3, fd3, G_check_shapes, g_check_shapes, k_check_shapes, b_check_shapes⟩ := ih
    refine D.has fun f fd F => F.ok sc_check_shapes (fun vs H Q E h => ?_) (fun cdv A outer s H vs Q E hr h => ?_)
    · obtain ⟨v, l, p, t, rfl, _⟩ := h; rfl
    · obtain ⟨v, l, p, t, rfl, dp, ⟨o, hw, rps⟩, hl, q, qe⟩ := h
      have R_is_shape : Room 5 _ := hr.mono (Nat.le_trans (by decide) (Nat.le_add_right 6 n))
      have R_inner : Room 1 _ := hr.mono (Nat.le_trans (by decide) (Nat.le_add_right 6 n))
      have R_check_shapes : Room (6 + n) _ := hr
      refine ⟨_, (pss_cons (ps_if (PW.pt (pw_or (pt_cmpR op_lt (pv 1) pe_int (nomark _)) (pw_or1 (pt_cmpR op_lt (pv 2) pe_int (nomark _))))) (pss_one (ps_raiseXN BF rfl (L2N.takes_of rfl rfl rfl rfl) rfl)) pss_nil) (pss_cons (ps_if (pt_not (pt_val (pe_call G_is_shape R_is_shape (by rfl) g_is_shape k_is_shape b_is_shape .nil pass0 (pa_cons (pv 0) pa_nil)))) (pss_one (ps_raiseXN BF rfl (L2N.takes_of rfl rfl rfl rfl) rfl)) pss_nil) (pss_cons (ps_aug (i := 2) sc_check_shapes.nd rfl (Or.inl rfl) pe_int ip_sub) (pss_cons (ps_for (passes_of rfl) rfl (pi_tup (pe_call G_inner R_inner (by rfl) g_inner k_inner b_inner .nil pass0 (pa_cons (pv 0) pa_nil))) (pg_name (i := 3) sc_check_shapes.nd rfl (Or.inl rfl)) (pss_one (ps_set (i := 2) sc_check_shapes.nd rfl (Or.inl rfl) (pe_call G_check_shapes R_check_shapes (by rfl) g_check_shapes k_check_shapes b_check_shapes .nil (L2N.passes_call (L2N.takes_of rfl rfl rfl rfl) (fun _ _ _ _ h => h)) (pa_cons (pv 3) (pa_cons (pe_op op_sub (pv 1) pe_int) (pa_cons (pv 2) pa_nil))))))) (pss_one (ps_ret (pv 2))))))), ?_⟩
      refine ⟨_, rfl, _, _, rfl, rfl, _, rfl, ?_⟩
      by_cases l1 : l < 1
      · exact cT (k := decide (l < 1)) (decide_eq_true l1) (cT (k := true) rfl (qe H (.refl H)))
      refine cF (k := decide (l < 1)) (decide_eq_false l1) ⟨_, rfl, _, _, rfl, rfl, _, rfl, ?_⟩
      by_cases p1 : p < 1
      · exact cT (k := decide (p < 1)) (decide_eq_true p1) (qe H (.refl H))
      refine cF (k := decide (p < 1)) (decide_eq_false p1) ?_
      refine ⟨_, rfl, v, t, rfl, dp, o, hw, fun H1 b s1 hb => ⟨_, rfl, ?_⟩⟩
      cases b with
      | false => exact iteT (qe H1 s1)
      | true =>
        refine iteF ?_
        obtain ⟨h, ps, rfl, fit⟩ := hb rfl
        refine ⟨_, rfl, _, _, rfl, rfl, ?_⟩
        refine ⟨_, rfl, v, h, _, rfl, Dp.same s1 dp, fit.fits, fun H2 r s2 hr2 => ?_⟩
        obtain ⟨b, ys, rfl, hb, hy⟩ := Dp.tup_inv hr2
        refine ⟨b, rfl, ⟨_, hb⟩, for_tup (K := K) (a := b) (xs := ys) (fun i σ H3 => ∃ (y3 : Option V) (fs : List Fm), σ = [some v, some (.int l), some (.int (p - 1 - (sumN (fs.map Fm.cnt) : Nat))), y3] ∧ Same H2 H3 ∧ ((sumN (fs.map Fm.cnt) : Nat) : Int) ≤ p - 1 ∧ fs.map Fm.data = ps.take i ∧ ∀ f, f ∈ fs → f.Ok ∧ (f.dep : Int) ≤ l - 1)
          ⟨none, [], by show _ = [some v, some (.int l), some (.int (p - 1 - ((0 : Nat) : Int))), none]; rw [show (p - 1 - ((0 : Nat) : Int)) = p - 1 by omega]; rfl, .refl _, by show ((0 : Nat) : Int) ≤ p - 1; omega, rfl, fun f hf => nomatch hf⟩ (fun i σ H3 _ ⟨_, _, _, s3, _⟩ => Same.sqt s3 hb) ?_ ?_⟩
        · rintro i y σ H3 hi ⟨y3, fs, rfl, s3, le3, ef, of⟩
          obtain ⟨d, hd, dpy⟩ := DpAll.get' hy hi
          have mem := List.mem_of_getElem? hd
          refine ⟨_, rfl, _, rfl, _, _, rfl, rfl, _, rfl, y, l - 1, _, d, rfl, Dp.same s3 dpy, rps h ps rfl fit d mem, by omega, fun H4 g s4 eg og dg cg => ?_, fun H4 s4 => qe H4 (((s1.trans s2).trans s3).trans s4)⟩
          have es : sumN ((fs ++ [g]).map Fm.cnt) = sumN (fs.map Fm.cnt) + g.cnt := by
            rw [List.map_append]
            exact sumN_append _ _
          refine ⟨some y, fs ++ [g], ?_, s3.trans s4, by rw [es]; omega, ?_, fun f hf => ?_⟩
          · rw [es]
            have e5 : p - 1 - ((sumN (fs.map Fm.cnt) : Nat) : Int) - (g.cnt : Int) = p - 1 - ((sumN (fs.map Fm.cnt) + g.cnt : Nat) : Int) := by omega
            rw [e5]
            rfl
          · rw [List.map_append, ef, List.take_add_one, hd, eg]; rfl
          · rcases List.mem_append.mp hf with hf | hf
            · exact of f hf
            · rw [List.mem_singleton.mp hf]; exact ⟨og, dg⟩
        · rintro σ H3 ⟨y3, fs, rfl, s3, le3, ef, of⟩
          have ey : ys.length = ps.length := DpAll.length hy
          rw [List.take_of_length_le (by omega)] at ef
          have lf : fs.length = ps.length := by rw [← ef, List.length_map]
          refine ⟨_, rfl, ?_⟩
          have hc1 : (Fm.mk h fs).cnt = 1 + sumN (fs.map Fm.cnt) := Fm.cnt_mk h fs
          have hd1 : (Fm.mk h fs).dep = 1 + maxN (fs.map Fm.dep) := Fm.dep_mk h fs
          have md : maxN (fs.map Fm.dep) ≤ (l - 1).toNat := maxN_all fun x hx => by
            obtain ⟨f, hf, rfl⟩ := List.mem_map.mp hx
            have := (of f hf).2
            omega
          have e6 : p - 1 - ((sumN (fs.map Fm.cnt) : Nat) : Int) = p - (((Fm.mk h fs).cnt : Nat) : Int) := by rw [hc1]; omega
          show Q (.int (p - 1 - ((sumN (fs.map Fm.cnt) : Nat) : Int))) H3
          rw [e6]
          exact q H3 (.mk h fs) ((s1.trans s2).trans s3) (by rw [Fm.data_mk, ef]) (.mk (by rw [lf]; exact fit) fun f hf => (of f hf).1) (by rw [hd1]; omega) (by rw [hc1]; omega)
end
/-! ### data of any kind: names with two numbers of arguments, fixed points that are not positive -/
/-- the same name has the same number everywhere in it -/
def Fm.Con (f : Fm) : Prop := ∀ Γ : ArE, (∀ q, q ∈ f.syms → Γ q.1 = some q.2) → f.Typed Γ
theorem con_mk {h : Hd} {ps : List Fm} (nr : h.kd ≠ .rel) (cs : ∀ g, g ∈ ps → g.Con) (b : ∀ n k, h.bound = some (n, k) → ∀ g, g ∈ ps → ∀ q, q ∈ g.syms → q.1 = n → q.2 = k) : (Fm.mk h ps).Con := fun Γ hΓ => by
  refine .other nr fun g hg => cs g hg _ fun q hq => ?_
  unfold Hd.env
  cases hb : h.bound with
  | none => exact hΓ q ((Fm.syms_mem nr).mpr ⟨(by unfold Hd.bname; rw [hb]; exact fun z => nomatch z), g, hg, hq⟩)
  | some z =>
    obtain ⟨n, k⟩ := z
    show (if q.1 = n then some k else Γ q.1) = some q.2
    by_cases e : q.1 = n
    · rw [if_pos e, b n k hb g hg q hq e]
    · rw [if_neg e]
      refine hΓ q ((Fm.syms_mem nr).mpr ⟨?_, g, hg, hq⟩)
      unfold Hd.bname
      rw [hb]
      exact fun z => e (Option.some.inj z).symm
def spArR (K : PySem.W.Frag) (n : Nat) : Sp := fun vs H Q E => ∃ (v : V) (f : Fm), vs = [v] ∧ Dp K H v f.data ∧ f.Ok ∧ f.dep ≤ n ∧ f.cnt ≤ 2000 ∧
  (∀ (H' : Hp) (d : Addr) (l : List (Str × Nat)), Same H H' → H d = none → H' d = some (.dK (l.map enc)) → DictOf l f.syms → f.Con → Q (.ref d) H') ∧ (∀ (H' : Hp), Same H H' → E (.ref (He.ga K "BadFormula")) none H')
section
variable {P : Program} {w : World} {K : PySem.W.Frag} {mg : Str → Option Value} {base : Heap}
theorem has_aritiesR (D : Def K mg "arities_in" ["formula"] (top 56)) (T : Txt mg) (BF : XC K mg "BadFormula") (C1 : Has P w K mg base 1 "bound_name" ["formula"] (spBName K)) (C2 : Has P w K mg base 1 "inner" ["formula"] (spInner K)) (C3 : Has P w K mg base 1 "bound_arity" ["formula"] (spBArity K)) :
    ∀ n : Nat, HasX (L2N.CX P w) P w K mg base (2 + n) "arities_in" ["formula"] (spArR K n) := by
  obtain ⟨f1, fd1, G_bound_name, g_bound_name, k_bound_name, b_bound_name⟩ := C1
  obtain ⟨f2, fd2, G_inner, g_inner, k_inner, b_inner⟩ := C2
  obtain ⟨f4, fd4, G_bound_arity, g_bound_arity, k_bound_arity, b_bound_arity⟩ := C3
  intro n
  induction n with
  | zero =>
    refine D.has fun f fd F => F.ok sc_arities (fun vs H Q E h => ?_) (fun cdv A outer s H vs Q E hr h => ?_)
    · obtain ⟨v, f, rfl, _⟩ := h; rfl
    · obtain ⟨v, f, rfl, _, _, h0, _⟩ := h
      have := dep_pos f
      omega
  | succ n ih =>
    obtain ⟨f3, fd3, G_arities_in, g_arities_in, k_arities_in, b_arities_in⟩ := ih
    refine D.has fun f fd F => F.ok sc_arities (fun vs H Q E h => ?_) (fun cdv A outer s H vs Q E hr h => ?_)
    · obtain ⟨v, f, rfl, _⟩ := h; rfl
    · obtain ⟨v, f, rfl, dp, ok, hn, hc, q, qe⟩ := h
      have R_bound_name : Room 1 _ := hr.mono (Nat.le_trans (by decide) (Nat.le_add_right 2 n))
      have R_bound_arity : Room 1 _ := hr.mono (Nat.le_trans (by decide) (Nat.le_add_right 2 n))
      have R_inner : Room 1 _ := hr.mono (Nat.le_trans (by decide) (Nat.le_add_right 2 n))
      have R_arities_in : Room (2 + n) _ := hr
      refine ⟨_, (pss_cons (ps_if (pt_cmpR op_eq (pe_ix ix_tup (pv 0) pe_int (fun _ _ => rfl)) pe_str (nomark _)) (pss_one (ps_ret (pe_disp (pps_cons (pe_ix ix_tup (pv 0) pe_int (fun _ _ => rfl)) (pe_callB call_len_seq (by rfl) T.n_len PySem.boot_len (pa_cons (pe_ix ix_tup (pv 0) pe_int (fun _ _ => rfl)) pa_nil)) pps_nil) (by rfl) (by rfl) (fun z => by cases z) (by decide)))) pss_nil) (pss_cons (ps_set (i := 1) sc_arities.nd rfl (Or.inl rfl) pe_dnewK) (pss_cons (ps_for (passes_of rfl) rfl (pi_tup (pe_call G_inner R_inner (by rfl) g_inner k_inner b_inner .nil pass0 (pa_cons (pv 0) pa_nil))) (pg_name (i := 2) sc_arities.nd rfl (Or.inl rfl)) (pss_cons (ps_set (i := 3) sc_arities.nd rfl (Or.inl rfl) (pe_call G_arities_in R_arities_in (by rfl) g_arities_in k_arities_in b_arities_in .nil (L2N.passes_call (L2N.takes_of rfl rfl rfl rfl) (fun _ _ _ _ h => h)) (pa_cons (pv 2) pa_nil))) (pss_one (ps_lock (ps_for (passes_of rfl) rfl (pi_keys (pv 3)) (pg_name (i := 4) sc_arities.nd rfl (Or.inl rfl)) (pss_one (ps_if (pt_cmpR op_ne (pe_dsetd (pv 1) (pv 4) (pe_dget (hu_of hr) (pv 3) (pv 4) (fun _ _ => rfl)) ⟨rfl, rfl, rfl, rfl⟩) (pe_dget (hu_of hr) (pv 3) (pv 4) (fun _ _ => rfl)) (nomark _)) (pss_one (ps_raiseXN BF rfl (L2N.takes_of rfl rfl rfl rfl) rfl)) pss_nil))))))) (pss_cons (ps_set (i := 5) sc_arities.nd rfl (Or.inl rfl) (pe_call G_bound_name R_bound_name (by rfl) g_bound_name k_bound_name b_bound_name .nil pass0 (pa_cons (pv 0) pa_nil))) (pss_cons (ps_if (pt_cmp (pc_dinN (hu_of hr) (pv 5) (pv 1))) (pss_one (ps_if (pt_cmpR op_ne (pe_dpop1 (pv 1) (pv 5) ⟨rfl, rfl, rfl, rfl⟩) (pe_call G_bound_arity R_bound_arity (by rfl) g_bound_arity k_bound_arity b_bound_arity .nil pass0 (pa_cons (pv 0) pa_nil)) (nomark _)) (pss_one (ps_raiseXN BF rfl (L2N.takes_of rfl rfl rfl rfl) rfl)) pss_nil)) pss_nil) (pss_one (ps_ret (pv 1)))))))), ?_⟩
      obtain ⟨h, ps⟩ := f
      rw [Fm.data_mk] at dp
      have fit : h.Ok (ps.map Fm.data).length := by rw [List.length_map]; exact ok.hd_
      obtain ⟨a, xs, rfl, hT, hx⟩ := hd_inv dp
      refine ⟨_, rfl, a, _, _, _, rfl, rfl, hT, atI_nat (j := 0) rfl, rfl, _, rfl, ?_⟩
      by_cases kr : h.kd = .rel
      · refine cT (k := decide (V.str h.word = V.str "rel")) (by rw [kw_rel, decide_eq_true kr]) ?_
        cases h with
        | rel m as =>
          obtain ⟨v1, ws1, rfl, h1, hx⟩ := DpAll.cons_inv hx
          obtain ⟨v2, ws2, rfl, h2, _⟩ := DpAll.cons_inv hx
          rw [Dp.str_inv h1] at hT
          obtain ⟨t2, rfl, ht2⟩ := tS_inv h2
          intro p np
          have sp := same_upd (o := .dK []) np
          refine ⟨_, rfl, a, _, _, _, rfl, rfl, Same.sqt sp hT, atI_nat (j := 1) rfl, _, rfl, a, _, _, _, rfl, rfl, Same.sqt sp hT, atI_nat (j := 2) rfl, t2, _, rfl, .inr (Same.sqt sp ht2), upd_same, [enc (m, (as.map V.str).length)], rfl, (by show 1 ≤ 15; decide), ?_⟩
          refine q _ p [(m, as.length)] (fun b o eb => ?_) np ?_ ?_ ?_
          · rw [upd_ne (ne_of_none eb np)]
            exact sp _ _ eb
          · rw [upd_same, List.length_map]
            rfl
          · rw [Fm.syms_rel]
            exact ⟨by simp, fun _ => Iff.rfl⟩
          · exact fun Γ hΓ => .rel (hΓ (m, as.length) (by rw [Fm.syms_rel]; exact List.mem_singleton.mpr rfl))
        | _ => cases kr
      · refine cF (k := decide (V.str h.word = V.str "rel")) (by rw [kw_rel, decide_eq_false kr]) ?_
        -- found = {}
        intro d nd
        have s0 := same_upd (o := .dK []) nd
        have hd0 : (upd H d (.dK [])) d = some (.dK (([] : List (Str × Nat)).map enc)) := upd_same
        revert s0 hd0
        generalize upd H d (.dK []) = H0
        intro s0 hd0
        refine ⟨_, rfl, _, h, _, rfl, Dp.same s0 dp, fit.fits, fun H2 r s2 hr2 => ?_⟩
        obtain ⟨b, ys, rfl, hb2, hy⟩ := Dp.tup_inv hr2
        have s02 := s0.trans s2
        have ndb : ∀ {x : Addr} {o : HO}, H x = some o → x ≠ d := fun e z => by rw [z, nd] at e; cases e
        have n2 : NotSeq H2 d := ⟨_, s2 _ _ hd0⟩
        have same3 : ∀ {H3 : Hp}, Kp d H2 H3 → Same H H3 := fun k c o e => k c o (s02 c o e) (ndb e)
        have lenE : ∀ {l : List (Str × Nat)} {i : Nat}, DictOf l ((ps.take i).map Fm.syms).flatten → l.length ≤ 2000 := fun {l i} dd => by
          have e1 := dd.len
          have e2 : ((ps.take i).map Fm.syms).flatten.length ≤ (ps.map Fm.syms).flatten.length := by
            have z : (ps.map Fm.syms).flatten = ((ps.take i).map Fm.syms).flatten ++ ((ps.drop i).map Fm.syms).flatten := by rw [← List.flatten_append, ← List.map_append, List.take_append_drop]
            rw [z, List.length_append]
            omega
          have e3 := sum_lens ps fun p _ => syms_cnt p
          rw [Fm.cnt_mk] at hc
          omega
        refine ⟨b, rfl, ⟨_, hb2⟩, for_tup (K := K) (a := b) (xs := ys) (fun i σ H3 => ∃ (y2 y3 y4 : Option V) (l : List (Str × Nat)), σ = [some (.ref a), some (.ref d), y2, y3, y4, none] ∧ Kp d H2 H3 ∧ H3 d = some (.dK (List.map enc l)) ∧ DictOf l ((ps.take i).map Fm.syms).flatten ∧ ∀ g, g ∈ ps.take i → g.Con)
          ⟨none, none, none, [], rfl, .refl _ _, s2 _ _ hd0, ⟨List.nodup_nil, fun p => by simp⟩, fun g hg => by simp at hg⟩ (fun i σ H3 _ ⟨_, _, _, _, _, k3, _⟩ => k3.sqt' n2 hb2) ?_ ?_⟩
        · rintro i y σ H3 hi ⟨y2, y3, y4, l, rfl, k3, hd3, dl, cl⟩
          obtain ⟨dd, hdd, dpy⟩ := DpAll.get' hy hi
          obtain ⟨g, hg, rfl⟩ := get_map hdd
          have mem := List.mem_of_getElem? hg
          have dep1 : g.dep < (Fm.mk h ps).dep := dep_part mem
          have cnt1 : g.cnt ≤ 2000 := by
            have := le_sumN (List.mem_map_of_mem (f := Fm.cnt) mem)
            rw [Fm.cnt_mk] at hc
            omega
          refine ⟨_, rfl, y, g, rfl, Dp.kpD k3 n2 dpy, ok.part mem, by omega, cnt1, fun H4 e l2 s4 ne he d2 cg => ?_, fun H4 s4 => qe H4 ((same3 k3).trans s4)⟩
          have ned : e ≠ d := fun z => by rw [z, hd3] at ne; cases ne
          have l2len : l2.length ≤ 2000 := by
            have := d2.len
            have := syms_cnt g
            omega
          refine ⟨e, .dK (l2.map enc), he, trivial, fun od => ?_⟩
          refine ⟨_, rfl, e, od, rfl, .inl ⟨_, upd_same, for_it walk_keys (fun j σ H5 => ∃ (y4 : Option V) (l' : List (Str × Nat)), σ = [some (.ref a), some (.ref d), some y, some (.ref e), y4, none] ∧ H5 e = some (.frz od (.dK (l2.map enc))) ∧ (∀ c o, H4 c = some o → c ≠ d → c ≠ e → H5 c = some o) ∧
            H5 d = some (.dK (l'.map enc)) ∧ DictOf l' (((ps.take i).map Fm.syms).flatten ++ l2.take j))
            ⟨y4, l, rfl, upd_same, fun c o ec nc ne2 => by rw [upd_ne ne2]; exact ec, by rw [upd_ne ned.symm]; exact s4 _ _ hd3, by rw [List.take_zero, List.append_nil]; exact dl⟩ (fun j σ H5 _ ⟨_, _, _, q1, _⟩ => q1) ?_ ?_⟩⟩
          · rintro j x σ H5 H6 hj ⟨y4, l', rfl, he5, k5, hd5, dl'⟩ ⟨rfl, kk, vv, hkv, rfl⟩
            obtain ⟨p, hp, ep⟩ := get_map hkv
            have ek : kk = Sum.inr p.1 := congrArg Prod.fst ep
            subst ek
            have pm := List.mem_of_getElem? hp
            have vp : valV (l2.map enc) (Sum.inr p.1) = some (.int (p.2 : Nat)) := val_of d2.nd pm
            have s05 : Same H H6 := fun c o ec => by
              have e3 := same3 k3 c o ec
              exact k5 c o (s4 _ _ e3) (ndb ec) (ne_of_none e3 ne)
            have tk : l2.take (j + 1) = l2.take j ++ [p] := by rw [List.take_add_one, hp]; rfl
            have lens : l'.length < sizeLine := by
              have e1 := dl'.len
              rw [List.length_append] at e1
              have e2 : ((ps.take i).map Fm.syms).flatten.length ≤ 2000 := by
                have z : (ps.map Fm.syms).flatten = ((ps.take i).map Fm.syms).flatten ++ ((ps.drop i).map Fm.syms).flatten := by rw [← List.flatten_append, ← List.map_append, List.take_append_drop]
                have e3 := sum_lens ps fun p _ => syms_cnt p
                rw [Fm.cnt_mk] at hc
                rw [z, List.length_append] at e3
                omega
              have e4 := List.length_take_le j l2
              exact Nat.lt_of_le_of_lt (show l'.length ≤ 4000 by have := List.length_take_le' j l2; omega) (by decide)
            have get2 : ∀ H7 : Hp, H7 e = some (.frz od (.dK (l2.map enc))) → DGet H7 e (.str p.1) (some (.int (p.2 : Nat))) := fun H7 e7 => .inl ⟨_, Sum.inr p.1, .inr ⟨od, e7⟩, rfl, vp.symm⟩
            refine ⟨_, rfl, d, rfl, .inl ⟨_, Rd.of hd5⟩, _, rfl, _, rfl, _, rfl, e, _, rfl, get2 _ he5, _, Sum.inr p.1, hd5, rfl, by rw [List.length_map]; exact lens, fun v hv => ?_, fun hv => ?_⟩
            · obtain ⟨a2, ha2, rfl⟩ := val_enc hv
              refine ⟨_, rfl, _, rfl, e, _, rfl, get2 _ he5, rfl, _, rfl, ?_⟩
              by_cases e22 : a2 = p.2
              case neg => exact cT (k := !decide (V.int (a2 : Nat) = V.int (p.2 : Nat))) (nd_t fun z => e22 (by have := V.int.inj z; omega)) (qe _ s05)
              refine cF (k := !decide (V.int (a2 : Nat) = V.int (p.2 : Nat))) (by rw [e22, decide_eq_true rfl]; rfl) ?_
              refine ⟨_, l', rfl, he5, k5, hd5, ?_⟩
              rw [tk, ← List.append_assoc]
              rw [e22] at ha2
              exact dl'.keep ha2
            · have hn2 := val_enc_none.mp hv
              rw [putK_new _ hv]
              have e23 : (l'.map enc) ++ [((Sum.inr p.1 : Key), V.int (p.2 : Nat))] = (l' ++ [p]).map enc := by rw [List.map_append]; rfl
              rw [e23]
              have he6 : (upd H6 d (.dK ((l' ++ [p]).map enc))) e = some (.frz od (.dK (l2.map enc))) := by rw [upd_ne ned]; exact he5
              refine ⟨_, rfl, _, rfl, e, _, rfl, get2 _ he6, rfl, _, rfl, ?_⟩
              refine cF (k := !decide (V.int (p.2 : Nat) = V.int (p.2 : Nat))) (by rw [decide_eq_true rfl]; rfl) ?_
              refine ⟨_, l' ++ [p], rfl, he6, fun c o ec nc ne2 => by rw [upd_ne nc]; exact k5 c o ec nc ne2, upd_same, ?_⟩
              rw [tk, ← List.append_assoc]
              exact dl'.add hn2
          · rintro σ H5 ⟨y4, l', rfl, he5, k5, hd5, dl'⟩
            refine ⟨he5, _, _, _, l', rfl, fun c o ec nc => ?_, ?_, ?_, fun g2 hg2 => ?_⟩
            · have e3 := k3 c o ec nc
              have nce : c ≠ e := ne_of_none e3 ne
              rw [upd_ne nce]
              exact k5 c o (s4 _ _ e3) nc nce
            · rw [upd_ne ned.symm]
              exact hd5
            · have tl : l2.take (l2.map enc).length = l2 := List.take_of_length_le (by rw [List.length_map]; exact Nat.le_refl _)
              rw [tl] at dl'
              rw [take_flat hg]
              exact dl'.as fun p => by rw [List.mem_append, List.mem_append, d2.mem]
            · rw [List.take_add_one, hg] at hg2
              rcases List.mem_append.mp hg2 with hg2 | hg2
              · exact cl g2 hg2
              · rw [show g2 = g by simpa using hg2]; exact cg
        · rintro σ H3 ⟨y2, y3, y4, l, rfl, k3, hd3, dl, cl⟩
          have ey : ys.length = ps.length := by rw [DpAll.length hy, List.length_map]
          rw [List.take_of_length_le (show ps.length ≤ ys.length by omega)] at dl cl
          have s3 := same3 k3
          refine ⟨_, rfl, _, h, _, rfl, Dp.same s3 dp, fit.fits, fun H6 r1 s6 er => ?_⟩
          have er : r1 = match h.bound with | some (n, _) => V.str n | none => .non := er
          have hd6 := s6 _ _ hd3
          have s36 := s3.trans s6
          have fin : h.bname = none → Q (.ref d) H6 := fun hb => q H6 d l s36 nd hd6 (dl.as fun p => by
            rw [Fm.syms_mem kr, hb]
            constructor
            · intro z
              obtain ⟨lz, hlz, hz⟩ := List.mem_flatten.mp z
              obtain ⟨g2, hg2, rfl⟩ := List.mem_map.mp hlz
              exact ⟨(fun z => nomatch z), g2, hg2, hz⟩
            · rintro ⟨_, g2, hg2, hz⟩
              exact List.mem_flatten.mpr ⟨_, List.mem_map.mpr ⟨g2, hg2, rfl⟩, hz⟩) (con_mk kr cl fun n k e => by unfold Hd.bname at hb; rw [e] at hb; cases hb)
          have inL : ∀ g2, g2 ∈ ps → ∀ p, p ∈ g2.syms → p ∈ l := fun g2 hg2 p hz => (dl.mem p).mpr (List.mem_flatten.mpr ⟨_, List.mem_map.mpr ⟨g2, hg2, rfl⟩, hz⟩)
          cases hbd : h.bound with
          | none =>
            rw [hbd] at er
            subst er
            refine ⟨_, rfl, _, rfl, .inr ⟨d, _, rfl, rfl, Rd.of hd6, _, rfl, iteF ?_⟩⟩
            exact ⟨_, rfl, fin (by unfold Hd.bname; rw [hbd]; rfl)⟩
          | some z =>
            obtain ⟨n0, k0⟩ := z
            rw [hbd] at er
            have hbn : h.bname = some n0 := by unfold Hd.bname; rw [hbd]; rfl
            subst er
            refine ⟨_, rfl, _, rfl, .inl ⟨d, _, rfl, DGet.k (k := Sum.inr n0) hd6, _, rfl, ?_⟩⟩
            cases hv : valV (l.map enc) (Sum.inr n0) with
            | none =>
              have nin := val_enc_none.mp hv
              refine cF (k := (none : Option V).isSome) rfl ⟨_, rfl, q H6 d l s36 nd hd6 (dl.as fun p => ?_) (con_mk kr cl fun n k e g2 hg2 p hp e1 => absurd (List.mem_map.mpr ⟨p, inL g2 hg2 p hp, by rw [e1]; rw [hbd] at e; exact (congrArg Prod.fst (Option.some.inj e)).symm⟩) nin)⟩
              rw [Fm.syms_mem kr, hbn]
              constructor
              · intro z
                have pl : p ∈ l := (dl.mem p).mpr z
                obtain ⟨lz, hlz, hz⟩ := List.mem_flatten.mp z
                obtain ⟨g2, hg2, rfl⟩ := List.mem_map.mp hlz
                exact ⟨fun z => nin (List.mem_map.mpr ⟨p, pl, (Option.some.inj z).symm⟩), g2, hg2, hz⟩
              · rintro ⟨_, g2, hg2, hz⟩
                exact List.mem_flatten.mpr ⟨_, List.mem_map.mpr ⟨g2, hg2, rfl⟩, hz⟩
            | some v =>
              obtain ⟨a2, ha2, rfl⟩ := val_enc hv
              refine cT (k := (some (V.int (a2 : Nat))).isSome) rfl ?_
              have s37 : Same H (upd H6 d (.dK (dropK (l.map enc) (Sum.inr n0)))) := fun c o e => by rw [upd_ne (ndb e)]; exact s36 c o e
              refine ⟨_, rfl, d, rfl, .inl ⟨_, Rd.of hd6⟩, _, rfl, _, Sum.inr n0, _, hd6, rfl, hv, ?_⟩
              refine ⟨_, rfl, _, h, _, n0, k0, rfl, Dp.same s37 dp, hbd, fun H7 s7 => ⟨rfl, _, rfl, ?_⟩⟩
              by_cases ea : a2 = k0
              case neg => exact cT (k := !decide (V.int (a2 : Nat) = V.int (k0 : Nat))) (nd_t fun z => ea (by have := V.int.inj z; omega)) (qe _ (s37.trans s7))
              refine cF (k := !decide (V.int (a2 : Nat) = V.int (k0 : Nat))) (by rw [ea, decide_eq_true rfl]; rfl) ?_
              refine ⟨_, rfl, q H7 d (l.filter fun p => !decide (p.1 = n0)) (s37.trans s7) nd ?_ ⟨?_, fun p => ?_⟩ (con_mk kr cl fun n k e g2 hg2 p hp e1 => ?_)⟩
              · rw [← drop_enc]
                exact s7 _ _ upd_same
              · exact List.Nodup.sublist ((List.filter_sublist (p := fun p => !decide (p.1 = n0)) (l := l)).map _) dl.nd
              · rw [List.mem_filter, dl.mem, Fm.syms_mem kr, hbn]
                constructor
                · rintro ⟨z, zn⟩
                  obtain ⟨lz, hlz, hz⟩ := List.mem_flatten.mp z
                  obtain ⟨g2, hg2, rfl⟩ := List.mem_map.mp hlz
                  refine ⟨fun z => ?_, g2, hg2, hz⟩
                  have e9 : n0 = p.1 := Option.some.inj z
                  rw [e9] at zn
                  simp at zn
                · rintro ⟨zn, g2, hg2, hz⟩
                  refine ⟨List.mem_flatten.mpr ⟨_, List.mem_map.mpr ⟨g2, hg2, rfl⟩, hz⟩, ?_⟩
                  have e9 : ¬ p.1 = n0 := fun z => zn (by rw [z])
                  simp [e9]
              · rw [hbd] at e
                have e2 := Option.some.inj e
                have e3 : n0 = n := congrArg Prod.fst e2
                have e4 : k0 = k := congrArg Prod.snd e2
                have m := inL g2 hg2 p hp
                rw [← e4, ← ea]
                exact nodup_val dl.nd (n := n0) (by rw [e3, ← e1]; exact m) ha2
end
section
variable {P : Program} {w : World} {K : PySem.W.Frag} {mg : Str → Option Value} {base : Heap}
def spCFR (K : PySem.W.Frag) (n : Nat) : Sp := fun vs H Q E => ∃ (v : V) (f : Fm), vs = [v] ∧ Dp K H v f.data ∧ f.Ok ∧ f.dep ≤ n ∧ (∀ (H' : Hp), Same H H' → f.PosOk → Q .non H') ∧ (∀ (H' : Hp), Same H H' → E (.ref (He.ga K "BadFormula")) none H')
theorem has_fixedR (D : Def K mg "_check_fixed_points" ["formula"] (top 58)) (BF : XC K mg "BadFormula") (C1 : ∀ n, Has P w K mg base (2 + n) "is_positive_in" ["formula", "name", "sign"] (spPos K n)) (C2 : Has P w K mg base 1 "inner" ["formula"] (spInner K)) :
    ∀ n : Nat, HasX (L2N.CX P w) P w K mg base (3 + n) "_check_fixed_points" ["formula"] (spCFR K n) := by
  obtain ⟨f2, fd2, G_inner, g_inner, k_inner, b_inner⟩ := C2
  intro n
  induction n with
  | zero =>
    refine D.has fun f fd F => F.ok sc_check_fixed_points (fun vs H Q E h => ?_) (fun cdv A outer s H vs Q E hr h => ?_)
    · obtain ⟨v, f, rfl, _⟩ := h; rfl
    · obtain ⟨v, f, rfl, _, _, h0, _⟩ := h
      have := dep_pos f
      omega
  | succ n ih =>
    obtain ⟨f1, fd1, G_is_positive_in, g_is_positive_in, k_is_positive_in, b_is_positive_in⟩ := C1 n
    obtain ⟨f3, fd3, G_check_fixed_points, g_check_fixed_points, k_check_fixed_points, b_check_fixed_points⟩ := ih
    refine D.has fun f fd F => F.ok sc_check_fixed_points (fun vs H Q E h => ?_) (fun cdv A outer s H vs Q E hr h => ?_)
    · obtain ⟨v, f, rfl, _⟩ := h; rfl
    · obtain ⟨v, f, rfl, dp, ok, hn, q, qe⟩ := h
      have R_is_positive_in : Room (2 + n) _ := hr.mono (Nat.add_le_add_right (by decide) n)
      have R_inner : Room 1 _ := hr.mono (Nat.le_trans (by decide) (Nat.le_add_right 3 n))
      have R_check_fixed_points : Room (3 + n) _ := hr
      refine ⟨_, (pss_cons (ps_if (PW.pt (pw_and (pt_cmpR op_eq (pe_ix ix_tup (pv 0) pe_int (fun _ _ => rfl)) pe_str (nomark _)) (pw_and1 (pt_not (pt_val (pe_call G_is_positive_in R_is_positive_in (by rfl) g_is_positive_in k_is_positive_in b_is_positive_in .nil pass0 (pa_cons (pe_ix ix_tup (pv 0) pe_int (fun _ _ => rfl)) (pa_cons (pe_ix ix_tup (pv 0) pe_int (fun _ _ => rfl)) (pa_cons pe_int pa_nil))))))))) (pss_one (ps_raiseXN BF rfl (L2N.takes_of rfl rfl rfl rfl) rfl)) pss_nil) (pss_one (ps_for (passes_of rfl) rfl (pi_tup (pe_call G_inner R_inner (by rfl) g_inner k_inner b_inner .nil pass0 (pa_cons (pv 0) pa_nil))) (pg_name (i := 1) sc_check_fixed_points.nd rfl (Or.inl rfl)) (pss_one (ps_expr (pe_call G_check_fixed_points R_check_fixed_points (by rfl) g_check_fixed_points k_check_fixed_points b_check_fixed_points .nil (L2N.passes_call (L2N.takes_of rfl rfl rfl rfl) (fun _ _ _ _ h => h)) (pa_cons (pv 1) pa_nil))))))), ?_⟩
      obtain ⟨h, ps⟩ := f
      rw [Fm.data_mk] at dp
      have fit : h.Ok (ps.map Fm.data).length := by rw [List.length_map]; exact ok.hd_
      obtain ⟨a, xs, rfl, hT, hx⟩ := hd_inv dp
      have go : ∀ (H1 : Hp), Same H H1 → (∀ m us as, h = .lfp m us as → ∀ g, g ∈ ps → g.pos m 1 = true) → tFor (iTup K (tCall (spInner K) [] E0 (tCons (tVar 0) tNil))) (gName 1) (tDrop (tCallS (spCFR K n) (WE fun c o _ G => E c o G) (tCons (tVar 1) tNil))) { nx := fun _ H' => Q .non H', rt := Q } [some (.ref a), none] H1 := by
        intro H1 s1 hpos
        refine ⟨_, rfl, _, h, _, rfl, Dp.same s1 dp, fit.fits, fun H2 r s2 hr2 => ?_⟩
        obtain ⟨b, ys, rfl, hb2, hy⟩ := Dp.tup_inv hr2
        refine ⟨b, rfl, ⟨_, hb2⟩, for_tup (K := K) (a := b) (xs := ys) (fun i σ H3 => ∃ y3, σ = [some (.ref a), y3] ∧ Same H2 H3 ∧ ∀ g, g ∈ ps.take i → g.PosOk) ⟨none, rfl, .refl _, fun g hg => by simp at hg⟩ (fun i σ H3 _ ⟨_, _, s3, _⟩ => Same.sqt s3 hb2) ?_ ?_⟩
        · rintro i y σ H3 hi ⟨y3, rfl, s3, pg⟩
          obtain ⟨d, hd, dpy⟩ := DpAll.get' hy hi
          obtain ⟨g, hg, rfl⟩ := get_map hd
          have mem := List.mem_of_getElem? hg
          have dl : g.dep < (Fm.mk h ps).dep := dep_part mem
          refine ⟨_, rfl, y, g, rfl, Dp.same s3 dpy, ok.part mem, by omega, fun H4 s4 po => ⟨_, rfl, s3.trans s4, fun g2 hg2 => ?_⟩, fun H4 s4 => qe H4 (((s1.trans s2).trans s3).trans s4)⟩
          rw [List.take_add_one, hg] at hg2
          rcases List.mem_append.mp hg2 with hg2 | hg2
          · exact pg g2 hg2
          · rw [show g2 = g by simpa using hg2]; exact po
        · rintro σ H3 ⟨y3, rfl, s3, pg⟩
          have ey : ys.length = ps.length := by rw [DpAll.length hy, List.length_map]
          rw [List.take_of_length_le (by omega)] at pg
          exact q H3 ((s1.trans s2).trans s3) (.mk hpos pg)
      refine ⟨_, rfl, a, _, _, _, rfl, rfl, hT, atI_nat (j := 0) rfl, rfl, _, rfl, ?_⟩
      by_cases kl : h.kd = .lfp
      · refine cT (k := decide (V.str h.word = V.str "lfp")) (by rw [kw_lfp, decide_eq_true kl]) ?_
        cases h with
        | lfp m us as =>
          have l1 : (ps.map Fm.data).length = 1 := fit.fits 1 rfl
          rw [List.length_map] at l1
          obtain ⟨g, rfl⟩ := List.length_eq_one_iff.mp l1
          obtain ⟨v1, ws1, rfl, h1, hx⟩ := DpAll.cons_inv hx
          obtain ⟨v2, ws2, rfl, h2, hx⟩ := DpAll.cons_inv hx
          obtain ⟨v3, ws3, rfl, h3, hx⟩ := DpAll.cons_inv hx
          rw [Dp.str_inv h1] at hT
          have mem : g ∈ [g] := List.mem_singleton.mpr rfl
          have dl : g.dep < (Fm.mk (.lfp m us as) [g]).dep := dep_part mem
          refine ⟨_, rfl, a, _, _, _, rfl, rfl, hT, atI_nat (j := 3) rfl, _, rfl, a, _, _, _, rfl, rfl, hT, atI_nat (j := 1) rfl, v3, m, 1, g, rfl, h3, ok.part mem, by omega, fun H1 s1 => ⟨_, rfl, ?_⟩⟩
          cases hp : g.pos m 1 with
          | false => exact cT (k := !false) rfl (qe H1 s1)
          | true =>
            refine cF (k := !true) rfl (go H1 s1 fun m2 us2 as2 e g2 hg2 => ?_)
            cases e
            rw [List.mem_singleton.mp hg2]
            exact hp
        | _ => cases kl
      · exact cF (k := decide (V.str h.word = V.str "lfp")) (by rw [kw_lfp, decide_eq_false kl]) (go H (.refl H) fun m us as e => by rw [e] at kl; exact absurd rfl kl)
/-- what a function of a formula does with data of any kind: raise BadFormula, if it is none -/
def spCheckR (K : PySem.W.Frag) : Sp := fun vs H Q E => ∃ (v : V) (t : PyData), vs = [v] ∧ Dp K H v t ∧ Raw t ∧ (∀ (H' : Hp) (f : Fm), Same H H' → t = f.data → f.Wf → Q .non H') ∧ (∀ (H' : Hp), Same H H' → E (.ref (He.ga K "BadFormula")) none H')
theorem has_check_formulaR (D : Def K mg "check_formula" ["formula"] (top 59)) (k1 : ∃ t, mg "MOST_DEEP" = some (.int 40 t)) (k2 : ∃ t, mg "MOST_PARTS" = some (.int 2000 t))
    (C1 : ∀ n, HasX (L2N.CX P w) P w K mg base (6 + n) "_check_shapes" ["value", "levels_left", "parts_left"] (spCSR K n)) (C2 : ∀ n, HasX (L2N.CX P w) P w K mg base (2 + n) "arities_in" ["formula"] (spArR K n)) (C3 : ∀ n, HasX (L2N.CX P w) P w K mg base (3 + n) "_check_fixed_points" ["formula"] (spCFR K n)) :
    HasX (L2N.CX P w) P w K mg base 48 "check_formula" ["formula"] (spCheckR K) := D.has fun f fd F => by
  obtain ⟨f1, fd1, G_check_shapes, g_check_shapes, k_check_shapes, b_check_shapes⟩ := C1 41
  obtain ⟨f2, fd2, G_arities_in, g_arities_in, k_arities_in, b_arities_in⟩ := C2 40
  obtain ⟨f3, fd3, G_check_fixed_points, g_check_fixed_points, k_check_fixed_points, b_check_fixed_points⟩ := C3 40
  obtain ⟨t1, c_MOST_DEEP⟩ := k1
  obtain ⟨t2, c_MOST_PARTS⟩ := k2
  refine F.ok sc_check_formula (fun vs H Q E h => ?_) (fun cdv A outer s H vs Q E hr h => ?_)
  · obtain ⟨v, t, rfl, _⟩ := h; rfl
  · obtain ⟨v, t, rfl, dp, rw_, q, qe⟩ := h
    have R_check_shapes : Room (6 + 41) _ := hr.mono (by decide)
    have R_arities_in : Room (2 + 40) _ := hr.mono (by decide)
    have R_check_fixed_points : Room (3 + 40) _ := hr.mono (by decide)
    refine ⟨_, (pss_cons (ps_expr (pe_call G_check_shapes R_check_shapes (by rfl) g_check_shapes k_check_shapes b_check_shapes .nil (L2N.passes_call (L2N.takes_of rfl rfl rfl rfl) (fun _ _ _ _ h => h)) (pa_cons (pv 0) (pa_cons (pe_glob (v := .int 40) (by rfl) c_MOST_DEEP ⟨_, rfl⟩) (pa_cons (pe_glob (v := .int 2000) (by rfl) c_MOST_PARTS ⟨_, rfl⟩) pa_nil))))) (pss_cons (ps_expr (pe_call G_arities_in R_arities_in (by rfl) g_arities_in k_arities_in b_arities_in .nil (L2N.passes_call (L2N.takes_of rfl rfl rfl rfl) (fun _ _ _ _ h => h)) (pa_cons (pv 0) pa_nil))) (pss_one (ps_expr (pe_call G_check_fixed_points R_check_fixed_points (by rfl) g_check_fixed_points k_check_fixed_points b_check_fixed_points .nil (L2N.passes_call (L2N.takes_of rfl rfl rfl rfl) (fun _ _ _ _ h => h)) (pa_cons (pv 0) pa_nil)))))), ?_⟩
    refine ⟨_, rfl, v, 40, 2000, t, rfl, dp, rw_, by decide, fun H1 f s1 e ok dep cnt => ?_, qe⟩
    subst e
    have d40 : f.dep ≤ 40 := by omega
    have c20 : f.cnt ≤ 2000 := by omega
    refine ⟨_, rfl, v, f, rfl, Dp.same s1 dp, ok, d40, c20, fun H2 d l s2 _ _ dl con => ?_, fun H2 s2 => qe H2 (s1.trans s2)⟩
    refine ⟨_, rfl, v, f, rfl, Dp.same (s1.trans s2) dp, ok, d40, fun H3 s3 po => ?_, fun H3 s3 => qe H3 ((s1.trans s2).trans s3)⟩
    refine q H3 f ((s1.trans s2).trans s3) rfl ⟨ok, d40, c20, po, fun n => (l.find? fun p => decide (p.1 = n)).map (·.2), con _ fun q hq => ?_⟩
    have m := (dl.mem q).mpr hq
    have fs : (l.find? fun p => decide (p.1 = q.1)).isSome = true := List.find?_isSome.mpr ⟨q, m, decide_eq_true rfl⟩
    obtain ⟨p, hp⟩ := Option.isSome_iff_exists.mp fs
    have h1 : p.1 = q.1 := of_decide_eq_true (List.find?_some (p := fun p : Str × Nat => decide (p.1 = q.1)) hp)
    have h2 := List.mem_of_find?_eq_some hp
    show ((l.find? fun p => decide (p.1 = q.1)).map (·.2)) = some q.2
    rw [hp]
    exact congrArg some (nodup_val dl.nd (n := q.1) (by rw [← h1]; exact h2) m)
end
/-! ### texts of any kind: what is read of them -/
def tT : List Str → List Nat
  | [] => []
  | b :: r => [32] ++ (Lc b ++ tT r)
def tC : List (List Nat) → List Nat
  | [] => []
  | b :: r => [44, 32] ++ (b ++ tC r)
theorem spL_cons (a : Str) : ∀ r : List Str, spL (a :: r) = Lc a ++ tT r
  | [] => by show Lc a = Lc a ++ []; rw [List.append_nil]
  | b :: r => by
    have ih := spL_cons b r
    show Lc a ++ ([32] ++ spL (b :: r)) = Lc a ++ ([32] ++ (Lc b ++ tT r))
    rw [ih]
theorem cmL_cons (a : List Nat) : ∀ r : List (List Nat), cmL (a :: r) = a ++ tC r
  | [] => by show a = a ++ []; rw [List.append_nil]
  | b :: r => by
    have ih := cmL_cons b r
    show a ++ ([44, 32] ++ cmL (b :: r)) = a ++ ([44, 32] ++ (b ++ tC r))
    rw [ih]
theorem tT_app : ∀ (a b : List Str), tT (a ++ b) = tT a ++ tT b
  | [], _ => rfl
  | x :: a, b => by show [32] ++ (Lc x ++ tT (a ++ b)) = [32] ++ (Lc x ++ tT a) ++ tT b; rw [tT_app a b]; simp only [List.append_assoc]
theorem tC_app : ∀ (a b : List (List Nat)), tC (a ++ b) = tC a ++ tC b
  | [], _ => rfl
  | x :: a, b => by show [44, 32] ++ (x ++ tC (a ++ b)) = [44, 32] ++ (x ++ tC a) ++ tC b; rw [tC_app a b]; simp only [List.append_assoc]
theorem tT_len : ∀ r : List Str, r.length ≤ (tT r).length
  | [] => Nat.le_refl _
  | b :: r => by
    have := tT_len r
    show r.length + 1 ≤ ([32] ++ (Lc b ++ tT r)).length
    rw [List.length_append, List.length_append]
    show r.length + 1 ≤ 1 + _
    omega
theorem tC_len : ∀ r : List (List Nat), r.length ≤ (tC r).length
  | [] => Nat.le_refl _
  | b :: r => by
    have := tC_len r
    show r.length + 1 ≤ ([44, 32] ++ (b ++ tC r)).length
    rw [List.length_append, List.length_append]
    show r.length + 1 ≤ 2 + _
    omega
theorem spL_many (as : List Str) : as.length ≤ (spL as).length + 1 := by
  cases as with
  | nil => exact Nat.zero_le _
  | cons a r =>
    have := tT_len r
    rw [spL_cons, List.length_append, List.length_cons]
    omega
theorem cmL_many (ts : List (List Nat)) : ts.length ≤ (cmL ts).length + 1 := by
  cases ts with
  | nil => exact Nat.zero_le _
  | cons a r =>
    have := tC_len r
    rw [cmL_cons, List.length_append, List.length_cons]
    omega
theorem spL_mem {as : List Str} {a : Str} (h : a ∈ as) : (Lc a).length ≤ (spL as).length := by
  induction as with
  | nil => cases h
  | cons b r ih =>
    cases r with
    | nil =>
      rw [List.mem_singleton.mp h]
      exact Nat.le_refl _
    | cons c r =>
      have e : spL (b :: c :: r) = Lc b ++ ([32] ++ spL (c :: r)) := rfl
      rw [e, List.length_append, List.length_append]
      rcases List.mem_cons.mp h with rfl | h
      · omega
      · have := ih h
        omega
theorem cmL_mem {ts : List (List Nat)} {a : List Nat} (h : a ∈ ts) : a.length ≤ (cmL ts).length := by
  induction ts with
  | nil => cases h
  | cons b r ih =>
    cases r with
    | nil =>
      rw [List.mem_singleton.mp h]
      exact Nat.le_refl _
    | cons c r =>
      have e : cmL (b :: c :: r) = b ++ ([44, 32] ++ cmL (c :: r)) := rfl
      rw [e, List.length_append, List.length_append]
      rcases List.mem_cons.mp h with rfl | h
      · omega
      · have := ih h
        omega
/-- the signs of names that come first -/
theorem word_split : ∀ cs : List Nat, ∃ (nm : Str) (rest : List Nat), cs = Lc nm ++ rest ∧ (∀ c, c ∈ Lc nm → An c) ∧ Stp rest
  | [] => ⟨⟨#[]⟩, [], rfl, (fun c hc => nomatch hc), stp_nil⟩
  | c :: cs => by
    by_cases h : An c
    · obtain ⟨nm, rest, e, a, s⟩ := word_split cs
      refine ⟨⟨(c :: Lc nm).toArray⟩, rest, by rw [Lc_mk, e]; rfl, fun d hd => ?_, s⟩
      rw [Lc_mk] at hd
      rcases List.mem_cons.mp hd with rfl | hd
      · exact h
      · exact a d hd
    · exact ⟨⟨#[]⟩, c :: cs, rfl, (fun c hc => nomatch hc), stp_cons h⟩
/-- t is what is read of the text cs -/
inductive Tx : PyData → List Nat → Prop
  | rel (n : Str) (as : List Str) : Tx (.tuple [.str "rel", .str n, tS as]) (Lc n ++ ([40] ++ (spL as ++ [41])))
  | eq (x y : Str) : Tx (.tuple [.str "eq", .str x, .str y]) (Lc x ++ ([32, 61, 32] ++ Lc y))
  | less (x y : Str) : Tx (.tuple [.str "less", .str x, .str y]) (Lc x ++ ([32, 60, 32] ++ Lc y))
  | tru : Tx (.tuple [.str "and", .tuple []]) (Lc "true")
  | fls : Tx (.tuple [.str "or", .tuple []]) (Lc "false")
  | no {t : PyData} {cs : List Nat} (h : Tx t cs) : Tx (.tuple [.str "not", t]) (Lc "not" ++ ([40] ++ (cs ++ [41])))
  | join {w : Str} {ts : List PyData} {css : List (List Nat)} (hw : w = "and" ∨ w = "or") (l : ts.length = css.length) (ne : ts ≠ []) (h : ∀ (i : Nat) t cs, ts[i]? = some t → css[i]? = some cs → Tx t cs) : Tx (.tuple [.str w, .tuple ts]) (Lc w ++ ([40] ++ (cmL css ++ [41])))
  | quant {w : Str} {vs : List Str} {t : PyData} {cs : List Nat} (hw : w = "some" ∨ w = "all") (h : Tx t cs) : Tx (.tuple [.str w, tS vs, t]) (Lc w ++ ([40] ++ (spL vs ++ ([58, 32] ++ (cs ++ [41])))))
  | fix {w n : Str} {vs as : List Str} {t : PyData} {cs : List Nat} (hw : w = "lfp" ∨ w = "pfp") (h : Tx t cs) : Tx (.tuple [.str w, .str n, tS vs, t, tS as]) (Lc w ++ ([40] ++ (spL (n :: vs) ++ ([58, 32] ++ (cs ++ ([41, 40] ++ (spL as ++ [41])))))))
  | clo {vs as : List Str} {t : PyData} {cs : List Nat} (h : Tx t cs) : Tx (.tuple [.str "tc", tS vs, t, tS as]) (Lc "tc" ++ ([40] ++ (spL vs ++ ([58, 32] ++ (cs ++ ([41, 40] ++ (spL as ++ [41])))))))
  | gs {n kw : Str} {d t : PyData} {cs : List Nat} (hd : d = .none ∨ ∃ k : Nat, k ≤ 3 ∧ d = .int (k : Nat) ∧ Lc kw = [48 + k]) (h : Tx t cs) : Tx (.tuple [.str "guess", .str n, d, t]) (Lc "guess" ++ ([40] ++ (Lc n ++ ([32] ++ (Lc kw ++ ([58, 32] ++ (cs ++ [41])))))))
theorem str_inj {a b : List Str} (h : a.map PyData.str = b.map PyData.str) : a = b := by
  induction a generalizing b with
  | nil => cases b with
    | nil => rfl
    | cons y b => cases h
  | cons x a ih => cases b with
    | nil => cases h
    | cons y b =>
      rw [List.map_cons, List.map_cons] at h
      injection h with h1 h2
      injection h1 with h1
      rw [h1, ih h2]
theorem tS_inj {a b : List Str} (h : tS a = tS b) : a = b := by
  unfold tS at h
  injection h with h
  exact str_inj h
/-- a formula has one text -/
theorem tx_of {t : PyData} {cs : List Nat} (T : Tx t cs) : ∀ f : Fm, f.Ok → t = f.data → cs = f.tx := by
  induction T with
  | rel n as =>
    rintro ⟨h, ps⟩ ok e
    rw [Fm.data_mk] at e
    rw [Fm.tx_mk]
    have okh := ok.hd_
    cases h with
    | rel m bs =>
      simp only [Hd.data, Hd.rest, Hd.word, Hd.kd, Kd.word, PyData.tuple.injEq, List.cons.injEq, PyData.str.injEq, true_and, and_true, List.cons_append, List.nil_append] at e
      obtain ⟨rfl, e⟩ := e
      rw [tS_inj e]
      simp only [Hd.tx, List.append_assoc]
    | _ =>
      exfalso
      revert e
      simp only [Hd.data, Hd.rest, Hd.word, Hd.kd, Kd.word, PyData.tuple.injEq, List.cons.injEq, PyData.str.injEq] <;> (rintro ⟨z, _⟩; revert z; decide +kernel)
  | eq x y =>
    rintro ⟨h, ps⟩ ok e
    rw [Fm.data_mk] at e
    rw [Fm.tx_mk]
    have okh := ok.hd_
    cases h with
    | eq a b =>
      simp only [Hd.data, Hd.rest, Hd.word, Hd.kd, Kd.word, PyData.tuple.injEq, List.cons.injEq, PyData.str.injEq, true_and, and_true, List.cons_append, List.nil_append] at e
      obtain ⟨rfl, rfl⟩ := e
      simp only [Hd.tx, List.append_assoc]
    | _ =>
      exfalso
      revert e
      simp only [Hd.data, Hd.rest, Hd.word, Hd.kd, Kd.word, PyData.tuple.injEq, List.cons.injEq, PyData.str.injEq] <;> (rintro ⟨z, _⟩; revert z; decide +kernel)
  | less x y =>
    rintro ⟨h, ps⟩ ok e
    rw [Fm.data_mk] at e
    rw [Fm.tx_mk]
    have okh := ok.hd_
    cases h with
    | less a b =>
      simp only [Hd.data, Hd.rest, Hd.word, Hd.kd, Kd.word, PyData.tuple.injEq, List.cons.injEq, PyData.str.injEq, true_and, and_true, List.cons_append, List.nil_append] at e
      obtain ⟨rfl, rfl⟩ := e
      simp only [Hd.tx, List.append_assoc]
    | _ =>
      exfalso
      revert e
      simp only [Hd.data, Hd.rest, Hd.word, Hd.kd, Kd.word, PyData.tuple.injEq, List.cons.injEq, PyData.str.injEq] <;> (rintro ⟨z, _⟩; revert z; decide +kernel)
  | tru =>
    rintro ⟨h, ps⟩ ok e
    rw [Fm.data_mk] at e
    rw [Fm.tx_mk]
    have okh := ok.hd_
    cases h with
    | con =>
      simp only [Hd.data, Hd.rest, Hd.word, Hd.kd, Kd.word, PyData.tuple.injEq, List.cons.injEq, PyData.str.injEq, true_and, and_true, List.cons_append, List.nil_append] at e
      have e0 : ps = [] := List.map_eq_nil_iff.mp e.symm
      rw [e0]
      rfl
    | _ =>
      exfalso
      revert e
      simp only [Hd.data, Hd.rest, Hd.word, Hd.kd, Kd.word, PyData.tuple.injEq, List.cons.injEq, PyData.str.injEq] <;> (rintro ⟨z, _⟩; revert z; decide +kernel)
  | fls =>
    rintro ⟨h, ps⟩ ok e
    rw [Fm.data_mk] at e
    rw [Fm.tx_mk]
    have okh := ok.hd_
    cases h with
    | dis =>
      simp only [Hd.data, Hd.rest, Hd.word, Hd.kd, Kd.word, PyData.tuple.injEq, List.cons.injEq, PyData.str.injEq, true_and, and_true, List.cons_append, List.nil_append] at e
      have e0 : ps = [] := List.map_eq_nil_iff.mp e.symm
      rw [e0]
      rfl
    | _ =>
      exfalso
      revert e
      simp only [Hd.data, Hd.rest, Hd.word, Hd.kd, Kd.word, PyData.tuple.injEq, List.cons.injEq, PyData.str.injEq] <;> (rintro ⟨z, _⟩; revert z; decide +kernel)
  | no h0 ih =>
    rintro ⟨h, ps⟩ ok e
    rw [Fm.data_mk] at e
    rw [Fm.tx_mk]
    have okh := ok.hd_
    cases h with
    | no =>
      obtain ⟨g, rfl⟩ : ∃ g, ps = [g] := List.length_eq_one_iff.mp okh
      have mg : g ∈ [g] := List.mem_singleton.mpr rfl
      rw [List.map_cons, List.map_nil] at e
      simp only [Hd.data, Hd.rest, Hd.word, Hd.kd, Kd.word, PyData.tuple.injEq, List.cons.injEq, PyData.str.injEq, true_and, and_true, List.cons_append, List.nil_append] at e
      obtain rfl := e
      rw [ih g (ok.part mg) rfl]
      show _ = Hd.tx _ [g.tx]
      simp only [Hd.tx, List.append_assoc]
      rfl
    | _ =>
      exfalso
      revert e
      simp only [Hd.data, Hd.rest, Hd.word, Hd.kd, Kd.word, PyData.tuple.injEq, List.cons.injEq, PyData.str.injEq] <;> (rintro ⟨z, _⟩; revert z; decide +kernel)
  | join hw l ne h0 ih =>
    rintro ⟨h, ps⟩ ok e
    rw [Fm.data_mk] at e
    rw [Fm.tx_mk]
    have okh := ok.hd_
    rename_i ts css
    rcases hw with rfl | rfl
    · cases h with
      | con =>
        have e1 : ts = ps.map Fm.data := by
          simp only [Hd.data, Hd.rest, Hd.word, Hd.kd, Kd.word, PyData.tuple.injEq, List.cons.injEq, PyData.str.injEq, true_and, and_true] at e
          exact e
        have e2 : css = ps.map Fm.tx := List.ext_getElem? fun i => by
          rw [List.getElem?_map]
          cases hp : ps[i]? with
          | none =>
            have : ps.length ≤ i := List.getElem?_eq_none_iff.mp hp
            exact List.getElem?_eq_none_iff.mpr (by rw [← l, e1, List.length_map]; exact this)
          | some g =>
            have il : i < css.length := by rw [← l, e1, List.length_map]; exact (List.getElem?_eq_some_iff.mp hp).1
            have hc := List.getElem?_eq_getElem il
            rw [hc]
            exact congrArg some (ih i g.data _ (by rw [e1, List.getElem?_map, hp]; rfl) hc g (ok.part (List.mem_of_getElem? hp)) rfl)
        have ne2 : ps.map Fm.tx ≠ [] := fun z => ne (by rw [e1, List.map_eq_nil_iff.mp z]; rfl)
        rw [e2]
        simp only [Hd.tx, if_neg ne2, List.append_assoc]
      | _ =>
        exfalso
        revert e
        simp only [Hd.data, Hd.rest, Hd.word, Hd.kd, Kd.word, PyData.tuple.injEq, List.cons.injEq, PyData.str.injEq] <;> (rintro ⟨z, _⟩; revert z; decide +kernel)
    · cases h with
      | dis =>
        have e1 : ts = ps.map Fm.data := by
          simp only [Hd.data, Hd.rest, Hd.word, Hd.kd, Kd.word, PyData.tuple.injEq, List.cons.injEq, PyData.str.injEq, true_and, and_true] at e
          exact e
        have e2 : css = ps.map Fm.tx := List.ext_getElem? fun i => by
          rw [List.getElem?_map]
          cases hp : ps[i]? with
          | none =>
            have : ps.length ≤ i := List.getElem?_eq_none_iff.mp hp
            exact List.getElem?_eq_none_iff.mpr (by rw [← l, e1, List.length_map]; exact this)
          | some g =>
            have il : i < css.length := by rw [← l, e1, List.length_map]; exact (List.getElem?_eq_some_iff.mp hp).1
            have hc := List.getElem?_eq_getElem il
            rw [hc]
            exact congrArg some (ih i g.data _ (by rw [e1, List.getElem?_map, hp]; rfl) hc g (ok.part (List.mem_of_getElem? hp)) rfl)
        have ne2 : ps.map Fm.tx ≠ [] := fun z => ne (by rw [e1, List.map_eq_nil_iff.mp z]; rfl)
        rw [e2]
        simp only [Hd.tx, if_neg ne2, List.append_assoc]
      | _ =>
        exfalso
        revert e
        simp only [Hd.data, Hd.rest, Hd.word, Hd.kd, Kd.word, PyData.tuple.injEq, List.cons.injEq, PyData.str.injEq] <;> (rintro ⟨z, _⟩; revert z; decide +kernel)
  | quant hw h0 ih =>
    rintro ⟨h, ps⟩ ok e
    rw [Fm.data_mk] at e
    rw [Fm.tx_mk]
    have okh := ok.hd_
    rcases hw with rfl | rfl
    · cases h with
      | ex us =>
        obtain ⟨g, rfl⟩ : ∃ g, ps = [g] := List.length_eq_one_iff.mp okh.2
        have mg : g ∈ [g] := List.mem_singleton.mpr rfl
        rw [List.map_cons, List.map_nil] at e
        simp only [Hd.data, Hd.rest, Hd.word, Hd.kd, Kd.word, PyData.tuple.injEq, List.cons.injEq, PyData.str.injEq, true_and, and_true, List.cons_append, List.nil_append] at e
        obtain ⟨e1, rfl⟩ := e
        rw [ih g (ok.part mg) rfl]
        rw [tS_inj e1]
        show _ = Hd.tx _ [g.tx]
        simp only [Hd.tx, List.append_assoc]
        rfl
      | _ =>
        exfalso
        revert e
        simp only [Hd.data, Hd.rest, Hd.word, Hd.kd, Kd.word, PyData.tuple.injEq, List.cons.injEq, PyData.str.injEq] <;> (rintro ⟨z, _⟩; revert z; decide +kernel)
    · cases h with
      | al us =>
        obtain ⟨g, rfl⟩ : ∃ g, ps = [g] := List.length_eq_one_iff.mp okh.2
        have mg : g ∈ [g] := List.mem_singleton.mpr rfl
        rw [List.map_cons, List.map_nil] at e
        simp only [Hd.data, Hd.rest, Hd.word, Hd.kd, Kd.word, PyData.tuple.injEq, List.cons.injEq, PyData.str.injEq, true_and, and_true, List.cons_append, List.nil_append] at e
        obtain ⟨e1, rfl⟩ := e
        rw [ih g (ok.part mg) rfl]
        rw [tS_inj e1]
        show _ = Hd.tx _ [g.tx]
        simp only [Hd.tx, List.append_assoc]
        rfl
      | _ =>
        exfalso
        revert e
        simp only [Hd.data, Hd.rest, Hd.word, Hd.kd, Kd.word, PyData.tuple.injEq, List.cons.injEq, PyData.str.injEq] <;> (rintro ⟨z, _⟩; revert z; decide +kernel)
  | fix hw h0 ih =>
    rintro ⟨h, ps⟩ ok e
    rw [Fm.data_mk] at e
    rw [Fm.tx_mk]
    have okh := ok.hd_
    rcases hw with rfl | rfl
    · cases h with
      | lfp m us bs =>
        obtain ⟨g, rfl⟩ : ∃ g, ps = [g] := List.length_eq_one_iff.mp okh.2.2.2.2
        have mg : g ∈ [g] := List.mem_singleton.mpr rfl
        rw [List.map_cons, List.map_nil] at e
        simp only [Hd.data, Hd.rest, Hd.word, Hd.kd, Kd.word, PyData.tuple.injEq, List.cons.injEq, PyData.str.injEq, true_and, and_true, List.cons_append, List.nil_append] at e
        obtain ⟨rfl, e1, rfl, e2⟩ := e
        rw [ih g (ok.part mg) rfl]
        rw [tS_inj e1, tS_inj e2]
        show _ = Hd.tx _ [g.tx]
        simp only [Hd.tx, List.append_assoc]
        rfl
      | _ =>
        exfalso
        revert e
        simp only [Hd.data, Hd.rest, Hd.word, Hd.kd, Kd.word, PyData.tuple.injEq, List.cons.injEq, PyData.str.injEq] <;> (rintro ⟨z, _⟩; revert z; decide +kernel)
    · cases h with
      | pfp m us bs =>
        obtain ⟨g, rfl⟩ : ∃ g, ps = [g] := List.length_eq_one_iff.mp okh.2.2.2.2
        have mg : g ∈ [g] := List.mem_singleton.mpr rfl
        rw [List.map_cons, List.map_nil] at e
        simp only [Hd.data, Hd.rest, Hd.word, Hd.kd, Kd.word, PyData.tuple.injEq, List.cons.injEq, PyData.str.injEq, true_and, and_true, List.cons_append, List.nil_append] at e
        obtain ⟨rfl, e1, rfl, e2⟩ := e
        rw [ih g (ok.part mg) rfl]
        rw [tS_inj e1, tS_inj e2]
        show _ = Hd.tx _ [g.tx]
        simp only [Hd.tx, List.append_assoc]
        rfl
      | _ =>
        exfalso
        revert e
        simp only [Hd.data, Hd.rest, Hd.word, Hd.kd, Kd.word, PyData.tuple.injEq, List.cons.injEq, PyData.str.injEq] <;> (rintro ⟨z, _⟩; revert z; decide +kernel)
  | clo h0 ih =>
    rintro ⟨h, ps⟩ ok e
    rw [Fm.data_mk] at e
    rw [Fm.tx_mk]
    have okh := ok.hd_
    cases h with
    | tc us bs =>
      obtain ⟨g, rfl⟩ : ∃ g, ps = [g] := List.length_eq_one_iff.mp okh.2.2.2.2.2
      have mg : g ∈ [g] := List.mem_singleton.mpr rfl
      rw [List.map_cons, List.map_nil] at e
      simp only [Hd.data, Hd.rest, Hd.word, Hd.kd, Kd.word, PyData.tuple.injEq, List.cons.injEq, PyData.str.injEq, true_and, and_true, List.cons_append, List.nil_append] at e
      obtain ⟨e1, rfl, e2⟩ := e
      rw [ih g (ok.part mg) rfl]
      rw [tS_inj e1, tS_inj e2]
      show _ = Hd.tx _ [g.tx]
      simp only [Hd.tx, List.append_assoc]
      rfl
    | _ =>
      exfalso
      revert e
      simp only [Hd.data, Hd.rest, Hd.word, Hd.kd, Kd.word, PyData.tuple.injEq, List.cons.injEq, PyData.str.injEq] <;> (rintro ⟨z, _⟩; revert z; decide +kernel)
  | gs hd h0 ih =>
    rintro ⟨h, ps⟩ ok e
    rw [Fm.data_mk] at e
    rw [Fm.tx_mk]
    have okh := ok.hd_
    cases h with
    | gs m k =>
      obtain ⟨g, rfl⟩ : ∃ g, ps = [g] := List.length_eq_one_iff.mp okh.2.2
      have mg : g ∈ [g] := List.mem_singleton.mpr rfl
      rw [List.map_cons, List.map_nil] at e
      simp only [Hd.data, Hd.rest, Hd.word, Hd.kd, Kd.word, PyData.tuple.injEq, List.cons.injEq, PyData.str.injEq, true_and, and_true, List.cons_append, List.nil_append] at e
      obtain ⟨rfl, e1, rfl⟩ := e
      rw [ih g (ok.part mg) rfl]
      obtain ⟨j, j3, e2, ek⟩ : ∃ j : Nat, j ≤ 3 ∧ PyData.int (k : Nat) = .int (j : Nat) ∧ Lc _ = [48 + j] := by
        rcases hd with z | ⟨j, j3, z, ek⟩
        · rw [z] at e1; cases e1
        · exact ⟨j, j3, by rw [← e1, z], ek⟩
      have ej : k = j := by
        injection e2 with e2
        omega
      rw [ek, ej]
      show _ = Hd.tx _ [g.tx]
      simp only [Hd.tx, List.append_assoc]
      rfl
    | _ =>
      exfalso
      revert e
      simp only [Hd.data, Hd.rest, Hd.word, Hd.kd, Kd.word, PyData.tuple.injEq, List.cons.injEq, PyData.str.injEq] <;> (rintro ⟨z, _⟩; revert z; decide +kernel)
/-! ### texts of any kind: the reader's methods -/
def HasMX (CX : CXT) (P : Program) (w : World) (K : PySem.W.Frag) (mg : Str → Option Value) (base : Heap) (k : Nat) (c m : Str) (ps : List Str) (sp : Sp) : Prop :=
  ∃ f fd, FnOk P w K mg base CX k f fd ps sp ∧ Meth K (He.ga K c) m f ∧ Binds K fd ps []
theorem DefM.hasX {CX : CXT} {P : Program} {w : World} {K : PySem.W.Frag} {mg : Str → Option Value} {base : Heap} {c m q : Str} {ps : List Str} {st : Stmt} {k : Nat} {sp : Sp} (D : DefM K c m q ps st)
    (h : ∀ f fd, FunD K m q (defArgs st) (defBody st) (defScope st) [] [] f fd → FnOk P w K mg base CX k f fd ps sp) : HasMX CX P w K mg base k c m ps sp := by
  obtain ⟨f, fd, F, g, b⟩ := D
  exact ⟨f, fd, h f fd F, g, b⟩
theorem Ki.gone {H H' : Hp} {p : Addr} (k : Ki H H') (np : H' p = none) : H p = none ∨ ∃ C dx fs, H p = some (.ins C dx fs) := by
  cases e : H p with
  | none => exact .inl rfl
  | some o =>
    cases o with
    | ins C dx fs => exact .inr ⟨C, dx, fs, rfl⟩
    | _ => have z := k p _ e (fun _ _ _ y => nomatch y); rw [np] at z; cases z
/-- an object made behind H is changed -/
theorem Ki.own {H H' : Hp} {p : Addr} {o : HO} (k : Ki H H') (np : H p = none ∨ ∃ C dx fs, H p = some (.ins C dx fs)) : Ki H (L2.upd H' p o) := fun x u e n => by
  have xp : x ≠ p := fun z => by
    rw [z] at e
    rcases np with np | ⟨C, dx, fs, np⟩
    · rw [np] at e; cases e
    · rw [np] at e; exact n _ _ _ (Option.some.inj e).symm
  rw [upd_ne xp]
  exact k x u e n
/-- a text that is not long -/
def Mid (z : Str) : Prop := z.length ≤ 90000
theorem Mid.big {z : Str} (h : Mid z) : Big z := Nat.le_trans h (by decide)
theorem mid_fit {n : Nat} (h : n ≤ 100000) : n < sizeLine := Nat.lt_of_le_of_lt h (by decide)
theorem RdR.len {K : PySem.W.Frag} {H : Hp} {r : Addr} {z : Str} {cs : List Nat} {l : Nat} (h : RdR K H r z cs l) : cs.length ≤ z.length := by
  obtain ⟨i, dx, _, hi, hd⟩ := h
  have := drop_len hd hi
  omega
theorem spL_snoc {dn : List Str} (b : Str) (ne : dn ≠ []) : spL (dn ++ [b]) = spL dn ++ ([32] ++ Lc b) := by
  cases dn with
  | nil => exact absurd rfl ne
  | cons a r =>
    rw [List.cons_append, spL_cons, spL_cons, tT_app]
    show Lc a ++ (tT r ++ ([32] ++ (Lc b ++ []))) = _
    rw [List.append_nil, List.append_assoc]
theorem cmL_snoc {dn : List (List Nat)} (b : List Nat) (ne : dn ≠ []) : cmL (dn ++ [b]) = cmL dn ++ ([44, 32] ++ b) := by
  cases dn with
  | nil => exact absurd rfl ne
  | cons a r =>
    rw [List.cons_append, cmL_cons, cmL_cons, tC_app]
    show a ++ (tC r ++ ([44, 32] ++ (b ++ []))) = _
    rw [List.append_nil, List.append_assoc]
def spNeedsR (K : PySem.W.Frag) : Sp := fun vs H Q E => ∃ (r : Addr) (z sg : Str) (cs : List Nat) (l : Nat), vs = [.ref r, .str sg] ∧ RdR K H r z cs l ∧ Big z ∧ sg.length ≤ 100 ∧ (∀ rest, cs = Lc sg ++ rest → ∀ H' : Hp, RdR K H' r z rest l → Ki H H' → Q .non H') ∧
  (∀ H' : Hp, Ki H H' → E (.ref (He.ga K "BadText")) none H')
def spInR (K : PySem.W.Frag) : Sp := fun vs H Q E => ∃ (r : Addr) (z : Str) (cs : List Nat) (l : Nat), vs = [.ref r] ∧ RdR K H r z cs l ∧ (∀ l', l = l' + 1 → ∀ H' : Hp, RdR K H' r z cs l' → Ki H H' → Q .non H') ∧ (∀ H' : Hp, Ki H H' → E (.ref (He.ga K "BadText")) none H')
def spNamesR (K : PySem.W.Frag) : Sp := fun vs H Q E => ∃ (r : Addr) (z sg : Str) (cs : List Nat) (l : Nat), vs = [.ref r, .str sg] ∧ RdR K H r z cs l ∧ Mid z ∧ sg.length ≤ 100 ∧
  (∀ as rest, as ≠ [] → cs = spL as ++ (Lc sg ++ rest) → ∀ (H' : Hp) (t : V), RdR K H' r z rest l → Ki H H' → Dp K H' t (tS as) → Q t H') ∧ (∀ H' : Hp, Ki H H' → E (.ref (He.ga K "BadText")) none H')
section
variable {P : Program} {w : World} {K : PySem.W.Frag} {mg : Str → Option Value} {base : Heap}
theorem has_r_needsR (D : DefM K "Reader" "needs" "Reader.needs" ["self", "sign"] (inClass (top 41) 2)) (RD : RdC K) (BT : XC K mg "BadText") (C1 : HasM P w K mg base 1 "Reader" "takes" ["self", "sign"] (spTakes K)) : HasMX (L2N.CX P w) P w K mg base 2 "Reader" "needs" ["self", "sign"] (spNeedsR K) := D.hasX fun f fd F => by
  obtain ⟨f1, fd1, M_takes, hm_takes, bm_takes⟩ := C1
  refine F.ok sc_r_needs (fun vs H Q E h => ?_) (fun cdv A outer s H vs Q E hr h => ?_)
  · obtain ⟨r, z, sg, cs, l, rfl, _⟩ := h; rfl
  · obtain ⟨r, z, sg, cs, l, rfl, rd, big, sl, q, qe⟩ := h
    have RM_takes : Room 1 _ := hr
    refine ⟨_, (pss_one (ps_if (pt_not (pt_val (pe_meth (pv 0) RD.cls hm_takes M_takes RM_takes bm_takes .nil pass0 (pa_cons (pv 1) pa_nil)))) (pss_one (ps_raiseXN BT rfl (L2N.takes_of rfl rfl rfl rfl) rfl)) pss_nil)), ?_⟩
    obtain ⟨i, dx, h1, hi, hd⟩ := rd
    exact ⟨_, rfl, r, dx, _, rfl, h1, rfl, _, rfl, r, z, sg, _, l, rfl, ⟨i, dx, h1, hi, hd⟩, big, sl, fun no => ⟨_, rfl, cT (k := !false) rfl (qe H (.refl H))⟩, fun rest e H' rd' k' => ⟨_, rfl, cF (k := !true) rfl (q rest e H' rd' k')⟩⟩
theorem has_r_inR (D : DefM K "Reader" "goes_in" "Reader.goes_in" ["self"] (inClass (top 41) 5)) (RD : RdC K) (BT : XC K mg "BadText") : HasMX (L2N.CX P w) P w K mg base 1 "Reader" "goes_in" ["self"] (spInR K) := D.hasX fun f fd F => by
  refine F.ok sc_r_in (fun vs H Q E h => ?_) (fun cdv A outer s H vs Q E hr h => ?_)
  · obtain ⟨r, z, cs, l, rfl, _⟩ := h; rfl
  · obtain ⟨r, z, cs, l, rfl, ⟨i, dx, h1, hi, hd⟩, q, qe⟩ := h
    refine ⟨_, (pss_cons (ps_if (pt_cmpR op_lt (pe_fld (pv 0) rfl) pe_int (nomark _)) (pss_one (ps_raiseXN BT rfl (L2N.takes_of rfl rfl rfl rfl) rfl)) pss_nil) (pss_one (ps_fldaug (pv 0) pe_int in_sub))), ?_⟩
    refine ⟨_, rfl, r, _, dx, _, _, rfl, h1, RD.cls, RD.nl, rfl, _, _, rfl, rfl, _, rfl, ?_⟩
    by_cases l0 : ((l : Nat) : Int) < 1
    · exact cT (k := decide (((l : Nat) : Int) < 1)) (decide_eq_true l0) (qe H (.refl H))
    refine cF (k := decide (((l : Nat) : Int) < 1)) (decide_eq_false l0) ?_
    obtain ⟨l', rfl⟩ : ∃ l', l = l' + 1 := ⟨l - 1, by omega⟩
    refine ⟨_, rfl, r, _, dx, _, _, rfl, h1, RD.cls, RD.nl, rfl, _, _, rfl, rfl, dx, _, h1, (by show 3 < 1000; decide), ?_⟩
    refine q l' rfl _ ⟨i, dx, ?_, hi, hd⟩ (Ki.upd h1)
    rw [upd_same, putL]
    have e : ((l' + 1 : Nat) : Int) - 1 = ((l' : Nat) : Int) := by omega
    rw [e]
    rfl
theorem sc_r_names : FnScope ["self", "sign", "found"] ["self", "sign"] (defScope (inClass (top 41) 4)) := ⟨rfl, rfl, rfl, by decide +kernel, rfl, by decide +kernel, by decide +kernel⟩
theorem has_r_namesR (D : DefM K "Reader" "names" "Reader.names" ["self", "sign"] (inClass (top 41) 4)) (T : Txt mg) (C1 : HasM P w K mg base 1 "Reader" "takes" ["self", "sign"] (spTakes K)) (C2 : HasMX (L2N.CX P w) P w K mg base 2 "Reader" "needs" ["self", "sign"] (spNeedsR K)) (C3 : HasM P w K mg base 1 "Reader" "word" ["self"] (spWord K)) (RD : RdC K) :
    HasMX (L2N.CX P w) P w K mg base 3 "Reader" "names" ["self", "sign"] (spNamesR K) := D.hasX fun f fd F => by
  obtain ⟨f1, fd1, M_takes, hm_takes, bm_takes⟩ := C1
  obtain ⟨f2, fd2, M_needs, hm_needs, bm_needs⟩ := C2
  obtain ⟨f3, fd3, M_word, hm_word, bm_word⟩ := C3
  refine F.ok sc_r_names (fun vs H Q E h => ?_) (fun cdv A outer s H vs Q E hr h => ?_)
  · obtain ⟨r, z, sg, cs, l, rfl, _⟩ := h; rfl
  · obtain ⟨r, z, sg, cs, l, rfl, rd, mid, sl, q, qe⟩ := h
    have big := mid.big
    have RM_takes : Room 1 _ := hr.mono (by decide)
    have RM_needs : Room 2 _ := hr
    have RM_word : Room 1 _ := hr.mono (by decide)
    refine ⟨_, (pss_cons (ps_set (i := 2) sc_r_names.nd rfl (Or.inl rfl) (pe_lst (pa_cons (pe_meth0 (pv 0) RD.cls hm_word M_word RM_word bm_word .nil pass0) pa_nil))) (pss_cons (ps_while (passes_of rfl) (pt_val (pe_meth (pv 0) RD.cls hm_takes M_takes RM_takes bm_takes .nil pass0 (pa_cons pe_str pa_nil))) (pss_one (ps_expr (pe_bm PySem.F.plainAttrs_list PySem.F.slot_list_append PySem.F.type_list_append mt_append (pv 2) (pa_cons (pe_meth0 (pv 0) RD.cls hm_word M_word RM_word bm_word .nil pass0) pa_nil))))) (pss_cons (ps_expr (pe_meth (pv 0) RD.cls hm_needs M_needs RM_needs bm_needs .nil (L2N.passes_call (L2N.takes_of rfl rfl rfl rfl) (fun _ _ _ _ h => h)) (pa_cons (pv 1) pa_nil))) (pss_one (ps_ret (pe_callTy call_tuple_of (by rfl) T.n_tuple (by decide +kernel) (pa_cons (pv 2) pa_nil))))))), ?_⟩
    have cl := rd.len
    obtain ⟨a0, rest0, rfl, an0, st0⟩ := word_split cs
    have rd0 := rd
    obtain ⟨i, dx, h1, _, _⟩ := rd
    refine ⟨_, rfl, r, dx, _, rfl, h1, rfl, r, z, a0, _, l, rfl, rd0, big, an0, st0, fun H1 rd1 k1 => ⟨(by show 1 ≤ sizeLine; decide), fun p np => ?_⟩⟩
    have rdp := rd1.same (same_upd (o := .lst [.str a0]) np)
    have kp : Ki H (upd H1 p (.lst [.str a0])) := k1.trans (.of (same_upd np))
    have hp : (upd H1 p (.lst [.str a0])) p = some (.lst (([a0] : List Str).map V.str)) := upd_same
    have np0 : H p = none ∨ ∃ C dx fs, H p = some (.ins C dx fs) := Ki.gone k1 np
    refine ⟨fun m σ H2 => ∃ dn rest, dn ≠ [] ∧ Lc a0 ++ rest0 = spL dn ++ rest ∧ m = rest.length ∧ σ = [some (.ref r), some (.str sg), some (.ref p)] ∧ H2 p = some (.lst (dn.map V.str)) ∧ RdR K H2 r z rest l ∧ Ki H H2, ⟨rest0.length, [a0], rest0, (fun z => nomatch z), rfl, rfl, rfl, hp, rdp, kp⟩, ?_⟩
    rintro m σ H2 ⟨dn, rest, ne, ea, rfl, rfl, hp2, rd2, k2⟩
    have rd2' := rd2
    obtain ⟨i2, dx2, h2, _, _⟩ := rd2
    refine ⟨_, rfl, r, dx2, _, rfl, h2, rfl, r, z, " ", _, l, rfl, rd2', big, by decide +kernel, fun _ => ⟨_, rfl, iteF ?_⟩, fun rest' e H3 rd3 k3 => ⟨_, rfl, iteT ?_⟩⟩
    · refine ⟨_, rfl, r, dx2, _, rfl, h2, rfl, _, rfl, r, z, sg, rest, l, rfl, rd2', big, sl, fun rest' e H3 rd3 k3 => ?_, fun H3 k3 => qe H3 (k2.trans k3)⟩
      have hp3 := Ki.lst k3 hp2
      refine ⟨_, rfl, p, _, rfl, .inl ⟨SqL.of hp3, fun t nt => ?_⟩⟩
      have st := same_upd (o := .tup (dn.map V.str)) nt
      exact q dn rest' ne (by rw [ea, e]) _ _ (rd3.same st) ((k2.trans k3).trans (.of st)) (tS_of (SqT.of upd_same))
    · obtain ⟨b, rest'', rfl, anb, stb⟩ := word_split rest'
      have hp3 := Ki.lst k3 hp2
      have el := congrArg List.length ea
      rw [List.length_append (as := spL dn)] at el
      have lr : rest''.length < rest.length := by
        rw [e, c_sp, List.length_append, List.length_append]
        show _ < 1 + _
        omega
      refine ⟨fun σ' H' => ∃ m', m' < rest.length ∧ ∃ dn rest, dn ≠ [] ∧ Lc a0 ++ rest0 = spL dn ++ rest ∧ m' = rest.length ∧ σ' = [some (.ref r), some (.str sg), some (.ref p)] ∧ H' p = some (.lst (dn.map V.str)) ∧ RdR K H' r z rest l ∧ Ki H H', fun σ' H' h => h, ?_⟩
      have rd3' := rd3
      obtain ⟨i3, dx3, h3, _, _⟩ := rd3
      refine ⟨_, rfl, .inl ⟨rfl, _, SqL.of hp3⟩, _, rfl, r, dx3, _, rfl, h3, rfl, r, z, b, _, l, rfl, rd3', big, anb, stb, fun H4 rd4 k4 => ?_⟩
      have hp4 := Ki.lst k4 hp3
      refine ⟨p, _, _, rfl, rfl, hp4, ?_, ?_⟩
      · rw [List.length_map]
        have a1 := spL_many dn
        have a2 : z.length ≤ 90000 := mid
        exact mid_fit (by omega)
      · refine ⟨rest''.length, lr, dn ++ [b], rest'', by simp, ?_, rfl, rfl, ?_, rd4.upd (rd4.nl hp4), ?_⟩
        · rw [ea, e, c_sp, spL_snoc b ne]
          simp only [List.append_assoc]
        · rw [upd_same, List.map_append]
          rfl
        · exact Ki.own (k2.trans (k3.trans k4)) np0
end
/-! ### texts of any kind: the readers -/
def Kd.rdr : Kd → Str
  | .no => "_read_not"
  | .con => "_read_joined"
  | .dis => "_read_joined"
  | .ex => "_read_quantified"
  | .al => "_read_quantified"
  | .lfp => "_read_fixed_point"
  | .pfp => "_read_fixed_point"
  | .tc => "_read_closure"
  | .gs => "_read_guess"
  | _ => "_read_not"
theorem cut_tl (n : Str) (vs : List Str) : cutV ((n :: vs).map V.str) (some 1) none = vs.map V.str := by
  unfold cutV
  have e : HT.sIx ((n :: vs).map V.str).length 0 (some ((1 : Nat) : Int)) = 1 := by rw [HT.sIx_nat, List.length_map, List.length_cons]; omega
  show (((n :: vs).map V.str).drop (HT.sIx ((n :: vs).map V.str).length 0 (some ((1 : Nat) : Int)))).take (((n :: vs).map V.str).length - HT.sIx ((n :: vs).map V.str).length 0 (some ((1 : Nat) : Int))) = vs.map V.str
  rw [e]
  show (vs.map V.str).take _ = vs.map V.str
  exact List.take_of_length_le (by rw [List.length_map, List.length_map, List.length_cons]; omega)
theorem c_ee : Lc "()" = [40, 41] := by decide +kernel
/-- the word w is read by the reader x -/
def RdrW (x w : Str) : Prop := ∃ k : Kd, k.word = w ∧ k.rdr = x ∧ k ≠ .rel ∧ k ≠ .eq ∧ k ≠ .less
theorem rdr_words : ∀ k : Kd, k ≠ .rel → k ≠ .eq → k ≠ .less → (k.rdr = "_read_not" → k.word = "not") ∧ (k.rdr = "_read_joined" → k.word = "and" ∨ k.word = "or") ∧ (k.rdr = "_read_quantified" → k.word = "some" ∨ k.word = "all") ∧
    (k.rdr = "_read_fixed_point" → k.word = "lfp" ∨ k.word = "pfp") ∧ (k.rdr = "_read_closure" → k.word = "tc") ∧ (k.rdr = "_read_guess" → k.word = "guess") := by
  intro k; cases k <;> decide +kernel
theorem noL_tup1 {ts : List PyData} (h : ∀ t, t ∈ ts → noL t = true) : noL (.tuple ts) = true := noL_tup (noLs_all h)
theorem noL_non : noL .none = true := by rw [noL]; all_goals (intros; contradiction)
theorem tx_noL {t : PyData} {cs : List Nat} (T : Tx t cs) : noL t = true := by
  induction T with
  | rel n as =>
    exact noL_tup1 fun t ht => by
      rcases (show t = .str "rel" ∨ t = .str n ∨ t = tS as by simpa using ht) with rfl | rfl | rfl
      · exact noL_str
      · exact noL_str
      · exact noL_tS as
  | eq x y =>
    exact noL_tup1 fun t ht => by
      rcases (show t = .str "eq" ∨ t = .str x ∨ t = .str y by simpa using ht) with rfl | rfl | rfl <;> exact noL_str
  | less x y =>
    exact noL_tup1 fun t ht => by
      rcases (show t = .str "less" ∨ t = .str x ∨ t = .str y by simpa using ht) with rfl | rfl | rfl <;> exact noL_str
  | tru =>
    exact noL_tup1 fun t ht => by
      rcases (show t = .str "and" ∨ t = .tuple [] by simpa using ht) with rfl | rfl
      · exact noL_str
      · exact noL_tup1 fun t ht => nomatch ht
  | fls =>
    exact noL_tup1 fun t ht => by
      rcases (show t = .str "or" ∨ t = .tuple [] by simpa using ht) with rfl | rfl
      · exact noL_str
      · exact noL_tup1 fun t ht => nomatch ht
  | @no t0 cs h0 ih =>
    exact noL_tup1 fun t ht => by
      rcases (show t = .str "not" ∨ t = t0 by simpa using ht) with rfl | rfl
      · exact noL_str
      · exact ih
  | @join w ts css hw l ne h0 ih =>
    exact noL_tup1 fun t ht => by
      rcases (show t = .str w ∨ t = .tuple ts by simpa using ht) with rfl | rfl
      · exact noL_str
      · refine noL_tup1 fun t ht => ?_
        obtain ⟨i, hi, e⟩ := List.getElem_of_mem ht
        exact ih i t _ (by rw [List.getElem?_eq_getElem hi, e]) (List.getElem?_eq_getElem (by rw [← l]; exact hi))
  | @quant w vs t0 cs hw h0 ih =>
    exact noL_tup1 fun t ht => by
      rcases (show t = .str w ∨ t = tS vs ∨ t = t0 by simpa using ht) with rfl | rfl | rfl
      · exact noL_str
      · exact noL_tS vs
      · exact ih
  | @fix w n vs as t0 cs hw h0 ih =>
    exact noL_tup1 fun t ht => by
      rcases (show t = .str w ∨ t = .str n ∨ t = tS vs ∨ t = t0 ∨ t = tS as by simpa using ht) with rfl | rfl | rfl | rfl | rfl
      · exact noL_str
      · exact noL_str
      · exact noL_tS vs
      · exact ih
      · exact noL_tS as
  | @clo vs as t0 cs h0 ih =>
    exact noL_tup1 fun t ht => by
      rcases (show t = .str "tc" ∨ t = tS vs ∨ t = t0 ∨ t = tS as by simpa using ht) with rfl | rfl | rfl | rfl
      · exact noL_str
      · exact noL_tS vs
      · exact ih
      · exact noL_tS as
  | @gs n kw d t0 cs hd h0 ih =>
    exact noL_tup1 fun t ht => by
      rcases (show t = .str "guess" ∨ t = .str n ∨ t = d ∨ t = t0 by simpa using ht) with rfl | rfl | rfl | rfl
      · exact noL_str
      · exact noL_str
      · rcases hd with rfl | ⟨k, _, rfl, _⟩
        · exact noL_non
        · exact noL_int
      · exact ih
structure RdMR (P : Program) (w : World) (K : PySem.W.Frag) (mg : Str → Option Value) (base : Heap) : Prop where
  init : HasM P w K mg base 1 "Reader" "__init__" ["self", "text", "most_deep"] (spInit K)
  takes : HasM P w K mg base 1 "Reader" "takes" ["self", "sign"] (spTakes K)
  needs : HasMX (L2N.CX P w) P w K mg base 2 "Reader" "needs" ["self", "sign"] (spNeedsR K)
  word : HasM P w K mg base 1 "Reader" "word" ["self"] (spWord K)
  names : HasMX (L2N.CX P w) P w K mg base 3 "Reader" "names" ["self", "sign"] (spNamesR K)
  in_ : HasMX (L2N.CX P w) P w K mg base 1 "Reader" "goes_in" ["self"] (spInR K)
  out_ : HasM P w K mg base 1 "Reader" "goes_out" ["self"] (spOut K)
/-- t is read: the rest of the text stays -/
def spReadR (K : PySem.W.Frag) (n : Nat) : Sp := fun vs H Q E => ∃ (r : Addr) (z : Str) (cs : List Nat) (l : Nat), vs = [.ref r] ∧ RdR K H r z cs l ∧ Mid z ∧ l < n ∧
  (∀ (H' : Hp) (v : V) (t : PyData) (u rest : List Nat), RdR K H' r z rest l → Ki H H' → Dp K H' v t → Tx t u → cs = u ++ rest → Q v H') ∧ (∀ H' : Hp, Ki H H' → E (.ref (He.ga K "BadText")) none H')
def spRdrR (K : PySem.W.Frag) (n : Nat) (x : Str) : Sp := fun vs H Q E => ∃ (r : Addr) (z w : Str) (cs : List Nat) (l : Nat), vs = [.ref r, .str w] ∧ RdrW x w ∧ RdR K H r z cs l ∧ Mid z ∧ l < n ∧
  (∀ (H' : Hp) (v : V) (t : PyData) (u rest : List Nat), RdR K H' r z rest l → Ki H H' → Dp K H' v t → Tx t (Lc w ++ ([40] ++ u)) → cs = u ++ rest → Q v H') ∧ (∀ H' : Hp, Ki H H' → E (.ref (He.ga K "BadText")) none H')
def spAtomR (K : PySem.W.Frag) : Sp := fun vs H Q E => ∃ (r : Addr) (z w : Str) (cs : List Nat) (l : Nat), vs = [.ref r, .str w] ∧ RdR K H r z cs l ∧ Mid z ∧
  (∀ (H' : Hp) (v : V) (t : PyData) (u rest : List Nat), RdR K H' r z rest l → Ki H H' → Dp K H' v t → Tx t (Lc w ++ u) → cs = u ++ rest → Q v H') ∧ (∀ H' : Hp, Ki H H' → E (.ref (He.ga K "BadText")) none H')
section
variable {P : Program} {w : World} {K : PySem.W.Frag} {mg : Str → Option Value} {base : Heap}
theorem sc_rd_not : FnScope ["reader", "word", "body"] ["reader", "word"] (defScope (top 42)) := ⟨rfl, rfl, rfl, by decide +kernel, rfl, by decide +kernel, by decide +kernel⟩
theorem has_rd_notR {n : Nat} (D : Def K mg "_read_not" ["reader", "word"] (top 42)) (T : Txt mg) (RD : RdC K) (C1 : HasX (L2N.CX P w) P w K mg base (6 + 2 * n) "_read_formula" ["reader"] (spReadR K n)) (C : RdMR P w K mg base) :
    HasX (L2N.CX P w) P w K mg base (6 + 2 * n + 1) "_read_not" ["reader", "word"] (spRdrR K n "_read_not") := D.has fun f fd F => by
  obtain ⟨f1, fd1, G_read_formula, g_read_formula, k_read_formula, b_read_formula⟩ := C1
  obtain ⟨f2, fd2, M_needs, hm_needs, bm_needs⟩ := C.needs
  obtain ⟨f3, fd3, M_takes, hm_takes, bm_takes⟩ := C.takes
  obtain ⟨f4, fd4, M_names, hm_names, bm_names⟩ := C.names
  obtain ⟨f5, fd5, M_word, hm_word, bm_word⟩ := C.word
  refine F.ok sc_rd_not (fun vs H Q E h => ?_) (fun cdv A outer s H vs Q E hr h => ?_)
  · obtain ⟨r, z, w, cs, l, rfl, _⟩ := h; rfl
  · obtain ⟨r, z, w, cs, l, rfl, ⟨kd, ew, ek, k1, k2, k3⟩, rd, mid, ln, q, qe⟩ := h
    have big := mid.big
    have R_read_formula : Room (6 + 2 * n) _ := hr
    have RM_needs : Room 2 _ := hr.mono (Nat.le_trans (by decide) (Nat.le_add_right 6 (2 * n)))
    have RM_takes : Room 1 _ := hr.mono (Nat.le_trans (by decide) (Nat.le_add_right 6 (2 * n)))
    have RM_names : Room 3 _ := hr.mono (Nat.le_trans (by decide) (Nat.le_add_right 6 (2 * n)))
    have RM_word : Room 1 _ := hr.mono (Nat.le_trans (by decide) (Nat.le_add_right 6 (2 * n)))
    refine ⟨_, (pss_cons (ps_set (i := 2) sc_rd_not.nd rfl (Or.inl rfl) (pe_call G_read_formula R_read_formula (by rfl) g_read_formula k_read_formula b_read_formula .nil (L2N.passes_call (L2N.takes_of rfl rfl rfl rfl) (fun _ _ _ _ h => h)) (pa_cons (pv 0) pa_nil))) (pss_cons (ps_expr (pe_meth (pv 0) RD.cls hm_needs M_needs RM_needs bm_needs .nil (L2N.passes_call (L2N.takes_of rfl rfl rfl rfl) (fun _ _ _ _ h => h)) (pa_cons pe_str pa_nil))) (pss_one (ps_ret (pe_tup (pa_cons (pv 1) (pa_cons (pv 2) pa_nil))))))), ?_⟩
    have hw := (rdr_words kd k1 k2 k3).1 ek
    rw [ew] at hw
    clear ek ew k1 k2 k3
    subst hw
    refine ⟨_, rfl, r, z, cs, l, rfl, rd, mid, ln, fun H1 v1 t u rest rd1 k1 d1 tx e => ?_, qe⟩
    have rd1k := rd1
    obtain ⟨i1, dx1, h1, _, _⟩ := rd1
    refine ⟨_, rfl, r, dx1, _, rfl, h1, rfl, r, z, ")", _, l, rfl, rd1k, big, by decide +kernel, fun rest' e2 H2 rd2 k2 => ?_, fun H2 k2 => qe H2 (k1.trans k2)⟩
    refine ⟨_, rfl, _, rfl, (by show 2 ≤ sizeLine; decide), fun a na => ?_⟩
    have st := same_upd (o := .tup [.str "not", v1]) na
    exact q _ _ _ (u ++ [41]) rest' (rd2.same st) ((k1.trans k2).trans (.of st)) (.tup (SqT.of upd_same) (.cons (.str _) (.cons (Dp.same st (Dp.ki k2 d1)) .nil))) (.no tx) (by rw [e, e2, c_pc, List.append_assoc])
theorem sc_rd_quant : FnScope ["reader", "word", "variables", "body"] ["reader", "word"] (defScope (top 44)) := ⟨rfl, rfl, rfl, by decide +kernel, rfl, by decide +kernel, by decide +kernel⟩
theorem has_rd_quantR {n : Nat} (D : Def K mg "_read_quantified" ["reader", "word"] (top 44)) (T : Txt mg) (RD : RdC K) (C1 : HasX (L2N.CX P w) P w K mg base (6 + 2 * n) "_read_formula" ["reader"] (spReadR K n)) (C : RdMR P w K mg base) :
    HasX (L2N.CX P w) P w K mg base (6 + 2 * n + 1) "_read_quantified" ["reader", "word"] (spRdrR K n "_read_quantified") := D.has fun f fd F => by
  obtain ⟨f1, fd1, G_read_formula, g_read_formula, k_read_formula, b_read_formula⟩ := C1
  obtain ⟨f2, fd2, M_needs, hm_needs, bm_needs⟩ := C.needs
  obtain ⟨f3, fd3, M_takes, hm_takes, bm_takes⟩ := C.takes
  obtain ⟨f4, fd4, M_names, hm_names, bm_names⟩ := C.names
  obtain ⟨f5, fd5, M_word, hm_word, bm_word⟩ := C.word
  refine F.ok sc_rd_quant (fun vs H Q E h => ?_) (fun cdv A outer s H vs Q E hr h => ?_)
  · obtain ⟨r, z, w, cs, l, rfl, _⟩ := h; rfl
  · obtain ⟨r, z, w, cs, l, rfl, ⟨kd, ew, ek, k1, k2, k3⟩, rd, mid, ln, q, qe⟩ := h
    have big := mid.big
    have R_read_formula : Room (6 + 2 * n) _ := hr
    have RM_needs : Room 2 _ := hr.mono (Nat.le_trans (by decide) (Nat.le_add_right 6 (2 * n)))
    have RM_takes : Room 1 _ := hr.mono (Nat.le_trans (by decide) (Nat.le_add_right 6 (2 * n)))
    have RM_names : Room 3 _ := hr.mono (Nat.le_trans (by decide) (Nat.le_add_right 6 (2 * n)))
    have RM_word : Room 1 _ := hr.mono (Nat.le_trans (by decide) (Nat.le_add_right 6 (2 * n)))
    refine ⟨_, (pss_cons (ps_set (i := 2) sc_rd_quant.nd rfl (Or.inl rfl) (pe_meth (pv 0) RD.cls hm_names M_names RM_names bm_names .nil (L2N.passes_call (L2N.takes_of rfl rfl rfl rfl) (fun _ _ _ _ h => h)) (pa_cons pe_str pa_nil))) (pss_cons (ps_set (i := 3) sc_rd_quant.nd rfl (Or.inl rfl) (pe_call G_read_formula R_read_formula (by rfl) g_read_formula k_read_formula b_read_formula .nil (L2N.passes_call (L2N.takes_of rfl rfl rfl rfl) (fun _ _ _ _ h => h)) (pa_cons (pv 0) pa_nil))) (pss_cons (ps_expr (pe_meth (pv 0) RD.cls hm_needs M_needs RM_needs bm_needs .nil (L2N.passes_call (L2N.takes_of rfl rfl rfl rfl) (fun _ _ _ _ h => h)) (pa_cons pe_str pa_nil))) (pss_one (ps_ret (pe_tup (pa_cons (pv 1) (pa_cons (pv 2) (pa_cons (pv 3) pa_nil))))))))), ?_⟩
    have hw := (rdr_words kd k1 k2 k3).2.2.1 ek
    rw [ew] at hw
    clear ek ew k1 k2 k3
    have rdk := rd
    obtain ⟨i0, dx0, h0, _, _⟩ := rd
    refine ⟨_, rfl, r, dx0, _, rfl, h0, rfl, r, z, ": ", cs, l, rfl, rdk, mid, by decide +kernel, fun vs rest0 nv e0 H0 tv rd0 k0 dv => ?_, qe⟩
    refine ⟨_, rfl, r, z, rest0, l, rfl, rd0, mid, ln, fun H1 v1 t u rest rd1 k1 d1 tx e => ?_, fun H1 k1 => qe H1 (k0.trans k1)⟩
    have rd1k := rd1
    obtain ⟨i1, dx1, h1, _, _⟩ := rd1
    refine ⟨_, rfl, r, dx1, _, rfl, h1, rfl, r, z, ")", _, l, rfl, rd1k, big, by decide +kernel, fun rest' e2 H2 rd2 k2 => ?_, fun H2 k2 => qe H2 ((k0.trans k1).trans k2)⟩
    refine ⟨_, rfl, _, rfl, _, rfl, (by show 3 ≤ sizeLine; decide), fun a na => ?_⟩
    have st := same_upd (o := .tup [.str w, tv, v1]) na
    exact q _ _ _ (spL vs ++ ([58, 32] ++ (u ++ [41]))) rest' (rd2.same st) (((k0.trans k1).trans k2).trans (.of st)) (.tup (SqT.of upd_same) (.cons (.str _) (.cons (Dp.same st (Dp.ki (k1.trans k2) dv)) (.cons (Dp.same st (Dp.ki k2 d1)) .nil)))) (.quant hw tx) (by rw [e0, e, e2, c_pc, c_co]; simp only [List.append_assoc])
theorem sc_rd_clo : FnScope ["reader", "word", "variables", "body"] ["reader", "word"] (defScope (top 46)) := ⟨rfl, rfl, rfl, by decide +kernel, rfl, by decide +kernel, by decide +kernel⟩
theorem has_rd_cloR {n : Nat} (D : Def K mg "_read_closure" ["reader", "word"] (top 46)) (T : Txt mg) (RD : RdC K) (C1 : HasX (L2N.CX P w) P w K mg base (6 + 2 * n) "_read_formula" ["reader"] (spReadR K n)) (C : RdMR P w K mg base) :
    HasX (L2N.CX P w) P w K mg base (6 + 2 * n + 1) "_read_closure" ["reader", "word"] (spRdrR K n "_read_closure") := D.has fun f fd F => by
  obtain ⟨f1, fd1, G_read_formula, g_read_formula, k_read_formula, b_read_formula⟩ := C1
  obtain ⟨f2, fd2, M_needs, hm_needs, bm_needs⟩ := C.needs
  obtain ⟨f3, fd3, M_takes, hm_takes, bm_takes⟩ := C.takes
  obtain ⟨f4, fd4, M_names, hm_names, bm_names⟩ := C.names
  obtain ⟨f5, fd5, M_word, hm_word, bm_word⟩ := C.word
  refine F.ok sc_rd_clo (fun vs H Q E h => ?_) (fun cdv A outer s H vs Q E hr h => ?_)
  · obtain ⟨r, z, w, cs, l, rfl, _⟩ := h; rfl
  · obtain ⟨r, z, w, cs, l, rfl, ⟨kd, ew, ek, k1, k2, k3⟩, rd, mid, ln, q, qe⟩ := h
    have big := mid.big
    have R_read_formula : Room (6 + 2 * n) _ := hr
    have RM_needs : Room 2 _ := hr.mono (Nat.le_trans (by decide) (Nat.le_add_right 6 (2 * n)))
    have RM_takes : Room 1 _ := hr.mono (Nat.le_trans (by decide) (Nat.le_add_right 6 (2 * n)))
    have RM_names : Room 3 _ := hr.mono (Nat.le_trans (by decide) (Nat.le_add_right 6 (2 * n)))
    have RM_word : Room 1 _ := hr.mono (Nat.le_trans (by decide) (Nat.le_add_right 6 (2 * n)))
    refine ⟨_, (pss_cons (ps_set (i := 2) sc_rd_clo.nd rfl (Or.inl rfl) (pe_meth (pv 0) RD.cls hm_names M_names RM_names bm_names .nil (L2N.passes_call (L2N.takes_of rfl rfl rfl rfl) (fun _ _ _ _ h => h)) (pa_cons pe_str pa_nil))) (pss_cons (ps_set (i := 3) sc_rd_clo.nd rfl (Or.inl rfl) (pe_call G_read_formula R_read_formula (by rfl) g_read_formula k_read_formula b_read_formula .nil (L2N.passes_call (L2N.takes_of rfl rfl rfl rfl) (fun _ _ _ _ h => h)) (pa_cons (pv 0) pa_nil))) (pss_cons (ps_expr (pe_meth (pv 0) RD.cls hm_needs M_needs RM_needs bm_needs .nil (L2N.passes_call (L2N.takes_of rfl rfl rfl rfl) (fun _ _ _ _ h => h)) (pa_cons pe_str pa_nil))) (pss_one (ps_ret (pe_tup (pa_cons (pv 1) (pa_cons (pv 2) (pa_cons (pv 3) (pa_cons (pe_meth (pv 0) RD.cls hm_names M_names RM_names bm_names .nil (L2N.passes_call (L2N.takes_of rfl rfl rfl rfl) (fun _ _ _ _ h => h)) (pa_cons pe_str pa_nil)) pa_nil)))))))))), ?_⟩
    have hw := (rdr_words kd k1 k2 k3).2.2.2.2.1 ek
    rw [ew] at hw
    clear ek ew k1 k2 k3
    subst hw
    have rdk := rd
    obtain ⟨i0, dx0, h0, _, _⟩ := rd
    refine ⟨_, rfl, r, dx0, _, rfl, h0, rfl, r, z, ": ", cs, l, rfl, rdk, mid, by decide +kernel, fun vs rest0 nv e0 H0 tv rd0 k0 dv => ?_, qe⟩
    refine ⟨_, rfl, r, z, rest0, l, rfl, rd0, mid, ln, fun H1 v1 t u rest rd1 k1 d1 tx e => ?_, fun H1 k1 => qe H1 (k0.trans k1)⟩
    have rd1k := rd1
    obtain ⟨i1, dx1, h1, _, _⟩ := rd1
    refine ⟨_, rfl, r, dx1, _, rfl, h1, rfl, r, z, ")(", _, l, rfl, rd1k, big, by decide +kernel, fun rest' e2 H2 rd2 k2 => ?_, fun H2 k2 => qe H2 ((k0.trans k1).trans k2)⟩
    have rd2k := rd2
    obtain ⟨i2, dx2, h2, _, _⟩ := rd2
    refine ⟨_, rfl, _, rfl, _, rfl, _, rfl, r, dx2, _, rfl, h2, rfl, r, z, ")", rest', l, rfl, rd2k, mid, by decide +kernel, fun as rest3 na e3 H3 ta rd3 k3 da => ⟨(by show 4 ≤ sizeLine; decide), fun a nn => ?_⟩, fun H3 k3 => qe H3 (((k0.trans k1).trans k2).trans k3)⟩
    have st := same_upd (o := .tup [.str "tc", tv, v1, ta]) nn
    exact q _ _ _ (spL vs ++ ([58, 32] ++ (u ++ ([41, 40] ++ (spL as ++ [41]))))) rest3 (rd3.same st) ((((k0.trans k1).trans k2).trans k3).trans (.of st)) (.tup (SqT.of upd_same) (.cons (.str _) (.cons (Dp.same st (Dp.ki ((k1.trans k2).trans k3) dv)) (.cons (Dp.same st (Dp.ki (k2.trans k3) d1)) (.cons (Dp.same st da) .nil))))) (.clo tx) (by rw [e0, e, e2, e3, c_pc, c_pp, c_co]; simp only [List.append_assoc])
theorem sc_rd_fix : FnScope ["reader", "word", "names", "body"] ["reader", "word"] (defScope (top 45)) := ⟨rfl, rfl, rfl, by decide +kernel, rfl, by decide +kernel, by decide +kernel⟩
theorem has_rd_fixR {n : Nat} (D : Def K mg "_read_fixed_point" ["reader", "word"] (top 45)) (T : Txt mg) (RD : RdC K) (C1 : HasX (L2N.CX P w) P w K mg base (6 + 2 * n) "_read_formula" ["reader"] (spReadR K n)) (C : RdMR P w K mg base) :
    HasX (L2N.CX P w) P w K mg base (6 + 2 * n + 1) "_read_fixed_point" ["reader", "word"] (spRdrR K n "_read_fixed_point") := D.has fun f fd F => by
  obtain ⟨f1, fd1, G_read_formula, g_read_formula, k_read_formula, b_read_formula⟩ := C1
  obtain ⟨f2, fd2, M_needs, hm_needs, bm_needs⟩ := C.needs
  obtain ⟨f3, fd3, M_takes, hm_takes, bm_takes⟩ := C.takes
  obtain ⟨f4, fd4, M_names, hm_names, bm_names⟩ := C.names
  obtain ⟨f5, fd5, M_word, hm_word, bm_word⟩ := C.word
  refine F.ok sc_rd_fix (fun vs H Q E h => ?_) (fun cdv A outer s H vs Q E hr h => ?_)
  · obtain ⟨r, z, w, cs, l, rfl, _⟩ := h; rfl
  · obtain ⟨r, z, w, cs, l, rfl, ⟨kd, ew, ek, k1, k2, k3⟩, rd, mid, ln, q, qe⟩ := h
    have big := mid.big
    have R_read_formula : Room (6 + 2 * n) _ := hr
    have RM_needs : Room 2 _ := hr.mono (Nat.le_trans (by decide) (Nat.le_add_right 6 (2 * n)))
    have RM_takes : Room 1 _ := hr.mono (Nat.le_trans (by decide) (Nat.le_add_right 6 (2 * n)))
    have RM_names : Room 3 _ := hr.mono (Nat.le_trans (by decide) (Nat.le_add_right 6 (2 * n)))
    have RM_word : Room 1 _ := hr.mono (Nat.le_trans (by decide) (Nat.le_add_right 6 (2 * n)))
    refine ⟨_, (pss_cons (ps_set (i := 2) sc_rd_fix.nd rfl (Or.inl rfl) (pe_meth (pv 0) RD.cls hm_names M_names RM_names bm_names .nil (L2N.passes_call (L2N.takes_of rfl rfl rfl rfl) (fun _ _ _ _ h => h)) (pa_cons pe_str pa_nil))) (pss_cons (ps_set (i := 3) sc_rd_fix.nd rfl (Or.inl rfl) (pe_call G_read_formula R_read_formula (by rfl) g_read_formula k_read_formula b_read_formula .nil (L2N.passes_call (L2N.takes_of rfl rfl rfl rfl) (fun _ _ _ _ h => h)) (pa_cons (pv 0) pa_nil))) (pss_cons (ps_expr (pe_meth (pv 0) RD.cls hm_needs M_needs RM_needs bm_needs .nil (L2N.passes_call (L2N.takes_of rfl rfl rfl rfl) (fun _ _ _ _ h => h)) (pa_cons pe_str pa_nil))) (pss_one (ps_ret (pe_tup (pa_cons (pv 1) (pa_cons (pe_ix ix_tup (pv 2) pe_int (fun _ _ => rfl)) (pa_cons (pe_slice sl_tup (pv 2) (po_some pe_int) po_none) (pa_cons (pv 3) (pa_cons (pe_meth (pv 0) RD.cls hm_names M_names RM_names bm_names .nil (L2N.passes_call (L2N.takes_of rfl rfl rfl rfl) (fun _ _ _ _ h => h)) (pa_cons pe_str pa_nil)) pa_nil))))))))))), ?_⟩
    have hw := (rdr_words kd k1 k2 k3).2.2.2.1 ek
    rw [ew] at hw
    clear ek ew k1 k2 k3
    have rdk := rd
    obtain ⟨i0, dx0, h0, _, _⟩ := rd
    refine ⟨_, rfl, r, dx0, _, rfl, h0, rfl, r, z, ": ", cs, l, rfl, rdk, mid, by decide +kernel, fun ns rest0 nv e0 H0 tv rd0 k0 dv => ?_, qe⟩
    obtain ⟨m, vs, rfl⟩ : ∃ m vs, ns = m :: vs := by cases ns with | nil => exact absurd rfl nv | cons m vs => exact ⟨m, vs, rfl⟩
    refine ⟨_, rfl, r, z, rest0, l, rfl, rd0, mid, ln, fun H1 v1 t u rest rd1 k1 d1 tx e => ?_, fun H1 k1 => qe H1 (k0.trans k1)⟩
    have rd1k := rd1
    obtain ⟨i1, dx1, h1, _, _⟩ := rd1
    refine ⟨_, rfl, r, dx1, _, rfl, h1, rfl, r, z, ")(", _, l, rfl, rd1k, big, by decide +kernel, fun rest' e2 H2 rd2 k2 => ?_, fun H2 k2 => qe H2 ((k0.trans k1).trans k2)⟩
    obtain ⟨t0, rfl, ht0⟩ := tS_inv (Dp.ki (k1.trans k2) dv)
    refine ⟨_, rfl, _, rfl, t0, _, _, _, rfl, rfl, ht0, atI_nat (j := 0) rfl, _, rfl, 1, rfl, t0, _, rfl, ht0, fun e => absurd e.1 ?_, fun p np => ?_⟩
    · show ¬ (HT.sIx ((m :: vs).map V.str).length 0 (some ((1 : Nat) : Int)) = 0)
      rw [HT.sIx_nat, List.length_map, List.length_cons]
      omega
    have sp := same_upd (o := .tup (cutV ((m :: vs).map V.str) (some 1) none)) np
    have hp : SqT K (upd H2 p (.tup (cutV ((m :: vs).map V.str) (some 1) none))) p (vs.map V.str) := by
      rw [cut_tl]
      exact SqT.of upd_same
    have rd2p := rd2.same sp
    have rd2k := rd2p
    obtain ⟨i2, dx2, h2, _, _⟩ := rd2p
    refine ⟨_, rfl, _, rfl, r, dx2, _, rfl, h2, rfl, r, z, ")", rest', l, rfl, rd2k, mid, by decide +kernel, fun as rest3 na e3 H3 ta rd3 k3 da => ⟨(by show 5 ≤ sizeLine; decide), fun a nn => ?_⟩, fun H3 k3 => qe H3 ((((k0.trans k1).trans k2).trans (.of sp)).trans k3)⟩
    have st := same_upd (o := .tup [.str w, .str m, .ref p, v1, ta]) nn
    exact q _ _ _ (spL (m :: vs) ++ ([58, 32] ++ (u ++ ([41, 40] ++ (spL as ++ [41]))))) rest3 (rd3.same st) (((((k0.trans k1).trans k2).trans (.of sp)).trans k3).trans (.of st)) (.tup (SqT.of upd_same) (.cons (.str _) (.cons (.str _) (.cons (tS_of (Same.sqt st (SqT.ki k3 hp))) (.cons (Dp.same st (Dp.ki k3 (Dp.same sp (Dp.ki k2 d1)))) (.cons (Dp.same st da) .nil)))))) (.fix hw tx) (by rw [e0, e, e2, e3, c_pc, c_pp, c_co]; simp only [List.append_assoc])
theorem sc_rd_guess : FnScope ["reader", "word", "name", "arity", "body"] ["reader", "word"] (defScope (top 47)) := ⟨rfl, rfl, rfl, by decide +kernel, rfl, by decide +kernel, by decide +kernel⟩
theorem has_rd_guessR {n : Nat} (D : Def K mg "_read_guess" ["reader", "word"] (top 47)) (T : Txt mg) (RD : RdC K) (C1 : HasX (L2N.CX P w) P w K mg base (6 + 2 * n) "_read_formula" ["reader"] (spReadR K n)) (C : RdMR P w K mg base) (GA : KTab K w mg "GUESS_ARITIES" [("0", .int 0), ("1", .int 1), ("2", .int 2), ("3", .int 3)]) (GK : AllK K "GUESS_ARITIES" ["0", "1", "2", "3"]) :
    HasX (L2N.CX P w) P w K mg base (6 + 2 * n + 1) "_read_guess" ["reader", "word"] (spRdrR K n "_read_guess") := D.has fun f fd F => by
  obtain ⟨f1, fd1, G_read_formula, g_read_formula, k_read_formula, b_read_formula⟩ := C1
  obtain ⟨f2, fd2, M_needs, hm_needs, bm_needs⟩ := C.needs
  obtain ⟨f3, fd3, M_takes, hm_takes, bm_takes⟩ := C.takes
  obtain ⟨f4, fd4, M_names, hm_names, bm_names⟩ := C.names
  obtain ⟨f5, fd5, M_word, hm_word, bm_word⟩ := C.word
  have c_GUESS_ARITIES := GA.g
  obtain ⟨es, nn0, D_GUESS_ARITIES⟩ := GA.d
  refine F.ok sc_rd_guess (fun vs H Q E h => ?_) (fun cdv A outer s H vs Q E hr h => ?_)
  · obtain ⟨r, z, w, cs, l, rfl, _⟩ := h; rfl
  · obtain ⟨r, z, w, cs, l, rfl, ⟨kd, ew, ek, k1, k2, k3⟩, rd, mid, ln, q, qe⟩ := h
    have big := mid.big
    have R_read_formula : Room (6 + 2 * n) _ := hr
    have RM_needs : Room 2 _ := hr.mono (Nat.le_trans (by decide) (Nat.le_add_right 6 (2 * n)))
    have RM_takes : Room 1 _ := hr.mono (Nat.le_trans (by decide) (Nat.le_add_right 6 (2 * n)))
    have RM_names : Room 3 _ := hr.mono (Nat.le_trans (by decide) (Nat.le_add_right 6 (2 * n)))
    have RM_word : Room 1 _ := hr.mono (Nat.le_trans (by decide) (Nat.le_add_right 6 (2 * n)))
    refine ⟨_, (pss_cons (ps_set (i := 2) sc_rd_guess.nd rfl (Or.inl rfl) (pe_meth0 (pv 0) RD.cls hm_word M_word RM_word bm_word .nil pass0)) (pss_cons (ps_expr (pe_meth (pv 0) RD.cls hm_needs M_needs RM_needs bm_needs .nil (L2N.passes_call (L2N.takes_of rfl rfl rfl rfl) (fun _ _ _ _ h => h)) (pa_cons pe_str pa_nil))) (pss_cons (ps_set (i := 3) sc_rd_guess.nd rfl (Or.inl rfl) (pe_kget (pe_glob (v := .ref (He.ga K "GUESS_ARITIES")) (by rfl) c_GUESS_ARITIES rfl) (pe_meth0 (pv 0) RD.cls hm_word M_word RM_word bm_word .nil pass0) ⟨rfl, rfl, rfl, rfl⟩)) (pss_cons (ps_expr (pe_meth (pv 0) RD.cls hm_needs M_needs RM_needs bm_needs .nil (L2N.passes_call (L2N.takes_of rfl rfl rfl rfl) (fun _ _ _ _ h => h)) (pa_cons pe_str pa_nil))) (pss_cons (ps_set (i := 4) sc_rd_guess.nd rfl (Or.inl rfl) (pe_call G_read_formula R_read_formula (by rfl) g_read_formula k_read_formula b_read_formula .nil (L2N.passes_call (L2N.takes_of rfl rfl rfl rfl) (fun _ _ _ _ h => h)) (pa_cons (pv 0) pa_nil))) (pss_cons (ps_expr (pe_meth (pv 0) RD.cls hm_needs M_needs RM_needs bm_needs .nil (L2N.passes_call (L2N.takes_of rfl rfl rfl rfl) (fun _ _ _ _ h => h)) (pa_cons pe_str pa_nil))) (pss_one (ps_ret (pe_tup (pa_cons (pv 1) (pa_cons (pv 2) (pa_cons (pv 3) (pa_cons (pv 4) pa_nil))))))))))))), ?_⟩
    have hw := (rdr_words kd k1 k2 k3).2.2.2.2.2 ek
    rw [ew] at hw
    clear ek ew k1 k2 k3
    subst hw
    have rdk := rd
    obtain ⟨i0, dx0, h0, _, _⟩ := rd
    obtain ⟨m, rest0, rfl, an0, st0⟩ := word_split cs
    refine ⟨_, rfl, r, dx0, _, rfl, h0, rfl, r, z, m, rest0, l, rfl, rdk, big, an0, st0, fun H0 rd0 k0 => ?_⟩
    have rd0k := rd0
    obtain ⟨i0', dx0', h0', _, _⟩ := rd0
    refine ⟨_, rfl, r, dx0', _, rfl, h0', rfl, r, z, " ", rest0, l, rfl, rd0k, big, by decide +kernel, fun rest1 e1 H2 rd2 k2 => ?_, fun H2 k2 => qe H2 (k0.trans k2)⟩
    have rd2k := rd2
    obtain ⟨i2, dx2, h2, _, _⟩ := rd2
    obtain ⟨kw, rest2, rfl, an2, st2⟩ := word_split rest1
    obtain ⟨u, dv, gd, en, ru, gd_, hd⟩ : ∃ (u : Option Value) (dv : V) (gd : PyData), PySem.W.nsIn K (He.ga K "GUESS_ARITIES") kw = some u ∧ RelV dv (u.getD .none) ∧ (∀ H : Hp, Dp K H dv gd) ∧ (gd = .none ∨ ∃ k : Nat, k ≤ 3 ∧ gd = .int (k : Nat) ∧ Lc kw = [48 + k]) := by
      by_cases hk : kw ∈ (["0", "1", "2", "3"] : List Str)
      · obtain ⟨k, k3, ek, mem⟩ : ∃ k : Nat, k ≤ 3 ∧ Lc kw = [48 + k] ∧ (kw, V.int (k : Nat)) ∈ ([("0", .int 0), ("1", .int 1), ("2", .int 2), ("3", .int 3)] : List (Str × V)) := by
          rcases (show kw = "0" ∨ kw = "1" ∨ kw = "2" ∨ kw = "3" by simpa using hk) with rfl | rfl | rfl | rfl
          · exact ⟨0, by decide, by decide +kernel, by decide +kernel⟩
          · exact ⟨1, by decide, by decide +kernel, by decide +kernel⟩
          · exact ⟨2, by decide, by decide +kernel, by decide +kernel⟩
          · exact ⟨3, by decide, by decide +kernel, by decide +kernel⟩
        obtain ⟨u, e2, ru⟩ := GA.there _ _ mem
        exact ⟨some u, .int (k : Nat), .int (k : Nat), e2, ru, fun H => .int _, .inr ⟨k, k3, rfl, ek⟩⟩
      · exact ⟨none, .non, .none, GK kw hk, rfl, fun H => .non, .inl rfl⟩
    refine ⟨_, es, nn0, rfl, D_GUESS_ARITIES, _, rfl, r, dx2, _, rfl, h2, rfl, r, z, kw, rest2, l, rfl, rd2k, big, an2, st2, fun H3 rd3 k3 => ⟨_, _, dv, rfl, en, ru, ?_⟩⟩
    have rd3k := rd3
    obtain ⟨i3, dx3, h3, _, _⟩ := rd3
    refine ⟨_, rfl, r, dx3, _, rfl, h3, rfl, r, z, ": ", rest2, l, rfl, rd3k, big, by decide +kernel, fun rest3 e3 H4 rd4 k4 => ?_, fun H4 k4 => qe H4 (((k0.trans k2).trans k3).trans k4)⟩
    refine ⟨_, rfl, r, z, rest3, l, rfl, rd4, mid, ln, fun H5 v5 t u5 rest5 rd5 k5 d5 tx e5 => ?_, fun H5 k5 => qe H5 ((((k0.trans k2).trans k3).trans k4).trans k5)⟩
    have rd5k := rd5
    obtain ⟨i5, dx5, h5, _, _⟩ := rd5
    refine ⟨_, rfl, r, dx5, _, rfl, h5, rfl, r, z, ")", rest5, l, rfl, rd5k, big, by decide +kernel, fun rest6 e6 H6 rd6 k6 => ?_, fun H6 k6 => qe H6 (((((k0.trans k2).trans k3).trans k4).trans k5).trans k6)⟩
    refine ⟨_, rfl, _, rfl, _, rfl, _, rfl, (by show 4 ≤ sizeLine; decide), fun a na => ?_⟩
    have st := same_upd (o := .tup [.str "guess", .str m, dv, v5]) na
    exact q _ _ _ (Lc m ++ ([32] ++ (Lc kw ++ ([58, 32] ++ (u5 ++ [41]))))) rest6 (rd6.same st) ((((((k0.trans k2).trans k3).trans k4).trans k5).trans k6).trans (.of st)) (.tup (SqT.of upd_same) (.cons (.str _) (.cons (.str _) (.cons (gd_ _) (.cons (Dp.same st (Dp.ki k6 d5)) .nil))))) (.gs hd tx) (by rw [e1, e3, e5, e6, c_pc, c_co, c_sp]; simp only [List.append_assoc])
theorem sc_rd_join : FnScope ["reader", "word", "found"] ["reader", "word"] (defScope (top 43)) := ⟨rfl, rfl, rfl, by decide +kernel, rfl, by decide +kernel, by decide +kernel⟩
theorem has_rd_joinR {n : Nat} (D : Def K mg "_read_joined" ["reader", "word"] (top 43)) (T : Txt mg) (RD : RdC K) (C1 : HasX (L2N.CX P w) P w K mg base (6 + 2 * n) "_read_formula" ["reader"] (spReadR K n)) (C : RdMR P w K mg base) :
    HasX (L2N.CX P w) P w K mg base (6 + 2 * n + 1) "_read_joined" ["reader", "word"] (spRdrR K n "_read_joined") := D.has fun f fd F => by
  obtain ⟨f1, fd1, G_read_formula, g_read_formula, k_read_formula, b_read_formula⟩ := C1
  obtain ⟨f2, fd2, M_needs, hm_needs, bm_needs⟩ := C.needs
  obtain ⟨f3, fd3, M_takes, hm_takes, bm_takes⟩ := C.takes
  obtain ⟨f4, fd4, M_names, hm_names, bm_names⟩ := C.names
  obtain ⟨f5, fd5, M_word, hm_word, bm_word⟩ := C.word
  refine F.ok sc_rd_join (fun vs H Q E h => ?_) (fun cdv A outer s H vs Q E hr h => ?_)
  · obtain ⟨r, z, w, cs, l, rfl, _⟩ := h; rfl
  · obtain ⟨r, z, w, cs, l, rfl, ⟨kd, ew, ek, k1, k2, k3⟩, rd, mid, ln, q, qe⟩ := h
    have big := mid.big
    have R_read_formula : Room (6 + 2 * n) _ := hr
    have RM_needs : Room 2 _ := hr.mono (Nat.le_trans (by decide) (Nat.le_add_right 6 (2 * n)))
    have RM_takes : Room 1 _ := hr.mono (Nat.le_trans (by decide) (Nat.le_add_right 6 (2 * n)))
    have RM_names : Room 3 _ := hr.mono (Nat.le_trans (by decide) (Nat.le_add_right 6 (2 * n)))
    have RM_word : Room 1 _ := hr.mono (Nat.le_trans (by decide) (Nat.le_add_right 6 (2 * n)))
    refine ⟨_, (pss_cons (ps_set (i := 2) sc_rd_join.nd rfl (Or.inl rfl) (pe_lst (pa_cons (pe_call G_read_formula R_read_formula (by rfl) g_read_formula k_read_formula b_read_formula .nil (L2N.passes_call (L2N.takes_of rfl rfl rfl rfl) (fun _ _ _ _ h => h)) (pa_cons (pv 0) pa_nil)) pa_nil))) (pss_cons (ps_while (passes_of rfl) (pt_val (pe_meth (pv 0) RD.cls hm_takes M_takes RM_takes bm_takes .nil pass0 (pa_cons pe_str pa_nil))) (pss_one (ps_expr (pe_bm PySem.F.plainAttrs_list PySem.F.slot_list_append PySem.F.type_list_append mt_append (pv 2) (pa_cons (pe_call G_read_formula R_read_formula (by rfl) g_read_formula k_read_formula b_read_formula .nil (L2N.passes_call (L2N.takes_of rfl rfl rfl rfl) (fun _ _ _ _ h => h)) (pa_cons (pv 0) pa_nil)) pa_nil))))) (pss_cons (ps_expr (pe_meth (pv 0) RD.cls hm_needs M_needs RM_needs bm_needs .nil (L2N.passes_call (L2N.takes_of rfl rfl rfl rfl) (fun _ _ _ _ h => h)) (pa_cons pe_str pa_nil))) (pss_one (ps_ret (pe_tup (pa_cons (pv 1) (pa_cons (pe_callTy call_tuple_of (by rfl) T.n_tuple (by decide +kernel) (pa_cons (pv 2) pa_nil)) pa_nil)))))))), ?_⟩
    have hw := (rdr_words kd k1 k2 k3).2.1 ek
    rw [ew] at hw
    clear ek ew k1 k2 k3
    refine ⟨_, rfl, r, z, cs, l, rfl, rd, mid, ln, fun H1 v1 t0 u0 rest0 rd1 k1 d1 tx0 e0 => ⟨(by show 1 ≤ sizeLine; decide), fun p np => ?_⟩, qe⟩
    have cl := rd.len
    have sn := same_upd (o := .lst [v1]) np
    have np0 := Ki.gone k1 np
    refine ⟨fun m σ H2 => ∃ (ts : List PyData) (css : List (List Nat)) (ws : List V) (rest : List Nat), ts ≠ [] ∧ ts.length = css.length ∧ (∀ (i : Nat) t u, ts[i]? = some t → css[i]? = some u → Tx t u) ∧ cs = cmL css ++ rest ∧ m = rest.length ∧ σ = [some (.ref r), some (.str w), some (.ref p)] ∧ H2 p = some (.lst ws) ∧ DpAll K H2 ws ts ∧ RdR K H2 r z rest l ∧ Ki H H2,
      ⟨rest0.length, [t0], [u0], [v1], rest0, (fun z => nomatch z), rfl, (fun i t u h1 h2 => by
        cases i with
        | zero => cases h1; cases h2; exact tx0
        | succ i => cases h1), e0, rfl, rfl, upd_same, .cons (Dp.same sn d1) .nil, rd1.same sn, k1.trans (.of sn)⟩, ?_⟩
    rintro m σ H2 ⟨ts, css, ws, rest, ne, lt, txs, ea, rfl, rfl, hp2, dw2, rd2, k2⟩
    have rd2k := rd2
    obtain ⟨i2, dx2, h2, _, _⟩ := rd2
    have nc : css ≠ [] := fun z => ne (List.eq_nil_of_length_eq_zero (by rw [lt, z]; rfl))
    refine ⟨_, rfl, r, dx2, _, rfl, h2, rfl, r, z, ", ", _, l, rfl, rd2k, big, by decide +kernel, fun _ => ⟨_, rfl, iteF ?_⟩, fun rest' e H3 rd3 k3 => ⟨_, rfl, iteT ?_⟩⟩
    · refine ⟨_, rfl, r, dx2, _, rfl, h2, rfl, r, z, ")", rest, l, rfl, rd2k, big, by decide +kernel, fun rest' e3 H3 rd3 k3 => ?_, fun H3 k3 => qe H3 (k2.trans k3)⟩
      have hp3 := Ki.lst k3 hp2
      refine ⟨_, rfl, _, rfl, p, _, rfl, .inl ⟨SqL.of hp3, fun a na => ⟨(by show 2 ≤ sizeLine; decide), fun b nb => ?_⟩⟩⟩
      have st := same_upd (o := .tup ws) na
      have st2 := same_upd (o := .tup [.str w, .ref a]) nb
      have ss := st.trans st2
      exact q _ _ _ (cmL css ++ [41]) rest' (rd3.same ss) ((k2.trans k3).trans (.of ss)) (.tup (SqT.of upd_same) (.cons (.str _) (.cons (.tup (Same.sqt st2 (SqT.of upd_same)) (DpAll.same ss (DpAll.ki k3 dw2))) .nil))) (.join hw lt ne txs) (by rw [ea, e3, c_pc, List.append_assoc])
    · have hp3 := Ki.lst k3 hp2
      have el := congrArg List.length ea
      rw [List.length_append] at el
      refine ⟨fun σ' H' => ∃ m', m' < rest.length ∧ ∃ (ts : List PyData) (css : List (List Nat)) (ws : List V) (rest : List Nat), ts ≠ [] ∧ ts.length = css.length ∧ (∀ (i : Nat) t u, ts[i]? = some t → css[i]? = some u → Tx t u) ∧ cs = cmL css ++ rest ∧ m' = rest.length ∧ σ' = [some (.ref r), some (.str w), some (.ref p)] ∧ H' p = some (.lst ws) ∧ DpAll K H' ws ts ∧ RdR K H' r z rest l ∧ Ki H H', fun σ' H' h => h, ?_⟩
      refine ⟨_, rfl, .inl ⟨rfl, _, SqL.of hp3⟩, _, rfl, r, z, rest', l, rfl, rd3, mid, ln, fun H4 v4 t4 u4 rest4 rd4 k4 d4 tx4 e4 => ?_, fun H4 k4 => qe H4 ((k2.trans k3).trans k4)⟩
      have hp4 := Ki.lst k4 hp3
      have dw4 := DpAll.ki (k3.trans k4) dw2
      have lw := DpAll.length dw2
      have a1 := cmL_many css
      have a2 : z.length ≤ 90000 := mid
      refine ⟨p, _, _, rfl, rfl, hp4, mid_fit (by omega), ?_⟩
      refine ⟨rest4.length, ?_, ts ++ [t4], css ++ [u4], ws ++ [v4], rest4, by simp, by rw [List.length_append, List.length_append, lt]; rfl, fun i t u h1 h2 => ?_, ?_, rfl, rfl, upd_same, ?_, rd4.upd (rd4.nl hp4), Ki.own (k2.trans (k3.trans k4)) np0⟩
      · rw [e, e4, c_cm, List.length_append, List.length_append]
        show _ < 2 + _
        omega
      · by_cases il : i < ts.length
        · rw [List.getElem?_append_left il] at h1
          rw [List.getElem?_append_left (by rw [← lt]; exact il)] at h2
          exact txs i t u h1 h2
        · rw [List.getElem?_append_right (by omega)] at h1
          rw [List.getElem?_append_right (by rw [← lt]; omega), ← lt] at h2
          cases hj : i - ts.length with
          | zero => rw [hj] at h1 h2; cases h1; cases h2; exact tx4
          | succ j => rw [hj] at h1; cases h1
      · rw [ea, e, e4, c_cm, cmL_snoc u4 nc]
        simp only [List.append_assoc]
      · refine DpAll.kl (Kl.upd hp4) (DpAll.snoc dw4 d4) (noLs_all fun t ht => ?_)
        rcases List.mem_append.mp ht with ht | ht
        · obtain ⟨i, hi, e9⟩ := List.getElem_of_mem ht
          exact tx_noL (txs i t _ (by rw [List.getElem?_eq_getElem hi, e9]) (List.getElem?_eq_getElem (by rw [← lt]; exact hi)))
        · rw [List.mem_singleton.mp ht]; exact tx_noL tx4
end
/-! ### texts of any kind: atoms, formulas, texts -/
structure WrR (K : PySem.W.Frag) (w : World) (mg : Str → Option Value) : Prop where
  rd : KTab K w mg "READERS" [("not", .ref (He.ga K "_read_not")), ("and", .ref (He.ga K "_read_joined")), ("or", .ref (He.ga K "_read_joined")), ("some", .ref (He.ga K "_read_quantified")), ("all", .ref (He.ga K "_read_quantified")),
    ("lfp", .ref (He.ga K "_read_fixed_point")), ("pfp", .ref (He.ga K "_read_fixed_point")), ("tc", .ref (He.ga K "_read_closure")), ("guess", .ref (He.ga K "_read_guess"))]
  rdK : AllK K "READERS" ["not", "and", "or", "some", "all", "lfp", "pfp", "tc", "guess"]
  emK : AllK K "EMPTY_OF_WORDS" ["true", "false"]
  emG : mg "EMPTY_OF_WORDS" = some (.ref (He.ga K "EMPTY_OF_WORDS"))
  emD : ∃ es n, KDict K w (He.ga K "EMPTY_OF_WORDS") es n
  emT : ∀ k z, (k, z) ∈ ([("true", "and"), ("false", "or")] : List (Str × Str)) → ∃ t t2, PySem.W.nsIn K (He.ga K "EMPTY_OF_WORDS") k = some (some (.ref t)) ∧ (∀ H : Hp, SqT K H t [.str z, .ref t2]) ∧ ∀ H : Hp, SqT K H t2 []
theorem rd_mem (K : PySem.W.Frag) : ∀ k : Kd, k ≠ .rel → k ≠ .eq → k ≠ .less → (k.word, V.ref (He.ga K k.rdr)) ∈ [(("not" : Str), V.ref (He.ga K "_read_not")), ("and", .ref (He.ga K "_read_joined")), ("or", .ref (He.ga K "_read_joined")), ("some", .ref (He.ga K "_read_quantified")), ("all", .ref (He.ga K "_read_quantified")),
    ("lfp", .ref (He.ga K "_read_fixed_point")), ("pfp", .ref (He.ga K "_read_fixed_point")), ("tc", .ref (He.ga K "_read_closure")), ("guess", .ref (He.ga K "_read_guess"))] := by
  intro k a b c
  cases k <;> first | exact absurd rfl a | exact absurd rfl b | exact absurd rfl c | simp [Kd.word, Kd.rdr]
structure RdrsR (P : Program) (w : World) (K : PySem.W.Frag) (mg : Str → Option Value) (base : Heap) (n : Nat) : Prop where
  at_ : ∀ k : Kd, mg k.rdr = some (.ref (He.ga K k.rdr))
  has : ∀ k : Kd, HasX (L2N.CX P w) P w K mg base (6 + 2 * n + 1) k.rdr ["reader", "word"] (spRdrR K n k.rdr)
def words9 : List Str := ["not", "and", "or", "some", "all", "lfp", "pfp", "tc", "guess"]
theorem word9 {w : Str} (h : w ∈ words9) : ∃ k : Kd, k.word = w ∧ k ≠ .rel ∧ k ≠ .eq ∧ k ≠ .less := by
  simp only [words9, List.mem_cons, List.not_mem_nil, or_false] at h
  rcases h with rfl | rfl | rfl | rfl | rfl | rfl | rfl | rfl | rfl
  · exact ⟨.no, rfl, by decide, by decide, by decide⟩
  · exact ⟨.con, rfl, by decide, by decide, by decide⟩
  · exact ⟨.dis, rfl, by decide, by decide, by decide⟩
  · exact ⟨.ex, rfl, by decide, by decide, by decide⟩
  · exact ⟨.al, rfl, by decide, by decide, by decide⟩
  · exact ⟨.lfp, rfl, by decide, by decide, by decide⟩
  · exact ⟨.pfp, rfl, by decide, by decide, by decide⟩
  · exact ⟨.tc, rfl, by decide, by decide, by decide⟩
  · exact ⟨.gs, rfl, by decide, by decide, by decide⟩
theorem not_tf {w : Str} (h : w ∈ words9) : w ∉ (["true", "false"] : List Str) := by
  obtain ⟨k, rfl, a, b, c⟩ := word9 h
  revert a b c
  cases k <;> decide +kernel
/-- an error that flew on where nothing was handled -/
theorem cxN_c {P : Program} {w : World} {outer : List Env} {H : Hp} {s : Shared} {E : XK} {u : Value} {s' : Shared} (h : L2N.CX P w outer H s E u s') : L2.CX P w outer H s E u s' := by
  obtain ⟨a, B, H', cls, d, e, fl, r⟩ := h
  exact ⟨a, B, H', cls, d, e, L2H.flyingZ_imp (fun _ z => L2N.Zn.zc z) fl, r⟩
theorem passC {X : Cx} {E : XK} (p : Passes (L2.CX X.prog X.w) X E) : Passes (L2N.CX X.prog X.w) X E := fun ps σ H s e s' I c => p ps σ H s e s' I (cxN_c c)
theorem mk_init {P : Program} {w : World} {K : PySem.W.Frag} {mg : Str → Option Value} {base : Heap} {g : Addr} {ps : List Str} {sp : Sp} {k : Nat} (M : Mk K (He.ga K "Reader") g) (h : HasM P w K mg base k "Reader" "__init__" ps sp) : ∃ f fd, Mk K (He.ga K "Reader") f ∧ FnOk P w K mg base CX0 k f fd ps sp ∧ Binds K fd ps [] := by
  obtain ⟨f, fd, F, m, b⟩ := h
  have e := m.at_.symm.trans M.init
  injection e with e
  injection e with e
  injection e with e
  subst e
  exact ⟨f, fd, M, F, b⟩
def spRTextR (K : PySem.W.Frag) : Sp := fun vs H Q E => ∃ (z : Str), vs = [.str z, .int (40 : Nat)] ∧ Mid z ∧ (∀ (H' : Hp) (v : V) (t : PyData), Ki H H' → Dp K H' v t → Tx t (Lc z) → Q v H') ∧ (∀ H' : Hp, Ki H H' → E (.ref (He.ga K "BadText")) none H')
def spParseR (K : PySem.W.Frag) : Sp := fun vs H Q E => ∃ (z : Str), vs = [.str z] ∧ Mid z ∧ (∀ (H' : Hp) (v : V) (f : Fm), Ki H H' → Dp K H' v f.data → f.Wf → f.text = z → Q v H') ∧ (∀ H' : Hp, Ki H H' → E (.ref (He.ga K "BadText")) none H')
section
variable {P : Program} {w : World} {K : PySem.W.Frag} {mg : Str → Option Value} {base : Heap}
theorem sc_r_atom : FnScope ["reader", "name"] ["reader", "name"] (defScope (top 49)) := ⟨rfl, rfl, rfl, by decide +kernel, rfl, by decide +kernel, by decide +kernel⟩
theorem has_r_atomR (D : Def K mg "_read_atom" ["reader", "name"] (top 49)) (T : Txt mg) (RD : RdC K) (C : RdMR P w K mg base) : HasX (L2N.CX P w) P w K mg base 4 "_read_atom" ["reader", "name"] (spAtomR K) := D.has fun f fd F => by
  obtain ⟨f2, fd2, M_needs, hm_needs, bm_needs⟩ := C.needs
  obtain ⟨f3, fd3, M_takes, hm_takes, bm_takes⟩ := C.takes
  obtain ⟨f4, fd4, M_names, hm_names, bm_names⟩ := C.names
  obtain ⟨f5, fd5, M_word, hm_word, bm_word⟩ := C.word
  refine F.ok sc_r_atom (fun vs H Q E h => ?_) (fun cdv A outer s H vs Q E hr h => ?_)
  · obtain ⟨r, z, w, cs, l, rfl, _⟩ := h; rfl
  · obtain ⟨r, z, m, cs, l, rfl, rd, mid, q, qe⟩ := h
    have big := mid.big
    have RM_needs : Room 2 _ := hr.mono (by decide)
    have RM_takes : Room 1 _ := hr.mono (by decide)
    have RM_names : Room 3 _ := hr
    have RM_word : Room 1 _ := hr.mono (by decide)
    refine ⟨_, (pss_cons (ps_if (pt_val (pe_meth (pv 0) RD.cls hm_takes M_takes RM_takes bm_takes .nil pass0 (pa_cons pe_str pa_nil))) (pss_one (ps_ret (pe_tup (pa_cons pe_str (pa_cons (pv 1) (pa_cons (pe_tup pa_nil) pa_nil)))))) pss_nil) (pss_cons (ps_if (pt_val (pe_meth (pv 0) RD.cls hm_takes M_takes RM_takes bm_takes .nil pass0 (pa_cons pe_str pa_nil))) (pss_one (ps_ret (pe_tup (pa_cons pe_str (pa_cons (pv 1) (pa_cons (pe_meth (pv 0) RD.cls hm_names M_names RM_names bm_names .nil (L2N.passes_call (L2N.takes_of rfl rfl rfl rfl) (fun _ _ _ _ h => h)) (pa_cons pe_str pa_nil)) pa_nil)))))) pss_nil) (pss_cons (ps_if (pt_val (pe_meth (pv 0) RD.cls hm_takes M_takes RM_takes bm_takes .nil pass0 (pa_cons pe_str pa_nil))) (pss_one (ps_ret (pe_tup (pa_cons pe_str (pa_cons (pv 1) (pa_cons (pe_meth0 (pv 0) RD.cls hm_word M_word RM_word bm_word .nil pass0) pa_nil)))))) pss_nil) (pss_cons (ps_expr (pe_meth (pv 0) RD.cls hm_needs M_needs RM_needs bm_needs .nil (L2N.passes_call (L2N.takes_of rfl rfl rfl rfl) (fun _ _ _ _ h => h)) (pa_cons pe_str pa_nil))) (pss_one (ps_ret (pe_tup (pa_cons pe_str (pa_cons (pv 1) (pa_cons (pe_meth0 (pv 0) RD.cls hm_word M_word RM_word bm_word .nil pass0) pa_nil)))))))))), ?_⟩
    have rdk := rd
    obtain ⟨i0, dx0, h0, _, _⟩ := rd
    refine ⟨_, rfl, r, dx0, _, rfl, h0, rfl, r, z, "()", cs, l, rfl, rdk, big, by decide +kernel, fun _ => ⟨_, rfl, iteF ?_⟩, fun rest e H1 rd1 k1 => ⟨_, rfl, iteT ?_⟩⟩
    rotate_left
    · refine ⟨_, rfl, (by show 0 ≤ sizeLine; decide), fun t0 n0 => ⟨(by show 3 ≤ sizeLine; decide), fun t nt => ?_⟩⟩
      have s0 := same_upd (o := .tup []) n0
      have st := same_upd (o := .tup [.str "rel", .str m, .ref t0]) nt
      have ss := s0.trans st
      exact q _ _ _ ([40] ++ (spL [] ++ [41])) rest (rd1.same ss) (k1.trans (.of ss)) (.tup (SqT.of upd_same) (.cons (.str _) (.cons (.str _) (.cons (tS_of (as := []) (Same.sqt st (SqT.of upd_same))) .nil)))) (.rel m []) (by rw [e, c_ee]; rfl)
    refine ⟨_, rfl, r, dx0, _, rfl, h0, rfl, r, z, "(", cs, l, rfl, rdk, big, by decide +kernel, fun _ => ⟨_, rfl, iteF ?_⟩, fun rest e H1 rd1 k1 => ⟨_, rfl, iteT ?_⟩⟩
    rotate_left
    · have rd1k := rd1
      obtain ⟨i1, dx1, h1, _, _⟩ := rd1
      refine ⟨_, rfl, _, rfl, r, dx1, _, rfl, h1, rfl, r, z, ")", rest, l, rfl, rd1k, mid, by decide +kernel, fun as rest2 na e2 H2 ta rd2 k2 da => ⟨(by show 3 ≤ sizeLine; decide), fun t nt => ?_⟩, fun H2 k2 => qe H2 (k1.trans k2)⟩
      have st := same_upd (o := .tup [.str "rel", .str m, ta]) nt
      exact q _ _ _ ([40] ++ (spL as ++ [41])) rest2 (rd2.same st) ((k1.trans k2).trans (.of st)) (.tup (SqT.of upd_same) (.cons (.str _) (.cons (.str _) (.cons (Dp.same st da) .nil)))) (.rel m as) (by rw [e, e2, c_po, c_pc]; simp only [List.append_assoc])
    refine ⟨_, rfl, r, dx0, _, rfl, h0, rfl, r, z, " = ", cs, l, rfl, rdk, big, by decide +kernel, fun _ => ⟨_, rfl, iteF ?_⟩, fun rest e H1 rd1 k1 => ⟨_, rfl, iteT ?_⟩⟩
    rotate_left
    · have rd1k := rd1
      obtain ⟨i1, dx1, h1, _, _⟩ := rd1
      obtain ⟨y, rest2, rfl, any, sty⟩ := word_split rest
      refine ⟨_, rfl, _, rfl, r, dx1, _, rfl, h1, rfl, r, z, y, rest2, l, rfl, rd1k, big, any, sty, fun H2 rd2 k2 => ⟨(by show 3 ≤ sizeLine; decide), fun t nt => ?_⟩⟩
      have st := same_upd (o := .tup [.str "eq", .str m, .str y]) nt
      exact q _ _ _ ([32, 61, 32] ++ Lc y) rest2 (rd2.same st) ((k1.trans k2).trans (.of st)) (.tup (SqT.of upd_same) (.cons (.str _) (.cons (.str _) (.cons (.str _) .nil)))) (.eq m y) (by rw [e, c_le]; simp only [List.append_assoc])
    refine ⟨_, rfl, r, dx0, _, rfl, h0, rfl, r, z, " < ", cs, l, rfl, rdk, big, by decide +kernel, fun rest e H1 rd1 k1 => ?_, fun H1 k1 => qe H1 k1⟩
    have rd1k := rd1
    obtain ⟨i1, dx1, h1, _, _⟩ := rd1
    obtain ⟨y, rest2, rfl, any, sty⟩ := word_split rest
    refine ⟨_, rfl, _, rfl, r, dx1, _, rfl, h1, rfl, r, z, y, rest2, l, rfl, rd1k, big, any, sty, fun H2 rd2 k2 => ⟨(by show 3 ≤ sizeLine; decide), fun t nt => ?_⟩⟩
    have st := same_upd (o := .tup [.str "less", .str m, .str y]) nt
    exact q _ _ _ ([32, 60, 32] ++ Lc y) rest2 (rd2.same st) ((k1.trans k2).trans (.of st)) (.tup (SqT.of upd_same) (.cons (.str _) (.cons (.str _) (.cons (.str _) .nil)))) (.less m y) (by rw [e, c_ll]; simp only [List.append_assoc])
theorem sc_r_form : FnScope ["reader", "word", "found", "read"] ["reader"] (defScope (top 50)) := ⟨rfl, rfl, rfl, by decide +kernel, rfl, by decide +kernel, by decide +kernel⟩
theorem has_r_formR (D : Def K mg "_read_formula" ["reader"] (top 50)) (T : Txt mg) (RD : RdC K) (W : WrR K w mg) (C : RdMR P w K mg base) (C2 : HasX (L2N.CX P w) P w K mg base 4 "_read_atom" ["reader", "name"] (spAtomR K))
    (C3 : ∀ n, HasX (L2N.CX P w) P w K mg base (6 + 2 * n) "_read_formula" ["reader"] (spReadR K n) → RdrsR P w K mg base n) : ∀ n : Nat, HasX (L2N.CX P w) P w K mg base (6 + 2 * n) "_read_formula" ["reader"] (spReadR K n) := by
  obtain ⟨f2, fd2, M_goes_in, hm_goes_in, bm_goes_in⟩ := C.in_
  obtain ⟨f3, fd3, M_goes_out, hm_goes_out, bm_goes_out⟩ := C.out_
  obtain ⟨f4, fd4, M_needs, hm_needs, bm_needs⟩ := C.needs
  obtain ⟨f5, fd5, M_word, hm_word, bm_word⟩ := C.word
  obtain ⟨f6, fd6, G_read_atom, g_read_atom, k_read_atom, b_read_atom⟩ := C2
  have c_EMPTY_OF_WORDS := W.emG
  obtain ⟨es, nn, D_EMPTY_OF_WORDS⟩ := W.emD
  have c_READERS := W.rd.g
  obtain ⟨es2, nn2, D_READERS⟩ := W.rd.d
  intro n
  induction n with
  | zero =>
    refine D.has fun f fd F => F.ok sc_r_form (fun vs H Q E h => ?_) (fun cdv A outer s H vs Q E hr h => ?_)
    · obtain ⟨r, z, cs, l, rfl, _⟩ := h; rfl
    · obtain ⟨r, z, cs, l, rfl, _, _, h0, _⟩ := h
      exact absurd h0 (Nat.not_lt_zero _)
  | succ n ih =>
    have RR := C3 n ih
    show HasX (L2N.CX P w) P w K mg base (6 + 2 * n + 1 + 1) "_read_formula" ["reader"] (spReadR K (n + 1))
    refine D.has fun f fd F => F.ok sc_r_form (fun vs H Q E h => ?_) (fun cdv A outer s H vs Q E hr h => ?_)
    · obtain ⟨r, z, cs, l, rfl, _⟩ := h; rfl
    · obtain ⟨r, z, cs, l, rfl, rd, mid, hl, q, qe⟩ := h
      have big := mid.big
      obtain ⟨m, rest1, rfl, an1, st1⟩ := word_split cs
      obtain ⟨k0, hk0⟩ : ∃ k0 : Kd, m ∈ words9 → k0.word = m ∧ k0 ≠ .rel ∧ k0 ≠ .eq ∧ k0 ≠ .less := by
        by_cases e : m ∈ words9
        · obtain ⟨k, a⟩ := word9 e
          exact ⟨k, fun _ => a⟩
        · exact ⟨.no, fun z => absurd z e⟩
      obtain ⟨f1, fd1, G1, g1, k1, b1⟩ := RR.has k0
      have ef : f1 = He.ga K k0.rdr := by
        have := g1.symm.trans (RR.at_ k0)
        injection this with this
        injection this
      have R1 : Room (6 + 2 * n + 1) _ := hr
      have RM_goes_in : Room 1 _ := hr.mono (Nat.le_trans (Nat.le_trans (by decide) (Nat.le_add_right 6 (2 * n))) (Nat.le_add_right _ 1))
      have RM_goes_out : Room 1 _ := RM_goes_in
      have RM_word : Room 1 _ := RM_goes_in
      have RM_needs : Room 2 _ := hr.mono (Nat.le_trans (Nat.le_trans (by decide) (Nat.le_add_right 6 (2 * n))) (Nat.le_add_right _ 1))
      have R_read_atom : Room 4 _ := hr.mono (Nat.le_trans (Nat.le_trans (by decide) (Nat.le_add_right 6 (2 * n))) (Nat.le_add_right _ 1))
      refine ⟨_, (pss_cons (ps_expr (pe_meth0 (pv 0) RD.cls hm_goes_in M_goes_in RM_goes_in bm_goes_in .nil (L2N.passes_call (L2N.takes_of rfl rfl rfl rfl) (fun _ _ _ _ h => h)))) (pss_cons (ps_set (i := 1) sc_r_form.nd rfl (Or.inl rfl) (pe_meth0 (pv 0) RD.cls hm_word M_word RM_word bm_word .nil pass0)) (pss_cons (ps_if (pt_cmpR (op_in_kd D_EMPTY_OF_WORDS) (pv 1) (pe_glob (v := .ref (He.ga K "EMPTY_OF_WORDS")) (by rfl) c_EMPTY_OF_WORDS rfl) (by rfl)) (pss_one (ps_set (i := 2) sc_r_form.nd rfl (Or.inl rfl) (pe_ix ix_kdict (pe_glob (v := .ref (He.ga K "EMPTY_OF_WORDS")) (by rfl) c_EMPTY_OF_WORDS rfl) (pv 1) (fun _ _ => rfl)))) (pss_one (ps_if (pt_cmpR (op_in_kd D_READERS) (pv 1) (pe_glob (v := .ref (He.ga K "READERS")) (by rfl) c_READERS rfl) (by rfl)) (pss_cons (ps_expr (pe_meth (pv 0) RD.cls hm_needs M_needs RM_needs bm_needs .nil (L2N.passes_call (L2N.takes_of rfl rfl rfl rfl) (fun _ _ _ _ h => h)) (pa_cons pe_str pa_nil))) (pss_cons (ps_set (i := 3) sc_r_form.nd rfl (Or.inl rfl) (pe_ix ix_kdict (pe_glob (v := .ref (He.ga K "READERS")) (by rfl) c_READERS rfl) (pv 1) (fun _ _ => rfl))) (pss_one (ps_set (i := 2) sc_r_form.nd rfl (Or.inl rfl) (pe_callL (i := 3) G1 R1 rfl (Or.inl rfl) k1 b1 .nil (L2N.passes_call (L2N.takes_of rfl rfl rfl rfl) (fun _ _ _ _ h => h)) (pa_cons (pv 0) (pa_cons (pv 1) pa_nil))))))) (pss_one (ps_set (i := 2) sc_r_form.nd rfl (Or.inl rfl) (pe_call G_read_atom R_read_atom (by rfl) g_read_atom k_read_atom b_read_atom .nil (L2N.passes_call (L2N.takes_of rfl rfl rfl rfl) (fun _ _ _ _ h => h)) (pa_cons (pv 0) (pa_cons (pv 1) pa_nil)))))))) (pss_cons (ps_expr (pe_meth0 (pv 0) RD.cls hm_goes_out M_goes_out RM_goes_out bm_goes_out .nil pass0)) (pss_one (ps_ret (pv 2))))))), ?_⟩
      have rdk := rd
      obtain ⟨i0, dx0, h0, _, _⟩ := rd
      refine ⟨_, rfl, r, dx0, _, rfl, h0, rfl, r, z, _, l, rfl, rdk, fun l' el H1 rd1 q1 => ?_, qe⟩
      subst el
      have rd1k := rd1
      obtain ⟨i1, dx1, h1, _, _⟩ := rd1
      refine ⟨_, rfl, r, dx1, _, rfl, h1, rfl, r, z, m, rest1, l', rfl, rd1k, big, an1, st1, fun H2 rd2 q2 => ?_⟩
      have q12 := q1.trans q2
      by_cases tf : m ∈ (["true", "false"] : List Str)
      · obtain ⟨zw, mem, tx⟩ : ∃ zw : Str, (m, zw) ∈ ([("true", "and"), ("false", "or")] : List (Str × Str)) ∧ Tx (.tuple [.str zw, .tuple []]) (Lc m) := by
          rcases (show m = "true" ∨ m = "false" by simpa using tf) with rfl | rfl
          · exact ⟨"and", by decide +kernel, .tru⟩
          · exact ⟨"or", by decide +kernel, .fls⟩
        obtain ⟨t, t2, en, ht, ht2⟩ := W.emT m zw mem
        refine ⟨_, rfl, _, _, rfl, rfl, en, _, rfl, cT (k := (some (Value.ref t)).isSome) rfl ?_⟩
        refine ⟨_, rfl, _, _, .ref t, rfl, rfl, ⟨es, nn, .ref t, D_EMPTY_OF_WORDS.at_, D_EMPTY_OF_WORDS.lit, en, rfl⟩, ?_⟩
        have rd2k := rd2
        obtain ⟨i2, dx2, h2, _, _⟩ := rd2
        refine ⟨_, rfl, r, dx2, _, rfl, h2, rfl, r, z, rest1, l', rfl, rd2k, fun H4 rd4 q4 => ⟨_, rfl, ?_⟩⟩
        exact q H4 _ _ (Lc m) rest1 rd4 (q12.trans q4) (.tup (ht H4) (.cons (.str _) (.cons (.tup (ht2 H4) .nil) .nil))) tx rfl
      · refine ⟨_, rfl, _, _, rfl, rfl, W.emK m tf, _, rfl, cF (k := (none : Option Value).isSome) rfl ?_⟩
        by_cases nine : m ∈ words9
        · obtain ⟨rfl, n1, n2, n3⟩ := hk0 nine
          have mem := rd_mem K k0 n1 n2 n3
          obtain ⟨u, en, ru⟩ := W.rd.there _ _ mem
          refine ⟨_, rfl, _, _, rfl, rfl, en, _, rfl, cT (k := (some u).isSome) rfl ?_⟩
          have rd2k := rd2
          obtain ⟨i2, dx2, h2, _, _⟩ := rd2
          refine ⟨_, rfl, r, dx2, _, rfl, h2, rfl, r, z, "(", rest1, l', rfl, rd2k, big, by decide +kernel, fun rest2 e2 H3 rd3 q3 => ?_, fun H3 q3 => qe H3 (q12.trans q3)⟩
          refine ⟨_, rfl, _, _, _, rfl, rfl, W.rd.dct mem, ?_⟩
          refine ⟨?_, _, rfl, _, rfl, r, z, k0.word, rest2, l', rfl, ⟨k0, rfl, rfl, n1, n2, n3⟩, rd3, mid, by omega, fun H4 v t u4 rest4 rd4 q4 dv tx e4 => ?_, fun H4 q4 => qe H4 ((q12.trans q3).trans q4)⟩
          · rw [ef]
            rfl
          · have rd4k := rd4
            obtain ⟨i4, dx4, h4, _, _⟩ := rd4
            refine ⟨_, rfl, r, dx4, _, rfl, h4, rfl, r, z, rest4, l', rfl, rd4k, fun H5 rd5 q5 => ⟨_, rfl, ?_⟩⟩
            exact q H5 v t _ rest4 rd5 (((q12.trans q3).trans q4).trans q5) (Dp.ki q5 dv) tx (by rw [e2, e4, c_po]; simp only [List.append_assoc])
        · refine ⟨_, rfl, _, _, rfl, rfl, W.rdK m nine, _, rfl, cF (k := (none : Option Value).isSome) rfl ?_⟩
          refine ⟨_, rfl, _, rfl, r, z, m, rest1, l', rfl, rd2, mid, fun H3 v t u3 rest3 rd3 q3 dv tx e3 => ?_, fun H3 q3 => qe H3 (q12.trans q3)⟩
          have rd3k := rd3
          obtain ⟨i3, dx3, h3, _, _⟩ := rd3
          refine ⟨_, rfl, r, dx3, _, rfl, h3, rfl, r, z, rest3, l', rfl, rd3k, fun H4 rd4 q4 => ⟨_, rfl, ?_⟩⟩
          exact q H4 v t _ rest3 rd4 ((q12.trans q3).trans q4) (Dp.ki q4 dv) tx (by rw [e3]; simp only [List.append_assoc])
theorem sc_rtext : FnScope ["text", "most_deep", "reader", "found"] ["text", "most_deep"] (defScope (top 51)) := ⟨rfl, rfl, rfl, by decide +kernel, rfl, by decide +kernel, by decide +kernel⟩
theorem has_rtextR (D : Def K mg "read_text" ["text", "most_deep"] (top 51)) (T : Txt mg) (RD : RdC K) (BT : XC K mg "BadText") (gC_Reader : mg "Reader" = some (.ref (He.ga K "Reader"))) (I : ∃ f fd, Mk K (He.ga K "Reader") f ∧ FnOk P w K mg base CX0 1 f fd ["self", "text", "most_deep"] (spInit K) ∧ Binds K fd ["self", "text", "most_deep"] [])
    (C1 : HasX (L2N.CX P w) P w K mg base (6 + 2 * 41) "_read_formula" ["reader"] (spReadR K 41)) : HasX (L2N.CX P w) P w K mg base 89 "read_text" ["text", "most_deep"] (spRTextR K) := D.has fun f fd F => by
  obtain ⟨f1, fd1, G_read_formula, g_read_formula, k_read_formula, b_read_formula⟩ := C1
  obtain ⟨f2, fd2, MK_Reader, GI_Reader, bI_Reader⟩ := I
  refine F.ok sc_rtext (fun vs H Q E h => ?_) (fun cdv A outer s H vs Q E hr h => ?_)
  · obtain ⟨z, rfl, _⟩ := h; rfl
  · obtain ⟨z, rfl, mid, q, qe⟩ := h
    have R_read_formula : Room (6 + 2 * 41) _ := hr
    have RI_Reader : Room (1 + 1) _ := hr.mono (by decide)
    have big := mid.big
    refine ⟨_, (pss_cons (ps_if (pt_not (pt_val (pe_callB call_isi (by rfl) T.n_isinstance (by decide +kernel) (pa_cons (pv 0) (pa_cons (pe_bltn (v := .ty "str") (by rfl) T.n_str (by decide +kernel) rfl) pa_nil))))) (pss_one (ps_raiseXN BT rfl (L2N.takes_of rfl rfl rfl rfl) rfl)) pss_nil) (pss_cons (ps_set (i := 2) sc_rtext.nd rfl (Or.inl rfl) (pe_make MK_Reader GI_Reader RI_Reader (by rfl) gC_Reader bI_Reader .nil pass0 (pa_cons (pv 0) (pa_cons (pv 1) pa_nil)))) (pss_cons (ps_set (i := 3) sc_rtext.nd rfl (Or.inl rfl) (pe_call G_read_formula R_read_formula (by rfl) g_read_formula k_read_formula b_read_formula .nil (L2N.passes_call (L2N.takes_of rfl rfl rfl rfl) (fun _ _ _ _ h => h)) (pa_cons (pv 2) pa_nil))) (pss_cons (ps_if (pt_cmpR op_ne (pe_fld (pv 2) rfl) (pe_callB call_len_str (by rfl) T.n_len PySem.boot_len (pa_cons (pv 0) pa_nil)) (nomark _)) (pss_one (ps_raiseXN BT rfl (L2N.takes_of rfl rfl rfl rfl) rfl)) pss_nil) (pss_one (ps_ret (pv 3))))))), ?_⟩
    refine ⟨_, rfl, _, _, _, _, _, rfl, .ty _, .base (.str _), kit_ty (b := "str") (r := true) (by decide +kernel), _, rfl, iteF ?_⟩
    refine ⟨_, rfl, _, rfl, fun r dx nr ndx ne => ⟨r, dx, z, 40, rfl, upd_same, fun H1 rd1 k1 => ⟨rfl, ?_⟩⟩⟩
    have sd := same_upd (o := .own r) ndx
    have nr1 : (upd H dx (.own r)) r = none := by rw [upd_ne ne.symm]; exact nr
    have kk : Ki H H1 := (Ki.of (sd.trans (same_upd nr1))).trans k1
    refine ⟨_, rfl, r, z, _, 40, rfl, rd1, mid, by decide, fun H2 v t u rest rd2 k2 dv tx e => ?_, fun H2 k2 => qe H2 (kk.trans k2)⟩
    obtain ⟨i, dx2, h2, hi, hd⟩ := rd2
    have dl := drop_len hd hi
    refine ⟨_, rfl, r, _, dx2, _, _, rfl, h2, RD.cls, RD.np, rfl, _, rfl, z, rfl, big.line, rfl, _, rfl, ?_⟩
    by_cases ei : i = z.length
    · refine cF (k := !decide (V.int (i : Nat) = V.int ((z.length : Nat) : Int))) (nd_f (by rw [ei])) ?_
      have r0 : rest = [] := List.eq_nil_of_length_eq_zero (by omega)
      exact ⟨_, rfl, q H2 v t (kk.trans k2) dv (by rw [e, r0, List.append_nil]; exact tx)⟩
    · exact cT (k := !decide (V.int (i : Nat) = V.int ((z.length : Nat) : Int))) (nd_t fun x => ei (by have := V.int.inj x; omega)) (qe H2 (kk.trans k2))
end
/-! ### texts of any kind: what is read is data that may be asked about -/
theorem len_line {n : Nat} (h : n ≤ 90000) : n ≤ sizeLine := Nat.le_trans h (by decide)
theorem ord_str {z : Str} (h : (Lc z).length ≤ 90000) : Ord (.str z) := .str (by rw [Lc_len]; exact len_line h)
theorem ord_tS {as : List Str} (h : (spL as).length ≤ 90000) : Ord (tS as) := .tup (by rw [List.length_map]; have := spL_many as; omega) fun t ht => by
  obtain ⟨z, hz, rfl⟩ := List.mem_map.mp ht
  have := spL_mem hz
  exact ord_str (by omega)
theorem spL_sub (n : Str) (vs : List Str) : (spL vs).length ≤ (spL (n :: vs)).length := by
  cases vs with
  | nil => exact Nat.zero_le _
  | cons b r =>
    have e : spL (n :: b :: r) = Lc n ++ ([32] ++ spL (b :: r)) := rfl
    rw [e, List.length_append, List.length_append]
    omega
theorem raw_of {w : Str} {ds : List PyData} (hw : w ∈ words12) (l : ds.length ≤ 1000) (o : ∀ d, d ∈ ds → Ord d) (ps : ∀ h ps, PyData.tuple (.str w :: ds) = Hd.data h ps → h.Ok ps.length → ∀ p, p ∈ ps → Raw p) : Raw (.tuple (.str w :: ds)) := by
  refine .mk (.tup (by rw [List.length_cons]; omega) fun t ht => ?_) (fun w2 ds2 e => ?_) ps
  · rcases List.mem_cons.mp ht with rfl | ht
    · exact .str (by
        obtain ⟨k, rfl⟩ := word_of hw
        cases k <;> decide +kernel)
    · exact o t ht
  · injection e with e
    injection e with e1 e2
    injection e1 with e1
    rw [← e1]
    exact List.mem_append_left _ hw
theorem Raw.ord {t : PyData} (r : Raw t) : Ord t := by cases r; assumption
theorem tx_raw {t : PyData} {cs : List Nat} (T : Tx t cs) : cs.length ≤ 90000 → Raw t := by
  induction T with
  | rel n as =>
    intro hl
    simp only [List.length_append] at hl
    refine raw_of (by decide +kernel) (by simp) (fun d hd => ?_) fun h ps e ok p hp => ?_
    · rcases (show d = .str n ∨ d = tS as by simpa using hd) with rfl | rfl
      · exact ord_str (by omega)
      · exact ord_tS (by omega)
    · cases h with
      | rel m bs =>
        exact absurd hp (by rw [List.eq_nil_of_length_eq_zero ok.2.2.2]; exact fun z => nomatch z)
      | _ =>
        exfalso
        revert e
        simp only [Hd.data, Hd.rest, Hd.word, Hd.kd, Kd.word, PyData.tuple.injEq, List.cons.injEq, PyData.str.injEq] <;> (rintro ⟨z, _⟩; revert z; decide +kernel)
  | eq x y =>
    intro hl
    simp only [List.length_append] at hl
    refine raw_of (by decide +kernel) (by simp) (fun d hd => ?_) fun h ps e ok p hp => ?_
    · rcases (show d = .str x ∨ d = .str y by simpa using hd) with rfl | rfl
      · exact ord_str (by omega)
      · exact ord_str (by omega)
    · cases h with
      | eq a b =>
        exact absurd hp (by rw [List.eq_nil_of_length_eq_zero ok.2.2]; exact fun z => nomatch z)
      | _ =>
        exfalso
        revert e
        simp only [Hd.data, Hd.rest, Hd.word, Hd.kd, Kd.word, PyData.tuple.injEq, List.cons.injEq, PyData.str.injEq] <;> (rintro ⟨z, _⟩; revert z; decide +kernel)
  | less x y =>
    intro hl
    simp only [List.length_append] at hl
    refine raw_of (by decide +kernel) (by simp) (fun d hd => ?_) fun h ps e ok p hp => ?_
    · rcases (show d = .str x ∨ d = .str y by simpa using hd) with rfl | rfl
      · exact ord_str (by omega)
      · exact ord_str (by omega)
    · cases h with
      | less a b =>
        exact absurd hp (by rw [List.eq_nil_of_length_eq_zero ok.2.2]; exact fun z => nomatch z)
      | _ =>
        exfalso
        revert e
        simp only [Hd.data, Hd.rest, Hd.word, Hd.kd, Kd.word, PyData.tuple.injEq, List.cons.injEq, PyData.str.injEq] <;> (rintro ⟨z, _⟩; revert z; decide +kernel)
  | tru =>
    intro hl
    skip
    refine raw_of (by decide +kernel) (by simp) (fun d hd => ?_) fun h ps e ok p hp => ?_
    · rw [List.mem_singleton.mp hd]
      exact .tup (Nat.zero_le _) fun t ht => nomatch ht
    · cases h with
      | con =>
        simp only [Hd.data, Hd.rest, Hd.word, Hd.kd, Kd.word, PyData.tuple.injEq, List.cons.injEq, PyData.str.injEq, true_and, and_true, List.cons_append, List.nil_append] at e
        rw [← e] at hp
        exact nomatch hp
      | _ =>
        exfalso
        revert e
        simp only [Hd.data, Hd.rest, Hd.word, Hd.kd, Kd.word, PyData.tuple.injEq, List.cons.injEq, PyData.str.injEq] <;> (rintro ⟨z, _⟩; revert z; decide +kernel)
  | fls =>
    intro hl
    skip
    refine raw_of (by decide +kernel) (by simp) (fun d hd => ?_) fun h ps e ok p hp => ?_
    · rw [List.mem_singleton.mp hd]
      exact .tup (Nat.zero_le _) fun t ht => nomatch ht
    · cases h with
      | dis =>
        simp only [Hd.data, Hd.rest, Hd.word, Hd.kd, Kd.word, PyData.tuple.injEq, List.cons.injEq, PyData.str.injEq, true_and, and_true, List.cons_append, List.nil_append] at e
        rw [← e] at hp
        exact nomatch hp
      | _ =>
        exfalso
        revert e
        simp only [Hd.data, Hd.rest, Hd.word, Hd.kd, Kd.word, PyData.tuple.injEq, List.cons.injEq, PyData.str.injEq] <;> (rintro ⟨z, _⟩; revert z; decide +kernel)
  | @no t0 cs h0 ih =>
    intro hl
    simp only [List.length_append] at hl
    have r0 := ih (by omega)
    refine raw_of (by decide +kernel) (by simp) (fun d hd => ?_) fun h ps e ok p hp => ?_
    · rw [List.mem_singleton.mp hd]
      exact r0.ord
    · cases h with
      | no =>
        obtain ⟨g, rfl⟩ : ∃ g, ps = [g] := List.length_eq_one_iff.mp ok
        simp only [Hd.data, Hd.rest, Hd.word, Hd.kd, Kd.word, PyData.tuple.injEq, List.cons.injEq, PyData.str.injEq, true_and, and_true, List.cons_append, List.nil_append] at e
        rw [List.mem_singleton.mp hp, ← e]
        exact r0
      | _ =>
        exfalso
        revert e
        simp only [Hd.data, Hd.rest, Hd.word, Hd.kd, Kd.word, PyData.tuple.injEq, List.cons.injEq, PyData.str.injEq] <;> (rintro ⟨z, _⟩; revert z; decide +kernel)
  | @join w ts css hw l ne h0 ih =>
    intro hl
    simp only [List.length_append] at hl
    have kids : ∀ p, p ∈ ts → Raw p := fun p hp => by
      obtain ⟨i, hi, e9⟩ := List.getElem_of_mem hp
      have il : i < css.length := by rw [← l]; exact hi
      have m := cmL_mem (List.getElem_mem il)
      exact ih i p _ (by rw [List.getElem?_eq_getElem hi, e9]) (List.getElem?_eq_getElem il) (by omega)
    have many := cmL_many css
    rcases hw with rfl | rfl
    · refine raw_of (by decide +kernel) (by simp) (fun d hd => ?_) fun h ps e ok p hp => ?_
      · rw [List.mem_singleton.mp hd]
        exact .tup (by omega) fun t ht => (kids t ht).ord
      · cases h with
        | con =>
          have e1 : ts = ps := by
            simp only [Hd.data, Hd.rest, Hd.word, Hd.kd, Kd.word, PyData.tuple.injEq, List.cons.injEq, PyData.str.injEq, true_and, and_true] at e
            exact e
          rw [← e1] at hp
          exact kids p hp
        | _ =>
          exfalso
          revert e
          simp only [Hd.data, Hd.rest, Hd.word, Hd.kd, Kd.word, PyData.tuple.injEq, List.cons.injEq, PyData.str.injEq] <;> (rintro ⟨z, _⟩; revert z; decide +kernel)
    · refine raw_of (by decide +kernel) (by simp) (fun d hd => ?_) fun h ps e ok p hp => ?_
      · rw [List.mem_singleton.mp hd]
        exact .tup (by omega) fun t ht => (kids t ht).ord
      · cases h with
        | dis =>
          have e1 : ts = ps := by
            simp only [Hd.data, Hd.rest, Hd.word, Hd.kd, Kd.word, PyData.tuple.injEq, List.cons.injEq, PyData.str.injEq, true_and, and_true] at e
            exact e
          rw [← e1] at hp
          exact kids p hp
        | _ =>
          exfalso
          revert e
          simp only [Hd.data, Hd.rest, Hd.word, Hd.kd, Kd.word, PyData.tuple.injEq, List.cons.injEq, PyData.str.injEq] <;> (rintro ⟨z, _⟩; revert z; decide +kernel)
  | @quant w vs t0 cs hw h0 ih =>
    intro hl
    simp only [List.length_append] at hl
    have r0 := ih (by omega)
    rcases hw with rfl | rfl
    · refine raw_of (by decide +kernel) (by simp) (fun d hd => ?_) fun h ps e ok p hp => ?_
      · rcases (show d = tS vs ∨ d = t0 by simpa using hd) with rfl | rfl
        · exact ord_tS (by omega)
        · exact r0.ord
      · cases h with
        | ex us =>
          obtain ⟨g, rfl⟩ : ∃ g, ps = [g] := List.length_eq_one_iff.mp ok.2
          simp only [Hd.data, Hd.rest, Hd.word, Hd.kd, Kd.word, PyData.tuple.injEq, List.cons.injEq, PyData.str.injEq, true_and, and_true, List.cons_append, List.nil_append] at e
          rw [List.mem_singleton.mp hp, ← e.2]
          exact r0
        | _ =>
          exfalso
          revert e
          simp only [Hd.data, Hd.rest, Hd.word, Hd.kd, Kd.word, PyData.tuple.injEq, List.cons.injEq, PyData.str.injEq] <;> (rintro ⟨z, _⟩; revert z; decide +kernel)
    · refine raw_of (by decide +kernel) (by simp) (fun d hd => ?_) fun h ps e ok p hp => ?_
      · rcases (show d = tS vs ∨ d = t0 by simpa using hd) with rfl | rfl
        · exact ord_tS (by omega)
        · exact r0.ord
      · cases h with
        | al us =>
          obtain ⟨g, rfl⟩ : ∃ g, ps = [g] := List.length_eq_one_iff.mp ok.2
          simp only [Hd.data, Hd.rest, Hd.word, Hd.kd, Kd.word, PyData.tuple.injEq, List.cons.injEq, PyData.str.injEq, true_and, and_true, List.cons_append, List.nil_append] at e
          rw [List.mem_singleton.mp hp, ← e.2]
          exact r0
        | _ =>
          exfalso
          revert e
          simp only [Hd.data, Hd.rest, Hd.word, Hd.kd, Kd.word, PyData.tuple.injEq, List.cons.injEq, PyData.str.injEq] <;> (rintro ⟨z, _⟩; revert z; decide +kernel)
  | @fix w n vs as t0 cs hw h0 ih =>
    intro hl
    simp only [List.length_append] at hl
    have r0 := ih (by omega)
    have sc := spL_cons n vs
    have sl := congrArg List.length sc
    rw [List.length_append] at sl
    have o2 : Ord (tS vs) := by
      have m := spL_sub n vs
      exact ord_tS (by omega)
    rcases hw with rfl | rfl
    · refine raw_of (by decide +kernel) (by simp) (fun d hd => ?_) fun h ps e ok p hp => ?_
      · rcases (show d = .str n ∨ d = tS vs ∨ d = t0 ∨ d = tS as by simpa using hd) with rfl | rfl | rfl | rfl
        · exact ord_str (by omega)
        · exact o2
        · exact r0.ord
        · exact ord_tS (by omega)
      · cases h with
        | lfp m us bs =>
          obtain ⟨g, rfl⟩ : ∃ g, ps = [g] := List.length_eq_one_iff.mp ok.2.2.2.2
          simp only [Hd.data, Hd.rest, Hd.word, Hd.kd, Kd.word, PyData.tuple.injEq, List.cons.injEq, PyData.str.injEq, true_and, and_true, List.cons_append, List.nil_append] at e
          rw [List.mem_singleton.mp hp, ← e.2.2.1]
          exact r0
        | _ =>
          exfalso
          revert e
          simp only [Hd.data, Hd.rest, Hd.word, Hd.kd, Kd.word, PyData.tuple.injEq, List.cons.injEq, PyData.str.injEq] <;> (rintro ⟨z, _⟩; revert z; decide +kernel)
    · refine raw_of (by decide +kernel) (by simp) (fun d hd => ?_) fun h ps e ok p hp => ?_
      · rcases (show d = .str n ∨ d = tS vs ∨ d = t0 ∨ d = tS as by simpa using hd) with rfl | rfl | rfl | rfl
        · exact ord_str (by omega)
        · exact o2
        · exact r0.ord
        · exact ord_tS (by omega)
      · cases h with
        | pfp m us bs =>
          obtain ⟨g, rfl⟩ : ∃ g, ps = [g] := List.length_eq_one_iff.mp ok.2.2.2.2
          simp only [Hd.data, Hd.rest, Hd.word, Hd.kd, Kd.word, PyData.tuple.injEq, List.cons.injEq, PyData.str.injEq, true_and, and_true, List.cons_append, List.nil_append] at e
          rw [List.mem_singleton.mp hp, ← e.2.2.1]
          exact r0
        | _ =>
          exfalso
          revert e
          simp only [Hd.data, Hd.rest, Hd.word, Hd.kd, Kd.word, PyData.tuple.injEq, List.cons.injEq, PyData.str.injEq] <;> (rintro ⟨z, _⟩; revert z; decide +kernel)
  | @clo vs as t0 cs h0 ih =>
    intro hl
    simp only [List.length_append] at hl
    have r0 := ih (by omega)
    refine raw_of (by decide +kernel) (by simp) (fun d hd => ?_) fun h ps e ok p hp => ?_
    · rcases (show d = tS vs ∨ d = t0 ∨ d = tS as by simpa using hd) with rfl | rfl | rfl
      · exact ord_tS (by omega)
      · exact r0.ord
      · exact ord_tS (by omega)
    · cases h with
      | tc us bs =>
        obtain ⟨g, rfl⟩ : ∃ g, ps = [g] := List.length_eq_one_iff.mp ok.2.2.2.2.2
        simp only [Hd.data, Hd.rest, Hd.word, Hd.kd, Kd.word, PyData.tuple.injEq, List.cons.injEq, PyData.str.injEq, true_and, and_true, List.cons_append, List.nil_append] at e
        rw [List.mem_singleton.mp hp, ← e.2.1]
        exact r0
      | _ =>
        exfalso
        revert e
        simp only [Hd.data, Hd.rest, Hd.word, Hd.kd, Kd.word, PyData.tuple.injEq, List.cons.injEq, PyData.str.injEq] <;> (rintro ⟨z, _⟩; revert z; decide +kernel)
  | @gs n kw d0 t0 cs hd0 h0 ih =>
    intro hl
    simp only [List.length_append] at hl
    have r0 := ih (by omega)
    have od : Ord d0 := by
      rcases hd0 with rfl | ⟨k, _, rfl, _⟩
      · exact .non
      · exact .int _
    refine raw_of (by decide +kernel) (by simp) (fun d hd => ?_) fun h ps e ok p hp => ?_
    · rcases (show d = .str n ∨ d = d0 ∨ d = t0 by simpa using hd) with rfl | rfl | rfl
      · exact ord_str (by omega)
      · exact od
      · exact r0.ord
    · cases h with
      | gs m k =>
        obtain ⟨g, rfl⟩ : ∃ g, ps = [g] := List.length_eq_one_iff.mp ok.2.2
        simp only [Hd.data, Hd.rest, Hd.word, Hd.kd, Kd.word, PyData.tuple.injEq, List.cons.injEq, PyData.str.injEq, true_and, and_true, List.cons_append, List.nil_append] at e
        rw [List.mem_singleton.mp hp, ← e.2.2]
        exact r0
      | _ =>
        exfalso
        revert e
        simp only [Hd.data, Hd.rest, Hd.word, Hd.kd, Kd.word, PyData.tuple.injEq, List.cons.injEq, PyData.str.injEq] <;> (rintro ⟨z, _⟩; revert z; decide +kernel)
section
variable {P : Program} {w : World} {K : PySem.W.Frag} {mg : Str → Option Value} {base : Heap}
theorem sc_parse : FnScope ["text", "found"] ["text"] (defScope (top 60)) := ⟨rfl, rfl, rfl, by decide +kernel, rfl, by decide +kernel, by decide +kernel⟩
theorem has_parseR (D : Def K mg "parse_formula" ["text"] (top 60)) (k1 : ∃ t, mg "MOST_DEEP" = some (.int 40 t)) (BT : XC K mg "BadText") (BF : XC K mg "BadFormula") (C1 : HasX (L2N.CX P w) P w K mg base 48 "check_formula" ["formula"] (spCheckR K)) (C2 : HasX (L2N.CX P w) P w K mg base 89 "read_text" ["text", "most_deep"] (spRTextR K)) : HasX (L2.CX P w) P w K mg base 90 "parse_formula" ["text"] (spParseR K) := D.has fun f fd F => by
  obtain ⟨f1, fd1, G_check_formula, g_check_formula, k_check_formula, b_check_formula⟩ := C1
  obtain ⟨f2, fd2, G_read_text, g_read_text, k_read_text, b_read_text⟩ := C2
  obtain ⟨t1, c_MOST_DEEP⟩ := k1
  refine F.ok sc_parse (fun vs H Q E h => ?_) (fun cdv A outer s H vs Q E hr h => ?_)
  · obtain ⟨z, rfl, _⟩ := h; rfl
  · obtain ⟨z, rfl, mid, q, qe⟩ := h
    have R_check_formula : Room 48 _ := hr.mono (by decide)
    have R_read_text : Room 89 _ := hr
    refine ⟨_, pss_cons (ps_set (i := 1) sc_parse.nd rfl (Or.inl rfl) (pe_call G_read_text R_read_text (by rfl) g_read_text k_read_text b_read_text .nil (passC (passes_call (takes_of rfl rfl rfl rfl) (fun _ _ _ _ h => h))) (pa_cons (pv 0) (pa_cons (pe_glob (v := .int 40) (by rfl) c_MOST_DEEP ⟨_, rfl⟩) pa_nil))))
      (pss_cons (L2H.ps_try_onlyX (tb := fun W => tDrop (tCallS (spCheckR K) (WE W) (tCons (tVar 1) tNil))) (Wout := fun cls d _ G => E cls d G) rfl rfl ⟨rfl, by decide, Or.inl BF.g⟩ (fun hd => L2H.passesAt_of rfl hd) (takes_of rfl rfl rfl rfl)
        (fun W pn xe tkN tkP _ => pss_one (ps_expr (by exact (pe_callS G_check_formula R_check_formula rfl g_check_formula k_check_formula b_check_formula (fun σ => L2N.passAt tkN σ) (by exact (pa_cons (pv 1) pa_nil))))))
        (ts := fun a cls d D σ G => E (.ref (He.ga K "BadText")) none G) (fun a oe cls d pn hz hf tk hot => pss_one (L2H.ps_raiseHN hot tk (pmk5X BT rfl))))
        (pss_one (ps_ret (pv 1)))), ?_⟩
    refine ⟨_, rfl, z, rfl, mid, fun H1 v t k1 dv tx => ?_, qe⟩
    have raw := tx_raw tx (by have : z.length ≤ 90000 := mid; rw [Lc_len] at this; exact this)
    refine ⟨_, rfl, v, t, rfl, dv, raw, fun H2 f s2 e wf => ⟨_, rfl, q H2 v f (k1.trans (.of s2)) (by rw [← e]; exact Dp.same s2 dv) wf ?_⟩, fun H2 s2 => ⟨true, BF.e, fun _ a na => qe H2 (k1.trans (.of s2)), fun z => nomatch z⟩⟩
    exact str_ext (by rw [Fm.text_L, ← tx_of tx f wf.ok e])
end
/-! ### the law of k11: texts near to those of formulas -/
def spBadL (K : PySem.W.Frag) : Sp := fun vs H Q _ => ∃ (v : V) (f : Fm), vs = [v] ∧ Dp K H v f.data ∧ f.Wf ∧ ∀ H' : Hp, Same H H' → Q (.bl false) H'
def spNear : Sp := fun vs H Q _ => ∃ (d l : Addr), vs = [.ref d] ∧ DrA H d l ∧ ∀ (H' : Hp) (z : Str), DrA H' d l → Kp d H H' → z.length ≤ 100 → Q (.str z) H'
def spSpoilt : Sp := fun vs H Q _ => ∃ (d l : Addr) (z : Str), vs = [.ref d, .str z] ∧ DrA H d l ∧ z.length ≤ 40000 ∧ (Lc z).getLast? ≠ some 40 ∧ ∀ (H' : Hp) (y : Str), DrA H' d l → Kp d H H' → y.length ≤ 85000 → Q (.str y) H'
theorem cutS_len (z : Str) (a b : Option Int) : (cutS z a b).length ≤ z.length := by
  rw [Lc_len, Lc_len z]
  unfold cutS
  rw [Lc_mk]
  exact Nat.le_trans (List.length_take_le' _ _) (by rw [List.length_drop]; exact Nat.sub_le _ _)
def nearL : List Str := ["", "x", "x =", "= x", "x = y = z", "x < and", "not()", "not(true, false)", "some(: true)", "some(x x: true)", "true()", "e(x, y)", "e (x)", "lfp(r x: r(x))(x y)", "lfp(r x: not(r(x)))(x)", "tc(x: true)(x)", "guess(r 4: true)", "guess(r 01: true)", "and(e(x), e(x y))", "pfp(r : true)()", "all(x:true)", "X = X", "lfp(r x: pfp(s y: r(y))(x))(x)", "and(true,false)", "(true)", "x=y", "tc(x y: true)(x y) ", "guess(r: true)"]
theorem near_sm : ∀ x, x ∈ nearL → x.length ≤ 100 := by decide +kernel
def ins8 : List Str := ["  ", "(", ")", "\t", "-", "\n", "A", "_"]
theorem ins8_sm : ∀ x, x ∈ ins8 → x.length ≤ 100 := by decide +kernel
def end6 : List Str := [" ", ")", "(x)", ", true", ";", "\n"]
theorem end6_sm : ∀ x, x ∈ end6 → x.length ≤ 100 := by decide +kernel
def beg5 : List Str := [" ", "(", "not", "and(", "not "]
theorem beg5_sm : ∀ x, x ∈ beg5 → x.length ≤ 100 := by decide +kernel
/-- one of the texts in the list -/
theorem atI_strs {ws : List Str} {v : V} {i : Int} (hm : v ∈ ws.map V.str) (sm : ∀ x, x ∈ ws → x.length ≤ 100) : ∃ z : Str, v = .str z ∧ z.length ≤ 100 := by
  obtain ⟨z, hz, rfl⟩ := List.mem_map.mp hm
  exact ⟨z, rfl, sm z hz⟩
/-- the first parenthesis is not the last sign -/
theorem paren_pos {z : Str} (h : (!(PySem.Builtin.Str.occurrences z "(" 0 z.length 1).isEmpty) = true) (n : (Lc z).getLast? ≠ some 40) : (0 : Int) < ((z.length : Nat) : Int) - Txt.find z "(" - 1 := by
  rcases PyProof.Rows.find_spec z "(" with e | ⟨i, e, le, sub⟩
  · exfalso
    unfold Txt.find at e
    split at e
    · omega
    · rename_i q
      rw [q] at h
      cases h
  · have l1 : ("(" : Str).length = 1 := by decide +kernel
    rw [l1] at le sub
    rw [e]
    by_cases last : i + 1 = z.length
    · exfalso
      apply n
      have s1 : Lc (PySem.Builtin.Str.strSub z i (i + 1)) = [40] := by rw [sub]; decide +kernel
      have s2 : Lc (PySem.Builtin.Str.strSub z i (i + 1)) = ((Lc z).drop i).take 1 := by
        unfold PySem.Builtin.Str.strSub
        show (z.cps.extract i (i + 1)).toList = ((z.cps.toList).drop i).take 1
        rw [Array.toList_extract, List.extract_eq_take_drop, Nat.add_sub_cancel_left]
      have zl := Lc_len z
      have s3 : ((Lc z).drop i).take 1 = (Lc z).drop i := List.take_of_length_le (by rw [List.length_drop]; omega)
      rw [s2, s3] at s1
      rw [← List.take_append_drop i (Lc z), s1, List.getLast?_append]
      rfl
    · omega
theorem and_no {k : Bool} {A B : Prop} (h : k = true → B → A) (b : B) : if k = true then A else B := by
  cases k with
  | true => exact h rfl b
  | false => exact b
section
variable {P : Program} {w : World} {K : PySem.W.Frag} {mg : Str → Option Value} {base : Heap}
theorem sc_lbad : FnScope ["f"] ["f"] (defScope (top 78)) := ⟨rfl, rfl, rfl, by decide +kernel, rfl, by decide +kernel, by decide +kernel⟩
theorem has_lbad (D : Def K mg "_law_bad" ["f"] (top 78)) (C1 : Has P w K mg base 47 "check_formula" ["formula"] (spCheck K)) : Has P w K mg base 48 "_law_bad" ["f"] (spBadL K) := D.has fun f fd F => by
  obtain ⟨f1, fd1, G_check_formula, g_check_formula, k_check_formula, b_check_formula⟩ := C1
  refine F.ok sc_lbad (fun vs H Q E h => ?_) (fun cdv A outer s H vs Q E hr h => ?_)
  · obtain ⟨v, f, rfl, _⟩ := h; rfl
  · obtain ⟨v, f, rfl, dp, wf, q⟩ := h
    have R_check_formula : Room 47 _ := hr
    refine ⟨_, PSs.nox (pss_cons (ps_try_thru0 (pss_one (ps_expr (pe_call G_check_formula R_check_formula (by rfl) g_check_formula k_check_formula b_check_formula .nil pass0 (pa_cons (pv 0) pa_nil))))) (pss_one (ps_ret pe_bl))), ?_⟩
    exact ⟨_, rfl, v, f, rfl, dp, wf, fun H1 r s1 _ => q H1 s1⟩
theorem sc_lnear : FnScope ["draws", "near"] ["draws"] (defScope (top 76)) := ⟨rfl, rfl, rfl, by decide +kernel, rfl, by decide +kernel, by decide +kernel⟩
theorem has_lnear (D : Def K mg "_law_near" ["draws"] (top 76)) (T : Txt mg) (C1 : Has P w K mg base 2 "_law_draw" ["draws"] spDraw) : Has P w K mg base 3 "_law_near" ["draws"] spNear := D.has fun f fd F => by
  obtain ⟨f1, fd1, G_law_draw, g_law_draw, k_law_draw, b_law_draw⟩ := C1
  refine F.ok sc_lnear (fun vs H Q E h => ?_) (fun cdv A outer s H vs Q E hr h => ?_)
  · obtain ⟨d, l, rfl, _⟩ := h; rfl
  · obtain ⟨d, l, rfl, dr, q⟩ := h
    have R_law_draw : Room 2 _ := hr
    refine ⟨_, PSs.nox (pss_cons (ps_set (i := 1) sc_lnear.nd rfl (Or.inl rfl) (pe_lst (pa_cons pe_str (pa_cons pe_str (pa_cons pe_str (pa_cons pe_str (pa_cons pe_str (pa_cons pe_str (pa_cons pe_str (pa_cons pe_str (pa_cons pe_str (pa_cons pe_str (pa_cons pe_str (pa_cons pe_str (pa_cons pe_str (pa_cons pe_str (pa_cons pe_str (pa_cons pe_str (pa_cons pe_str (pa_cons pe_str (pa_cons pe_str (pa_cons pe_str (pa_cons pe_str (pa_cons pe_str (pa_cons pe_str (pa_cons pe_str (pa_cons pe_str (pa_cons pe_str (pa_cons pe_str (pa_cons pe_str pa_nil)))))))))))))))))))))))))))))) (pss_one (ps_ret (pe_ix ix_list (pv 1) (pe_op op_mod (pe_call G_law_draw R_law_draw (by rfl) g_law_draw k_law_draw b_law_draw .nil pass0 (pa_cons (pv 0) pa_nil)) pe_int) (fun _ _ => rfl))))), ?_⟩
    refine ⟨(by show 28 ≤ sizeLine; decide), fun p np => ?_⟩
    have sn := same_upd (o := .lst (nearL.map V.str)) np
    have npd := (dr.ne np).1
    refine ⟨_, rfl, _, rfl, d, l, rfl, dr.same sn, fun z H1 _ _ dr1 k1 => ?_⟩
    obtain ⟨v, hv, hat⟩ := atI_mod (xs := nearL.map V.str) z (by show 0 < 28; decide)
    refine ⟨_, _, rfl, rfl, (by show (0 : Int) < 28; decide), p, _, _, _, rfl, rfl, SqL.of (k1 _ _ upd_same npd), hat, ?_⟩
    obtain ⟨y, rfl, sy⟩ := atI_strs (i := 0) hv near_sm
    exact q H1 y dr1 ((Kp.of sn).trans k1) sy
theorem sc_lspoilt : FnScope ["draws", "text", "pick", "at", "places", "k"] ["draws", "text"] (defScope (top 77)) := ⟨rfl, rfl, rfl, by decide +kernel, rfl, by decide +kernel, by decide +kernel⟩
theorem has_lspoilt (D : Def K mg "_law_spoilt" ["draws", "text"] (top 77)) (T : Txt mg) (C1 : Has P w K mg base 2 "_law_draw" ["draws"] spDraw) (C2 : Has P w K mg base 3 "_law_near" ["draws"] spNear) : Has P w K mg base 4 "_law_spoilt" ["draws", "text"] spSpoilt := D.has fun f fd F => by
  obtain ⟨f1, fd1, G_law_draw, g_law_draw, k_law_draw, b_law_draw⟩ := C1
  obtain ⟨f2, fd2, G_law_near, g_law_near, k_law_near, b_law_near⟩ := C2
  refine F.ok sc_lspoilt (fun vs H Q E h => ?_) (fun cdv A outer s H vs Q E hr h => ?_)
  · obtain ⟨d, l, z, rfl, _⟩ := h; rfl
  · obtain ⟨d, l, z, rfl, dr, lz, no40, q⟩ := h
    have R_law_draw : Room 2 _ := hr.mono (by decide)
    have R_law_near : Room 3 _ := hr
    refine ⟨_, PSs.nox (pss_cons (ps_set (i := 2) sc_lspoilt.nd rfl (Or.inl rfl) (pe_op op_mod (pe_call G_law_draw R_law_draw (by rfl) g_law_draw k_law_draw b_law_draw .nil pass0 (pa_cons (pv 0) pa_nil)) pe_int)) (pss_cons (ps_set (i := 3) sc_lspoilt.nd rfl (Or.inl rfl) (pe_op op_mod (pe_call G_law_draw R_law_draw (by rfl) g_law_draw k_law_draw b_law_draw .nil pass0 (pa_cons (pv 0) pa_nil)) (pe_op op_add (pe_callB call_len_str (by rfl) T.n_len PySem.boot_len (pa_cons (pv 1) pa_nil)) pe_int))) (pss_cons (ps_if (pt_cmpR op_lt (pv 2) pe_int (nomark _)) (pss_one (ps_ret (pe_op op_add_str (pe_op op_add_str (pe_slice sl_str (pv 1) po_none (po_some (pv 3))) (pe_ix ix_list (pe_lst (pa_cons pe_str (pa_cons pe_str (pa_cons pe_str (pa_cons pe_str (pa_cons pe_str (pa_cons pe_str (pa_cons pe_str (pa_cons pe_str pa_nil))))))))) (pe_op op_mod (pe_call G_law_draw R_law_draw (by rfl) g_law_draw k_law_draw b_law_draw .nil pass0 (pa_cons (pv 0) pa_nil)) pe_int) (fun _ _ => rfl))) (pe_slice sl_str (pv 1) (po_some (pv 3)) po_none)))) pss_nil) (pss_cons (ps_if (pt_cmpR op_eq (pv 2) pe_int (nomark _)) (pss_one (ps_ret (pe_op op_add_str (pv 1) (pe_ix ix_list (pe_lst (pa_cons pe_str (pa_cons pe_str (pa_cons pe_str (pa_cons pe_str (pa_cons pe_str (pa_cons pe_str pa_nil))))))) (pe_op op_mod (pe_call G_law_draw R_law_draw (by rfl) g_law_draw k_law_draw b_law_draw .nil pass0 (pa_cons (pv 0) pa_nil)) pe_int) (fun _ _ => rfl))))) pss_nil) (pss_cons (ps_if (pt_cmpR op_eq (pv 2) pe_int (nomark _)) (pss_one (ps_ret (pe_op op_add_str (pe_ix ix_list (pe_lst (pa_cons pe_str (pa_cons pe_str (pa_cons pe_str (pa_cons pe_str (pa_cons pe_str pa_nil)))))) (pe_op op_mod (pe_call G_law_draw R_law_draw (by rfl) g_law_draw k_law_draw b_law_draw .nil pass0 (pa_cons (pv 0) pa_nil)) pe_int) (fun _ _ => rfl)) (pv 1)))) pss_nil) (pss_cons (ps_setLc (i := 4) (own := [("k", 5)]) rfl sc_lspoilt.nd rfl rfl (sw_true rfl rfl rfl (by decide +kernel)) (pi_range1 (by rfl) T.n_range (pa_cons (pe_callB call_len_str (by rfl) T.n_len PySem.boot_len (pa_cons (pv 1) pa_nil)) pa_nil)) (blkOk_by (N := ["draws", "text", "pick", "at", "places", "k"]) (sc := defScope (top 77)) (by decide +kernel)) (fun _ _ _ _ _ => (pg_name (i := 5) sc_lspoilt.nd rfl (Or.inl rfl))) (fun _ _ _ _ _ => (pts_one (pt_cmpR op_in_sign (pe_ix ix_str (pv 1) (pv 5) (fun _ _ => rfl)) pe_str (by rfl)))) (fun _ _ _ _ _ => (pv 5))) (pss_cons (ps_if (PW.pt (pw_and (pt_cmpR op_lt (pv 2) pe_int (nomark _)) (pw_and1 (pt_cmpR op_gt (pe_callB call_len_seq (by rfl) T.n_len PySem.boot_len (pa_cons (pv 4) pa_nil)) pe_int (nomark _))))) (pss_cons (ps_set (i := 3) sc_lspoilt.nd rfl (Or.inl rfl) (pe_ix ix_list (pv 4) (pe_op op_mod (pe_call G_law_draw R_law_draw (by rfl) g_law_draw k_law_draw b_law_draw .nil pass0 (pa_cons (pv 0) pa_nil)) (pe_callB call_len_seq (by rfl) T.n_len PySem.boot_len (pa_cons (pv 4) pa_nil))) (fun _ _ => rfl))) (pss_one (ps_ret (pe_op op_add_str (pe_slice sl_str (pv 1) po_none (po_some (pv 3))) (pe_slice sl_str (pv 1) (po_some (pe_op op_add (pv 3) pe_int)) po_none))))) pss_nil) (pss_cons (ps_if (PW.pt (pw_and (pt_cmpR op_eq (pv 2) pe_int (nomark _)) (pw_and1 (pt_cmpR op_in_str pe_str (pv 1) (by rfl))))) (pss_one (ps_ret (pe_slice sl_str (pv 1) po_none (po_some (pe_op op_add (pe_op op_add (pe_bm PySem.F.plainAttrs_str PySem.F.slot_str_find PySem.F.type_str_find mt_find (pv 1) (pa_cons pe_str pa_nil)) pe_int) (pe_op op_mod (pe_call G_law_draw R_law_draw (by rfl) g_law_draw k_law_draw b_law_draw .nil pass0 (pa_cons (pv 0) pa_nil)) (pe_op op_sub (pe_op op_sub (pe_callB call_len_str (by rfl) T.n_len PySem.boot_len (pa_cons (pv 1) pa_nil)) (pe_bm PySem.F.plainAttrs_str PySem.F.slot_str_find PySem.F.type_str_find mt_find (pv 1) (pa_cons pe_str pa_nil))) pe_int))))))) pss_nil) (pss_one (ps_ret (pe_call G_law_near R_law_near (by rfl) g_law_near k_law_near b_law_near .nil pass0 (pa_cons (pv 0) pa_nil)))))))))))), ?_⟩
    have big : z.length ≤ sizeLine := Nat.le_trans lz (by decide)
    refine ⟨_, rfl, d, l, rfl, dr, fun z1 H1 _ _ dr1 k1 => ⟨_, _, rfl, rfl, (by show (0 : Int) < 8; decide), ?_⟩⟩
    show gName 2 (V.int (z1 % 8)) _ _ _
    generalize z1 % 8 = pick
    refine ⟨_, rfl, d, l, rfl, dr1, fun z2 H2 _ _ dr2 k2 => ⟨_, rfl, z, rfl, big, _, _, rfl, rfl, _, _, rfl, rfl, ?_⟩⟩
    refine ⟨(by show (0 : Int) < (z.length : Nat) + 1; omega), ?_⟩
    show gName 3 (V.int (z2 % ((z.length : Nat) + 1))) _ _ _
    generalize z2 % (((z.length : Nat) : Int) + 1) = A
    have k12 := k1.trans k2
    have cl := fun a b => cutS_len z a b
    have fit : ∀ a b : Nat, a ≤ 90000 → b ≤ 90000 → a + b ≤ sizeLine := fun a b ha hb => Nat.le_trans (Nat.add_le_add ha hb) (by decide)
    refine ⟨_, rfl, _, _, rfl, rfl, _, rfl, ite2 (fun _ => ?_) (fun _ => ?_)⟩
    · refine ⟨_, rfl, _, rfl, _, rfl, z, rfl, big, (by show 8 ≤ sizeLine; decide), fun p np => ?_⟩
      have sn := same_upd (o := .lst (ins8.map V.str)) np
      refine ⟨_, rfl, d, l, rfl, dr2.same sn, fun z3 H3 _ _ dr3 k3 => ?_⟩
      obtain ⟨v, hv, hat⟩ := atI_mod (xs := ins8.map V.str) z3 (by show 0 < 8; decide)
      obtain ⟨y, rfl, sy⟩ := atI_strs (i := 0) hv ins8_sm
      have c1 := cl none (some A)
      have c2 := cl (some A) none
      refine ⟨_, _, rfl, rfl, (by show (0 : Int) < 8; decide), p, _, _, _, rfl, rfl, SqL.of (k3 _ _ upd_same (dr2.ne np).1), hat, _, _, rfl, rfl, fit _ _ (by omega) (by omega), _, rfl, _, rfl, _, rfl, z, rfl, big, _, _, rfl, rfl, fit _ _ (by rw [Lc_len, Lc_app, List.length_append, ← Lc_len, ← Lc_len]; omega) (by omega), ?_⟩
      refine q H3 _ dr3 ((k12.trans (.of sn)).trans k3) ?_
      rw [Lc_len, Lc_app, Lc_app, List.length_append, List.length_append]
      have e1 := Lc_len (cutS z none (some A))
      have e2 := Lc_len (cutS z (some A) none)
      have e3 := Lc_len y
      omega
    refine ⟨_, rfl, rfl, _, rfl, ite2 (fun _ => ?_) (fun _ => ?_)⟩
    · refine ⟨_, rfl, (by show 6 ≤ sizeLine; decide), fun p np => ?_⟩
      have sn := same_upd (o := .lst (end6.map V.str)) np
      refine ⟨_, rfl, d, l, rfl, dr2.same sn, fun z3 H3 _ _ dr3 k3 => ?_⟩
      obtain ⟨v, hv, hat⟩ := atI_mod (xs := end6.map V.str) z3 (by show 0 < 6; decide)
      obtain ⟨y, rfl, sy⟩ := atI_strs (i := 0) hv end6_sm
      refine ⟨_, _, rfl, rfl, (by show (0 : Int) < 6; decide), p, _, _, _, rfl, rfl, SqL.of (k3 _ _ upd_same (dr2.ne np).1), hat, _, _, rfl, rfl, fit _ _ (by omega) (by omega), ?_⟩
      refine q H3 _ dr3 ((k12.trans (.of sn)).trans k3) ?_
      rw [Lc_len, Lc_app, List.length_append, ← Lc_len, ← Lc_len]
      omega
    refine ⟨_, rfl, rfl, _, rfl, ite2 (fun _ => ?_) (fun _ => ?_)⟩
    · refine ⟨(by show 5 ≤ sizeLine; decide), fun p np => ?_⟩
      have sn := same_upd (o := .lst (beg5.map V.str)) np
      refine ⟨_, rfl, d, l, rfl, dr2.same sn, fun z3 H3 _ _ dr3 k3 => ?_⟩
      obtain ⟨v, hv, hat⟩ := atI_mod (xs := beg5.map V.str) z3 (by show 0 < 5; decide)
      obtain ⟨y, rfl, sy⟩ := atI_strs (i := 0) hv beg5_sm
      refine ⟨_, _, rfl, rfl, (by show (0 : Int) < 5; decide), p, _, _, _, rfl, rfl, SqL.of (k3 _ _ upd_same (dr2.ne np).1), hat, _, rfl, _, _, rfl, rfl, fit _ _ (by omega) (by omega), ?_⟩
      refine q H3 _ dr3 ((k12.trans (.of sn)).trans k3) ?_
      rw [Lc_len, Lc_app, List.length_append, ← Lc_len, ← Lc_len]
      omega
    refine ⟨_, rfl, z, rfl, big, z.length, rfl, by omega, by omega, fun M nM => ?_⟩
    have sM := same_upd (o := .lst []) nM
    refine lc_it (walk_range (n := z.length)) (fun j H3 => ∃ ks : List Nat, H3 M = some (.lst (ks.map fun k => V.int (k : Nat))) ∧ Same H2 H3 ∧ ks.length ≤ j ∧ ∀ k, k ∈ ks → k < z.length) ⟨[], upd_same, sM, Nat.le_refl _, fun k hk => nomatch hk⟩ (fun _ _ _ _ => trivial) ?_ ?_
    · rintro j y H3 H4 hj ⟨ks, hM, s3, lk, bk⟩ ⟨rfl, rfl⟩
      have e0 : (fun i : Nat => V.int (0 + (i : Int))) j = .int ((j : Nat) : Int) := by show V.int (0 + (j : Int)) = _; rw [Int.zero_add]
      rw [e0]
      obtain ⟨c, hc⟩ : ∃ c, z.cps.toList[j]? = some c := ⟨_, List.getElem?_eq_getElem (by have := Lc_len z; show j < (Lc z).length; omega)⟩
      refine ⟨rfl, _, rfl, _, rfl, z, _, c, rfl, rfl, big, atI_nat hc, c, _, rfl, rfl, _, rfl, ite2 (fun _ => ?_) (fun _ => ?_)⟩
      · refine ⟨_, rfl, _, hM, mid_fit (by rw [List.length_map]; omega), ks ++ [j], ?_, same_own s3 nM, by rw [List.length_append]; show ks.length + 1 ≤ j + 1; omega, fun k hk => ?_⟩
        · rw [upd_same, List.map_append]; rfl
        · rcases List.mem_append.mp hk with hk | hk
          · exact bk k hk
          · rw [List.mem_singleton.mp hk]; omega
      · exact ⟨ks, hM, s3, by omega, bk⟩
    · rintro H3 ⟨ks, hM, s3, lk, bk⟩
      have dr3 := dr2.same s3
      have k13 := k12.trans (.of s3)
      refine ⟨_, rfl, _, _, rfl, rfl, _, rfl, ?_⟩
      by_cases go : pick < 6 ∧ 0 < ks.length
      · obtain ⟨h6, k0⟩ := go
        refine cT (k := decide (pick < 6)) (decide_eq_true h6) ⟨_, rfl, M, _, rfl, .inl (SqL.of hM), _, _, rfl, rfl, _, rfl, cT (k := decide ((0 : Int) < (((ks.map fun k => V.int (k : Nat)).length : Nat) : Int))) (decide_eq_true (by rw [List.length_map]; omega)) ?_⟩
        refine ⟨_, rfl, _, rfl, d, l, rfl, dr3, fun z3 H4 _ _ dr4 k4 => ?_⟩
        have hM4 := k4 _ _ hM (dr2.ne nM).1
        obtain ⟨v, hv, hat⟩ := atI_mod (xs := ks.map fun k => V.int (k : Nat)) z3 (by rw [List.length_map]; exact k0)
        obtain ⟨k, hk, rfl⟩ := List.mem_map.mp hv
        refine ⟨_, rfl, M, _, rfl, .inl (SqL.of hM4), _, _, rfl, rfl, (by show (0 : Int) < (((ks.map fun k => V.int (k : Nat)).length : Nat) : Int); rw [List.length_map]; omega), M, _, _, _, rfl, rfl, SqL.of hM4, hat, ?_⟩
        have c1 := cl none (some (k : Int))
        have c2 := cl (some ((k : Int) + 1)) none
        refine ⟨_, rfl, _, rfl, _, rfl, z, rfl, big, _, rfl, _, rfl, _, _, rfl, rfl, _, rfl, z, rfl, big, _, _, rfl, rfl, fit _ _ (by omega) (by omega), ?_⟩
        refine q H4 _ dr4 (k13.trans k4) ?_
        rw [Lc_len, Lc_app, List.length_append]
        have e1 := Lc_len (cutS z none (some (k : Int)))
        have e2 := Lc_len (cutS z (some ((k : Int) + 1)) none)
        omega
      · refine and_no (fun h6 hB => ⟨_, rfl, M, _, rfl, .inl (SqL.of hM), _, _, rfl, rfl, _, rfl, cF (k := decide ((0 : Int) < (((ks.map fun k => V.int (k : Nat)).length : Nat) : Int))) (decide_eq_false (by
          rw [List.length_map]
          intro x
          exact go ⟨of_decide_eq_true h6, by omega⟩)) hB⟩) (iteF ?_)
        refine ⟨_, rfl, rfl, _, rfl, ?_⟩
        by_cases go2 : pick = 6 ∧ (!(PySem.Builtin.Str.occurrences z "(" 0 z.length 1).isEmpty) = true
        · obtain ⟨h6, hp⟩ := go2
          have pos := paren_pos hp no40
          refine cT (k := decide (V.int pick = V.int 6)) (decide_eq_true (by rw [h6])) ⟨_, rfl, _, _, rfl, rfl, _, rfl, cT hp ?_⟩
          refine ⟨_, rfl, _, rfl, rfl, z, _, rfl, rfl, _, _, rfl, rfl, _, rfl, d, l, rfl, dr3, fun z3 H4 _ _ dr4 k4 => ?_⟩
          refine ⟨_, rfl, z, rfl, big, _, rfl, rfl, z, _, rfl, rfl, _, _, rfl, rfl, _, _, rfl, rfl, _, _, rfl, rfl, pos, _, _, rfl, rfl, _, rfl, z, rfl, big, ?_⟩
          exact q H4 _ dr4 (k13.trans k4) (Nat.le_trans (cutS_len z _ _) (by omega))
        · refine and_no (fun h6 hB => ⟨_, rfl, _, _, rfl, rfl, _, rfl, cF (k := !(PySem.Builtin.Str.occurrences z "(" 0 z.length 1).isEmpty) (by
            cases e : (!(PySem.Builtin.Str.occurrences z "(" 0 z.length 1).isEmpty) with
            | false => rfl
            | true => exact absurd ⟨V.int.inj (of_decide_eq_true h6), e⟩ go2) hB⟩) (iteF ?_)
          exact ⟨_, rfl, d, l, rfl, dr3, fun H4 y dr4 k4 ly => q H4 y dr4 (k13.trans k4) (Nat.le_trans ly (by decide))⟩
end
/-! ### the law of k11 -/
/-- isinstance(e, (c1, c2, ..)), e the exception that the suite holds -/
theorem call_isET {X : Cx} {a : Addr} {oe : Obj} {cls : Value} {d : Option Addr} {pn : List (Addr × Obj)} (zo : Zc cls d oe) (fo : ∃ vs, oe.data = .fields vs) :
    CallR (X.suite a ((a, oe) :: pn)) (.builtin "isinstance") (fun xs H Q => ∃ (D tp : Addr) (cs : List V) (ks : List Value) (b : Bool), cls = .ref D ∧ d = none ∧ ExcC X.K D ∧ xs = [.ref a, .ref tp] ∧ H tp = some (.tup cs) ∧ Paired ClsV cs ks ∧ PySem.W.kitAny X.K (.ref D) ks = some b ∧ Q (.bl b) H) := by
  intro ps τ σ G xs us W J r h
  obtain ⟨D, tp, cs, ks, b, rfl, rfl, C, rfl, hT, pr, e, q⟩ := h
  obtain ⟨w1, w2, rfl, r1, r2⟩ := vals2 r
  cases (show w2 = Value.ref tp from r2)
  cases (show w1 = Value.ref a from r1)
  obtain ⟨got, _⟩ := J.pin (a, oe) (List.mem_append.mpr (.inl List.mem_cons_self))
  obtain ⟨vs, ev⟩ := fo
  have at_ : PySem.W.InstAt τ.heap a oe D none := by
    obtain ⟨oc, od, oda, osl⟩ := oe
    obtain ⟨z1, z2⟩ := zo
    dsimp only at z1 z2 ev
    subst z1 z2 ev
    exact ⟨got, rfl, rfl, trivial⟩
  obtain ⟨_, its, rv, o, g1, g2, n, g3⟩ := (show ObjOk X.prog X.w G τ.heap tp (.tup cs) from J.hok tp _ hT)
  have same := ClsV.all pr rv
  subst same
  obtain ⟨oc, od, dt, sl⟩ := o
  simp only at g2 g3
  subst g2 g3
  exact PySem.W.kia_tup (PySem.W.handS_kitx_exc C.hg C.hk C.hs C.hd C.ha C.hn C.ht C.hm) J.kIn at_ g1 e (fun z => nomatch z) fun tk => ⟨.bl b, G, J.kept (t' := tk) fun _ _ z => z, rfl, q⟩
theorem DrA.kiX {H H' : Hp} {d l : Addr} (r : DrA H d l) (k : Ki H H') : DrA H' d l := by
  obtain ⟨n, ms, h1, h2, h3⟩ := r
  exact ⟨n, ms, Ki.lst k h1, Ki.lst k h2, h3⟩
theorem Dk.kiX {K : PySem.W.Frag} {H H' : Hp} {v : V} (r : Dk K H v) (k : Ki H H') : Dk K H' v := by
  obtain ⟨kl, a, b, c⟩ := r
  exact ⟨kl, a, b, Dp.ki k c⟩
def spLaw (K : PySem.W.Frag) : Sp := fun vs H Q _ => ∃ (a : Addr) (ns : List Int), vs = [.ref a] ∧ SqL K H a (ns.map V.int) ∧ ns.length ≤ 63 ∧ ∀ H' : Hp, Q (.bl true) H'
theorem Gen.wf {pool : List Str} {ns : List NE} {Γ : ArE} {f : Fm} {n : Nat} (g : Gen pool ns Γ f n) (h : n ≤ 5) : f.Wf ∧ f.cnt ≤ 121 := by
  have c := g.cnt
  have d := g.dep
  have e : 3 ^ n ≤ 3 ^ 5 := Nat.pow_le_pow_right (by decide) h
  have e2 : (3 : Nat) ^ 5 = 243 := by decide
  exact ⟨⟨g.ok, by omega, by omega, g.po, Γ, g.ty⟩, by omega⟩
theorem last_app {l m : List Nat} (h : m.getLast? ≠ some 40) (n : m ≠ []) : (l ++ m).getLast? ≠ some 40 := by
  rw [List.getLast?_append]
  cases e : m.getLast? with
  | none => exact absurd (List.getLast?_eq_none_iff.mp e) n
  | some c => rw [e] at h; exact h
theorem last_41 {l : List Nat} : (l ++ [41]).getLast? ≠ some 40 := last_app (by decide) (by decide)
theorem last_nm {l : List Nat} {y : Str} (h : Nm y) : (l ++ Lc y).getLast? ≠ some 40 := by
  have lo := h.lo
  rw [Lc_len] at lo
  refine last_app (fun e => ?_) (fun e => by rw [e] at lo; exact absurd lo (by decide))
  exact an_40 (h.all_ _ (List.mem_of_getLast? e))
theorem tx_last : ∀ f : Fm, f.Ok → f.tx.getLast? ≠ some 40
  | .mk h ps, ok => by
    have o := ok.hd_
    rw [Fm.tx_mk]
    cases h with
    | rel n as => exact last_41
    | eq x y => exact last_nm o.2.1
    | less x y => exact last_nm o.2.1
    | con =>
      simp only [Hd.tx]
      split
      · decide +kernel
      · exact last_41
    | dis =>
      simp only [Hd.tx]
      split
      · decide +kernel
      · exact last_41
    | _ => exact last_41
section
variable {P : Program} {w : World} {K : PySem.W.Frag} {mg : Str → Option Value} {base : Heap}
theorem sc_law : FnScope ["script", "draws", "kinds", "turn", "f", "text", "refused", "e"] ["script"] (defScope (top 79)) := ⟨rfl, rfl, rfl, by decide +kernel, rfl, by decide +kernel, by decide +kernel⟩
theorem ok_law {f : Addr} {fd : FuncData} (F : FnP K "law" (top 79) f fd) (T : Txt mg) (BT : XC K mg "BadText") (SE : mg "SaysoError" = some (.ref (He.ga K "SaysoError"))) (BA : mg "BadArgument" = some (.ref (He.ga K "BadArgument"))) (BF : mg "BadFormula" = some (.ref (He.ga K "BadFormula"))) (BS : mg "BadStructure" = some (.ref (He.ga K "BadStructure")))
    (u1 : PySem.W.kitOne K (.ref (He.ga K "BadText")) (.ref (He.ga K "SaysoError")) = some true) (u2 : PySem.W.kitOne K (.ref (He.ga K "BadText")) (.ref (He.ga K "BadArgument")) = some false) (u3 : PySem.W.kitOne K (.ref (He.ga K "BadText")) (.ref (He.ga K "BadFormula")) = some false) (u4 : PySem.W.kitOne K (.ref (He.ga K "BadText")) (.ref (He.ga K "BadStructure")) = some false)
    (C1 : Has P w K mg base 2 "_law_numbers" ["script"] (spNumbers K)) (C2 : Has P w K mg base 2 "_law_draw" ["draws"] spDraw) (C4 : Has P w K mg base 3 "_law_names" ["draws"] (spNamesL K)) (C5 : ∀ n : Nat, Has P w K mg base (4 + 2 * n) "_law_formula" ["draws", "deep", "pool", "names", "kinds"] (spForm K n))
    (D2 : HasX (L2.CX P w) P w K mg base 90 "parse_formula" ["text"] (spParseR K)) (L1 : ∀ n, Has P w K mg base (2 + n) "_law_text" ["f"] (spLText K n)) (L2_ : Has P w K mg base 4 "_law_spoilt" ["draws", "text"] spSpoilt) (L3 : Has P w K mg base 48 "_law_bad" ["f"] (spBadL K)) : FnOk P w K mg base CX0 91 f fd ["script"] (spLaw K) := by
  obtain ⟨f1, fd1, G_law_numbers, g_law_numbers, k_law_numbers, b_law_numbers⟩ := C1
  obtain ⟨f2, fd2, G_law_draw, g_law_draw, k_law_draw, b_law_draw⟩ := C2
  obtain ⟨f4, fd4, G_law_names, g_law_names, k_law_names, b_law_names⟩ := C4
  obtain ⟨f5, fd5, G_law_formula, g_law_formula, k_law_formula, b_law_formula⟩ := C5 5
  obtain ⟨a2, b2, G_parse_formula, g_parse_formula, k_parse_formula, b_parse_formula⟩ := D2
  obtain ⟨a3, b3, G_law_text, g_law_text, k_law_text, b_law_text⟩ := L1 40
  obtain ⟨a4, b4, G_law_spoilt, g_law_spoilt, k_law_spoilt, b_law_spoilt⟩ := L2_
  obtain ⟨a5, b5, G_law_bad, g_law_bad, k_law_bad, b_law_bad⟩ := L3
  refine F.ok sc_law (fun vs H Q E h => ?_) (fun cdv A outer s H vs Q E hr h => ?_)
  · obtain ⟨a, ns, rfl, _⟩ := h; rfl
  · obtain ⟨a, ns, rfl, hS, hlen, q⟩ := h
    have R_law_numbers : Room 2 _ := hr.mono (by decide)
    have R_law_draw : Room 2 _ := hr.mono (by decide)
    have R_law_names : Room 3 _ := hr.mono (by decide)
    have R_law_formula : Room (4 + 2 * 5) _ := hr.mono (by decide)
    have R_parse_formula : Room 90 _ := hr
    have R_law_text : Room (2 + 40) _ := hr.mono (by decide)
    have R_law_spoilt : Room 4 _ := hr.mono (by decide)
    have R_law_bad : Room 48 _ := hr.mono (by decide)
    refine ⟨_, PSs.nox (pss_cons (ps_set (i := 1) sc_law.nd rfl (Or.inl rfl) (pe_lst (pa_cons (pe_call G_law_numbers R_law_numbers (by rfl) g_law_numbers k_law_numbers b_law_numbers .nil pass0 (pa_cons (pv 0) pa_nil)) (pa_cons pe_int pa_nil)))) (pss_cons (ps_set (i := 2) sc_law.nd rfl (Or.inl rfl) (pe_lst (pa_cons pe_str (pa_cons pe_str (pa_cons pe_str (pa_cons pe_str (pa_cons pe_str (pa_cons pe_str pa_nil)))))))) (pss_cons (ps_for PassesOwn.never rfl (pi_range1 (by rfl) T.n_range (pa_cons pe_int pa_nil)) (pg_name (i := 3) sc_law.nd rfl (Or.inl rfl)) (pss_cons (ps_set (i := 4) sc_law.nd rfl (Or.inl rfl) (pe_call G_law_formula R_law_formula (by rfl) g_law_formula k_law_formula b_law_formula .nil pass0 (pa_cons (pv 1) (pa_cons (pe_op op_add pe_int (pe_op op_mod (pe_call G_law_draw R_law_draw (by rfl) g_law_draw k_law_draw b_law_draw .nil pass0 (pa_cons (pv 1) pa_nil)) pe_int)) (pa_cons (pe_lst (pa_cons pe_str (pa_cons pe_str (pa_cons pe_str pa_nil)))) (pa_cons (pe_call G_law_names R_law_names (by rfl) g_law_names k_law_names b_law_names .nil pass0 (pa_cons (pv 1) pa_nil)) (pa_cons (pv 2) pa_nil))))))) (pss_cons (ps_set (i := 5) sc_law.nd rfl (Or.inl rfl) (pe_call G_law_spoilt R_law_spoilt (by rfl) g_law_spoilt k_law_spoilt b_law_spoilt .nil pass0 (pa_cons (pv 1) (pa_cons (pe_call G_law_text R_law_text (by rfl) g_law_text k_law_text b_law_text .nil pass0 (pa_cons (pv 4) pa_nil)) pa_nil)))) (pss_cons (ps_set (i := 6) sc_law.nd rfl (Or.inl rfl) pe_bl) (pss_cons (ps_try_as (i := 7) (tb := fun W => tAsg (tCallS (spParseR K) (WE W) (tCons (tVar 5) tNil)) (gName 4)) (Wout := fun _ _ _ _ => False) rfl rfl sc_law.nd rfl rfl ⟨rfl, by decide, Or.inl BT.g⟩ takes0
      (fun W pn xe tk _ => pss_one (ps_set (i := 4) sc_law.nd rfl (Or.inl rfl) (by exact (pe_callS G_parse_formula R_parse_formula rfl g_parse_formula k_parse_formula b_parse_formula (fun σ => passAt tk σ) (by exact (pa_cons (pv 5) pa_nil))))))
      (fun a oe cls d pn hz hf => pss_one (ps_set (i := 6) sc_law.nd rfl (Or.inl rfl) (pe_and (pe_callB (call_isE' hz hf) (by rfl) T.n_isinstance (by decide +kernel) (pa_cons (pv 7) (pa_cons (pe_glob (v := .ref (He.ga K "SaysoError")) (by rfl) SE rfl) pa_nil))) (pe_one (pe_not (pe_callB (call_isET hz hf) (by rfl) T.n_isinstance (by decide +kernel) (pa_cons (pv 7) (pa_cons (pe_tup (pa_cons (pe_glob (v := .ref (He.ga K "BadArgument")) (by rfl) BA rfl) (pa_cons (pe_glob (v := .ref (He.ga K "BadFormula")) (by rfl) BF rfl) (pa_cons (pe_glob (v := .ref (He.ga K "BadStructure")) (by rfl) BS rfl) pa_nil)))) pa_nil))))))))) (pss_one (ps_if (PW.pt (pw_and (pt_not (pt_val (pv 6))) (pw_and1 (PW.pt (pw_or (pt_val (pe_call G_law_bad R_law_bad (by rfl) g_law_bad k_law_bad b_law_bad .nil pass0 (pa_cons (pv 4) pa_nil))) (pw_or1 (pt_cmpR op_ne (pe_call G_law_text R_law_text (by rfl) g_law_text k_law_text b_law_text .nil pass0 (pa_cons (pv 4) pa_nil)) (pv 5) (nomark _)))))))) (pss_one (ps_ret pe_bl)) pss_nil))))))) (pss_one (ps_ret pe_bl))))), ?_⟩
    refine ⟨_, rfl, a, ns, rfl, hS, hlen, fun H1 p ms s1 np hp sm => ⟨(by show 2 ≤ sizeLine; decide), fun d nd => ?_⟩⟩
    have dr0 : DrA (upd H1 d (.lst [.ref p, .int 0])) d p := ⟨0, ms, upd_same, by rw [upd_ne (ne_of_none hp nd)]; exact hp, sm⟩
    revert dr0
    generalize upd H1 d (.lst [.ref p, .int 0]) = H2
    intro dr0
    refine ⟨(by show 6 ≤ sizeLine; decide), fun c nc => ?_⟩
    have s3 := same_upd (o := .lst [.str "some", .str "all", .str "lfp", .str "pfp", .str "tc", .str "guess"]) nc
    have dk3 : Dk K (upd H2 c (.lst [.str "some", .str "all", .str "lfp", .str "pfp", .str "tc", .str "guess"])) (.ref c) := ⟨kindsL, by decide, fun x hx => hx, .lst (xs := kindsL.map V.str) (SqL.of upd_same) (DpAll.of_strs _)⟩
    have dr3 := dr0.same s3
    clear s3
    revert dk3 dr3
    generalize upd H2 c (.lst [.str "some", .str "all", .str "lfp", .str "pfp", .str "tc", .str "guess"]) = H3
    intro dk3 dr3
    refine ⟨3, rfl, by decide, by decide, for_range (n := 3) (fun i σ H7 => ∃ y3 y4 y5 y6 : Option V, σ = [some (.ref a), some (.ref d), some (.ref c), y3, y4, y5, y6, none] ∧ DrA H7 d p ∧ Dk K H7 (.ref c)) ⟨none, none, none, none, rfl, dr3, dk3⟩ ?_ ?_⟩
    · rintro i σ H7 hi ⟨y3, y4, y5, y6, rfl, dr7, dk7⟩
      refine ⟨_, rfl, _, rfl, d, p, rfl, dr7, fun z8 H8 _ _ dr8 k8 => ⟨_, _, rfl, rfl, (by show (0 : Int) < 5; decide), _, _, rfl, rfl, ?_⟩⟩
      obtain ⟨n, hn, n1, n5⟩ : ∃ n : Nat, 1 + z8 % 5 = (n : Int) ∧ 1 ≤ n ∧ n ≤ 5 := ⟨(1 + z8 % 5).toNat, by omega, by omega, by omega⟩
      refine ⟨(by show 3 ≤ sizeLine; decide), fun e ne => ?_⟩
      have se := same_upd (o := .lst [.str "x", .str "y", .str "z"]) ne
      have he : (upd H8 e (.lst [.str "x", .str "y", .str "z"])) e = some (.lst ((["x", "y", "z"] : List Str).map V.str)) := upd_same
      have dre := dr8.same se
      obtain ⟨ned, nel⟩ := dr8.ne ne
      refine ⟨_, rfl, d, p, rfl, dre, fun H9 rn nl Γ dr9 k9 dn nok nlen => ?_⟩
      have dk9 := ((dk7.kpA dr7 k8).kpA dr8 (.of se)).kpA dre k9
      have po : Pool ["x", "y", "z"] := ⟨fun v hv => nm_of (List.all_eq_true.mp (show ((["x", "y", "z"] : List Str).all nmB) = true by decide +kernel) v hv), by decide +kernel, by decide, by decide⟩
      refine ⟨_, rfl, d, p, _, .ref e, rn, .ref c, ["x", "y", "z"], nl, Γ, n, rfl, hn, by omega, ⟨dr9, .lst (SqL.of (k9 _ _ he ned)) (DpAll.of_strs _), dn, dk9, nok, po, by omega⟩, fun H10 fv f dr10 k10 df gf => ?_⟩
      have dk10 := dk9.kpA dr9 k10
      obtain ⟨wf, c121⟩ := gf.wf n5
      have d5 : f.dep ≤ 5 := Nat.le_trans gf.dep n5
      refine ⟨_, rfl, _, rfl, fv, f, rfl, df, wf.ok, wf.cnt, by omega, fun H11 s11 => ?_⟩
      have tl := tx_len f wf.ok
      refine ⟨d, p, f.text, rfl, dr10.same s11, by rw [Lc_len, Fm.text_L]; omega, by rw [Fm.text_L]; exact tx_last f wf.ok, fun H12 y dr12 k12 ly => ?_⟩
      have dk12 := (dk10.kpA dr10 (.of s11)).kpA (dr10.same s11) k12
      have mid : Mid y := Nat.le_trans ly (by decide)
      refine ⟨_, rfl, y, rfl, mid, fun H13 v g k13 dv wfg eg => ?_, fun H13 k13 => ?_⟩
      · refine ⟨_, rfl, _, rfl, cT (k := !false) rfl ⟨_, rfl, v, g, rfl, dv, wfg, fun H14 s14 => ⟨_, rfl, cF (k := false) rfl ?_⟩⟩⟩
        refine ⟨_, rfl, v, g, rfl, Dp.same s14 dv, wfg.ok, wfg.cnt, wfg.dep, fun H15 s15 => ⟨_, rfl, rfl, _, rfl, ?_⟩⟩
        have k15 : Ki H12 H15 := k13.trans (.of (s14.trans s15))
        refine cF (k := !decide (V.str g.text = V.str y)) (nd_f (by rw [eg])) ?_
        exact ⟨_, _, _, _, rfl, dr12.kiX k15, dk12.kiX k15⟩
      · refine ⟨true, BT.e, fun _ a na => ?_, fun z => nomatch z⟩
        refine ⟨_, rfl, He.ga K "BadText", He.ga K "SaysoError", true, rfl, rfl, BT.i, rfl, u1, ?_⟩
        refine ⟨_, rfl, iteT ?_⟩
        refine ⟨_, rfl, (by show 3 ≤ sizeLine; decide), fun tp ntp => ?_⟩
        have st := same_upd (o := .tup [.ref (He.ga K "BadArgument"), .ref (He.ga K "BadFormula"), .ref (He.ga K "BadStructure")]) ntp
        refine ⟨He.ga K "BadText", tp, _, _, false, rfl, rfl, BT.i, rfl, upd_same, .cons (.own _) (.cons (.own _) (.cons (.own _) .nil)), kitAny_cons u2 (fun _ => kitAny_cons u3 (fun _ => kitAny_cons u4 (fun _ => rfl) (fun z => nomatch z)) (fun z => nomatch z)) (fun z => nomatch z), ?_⟩
        refine ⟨_, rfl, ?_⟩
        refine ⟨_, rfl, _, rfl, cF (k := !true) rfl (iteF ?_)⟩
        exact ⟨_, _, _, _, rfl, dr12.kiX (k13.trans (.of st)), dk12.kiX (k13.trans (.of st))⟩
    · rintro σ H7 ⟨y3, y4, y5, y6, rfl, dr7, dk7⟩
      exact q H7
end
theorem thB_ok {K : PySem.W.Frag} {x : Str} {kvs : List (Str × He.Dv)} (h : thB K x kvs = true) : ∀ k v, (k, v) ∈ kvs.map (fun p => (p.1, p.2.v K)) → ∃ u, PySem.W.nsIn K (He.ga K x) k = some (some u) ∧ RelV v u := by
  intro k v hm
  obtain ⟨p, hp, e⟩ := List.mem_map.mp hm
  have e1 : p.1 = k := congrArg Prod.fst e
  have e2 : p.2.v K = v := congrArg Prod.snd e
  have z := List.all_eq_true.mp h p hp
  rw [← e1, ← e2]
  cases q : PySem.W.nsIn K (He.ga K x) p.1 with
  | none => rw [q] at z; cases z
  | some o =>
    rw [q] at z
    cases o with
    | none => cases z
    | some u => exact ⟨u, rfl, He.relB_ok z⟩
theorem msB_ok {K : PySem.W.Frag} {x : Str} {ks : List Str} (h : msB K x ks = true) : Miss K x ks := by
  intro k hk
  have z := List.all_eq_true.mp h k hk
  cases q : PySem.W.nsIn K (He.ga K x) k with
  | none => rw [q] at z; cases z
  | some o =>
    rw [q] at z
    cases o with
    | none => rfl
    | some u => cases z
theorem facts {P : Program} {w : World} {K : PySem.W.Frag} {h : Heap} {mg : Str → Option Value} {f : Addr} (X : K.In h) (G : h.Ns mainGlobals mg) (hfa : mg ("law" : Str) = some (.ref f)) (c : He.SaysX fas fns tabs [] exs w h K) :
    ∃ fd : FuncData, (∀ (s : Shared) (v : Value), BindsTo s fd ⟨[v], []⟩ [("script", v)]) ∧ ∀ base : Heap, K.In base → base.Ns mainGlobals mg → FnOk P w K mg base CX0 91 f fd ["script"] (spLaw K) := by
  have cd := c.t.d
  obtain ⟨fd_is_whole, F_is_whole⟩ := cd.def_ 0 (d := d_is_whole) rfl
  have g_is_whole := He.glo_ok X G (cd.fact 0 (f := .glo "is_whole") rfl)
  have D_is_whole : Def K mg "is_whole" ["value"] (top 7) := ⟨_, fd_is_whole, F_is_whole, g_is_whole, FunD.bindsN F_is_whole fun _ _ _ _ _ _ us hl => match us, hl with | [_], _ => rfl⟩
  obtain ⟨fd_is_between, F_is_between⟩ := cd.def_ 1 (d := d_is_between) rfl
  have g_is_between := He.glo_ok X G (cd.fact 1 (f := .glo "is_between") rfl)
  have D_is_between : Def K mg "is_between" ["value", "low", "high"] (top 8) := ⟨_, fd_is_between, F_is_between, g_is_between, FunD.bindsN F_is_between fun _ _ _ _ _ _ us hl => match us, hl with | [_, _, _], _ => rfl⟩
  obtain ⟨fd_is_name, F_is_name⟩ := cd.def_ 2 (d := d_is_name) rfl
  have g_is_name := He.glo_ok X G (cd.fact 2 (f := .glo "is_name") rfl)
  have D_is_name : Def K mg "is_name" ["text"] (top 14) := ⟨_, fd_is_name, F_is_name, g_is_name, FunD.bindsN F_is_name fun _ _ _ _ _ _ us hl => match us, hl with | [_], _ => rfl⟩
  obtain ⟨fd_are_variables, F_are_variables⟩ := cd.def_ 3 (d := d_are_variables) rfl
  have g_are_variables := He.glo_ok X G (cd.fact 3 (f := .glo "_are_variables") rfl)
  have D_are_variables : Def K mg "_are_variables" ["value", "counts"] (top 23) := ⟨_, fd_are_variables, F_are_variables, g_are_variables, FunD.bindsN F_are_variables fun _ _ _ _ _ _ us hl => match us, hl with | [_, _], _ => rfl⟩
  obtain ⟨fd_are_different, F_are_different⟩ := cd.def_ 4 (d := d_are_different) rfl
  have g_are_different := He.glo_ok X G (cd.fact 4 (f := .glo "are_different") rfl)
  have D_are_different : Def K mg "are_different" ["value", "counts"] (top 24) := ⟨_, fd_are_different, F_are_different, g_are_different, FunD.bindsN F_are_different fun _ _ _ _ _ _ us hl => match us, hl with | [_, _], _ => rfl⟩
  obtain ⟨fd_is_rel, F_is_rel⟩ := cd.def_ 5 (d := d_is_rel) rfl
  have g_is_rel := He.glo_ok X G (cd.fact 5 (f := .glo "_is_rel") rfl)
  have D_is_rel : Def K mg "_is_rel" ["value"] (top 25) := ⟨_, fd_is_rel, F_is_rel, g_is_rel, FunD.bindsN F_is_rel fun _ _ _ _ _ _ us hl => match us, hl with | [_], _ => rfl⟩
  obtain ⟨fd_is_comparison, F_is_comparison⟩ := cd.def_ 6 (d := d_is_comparison) rfl
  have g_is_comparison := He.glo_ok X G (cd.fact 6 (f := .glo "_is_comparison") rfl)
  have D_is_comparison : Def K mg "_is_comparison" ["value"] (top 26) := ⟨_, fd_is_comparison, F_is_comparison, g_is_comparison, FunD.bindsN F_is_comparison fun _ _ _ _ _ _ us hl => match us, hl with | [_], _ => rfl⟩
  obtain ⟨fd_is_negation, F_is_negation⟩ := cd.def_ 7 (d := d_is_negation) rfl
  have g_is_negation := He.glo_ok X G (cd.fact 7 (f := .glo "_is_negation") rfl)
  have D_is_negation : Def K mg "_is_negation" ["_value"] (top 27) := ⟨_, fd_is_negation, F_is_negation, g_is_negation, FunD.bindsN F_is_negation fun _ _ _ _ _ _ us hl => match us, hl with | [_], _ => rfl⟩
  obtain ⟨fd_is_joined, F_is_joined⟩ := cd.def_ 8 (d := d_is_joined) rfl
  have g_is_joined := He.glo_ok X G (cd.fact 8 (f := .glo "_is_joined") rfl)
  have D_is_joined : Def K mg "_is_joined" ["value"] (top 28) := ⟨_, fd_is_joined, F_is_joined, g_is_joined, FunD.bindsN F_is_joined fun _ _ _ _ _ _ us hl => match us, hl with | [_], _ => rfl⟩
  obtain ⟨fd_is_quantified, F_is_quantified⟩ := cd.def_ 9 (d := d_is_quantified) rfl
  have g_is_quantified := He.glo_ok X G (cd.fact 9 (f := .glo "_is_quantified") rfl)
  have D_is_quantified : Def K mg "_is_quantified" ["value"] (top 29) := ⟨_, fd_is_quantified, F_is_quantified, g_is_quantified, FunD.bindsN F_is_quantified fun _ _ _ _ _ _ us hl => match us, hl with | [_], _ => rfl⟩
  obtain ⟨fd_is_fixed_point, F_is_fixed_point⟩ := cd.def_ 10 (d := d_is_fixed_point) rfl
  have g_is_fixed_point := He.glo_ok X G (cd.fact 10 (f := .glo "_is_fixed_point") rfl)
  have D_is_fixed_point : Def K mg "_is_fixed_point" ["value"] (top 30) := ⟨_, fd_is_fixed_point, F_is_fixed_point, g_is_fixed_point, FunD.bindsN F_is_fixed_point fun _ _ _ _ _ _ us hl => match us, hl with | [_], _ => rfl⟩
  obtain ⟨fd_is_closure, F_is_closure⟩ := cd.def_ 11 (d := d_is_closure) rfl
  have g_is_closure := He.glo_ok X G (cd.fact 11 (f := .glo "_is_closure") rfl)
  have D_is_closure : Def K mg "_is_closure" ["value"] (top 31) := ⟨_, fd_is_closure, F_is_closure, g_is_closure, FunD.bindsN F_is_closure fun _ _ _ _ _ _ us hl => match us, hl with | [_], _ => rfl⟩
  obtain ⟨fd_is_guess, F_is_guess⟩ := cd.def_ 12 (d := d_is_guess) rfl
  have g_is_guess := He.glo_ok X G (cd.fact 12 (f := .glo "_is_guess") rfl)
  have D_is_guess : Def K mg "_is_guess" ["value"] (top 32) := ⟨_, fd_is_guess, F_is_guess, g_is_guess, FunD.bindsN F_is_guess fun _ _ _ _ _ _ us hl => match us, hl with | [_], _ => rfl⟩
  obtain ⟨fd_is_shape, F_is_shape⟩ := cd.def_ 13 (d := d_is_shape) rfl
  have g_is_shape := He.glo_ok X G (cd.fact 13 (f := .glo "is_shape") rfl)
  have D_is_shape : Def K mg "is_shape" ["value"] (top 34) := ⟨_, fd_is_shape, F_is_shape, g_is_shape, FunD.bindsN F_is_shape fun _ _ _ _ _ _ us hl => match us, hl with | [_], _ => rfl⟩
  obtain ⟨fd_inner, F_inner⟩ := cd.def_ 14 (d := d_inner) rfl
  have g_inner := He.glo_ok X G (cd.fact 14 (f := .glo "inner") rfl)
  have D_inner : Def K mg "inner" ["formula"] (top 35) := ⟨_, fd_inner, F_inner, g_inner, FunD.bindsN F_inner fun _ _ _ _ _ _ us hl => match us, hl with | [_], _ => rfl⟩
  obtain ⟨fd_bound_name, F_bound_name⟩ := cd.def_ 15 (d := d_bound_name) rfl
  have g_bound_name := He.glo_ok X G (cd.fact 15 (f := .glo "bound_name") rfl)
  have D_bound_name : Def K mg "bound_name" ["formula"] (top 36) := ⟨_, fd_bound_name, F_bound_name, g_bound_name, FunD.bindsN F_bound_name fun _ _ _ _ _ _ us hl => match us, hl with | [_], _ => rfl⟩
  obtain ⟨fd_bound_arity, F_bound_arity⟩ := cd.def_ 16 (d := d_bound_arity) rfl
  have g_bound_arity := He.glo_ok X G (cd.fact 16 (f := .glo "bound_arity") rfl)
  have D_bound_arity : Def K mg "bound_arity" ["formula"] (top 37) := ⟨_, fd_bound_arity, F_bound_arity, g_bound_arity, FunD.bindsN F_bound_arity fun _ _ _ _ _ _ us hl => match us, hl with | [_], _ => rfl⟩
  obtain ⟨fd_Reader___init__, F_Reader___init__⟩ := cd.def_ 17 (d := d_Reader___init__) rfl
  have D_Reader___init__ : DefM K "Reader" "__init__" "Reader.__init__" ["self", "text", "most_deep"] (inClass (top 41) 0) := ⟨_, fd_Reader___init__, F_Reader___init__, He.meth_ok (cd.fact 17 (f := .meth "Reader" "__init__") rfl), FunD.bindsN F_Reader___init__ fun _ _ _ _ _ _ us hl => match us, hl with | [_, _, _], _ => rfl⟩
  obtain ⟨fd_Reader_takes, F_Reader_takes⟩ := cd.def_ 18 (d := d_Reader_takes) rfl
  have D_Reader_takes : DefM K "Reader" "takes" "Reader.takes" ["self", "sign"] (inClass (top 41) 1) := ⟨_, fd_Reader_takes, F_Reader_takes, He.meth_ok (cd.fact 18 (f := .meth "Reader" "takes") rfl), FunD.bindsN F_Reader_takes fun _ _ _ _ _ _ us hl => match us, hl with | [_, _], _ => rfl⟩
  obtain ⟨fd_Reader_needs, F_Reader_needs⟩ := cd.def_ 19 (d := d_Reader_needs) rfl
  have D_Reader_needs : DefM K "Reader" "needs" "Reader.needs" ["self", "sign"] (inClass (top 41) 2) := ⟨_, fd_Reader_needs, F_Reader_needs, He.meth_ok (cd.fact 19 (f := .meth "Reader" "needs") rfl), FunD.bindsN F_Reader_needs fun _ _ _ _ _ _ us hl => match us, hl with | [_, _], _ => rfl⟩
  obtain ⟨fd_Reader_word, F_Reader_word⟩ := cd.def_ 20 (d := d_Reader_word) rfl
  have D_Reader_word : DefM K "Reader" "word" "Reader.word" ["self"] (inClass (top 41) 3) := ⟨_, fd_Reader_word, F_Reader_word, He.meth_ok (cd.fact 20 (f := .meth "Reader" "word") rfl), FunD.bindsN F_Reader_word fun _ _ _ _ _ _ us hl => match us, hl with | [_], _ => rfl⟩
  obtain ⟨fd_Reader_names, F_Reader_names⟩ := cd.def_ 21 (d := d_Reader_names) rfl
  have D_Reader_names : DefM K "Reader" "names" "Reader.names" ["self", "sign"] (inClass (top 41) 4) := ⟨_, fd_Reader_names, F_Reader_names, He.meth_ok (cd.fact 21 (f := .meth "Reader" "names") rfl), FunD.bindsN F_Reader_names fun _ _ _ _ _ _ us hl => match us, hl with | [_, _], _ => rfl⟩
  obtain ⟨fd_Reader_goes_in, F_Reader_goes_in⟩ := cd.def_ 22 (d := d_Reader_goes_in) rfl
  have D_Reader_goes_in : DefM K "Reader" "goes_in" "Reader.goes_in" ["self"] (inClass (top 41) 5) := ⟨_, fd_Reader_goes_in, F_Reader_goes_in, He.meth_ok (cd.fact 22 (f := .meth "Reader" "goes_in") rfl), FunD.bindsN F_Reader_goes_in fun _ _ _ _ _ _ us hl => match us, hl with | [_], _ => rfl⟩
  obtain ⟨fd_Reader_goes_out, F_Reader_goes_out⟩ := cd.def_ 23 (d := d_Reader_goes_out) rfl
  have D_Reader_goes_out : DefM K "Reader" "goes_out" "Reader.goes_out" ["self"] (inClass (top 41) 6) := ⟨_, fd_Reader_goes_out, F_Reader_goes_out, He.meth_ok (cd.fact 23 (f := .meth "Reader" "goes_out") rfl), FunD.bindsN F_Reader_goes_out fun _ _ _ _ _ _ us hl => match us, hl with | [_], _ => rfl⟩
  obtain ⟨fd_read_not, F_read_not⟩ := cd.def_ 24 (d := d_read_not) rfl
  have g_read_not := He.glo_ok X G (cd.fact 24 (f := .glo "_read_not") rfl)
  have D_read_not : Def K mg "_read_not" ["reader", "word"] (top 42) := ⟨_, fd_read_not, F_read_not, g_read_not, FunD.bindsN F_read_not fun _ _ _ _ _ _ us hl => match us, hl with | [_, _], _ => rfl⟩
  obtain ⟨fd_read_joined, F_read_joined⟩ := cd.def_ 25 (d := d_read_joined) rfl
  have g_read_joined := He.glo_ok X G (cd.fact 25 (f := .glo "_read_joined") rfl)
  have D_read_joined : Def K mg "_read_joined" ["reader", "word"] (top 43) := ⟨_, fd_read_joined, F_read_joined, g_read_joined, FunD.bindsN F_read_joined fun _ _ _ _ _ _ us hl => match us, hl with | [_, _], _ => rfl⟩
  obtain ⟨fd_read_quantified, F_read_quantified⟩ := cd.def_ 26 (d := d_read_quantified) rfl
  have g_read_quantified := He.glo_ok X G (cd.fact 26 (f := .glo "_read_quantified") rfl)
  have D_read_quantified : Def K mg "_read_quantified" ["reader", "word"] (top 44) := ⟨_, fd_read_quantified, F_read_quantified, g_read_quantified, FunD.bindsN F_read_quantified fun _ _ _ _ _ _ us hl => match us, hl with | [_, _], _ => rfl⟩
  obtain ⟨fd_read_fixed_point, F_read_fixed_point⟩ := cd.def_ 27 (d := d_read_fixed_point) rfl
  have g_read_fixed_point := He.glo_ok X G (cd.fact 27 (f := .glo "_read_fixed_point") rfl)
  have D_read_fixed_point : Def K mg "_read_fixed_point" ["reader", "word"] (top 45) := ⟨_, fd_read_fixed_point, F_read_fixed_point, g_read_fixed_point, FunD.bindsN F_read_fixed_point fun _ _ _ _ _ _ us hl => match us, hl with | [_, _], _ => rfl⟩
  obtain ⟨fd_read_closure, F_read_closure⟩ := cd.def_ 28 (d := d_read_closure) rfl
  have g_read_closure := He.glo_ok X G (cd.fact 28 (f := .glo "_read_closure") rfl)
  have D_read_closure : Def K mg "_read_closure" ["reader", "word"] (top 46) := ⟨_, fd_read_closure, F_read_closure, g_read_closure, FunD.bindsN F_read_closure fun _ _ _ _ _ _ us hl => match us, hl with | [_, _], _ => rfl⟩
  obtain ⟨fd_read_guess, F_read_guess⟩ := cd.def_ 29 (d := d_read_guess) rfl
  have g_read_guess := He.glo_ok X G (cd.fact 29 (f := .glo "_read_guess") rfl)
  have D_read_guess : Def K mg "_read_guess" ["reader", "word"] (top 47) := ⟨_, fd_read_guess, F_read_guess, g_read_guess, FunD.bindsN F_read_guess fun _ _ _ _ _ _ us hl => match us, hl with | [_, _], _ => rfl⟩
  obtain ⟨fd_read_atom, F_read_atom⟩ := cd.def_ 30 (d := d_read_atom) rfl
  have g_read_atom := He.glo_ok X G (cd.fact 30 (f := .glo "_read_atom") rfl)
  have D_read_atom : Def K mg "_read_atom" ["reader", "name"] (top 49) := ⟨_, fd_read_atom, F_read_atom, g_read_atom, FunD.bindsN F_read_atom fun _ _ _ _ _ _ us hl => match us, hl with | [_, _], _ => rfl⟩
  obtain ⟨fd_read_formula, F_read_formula⟩ := cd.def_ 31 (d := d_read_formula) rfl
  have g_read_formula := He.glo_ok X G (cd.fact 31 (f := .glo "_read_formula") rfl)
  have D_read_formula : Def K mg "_read_formula" ["reader"] (top 50) := ⟨_, fd_read_formula, F_read_formula, g_read_formula, FunD.bindsN F_read_formula fun _ _ _ _ _ _ us hl => match us, hl with | [_], _ => rfl⟩
  obtain ⟨fd_read_text, F_read_text⟩ := cd.def_ 32 (d := d_read_text) rfl
  have g_read_text := He.glo_ok X G (cd.fact 32 (f := .glo "read_text") rfl)
  have D_read_text : Def K mg "read_text" ["text", "most_deep"] (top 51) := ⟨_, fd_read_text, F_read_text, g_read_text, FunD.bindsN F_read_text fun _ _ _ _ _ _ us hl => match us, hl with | [_, _], _ => rfl⟩
  obtain ⟨fd_check_shapes, F_check_shapes⟩ := cd.def_ 33 (d := d_check_shapes) rfl
  have g_check_shapes := He.glo_ok X G (cd.fact 33 (f := .glo "_check_shapes") rfl)
  have D_check_shapes : Def K mg "_check_shapes" ["value", "levels_left", "parts_left"] (top 55) := ⟨_, fd_check_shapes, F_check_shapes, g_check_shapes, FunD.bindsN F_check_shapes fun _ _ _ _ _ _ us hl => match us, hl with | [_, _, _], _ => rfl⟩
  obtain ⟨fd_arities_in, F_arities_in⟩ := cd.def_ 34 (d := d_arities_in) rfl
  have g_arities_in := He.glo_ok X G (cd.fact 34 (f := .glo "arities_in") rfl)
  have D_arities_in : Def K mg "arities_in" ["formula"] (top 56) := ⟨_, fd_arities_in, F_arities_in, g_arities_in, FunD.bindsN F_arities_in fun _ _ _ _ _ _ us hl => match us, hl with | [_], _ => rfl⟩
  obtain ⟨fd_is_positive_in, F_is_positive_in⟩ := cd.def_ 35 (d := d_is_positive_in) rfl
  have g_is_positive_in := He.glo_ok X G (cd.fact 35 (f := .glo "is_positive_in") rfl)
  have D_is_positive_in : Def K mg "is_positive_in" ["formula", "name", "sign"] (top 57) := ⟨_, fd_is_positive_in, F_is_positive_in, g_is_positive_in, FunD.bindsN F_is_positive_in fun _ _ _ _ _ _ us hl => match us, hl with | [_, _, _], _ => rfl⟩
  obtain ⟨fd_check_fixed_points, F_check_fixed_points⟩ := cd.def_ 36 (d := d_check_fixed_points) rfl
  have g_check_fixed_points := He.glo_ok X G (cd.fact 36 (f := .glo "_check_fixed_points") rfl)
  have D_check_fixed_points : Def K mg "_check_fixed_points" ["formula"] (top 58) := ⟨_, fd_check_fixed_points, F_check_fixed_points, g_check_fixed_points, FunD.bindsN F_check_fixed_points fun _ _ _ _ _ _ us hl => match us, hl with | [_], _ => rfl⟩
  obtain ⟨fd_check_formula, F_check_formula⟩ := cd.def_ 37 (d := d_check_formula) rfl
  have g_check_formula := He.glo_ok X G (cd.fact 37 (f := .glo "check_formula") rfl)
  have D_check_formula : Def K mg "check_formula" ["formula"] (top 59) := ⟨_, fd_check_formula, F_check_formula, g_check_formula, FunD.bindsN F_check_formula fun _ _ _ _ _ _ us hl => match us, hl with | [_], _ => rfl⟩
  obtain ⟨fd_parse_formula, F_parse_formula⟩ := cd.def_ 38 (d := d_parse_formula) rfl
  have g_parse_formula := He.glo_ok X G (cd.fact 38 (f := .glo "parse_formula") rfl)
  have D_parse_formula : Def K mg "parse_formula" ["text"] (top 60) := ⟨_, fd_parse_formula, F_parse_formula, g_parse_formula, FunD.bindsN F_parse_formula fun _ _ _ _ _ _ us hl => match us, hl with | [_], _ => rfl⟩
  obtain ⟨fd_law_mixed, F_law_mixed⟩ := cd.def_ 39 (d := d_law_mixed) rfl
  have g_law_mixed := He.glo_ok X G (cd.fact 39 (f := .glo "_law_mixed") rfl)
  have D_law_mixed : Def K mg "_law_mixed" ["number", "k"] (top 62) := ⟨_, fd_law_mixed, F_law_mixed, g_law_mixed, FunD.bindsN F_law_mixed fun _ _ _ _ _ _ us hl => match us, hl with | [_, _], _ => rfl⟩
  obtain ⟨fd_law_numbers, F_law_numbers⟩ := cd.def_ 40 (d := d_law_numbers) rfl
  have g_law_numbers := He.glo_ok X G (cd.fact 40 (f := .glo "_law_numbers") rfl)
  have D_law_numbers : Def K mg "_law_numbers" ["script"] (top 63) := ⟨_, fd_law_numbers, F_law_numbers, g_law_numbers, FunD.bindsN F_law_numbers fun _ _ _ _ _ _ us hl => match us, hl with | [_], _ => rfl⟩
  obtain ⟨fd_law_draw, F_law_draw⟩ := cd.def_ 41 (d := d_law_draw) rfl
  have g_law_draw := He.glo_ok X G (cd.fact 41 (f := .glo "_law_draw") rfl)
  have D_law_draw : Def K mg "_law_draw" ["draws"] (top 64) := ⟨_, fd_law_draw, F_law_draw, g_law_draw, FunD.bindsN F_law_draw fun _ _ _ _ _ _ us hl => match us, hl with | [_], _ => rfl⟩
  obtain ⟨fd_law_some_of, F_law_some_of⟩ := cd.def_ 42 (d := d_law_some_of) rfl
  have g_law_some_of := He.glo_ok X G (cd.fact 42 (f := .glo "_law_some_of") rfl)
  have D_law_some_of : Def K mg "_law_some_of" ["draws", "pool", "many"] (top 65) := ⟨_, fd_law_some_of, F_law_some_of, g_law_some_of, FunD.bindsN F_law_some_of fun _ _ _ _ _ _ us hl => match us, hl with | [_, _, _], _ => rfl⟩
  obtain ⟨fd_law_atom, F_law_atom⟩ := cd.def_ 43 (d := d_law_atom) rfl
  have g_law_atom := He.glo_ok X G (cd.fact 43 (f := .glo "_law_atom") rfl)
  have D_law_atom : Def K mg "_law_atom" ["draws", "pool", "names"] (top 66) := ⟨_, fd_law_atom, F_law_atom, g_law_atom, FunD.bindsN F_law_atom fun _ _ _ _ _ _ us hl => match us, hl with | [_, _, _], _ => rfl⟩
  obtain ⟨fd_law_within, F_law_within⟩ := cd.def_ 44 (d := d_law_within) rfl
  have g_law_within := He.glo_ok X G (cd.fact 44 (f := .glo "_law_within") rfl)
  have D_law_within : Def K mg "_law_within" ["names", "name", "arity", "mode"] (top 67) := ⟨_, fd_law_within, F_law_within, g_law_within, FunD.bindsN F_law_within fun _ _ _ _ _ _ us hl => match us, hl with | [_, _, _, _], _ => rfl⟩
  obtain ⟨fd_law_turned, F_law_turned⟩ := cd.def_ 45 (d := d_law_turned) rfl
  have g_law_turned := He.glo_ok X G (cd.fact 45 (f := .glo "_law_turned") rfl)
  have D_law_turned : Def K mg "_law_turned" ["names"] (top 68) := ⟨_, fd_law_turned, F_law_turned, g_law_turned, FunD.bindsN F_law_turned fun _ _ _ _ _ _ us hl => match us, hl with | [_], _ => rfl⟩
  obtain ⟨fd_law_barred, F_law_barred⟩ := cd.def_ 46 (d := d_law_barred) rfl
  have g_law_barred := He.glo_ok X G (cd.fact 46 (f := .glo "_law_barred") rfl)
  have D_law_barred : Def K mg "_law_barred" ["names"] (top 69) := ⟨_, fd_law_barred, F_law_barred, g_law_barred, FunD.bindsN F_law_barred fun _ _ _ _ _ _ us hl => match us, hl with | [_], _ => rfl⟩
  obtain ⟨fd_law_bound, F_law_bound⟩ := cd.def_ 47 (d := d_law_bound) rfl
  have g_law_bound := He.glo_ok X G (cd.fact 47 (f := .glo "_law_bound") rfl)
  have D_law_bound : Def K mg "_law_bound" ["draws", "deep", "pool", "names", "kinds"] (top 70) := ⟨_, fd_law_bound, F_law_bound, g_law_bound, FunD.bindsN F_law_bound fun _ _ _ _ _ _ us hl => match us, hl with | [_, _, _, _, _], _ => rfl⟩
  obtain ⟨fd_law_formula, F_law_formula⟩ := cd.def_ 48 (d := d_law_formula) rfl
  have g_law_formula := He.glo_ok X G (cd.fact 48 (f := .glo "_law_formula") rfl)
  have D_law_formula : Def K mg "_law_formula" ["draws", "deep", "pool", "names", "kinds"] (top 71) := ⟨_, fd_law_formula, F_law_formula, g_law_formula, FunD.bindsN F_law_formula fun _ _ _ _ _ _ us hl => match us, hl with | [_, _, _, _, _], _ => rfl⟩
  obtain ⟨fd_law_names, F_law_names⟩ := cd.def_ 49 (d := d_law_names) rfl
  have g_law_names := He.glo_ok X G (cd.fact 49 (f := .glo "_law_names") rfl)
  have D_law_names : Def K mg "_law_names" ["draws"] (top 72) := ⟨_, fd_law_names, F_law_names, g_law_names, FunD.bindsN F_law_names fun _ _ _ _ _ _ us hl => match us, hl with | [_], _ => rfl⟩
  obtain ⟨fd_law_parts, F_law_parts⟩ := cd.def_ 50 (d := d_law_parts) rfl
  have g_law_parts := He.glo_ok X G (cd.fact 50 (f := .glo "_law_parts") rfl)
  have D_law_parts : Def K mg "_law_parts" ["f"] (top 73) := ⟨_, fd_law_parts, F_law_parts, g_law_parts, FunD.bindsN F_law_parts fun _ _ _ _ _ _ us hl => match us, hl with | [_], _ => rfl⟩
  obtain ⟨fd_law_list, F_law_list⟩ := cd.def_ 51 (d := d_law_list) rfl
  have g_law_list := He.glo_ok X G (cd.fact 51 (f := .glo "_law_list") rfl)
  have D_law_list : Def K mg "_law_list" ["row"] (top 74) := ⟨_, fd_law_list, F_law_list, g_law_list, FunD.bindsN F_law_list fun _ _ _ _ _ _ us hl => match us, hl with | [_], _ => rfl⟩
  obtain ⟨fd_law_text, F_law_text⟩ := cd.def_ 52 (d := d_law_text) rfl
  have g_law_text := He.glo_ok X G (cd.fact 52 (f := .glo "_law_text") rfl)
  have D_law_text : Def K mg "_law_text" ["f"] (top 75) := ⟨_, fd_law_text, F_law_text, g_law_text, FunD.bindsN F_law_text fun _ _ _ _ _ _ us hl => match us, hl with | [_], _ => rfl⟩
  obtain ⟨fd_law_near, F_law_near⟩ := cd.def_ 53 (d := d_law_near) rfl
  have g_law_near := He.glo_ok X G (cd.fact 53 (f := .glo "_law_near") rfl)
  have D_law_near : Def K mg "_law_near" ["draws"] (top 76) := ⟨_, fd_law_near, F_law_near, g_law_near, FunD.bindsN F_law_near fun _ _ _ _ _ _ us hl => match us, hl with | [_], _ => rfl⟩
  obtain ⟨fd_law_spoilt, F_law_spoilt⟩ := cd.def_ 54 (d := d_law_spoilt) rfl
  have g_law_spoilt := He.glo_ok X G (cd.fact 54 (f := .glo "_law_spoilt") rfl)
  have D_law_spoilt : Def K mg "_law_spoilt" ["draws", "text"] (top 77) := ⟨_, fd_law_spoilt, F_law_spoilt, g_law_spoilt, FunD.bindsN F_law_spoilt fun _ _ _ _ _ _ us hl => match us, hl with | [_, _], _ => rfl⟩
  obtain ⟨fd_law_bad, F_law_bad⟩ := cd.def_ 55 (d := d_law_bad) rfl
  have g_law_bad := He.glo_ok X G (cd.fact 55 (f := .glo "_law_bad") rfl)
  have D_law_bad : Def K mg "_law_bad" ["f"] (top 78) := ⟨_, fd_law_bad, F_law_bad, g_law_bad, FunD.bindsN F_law_bad fun _ _ _ _ _ _ us hl => match us, hl with | [_], _ => rfl⟩
  obtain ⟨fd_law, F_law⟩ := cd.def_ 56 (d := d_law) rfl
  have g_law := He.glo_ok X G (cd.fact 56 (f := .glo "law") rfl)
  have D_law : Def K mg "law" ["script"] (top 79) := ⟨_, fd_law, F_law, g_law, FunD.bindsN F_law fun _ _ _ _ _ _ us hl => match us, hl with | [_], _ => rfl⟩
  have T : Txt mg := ⟨He.free_ok X G (cd.fact 57 (f := .free "len") rfl), He.free_ok X G (cd.fact 58 (f := .free "range") rfl), He.free_ok X G (cd.fact 59 (f := .free "isinstance") rfl), He.free_ok X G (cd.fact 60 (f := .free "list") rfl), He.free_ok X G (cd.fact 61 (f := .free "tuple") rfl), He.free_ok X G (cd.fact 62 (f := .free "bool") rfl), He.free_ok X G (cd.fact 63 (f := .free "int") rfl), He.free_ok X G (cd.fact 64 (f := .free "str") rfl), He.free_ok X G (cd.fact 65 (f := .free "sorted") rfl), He.free_ok X G (cd.fact 66 (f := .free "set") rfl), He.free_ok X G (cd.fact 67 (f := .free "all") rfl), He.free_ok X G (cd.fact 68 (f := .free "any") rfl), He.free_ok X G (cd.fact 69 (f := .free "sum") rfl), He.free_ok X G (cd.fact 70 (f := .free "max") rfl), He.free_ok X G (cd.fact 71 (f := .free "min") rfl), He.free_ok X G (cd.fact 72 (f := .free "dict") rfl), He.free_ok X G (cd.fact 73 (f := .free "enumerate") rfl), He.free_ok X G (cd.fact 74 (f := .free "zip") rfl)⟩
  have c_LONGEST_NAME := He.int_ok X G (cd.fact 75 (f := .int "LONGEST_NAME" 12) rfl)
  have c_MOST_JOINED := He.int_ok X G (cd.fact 76 (f := .int "MOST_JOINED" 40) rfl)
  have c_LARGEST_GUESS := He.int_ok X G (cd.fact 77 (f := .int "LARGEST_GUESS" 3) rfl)
  have c_MOST_PARTS := He.int_ok X G (cd.fact 78 (f := .int "MOST_PARTS" 2000) rfl)
  have c_MOST_DEEP := He.int_ok X G (cd.fact 79 (f := .int "MOST_DEEP" 40) rfl)
  have c_LETTERS := He.str_ok X G (cd.fact 80 (f := .str "LETTERS" "abcdefghijklmnopqrstuvwxyz") rfl)
  have c_FIGURES := He.str_ok X G (cd.fact 81 (f := .str "FIGURES" "0123456789") rfl)
  have c_RESERVED := He.glo_ok X G (cd.fact 82 (f := .glo "RESERVED") rfl)
  have c_REL_COUNTS := He.glo_ok X G (cd.fact 83 (f := .glo "REL_COUNTS") rfl)
  have c_OWN_COUNTS := He.glo_ok X G (cd.fact 84 (f := .glo "OWN_COUNTS") rfl)
  have c_TC_COUNTS := He.glo_ok X G (cd.fact 85 (f := .glo "TC_COUNTS") rfl)
  have c_LENGTHS := He.glo_ok X G (cd.fact 86 (f := .glo "LENGTHS") rfl)
  have c_BODY_AT := He.glo_ok X G (cd.fact 87 (f := .glo "BODY_AT") rfl)
  have c_TESTS := He.glo_ok X G (cd.fact 88 (f := .glo "TESTS") rfl)
  have c_READERS := He.glo_ok X G (cd.fact 89 (f := .glo "READERS") rfl)
  have c_GUESS_ARITIES := He.glo_ok X G (cd.fact 90 (f := .glo "GUESS_ARITIES") rfl)
  have c_BadText := He.glo_ok X G (cd.fact 91 (f := .glo "BadText") rfl)
  have c_BadFormula := He.glo_ok X G (cd.fact 92 (f := .glo "BadFormula") rfl)
  have c_SaysoError := He.glo_ok X G (cd.fact 93 (f := .glo "SaysoError") rfl)
  have c_BadArgument := He.glo_ok X G (cd.fact 94 (f := .glo "BadArgument") rfl)
  have c_BadStructure := He.glo_ok X G (cd.fact 95 (f := .glo "BadStructure") rfl)
  have c_EMPTY_OF_WORDS := He.glo_ok X G (cd.fact 96 (f := .glo "EMPTY_OF_WORDS") rfl)
  have gC_Reader := He.glo_ok X G (cd.fact 97 (f := .glo "Reader") rfl)
  have cC_Reader := He.cls_ok (cd.fact 98 (f := .cls "Reader") rfl)
  have mC_Reader := He.mkr_ok (cd.fact 99 (f := .mkr "Reader") rfl)
  have nC_Reader_text := He.noat_ok (cd.fact 100 (f := .noat "Reader" "text") rfl)
  have nC_Reader_place := He.noat_ok (cd.fact 101 (f := .noat "Reader" "place") rfl)
  have nC_Reader_levels_left := He.noat_ok (cd.fact 102 (f := .noat "Reader" "levels_left") rfl)
  have t_EMPTY_OF_WORDS := c.t.tab 5 (t := ((fun K => He.ga K "EMPTY_OF_WORDS"), ["true", "false"])) rfl
  have t_LENGTHS := c.t.tab 0 (t := ((fun K => He.ga K "LENGTHS"), ["rel", "eq", "less", "not", "and", "or", "some", "all", "lfp", "pfp", "tc", "guess"])) rfl
  have t_BODY_AT := c.t.tab 1 (t := ((fun K => He.ga K "BODY_AT"), ["not", "some", "all", "lfp", "pfp", "tc", "guess"])) rfl
  have t_TESTS := c.t.tab 2 (t := ((fun K => He.ga K "TESTS"), ["rel", "eq", "less", "not", "and", "or", "some", "all", "lfp", "pfp", "tc", "guess"])) rfl
  have t_READERS := c.t.tab 3 (t := ((fun K => He.ga K "READERS"), ["not", "and", "or", "some", "all", "lfp", "pfp", "tc", "guess"])) rfl
  have t_GUESS_ARITIES := c.t.tab 4 (t := ((fun K => He.ga K "GUESS_ARITIES"), ["0", "1", "2", "3"])) rfl
  have more0 := c.more
  obtain ⟨x_RESERVED, more1⟩ := He.ba more0
  obtain ⟨x_REL_COUNTS, more2⟩ := He.ba more1
  obtain ⟨x_OWN_COUNTS, more3⟩ := He.ba more2
  obtain ⟨x_TC_COUNTS, more4⟩ := He.ba more3
  obtain ⟨x_LENGTHS, more5⟩ := He.ba more4
  obtain ⟨x_BODY_AT, more6⟩ := He.ba more5
  obtain ⟨x_TESTS, more7⟩ := He.ba more6
  obtain ⟨x_READERS, more8⟩ := He.ba more7
  obtain ⟨x_GUESS_ARITIES, more9⟩ := He.ba more8
  obtain ⟨m_LENGTHS, more10⟩ := He.ba more9
  obtain ⟨m_BODY_AT, more11⟩ := He.ba more10
  obtain ⟨x_BadText, more12⟩ := He.ba more11
  obtain ⟨x_BadFormula, more13⟩ := He.ba more12
  obtain ⟨u_BadText_SaysoError, more14⟩ := He.ba more13
  obtain ⟨u_BadText_BadArgument, more15⟩ := He.ba more14
  obtain ⟨u_BadText_BadFormula, more16⟩ := He.ba more15
  obtain ⟨u_BadText_BadStructure, more17⟩ := He.ba more16
  obtain ⟨e_true, more18⟩ := He.ba more17
  obtain ⟨e_false, more19⟩ := He.ba more18
  obtain ⟨kb_READERS, more20⟩ := He.ba more19
  obtain ⟨kb_EMPTY_OF_WORDS, more21⟩ := He.ba more20
  have kb_GUESS_ARITIES := more21
  have e := hfa.symm.trans g_law
  cases e
  have b := FunD.bindsA (ps := ["script"]) F_law fun _ _ _ _ _ _ us hl => match us, hl with | [_], _ => rfl
  refine ⟨fd_law, fun s v => b s [v] rfl, fun base _ _ => ?_⟩
  have h_is := has_is_name (P := P) (w := w) (base := base) D_is_name T c_LONGEST_NAME c_LETTERS c_FIGURES c_RESERVED (fun H => He.tupB_ok x_RESERVED H)
  have S : Shp K w mg := ⟨c_MOST_JOINED, c_LARGEST_GUESS, c_REL_COUNTS, fun H => He.tupB_ok x_REL_COUNTS H, c_OWN_COUNTS, fun H => He.tupB_ok x_OWN_COUNTS H, c_TC_COUNTS, fun H => He.tupB_ok x_TC_COUNTS H,
    ⟨c_LENGTHS, t_LENGTHS, thB_ok x_LENGTHS⟩, ⟨c_BODY_AT, t_BODY_AT, thB_ok x_BODY_AT⟩, ⟨c_TESTS, t_TESTS, thB_ok x_TESTS⟩, msB_ok m_BODY_AT⟩
  have h_inner := has_inner (P := P) (base := base) D_inner T S
  have h_bname := has_bound_name (P := P) (w := w) (base := base) D_bound_name
  have h_barity := has_bound_arity (P := P) (w := w) (base := base) D_bound_arity T
  have h_vars := has_are_variables D_are_variables T h_is
  have h_diff := has_are_different D_are_different T h_vars
  have h_whole := has_is_whole (P := P) (w := w) (base := base) D_is_whole T
  have h_between := has_is_between D_is_between h_whole
  have t_rel := has_is_rel D_is_rel S h_is h_vars
  have t_comp := has_is_comparison D_is_comparison h_is
  have t_neg := has_is_negation (P := P) (w := w) (base := base) D_is_negation
  have t_join := has_is_joined (P := P) (base := base) D_is_joined T S
  have t_quant := has_is_quantified D_is_quantified S h_diff
  have t_fix := has_is_fixed_point D_is_fixed_point T S h_is h_vars h_diff
  have t_clo := has_is_closure D_is_closure T S h_vars h_diff
  have t_guess := has_is_guess D_is_guess S h_is h_between
  have tests : Tests P w K mg base := by
    refine ⟨fun k => ?_, fun k => ?_⟩
    · cases k
      · exact g_is_rel
      · exact g_is_comparison
      · exact g_is_comparison
      · exact g_is_negation
      · exact g_is_joined
      · exact g_is_joined
      · exact g_is_quantified
      · exact g_is_quantified
      · exact g_is_fixed_point
      · exact g_is_fixed_point
      · exact g_is_closure
      · exact g_is_guess
    · cases k
      · exact ⟨_, t_rel⟩
      · exact ⟨_, t_comp⟩
      · exact ⟨_, t_comp⟩
      · exact ⟨_, t_neg⟩
      · exact ⟨_, t_join⟩
      · exact ⟨_, t_join⟩
      · exact ⟨_, t_quant⟩
      · exact ⟨_, t_quant⟩
      · exact ⟨_, t_fix⟩
      · exact ⟨_, t_fix⟩
      · exact ⟨_, t_clo⟩
      · exact ⟨_, t_guess⟩
  have h_shape := has_is_shape D_is_shape T S tests
  have h_shapes := has_check_shapes D_check_shapes h_shape h_inner
  have h_pos := has_is_positive D_is_positive_in h_bname h_inner
  have h_fp := has_check_fixed_points D_check_fixed_points h_pos h_inner
  have h_ar := has_arities D_arities_in T h_bname h_inner h_barity
  have h_check := has_check_formula D_check_formula c_MOST_DEEP c_MOST_PARTS h_shapes h_ar h_fp
  have h_mixed := has_mixed (P := P) (w := w) (base := base) D_law_mixed
  have h_numbers := has_numbers D_law_numbers T h_mixed
  have h_draw := has_draw D_law_draw T h_mixed
  have h_some := has_some_of D_law_some_of T h_draw
  have h_within := has_within (P := P) (w := w) (base := base) D_law_within
  have h_turned := has_turned (P := P) (w := w) (base := base) D_law_turned
  have h_barred := has_barred (P := P) (w := w) (base := base) D_law_barred
  have h_atom := has_atom D_law_atom T h_draw
  have h_form := has_formula D_law_formula T h_draw h_atom h_turned fun n C => has_bound D_law_bound T h_draw h_some h_within h_barred C
  have h_names := has_names D_law_names T h_draw
  have BF := xcB_ok c_BadFormula x_BadFormula
  have h_varsX := has_varsX D_are_variables T h_is
  have h_diffX := has_diffX D_are_different T h_varsX
  have h_wholeX := has_wholeX (P := P) (w := w) (base := base) D_is_whole T
  have h_betwX := has_betwX D_is_between h_wholeX
  have y_rel := has_relX D_is_rel S h_is h_varsX
  have y_comp := has_comparisonX D_is_comparison h_is
  have y_neg := has_negationX (P := P) (w := w) (base := base) D_is_negation
  have y_join := has_joinedX (P := P) (base := base) D_is_joined T S
  have y_quant := has_quantX D_is_quantified S h_diffX
  have y_fix := has_fixX D_is_fixed_point T S h_is h_varsX h_diffX
  have y_clo := has_cloX D_is_closure T S h_varsX h_diffX
  have y_guess := has_guessX D_is_guess S h_is h_betwX
  have testsX : TestsX P w K mg base := by
    refine ⟨fun k => ?_, fun k => ?_⟩
    · cases k
      · exact g_is_rel
      · exact g_is_comparison
      · exact g_is_comparison
      · exact g_is_negation
      · exact g_is_joined
      · exact g_is_joined
      · exact g_is_quantified
      · exact g_is_quantified
      · exact g_is_fixed_point
      · exact g_is_fixed_point
      · exact g_is_closure
      · exact g_is_guess
    · cases k
      · exact ⟨_, y_rel⟩
      · exact ⟨_, y_comp⟩
      · exact ⟨_, y_comp⟩
      · exact ⟨_, y_neg⟩
      · exact ⟨_, y_join⟩
      · exact ⟨_, y_join⟩
      · exact ⟨_, y_quant⟩
      · exact ⟨_, y_quant⟩
      · exact ⟨_, y_fix⟩
      · exact ⟨_, y_fix⟩
      · exact ⟨_, y_clo⟩
      · exact ⟨_, y_guess⟩
  have h_shapeX := has_shapeX D_is_shape T S (msB_ok m_LENGTHS) testsX
  have r_shapes := has_check_shapesR D_check_shapes BF h_shapeX h_inner
  have r_ar := has_aritiesR D_arities_in T BF h_bname h_inner h_barity
  have r_fp := has_fixedR D_check_fixed_points BF h_pos h_inner
  have r_check := has_check_formulaR D_check_formula c_MOST_DEEP c_MOST_PARTS r_shapes r_ar r_fp
  have BT := xcB_ok c_BadText x_BadText
  have RD : RdC K := ⟨cC_Reader, nC_Reader_text, nC_Reader_place, nC_Reader_levels_left⟩
  have m_init := has_r_init (P := P) (w := w) (mg := mg) (base := base) D_Reader___init__ RD
  have m_takes := has_r_takes (P := P) (w := w) (mg := mg) (base := base) D_Reader_takes T RD
  have m_needs := has_r_needsR D_Reader_needs RD BT m_takes
  have m_word := has_r_word (P := P) (w := w) (mg := mg) (base := base) D_Reader_word T RD c_LETTERS c_FIGURES
  have m_names := has_r_namesR D_Reader_names T m_takes m_needs m_word RD
  have m_in := has_r_inR (P := P) (w := w) (mg := mg) (base := base) D_Reader_goes_in RD BT
  have m_out := has_r_out (P := P) (w := w) (mg := mg) (base := base) D_Reader_goes_out RD
  have RM : RdMR P w K mg base := ⟨m_init, m_takes, m_needs, m_word, m_names, m_in, m_out⟩
  have WR : WrR K w mg := ⟨⟨c_READERS, t_READERS, thB_ok x_READERS⟩, keysB_ok kb_READERS, keysB_ok kb_EMPTY_OF_WORDS, c_EMPTY_OF_WORDS, t_EMPTY_OF_WORDS, fun k z hm => by
    simp only [List.mem_cons, Prod.mk.injEq, List.not_mem_nil, or_false] at hm
    rcases hm with ⟨rfl, rfl⟩ | ⟨rfl, rfl⟩
    · exact ewB_ok e_true
    · exact ewB_ok e_false⟩
  have h_ratom := has_r_atomR D_read_atom T RD RM
  have h_rform := has_r_formR D_read_formula T RD WR RM h_ratom fun n C => by
    have r1 := has_rd_notR D_read_not T RD C RM
    have r2 := has_rd_joinR D_read_joined T RD C RM
    have r3 := has_rd_quantR D_read_quantified T RD C RM
    have r4 := has_rd_fixR D_read_fixed_point T RD C RM
    have r5 := has_rd_cloR D_read_closure T RD C RM
    have r6 := has_rd_guessR D_read_guess T RD C RM ⟨c_GUESS_ARITIES, t_GUESS_ARITIES, thB_ok x_GUESS_ARITIES⟩ (keysB_ok kb_GUESS_ARITIES)
    exact ⟨fun k => by cases k <;> first | exact g_read_not | exact g_read_joined | exact g_read_quantified | exact g_read_fixed_point | exact g_read_closure | exact g_read_guess, fun k => by cases k <;> first | exact r1 | exact r2 | exact r3 | exact r4 | exact r5 | exact r6⟩
  have h_rtext := has_rtextR D_read_text T RD BT gC_Reader (mk_init mC_Reader m_init) (h_rform 41)
  have h_parse := has_parseR D_parse_formula c_MOST_DEEP BT BF r_check h_rtext
  have h_lparts := has_law_parts (P := P) (w := w) (base := base) D_law_parts T
  have h_llist := has_llist (P := P) (w := w) (mg := mg) (base := base) D_law_list
  have h_ltext := has_ltext D_law_text T h_lparts h_llist
  have h_near := has_lnear D_law_near T h_draw
  have h_sp := has_lspoilt D_law_spoilt T h_draw h_near
  have h_bad := has_lbad D_law_bad h_check
  exact ok_law F_law T BT c_SaysoError c_BadArgument c_BadFormula c_BadStructure (kitB2_ok u_BadText_SaysoError) (kitB2_ok u_BadText_BadArgument) (kitB2_ok u_BadText_BadFormula) (kitB2_ok u_BadText_BadStructure) h_numbers h_draw h_names h_form h_parse h_ltext h_sp h_bad
end SaysoV
open PySem PySem.W PySem.Calls PyProof.Rows
set_option maxHeartbeats 0 in
theorem PySem.Challenge.cw_sayso_k11_texts_of_formulas_are_checked_holds : PySem.Challenge.rw_sayso_k11_texts_of_formulas_are_checked.Holds := by
  w_on; o_law
  refine HandSHeadRun.head_any (r := OpenLaw.row PySem.Challenge.rw_sayso_k11_texts_of_formulas_are_checked) (q := view (OpenLaw.row PySem.Challenge.rw_sayso_k11_texts_of_formulas_are_checked).prog [79]) (H := SaysoV.hk) (ob := SaysoV.ob) (M := 8000) (loose := SaysoV.looseN) (d := HandSHeadRun.topDef (OpenLaw.row PySem.Challenge.rw_sayso_k11_texts_of_formulas_are_checked).prog 79) (kwd := []) SaysoV.ob_eq
    (by kernel_rfl) (fun s => by kernel_rfl) SaysoV.run (by kernel_rfl) (by kernel_rfl) (by kernel_rfl) (by rfl) (by first | assumption | decide +kernel) (by decide +kernel) ⟨rfl, rfl, rfl, rfl, rfl, by decide +kernel⟩ ?hw ?hc
  case hw => w_witness2
  case hc =>
    refine L2.walk_ofE (l := PySem.Challenge.rw_sayso_k11_texts_of_formulas_are_checked) (n := 63) (k := 91) (x := "script") (CX := L2.CX0) rfl (by decide) (by kernel_rfl) ⟨rfl, by decide, by decide⟩ ?F (fun _ _ _ _ z => z)
    intro w mg fa h Y G hmg0
    obtain ⟨K, KX, c⟩ := Y
    have hmg : mg ("law" : PySem.Str) = some (.ref fa) := by
      have e : (HandSHeadRun.topDef (OpenLaw.row PySem.Challenge.rw_sayso_k11_texts_of_formulas_are_checked).prog 79).name = ("law" : PySem.Str) := by kernel_rfl
      rw [← e]
      exact hmg0
    obtain ⟨fd, hb, hF⟩ := SaysoV.facts (P := (PySem.Challenge.rw_sayso_k11_texts_of_formulas_are_checked).prog) (w := w) KX G hmg c
    exact ⟨K, fd, SaysoV.spLaw K, KX, hb, fun H a ns hl _ hS => ⟨a, ns, rfl, hS, hl, fun _ => rfl⟩, hF⟩
