import PyProof.Rows.All
import Wide.All
import OpenK.AllK
import Wide.FinOn
import KE.KStateDown
import HandS.ForMost
import HandS.Defaults
import HandS.IsInst
import HandS.SetKeys
import HandS.Strs
import HandS.CallLocal
import HandS.WrittenGet
import HandS.NoneIn
import HandS.DictComp
import HandS.Deep
import HandS.Sort
import HandS.SortOrd
import HandS.ListItems
import HandS.DictTup
import HandS.ForExc
import HandS.Flow
import HandS.Walk
import HandS.Head0
import HandS.Head1
import HandS.Head2
import HandS.HeadEnd
import HandS.HeadHook1
import HandS.HeadHook2
import HandS.HeadHook3
import HandS.HeadHook4
import PySem.Challenge.RW_sayso_k22_whole_prenex_forms
import HandS.ExcIs
import HandS.SortRule
import KE.KIntText
import HandS.TupAny
import HandS.FStr
import HandS.Steps
import HandS.Zip
import HandS.ExcCtx
import HandS.SuiteRaise
import HandS.RaiseFrom
import KE.DatumOrd
set_option Elab.async false
set_option linter.all false
set_option maxRecDepth 100000
set_option maxHeartbeats 4000000
namespace SaysoV
open PySem PySem.Spec PyProof.Rows L2
/-! ### the text by places, what a def is to its callers -/
def top (i : Nat) : Stmt := PySem.Challenge.pw_sayso_k22_whole_prenex_forms.main.body.getD i (.Pass ⟨0, 0, 0, 0⟩)
abbrev FnP (K : PySem.W.Frag) (x : Str) (st : Stmt) (f : Addr) (fd : FuncData) : Prop := FunD K x x (defArgs st) (defBody st) (defScope st) [] [] f fd
/-- a def as the top leaves it -/
def Def (K : PySem.W.Frag) (mg : Str → Option Value) (x : Str) (ps : List Str) (st : Stmt) : Prop := ∃ f fd, FnP K x st f fd ∧ mg x = some (.ref f) ∧ Binds K fd ps []
/-- a def with its promise, as a caller takes it -/
def HasX (CX : CXT) (P : Program) (w : World) (K : PySem.W.Frag) (mg : Str → Option Value) (base : Heap) (k : Nat) (x : Str) (ps : List Str) (sp : Sp) : Prop :=
  ∃ f fd, FnOk P w K mg base CX k f fd ps sp ∧ mg x = some (.ref f) ∧ PySem.W.keepIn K (.ref f) = true ∧ Binds K fd ps []
abbrev Has := HasX CX0
/-- the names that are still built-in -/
structure Txt (mg : Str → Option Value) : Prop where
  n_len : mg "len" = none
  n_range : mg "range" = none
  n_isinstance : mg "isinstance" = none
  n_list : mg "list" = none
  n_tuple : mg "tuple" = none
  n_bool : mg "bool" = none
  n_int : mg "int" = none
  n_str : mg "str" = none
  n_sorted : mg "sorted" = none
  n_set : mg "set" = none
  n_all : mg "all" = none
  n_any : mg "any" = none
  n_sum : mg "sum" = none
  n_max : mg "max" = none
  n_min : mg "min" = none
  n_dict : mg "dict" = none
  n_enumerate : mg "enumerate" = none
  n_zip : mg "zip" = none
section
variable {P : Program} {w : World} {K : PySem.W.Frag} {mg : Str → Option Value} {base : Heap} {CX : CXT}
theorem Def.has {x : Str} {ps : List Str} {st : Stmt} {k : Nat} {sp : Sp} (D : Def K mg x ps st) (h : ∀ f fd, FnP K x st f fd → FnOk P w K mg base CX k f fd ps sp) : HasX CX P w K mg base k x ps sp := by
  obtain ⟨f, fd, F, g, b⟩ := D
  exact ⟨f, fd, h f fd F, g, F.kp, b⟩
end
theorem same_upd {H : Hp} {p : Addr} {o : HO} (h : H p = none) : Same H (upd H p o) := fun b x e => by
  rw [upd_ne (ne_of_none e h)]
  exact e
/-- all that was tracked but d is as it was -/
def Kp (d : Addr) (H H' : Hp) : Prop := ∀ b o, H b = some o → b ≠ d → H' b = some o
theorem Kp.refl (d : Addr) (H : Hp) : Kp d H H := fun _ _ e _ => e
theorem Kp.trans {d : Addr} {H H1 H2 : Hp} (a : Kp d H H1) (b : Kp d H1 H2) : Kp d H H2 := fun c o e n => b c o (a c o e n) n
theorem Kp.of {d : Addr} {H H' : Hp} (a : Same H H') : Kp d H H' := fun c o e _ => a c o e
theorem Kp.upd {d : Addr} {H : Hp} {o : HO} : Kp d H (L2.upd H d o) := fun c x e n => by rw [upd_ne n]; exact e
theorem Kp.free {d : Addr} {H H' : Hp} {p : Addr} (a : Kp d H H') (hp : p ≠ d) (h : H' p = none) : H p = none := by
  cases q : H p with
  | none => rfl
  | some o => rw [a p o q hp] at h; cases h
/-- the draws: a list of small numbers at l, and the place of the next one -/
def DrA (H : Hp) (d l : Addr) : Prop := ∃ (n : Nat) (ms : List Int), H d = some (.lst [.ref l, .int n]) ∧ H l = some (.lst (ms.map V.int)) ∧ ∀ z, z ∈ ms → 0 ≤ z ∧ z < 1000000
theorem draws_ne {H : Hp} {d l : Addr} {n : Int} {ms : List Int} (h1 : H d = some (.lst [.ref l, .int n])) (h2 : H l = some (.lst (ms.map V.int))) : l ≠ d := by
  intro e
  subst e
  rw [h1] at h2
  have h3 : [V.ref l, V.int n] = ms.map V.int := HO.lst.inj (Option.some.inj h2)
  cases ms with
  | nil => cases h3
  | cons a r => injection h3 with h4 _; cases h4
theorem DrA.same {H H' : Hp} {d l : Addr} (h : DrA H d l) (s : Same H H') : DrA H' d l := by
  obtain ⟨n, ms, h1, h2, h3⟩ := h
  exact ⟨n, ms, s _ _ h1, s _ _ h2, h3⟩
theorem DrA.some {H : Hp} {d l : Addr} (h : DrA H d l) : ∃ xs, H d = Option.some (.lst xs) := by
  obtain ⟨n, ms, h1, _⟩ := h
  exact ⟨_, h1⟩
theorem DrA.some' {H : Hp} {d l : Addr} (h : DrA H d l) : ∃ xs, H l = Option.some (.lst xs) := by
  obtain ⟨n, ms, _, h1, _⟩ := h
  exact ⟨_, h1⟩
theorem DrA.ne {H : Hp} {d l p : Addr} (h : DrA H d l) (np : H p = none) : p ≠ d ∧ p ≠ l := by
  obtain ⟨xs, e⟩ := h.some
  obtain ⟨ys, e'⟩ := h.some'
  exact ⟨(fun z => by rw [z, e] at np; cases np), (fun z => by rw [z, e'] at np; cases np)⟩
theorem DrA.kp {H H' : Hp} {d l p : Addr} (h : DrA H d l) (k : Kp p H H') (n : p ≠ d ∧ p ≠ l) : DrA H' d l := by
  obtain ⟨i, ms, h1, h2, h3⟩ := h
  exact ⟨i, ms, k _ _ h1 n.1.symm, k _ _ h2 n.2.symm, h3⟩
theorem get_int {ns : List Int} {i : Nat} {y : V} (h : (ns.map V.int)[i]? = some y) : ∃ z, ns[i]? = some z ∧ y = .int z := by
  rw [List.getElem?_map] at h
  cases e : ns[i]? with
  | none => rw [e] at h; cases h
  | some z => rw [e] at h; exact ⟨z, rfl, (Option.some.inj h).symm⟩
/-! ### the promises of the law's helpers -/
def spMixed : Sp := fun vs H Q _ => ∃ n k : Int, vs = [.int n, .int k] ∧ ∀ z : Int, 0 ≤ z → z < 2147483647 → Q (.int z) H
def Small (ms : List Int) : Prop := ∀ z, z ∈ ms → 0 ≤ z ∧ z < 1000000
theorem Small.add {ms : List Int} {z : Int} (h : Small ms) : Small (ms ++ [z % 1000000]) := by
  intro y hy
  rcases List.mem_append.mp hy with hy | hy
  · exact h y hy
  · rw [List.mem_singleton.mp hy]
    exact ⟨Int.emod_nonneg _ (by decide), Int.emod_lt_of_pos _ (by decide)⟩
def spNumbers (K : PySem.W.Frag) : Sp := fun vs H Q _ => ∃ (a : Addr) (ns : List Int), vs = [.ref a] ∧ SqL K H a (ns.map V.int) ∧ ns.length ≤ 63 ∧
  ∀ (H' : Hp) (p : Addr) (ms : List Int), Same H H' → H p = none → H' p = some (.lst (ms.map V.int)) → Small ms → Q (.ref p) H'
def spDraw : Sp := fun vs H Q _ => ∃ d l : Addr, vs = [.ref d] ∧ DrA H d l ∧ ∀ (z : Int) (H' : Hp), 0 ≤ z → z < 1000000 → DrA H' d l → Kp d H H' → Q (.int z) H'
section
variable {P : Program} {w : World} {K : PySem.W.Frag} {mg : Str → Option Value} {base : Heap}
theorem sc_mixed : FnScope ["number", "k", "step"] ["number", "k"] (defScope (top 69)) := ⟨rfl, rfl, rfl, by decide +kernel, rfl, by decide +kernel, by decide +kernel⟩
theorem has_mixed (D : Def K mg "_law_mixed" ["number", "k"] (top 69)) : Has P w K mg base 1 "_law_mixed" ["number", "k"] spMixed := D.has fun f fd F => by
  refine F.ok sc_mixed (fun vs H Q E h => ?_) (fun cdv A outer s H vs Q E hr h => ?_)
  · obtain ⟨n, k, rfl, _⟩ := h; rfl
  · obtain ⟨n, k, rfl, q⟩ := h
    refine ⟨_, PSs.nox (pss_cons (ps_set (i := 2) sc_mixed.nd rfl (Or.inl rfl) (pe_op op_mod (pe_op op_add (pe_op op_add (pe_op op_mul (pv 0) pe_int) (pe_op op_mul (pv 1) pe_int)) pe_int) pe_int)) (pss_one (ps_ret (pe_op op_mod (pe_op op_add (pe_op op_mul (pv 2) (pe_op op_add (pe_op op_fdiv (pv 2) pe_int) pe_int)) (pv 1)) pe_int)))), ?_⟩
    refine ⟨_, rfl, _, _, rfl, rfl, .inr ⟨by decide, by decide⟩, _, rfl, _, _, rfl, rfl, .inr ⟨by decide, by decide⟩, _, _, rfl, rfl, _, _, rfl, rfl, _, _, rfl, rfl, (by show (0 : Int) < 2147483647; decide), ?_⟩
    have h0 : 0 ≤ (n * 48271 + k * 69621 + 12345) % 2147483647 := Int.emod_nonneg _ (by decide)
    have h1 : (n * 48271 + k * 69621 + 12345) % 2147483647 < 2147483647 := Int.emod_lt_of_pos _ (by decide)
    revert h0 h1
    generalize (n * 48271 + k * 69621 + 12345) % 2147483647 = z
    intro h0 h1
    refine ⟨_, rfl, _, rfl, _, _, rfl, rfl, ⟨by decide, by decide⟩, _, _, rfl, rfl, _, _, rfl, rfl, .inl ⟨by omega, by omega⟩, _, rfl, _, _, rfl, rfl, _, _, rfl, rfl, (by show (0 : Int) < 2147483647; decide), ?_⟩
    exact q _ (Int.emod_nonneg _ (by decide)) (Int.emod_lt_of_pos _ (by decide))
theorem sc_numbers : FnScope ["script", "numbers", "cell", "rest", "k"] ["script"] (defScope (top 70)) := ⟨rfl, rfl, rfl, by decide +kernel, rfl, by decide +kernel, by decide +kernel⟩
theorem has_numbers (D : Def K mg "_law_numbers" ["script"] (top 70)) (T : Txt mg) (C1 : Has P w K mg base 1 "_law_mixed" ["number", "k"] spMixed) : Has P w K mg base 2 "_law_numbers" ["script"] (spNumbers K) := D.has fun f fd F => by
  obtain ⟨f1, fd1, G_law_mixed, g_law_mixed, k_law_mixed, b_law_mixed⟩ := C1
  refine F.ok sc_numbers (fun vs H Q E h => ?_) (fun cdv A outer s H vs Q E hr h => ?_)
  · obtain ⟨a, ns, rfl, _⟩ := h; rfl
  · obtain ⟨a, ns, rfl, hS, hlen, q⟩ := h
    have R_law_mixed : Room 1 _ := hr.mono (by decide)
    refine ⟨_, PSs.nox (pss_cons (ps_set (i := 1) sc_numbers.nd rfl (Or.inl rfl) (pe_lst pa_nil)) (pss_cons (ps_for PassesOwn.never rfl (pi_list (pv 0)) (pg_name (i := 2) sc_numbers.nd rfl (Or.inl rfl)) (pss_one (ps_if (pt_cmpR op_ge (pv 2) (pe_op op_pow pe_int pe_int) (nomark _)) (pss_cons (ps_set (i := 3) sc_numbers.nd rfl (Or.inl rfl) (pv 2)) (pss_one (ps_for PassesOwn.never rfl (pi_range1 (by rfl) T.n_range (pa_cons pe_int pa_nil)) (pg_name (i := 4) sc_numbers.nd rfl (Or.inl rfl)) (pss_one (ps_if (pt_cmpR op_gt (pv 3) pe_int (nomark _)) (pss_cons (ps_expr (pe_bm PySem.F.plainAttrs_list PySem.F.slot_list_append PySem.F.type_list_append mt_append (pv 1) (pa_cons (pe_op op_mod (pv 3) pe_int) pa_nil))) (pss_one (ps_set (i := 3) sc_numbers.nd rfl (Or.inl rfl) (pe_op op_fdiv (pv 3) pe_int)))) pss_nil))))) (pss_cons (ps_expr (pe_bm PySem.F.plainAttrs_list PySem.F.slot_list_append PySem.F.type_list_append mt_append (pv 1) (pa_cons (pe_op op_mod (pv 2) pe_int) pa_nil))) (pss_one (ps_for PassesOwn.never rfl (pi_range1 (by rfl) T.n_range (pa_cons pe_int pa_nil)) (pg_name (i := 4) sc_numbers.nd rfl (Or.inl rfl)) (pss_one (ps_expr (pe_bm PySem.F.plainAttrs_list PySem.F.slot_list_append PySem.F.type_list_append mt_append (pv 1) (pa_cons (pe_op op_mod (pe_call G_law_mixed R_law_mixed (by rfl) g_law_mixed k_law_mixed b_law_mixed .nil pass0 (pa_cons (pe_call G_law_mixed R_law_mixed (by rfl) g_law_mixed k_law_mixed b_law_mixed .nil pass0 (pa_cons (pe_op op_mod (pv 2) pe_int) (pa_cons (pv 4) pa_nil))) (pa_cons (pe_op op_add (pv 4) pe_int) pa_nil))) pe_int) pa_nil)))))))))) (pss_one (ps_ret (pv 1))))), ?_⟩
    refine ⟨Nat.zero_le _, fun p np => ?_⟩
    have s0 : Same H (upd H p (.lst [])) := same_upd np
    refine ⟨_, rfl, a, rfl, ⟨_, s0.seq hS⟩, for_list (K := K) (a := a) (xs := ns.map V.int) (fun i σ H2 => ∃ (y2 y3 y4 : Option V) (ms : List Int), σ = [some (.ref a), some (.ref p), y2, y3, y4] ∧ Same H H2 ∧ H2 p = some (.lst (ms.map V.int)) ∧ ms.length ≤ 61 * i ∧ Small ms)
      ⟨none, none, none, [], rfl, s0, upd_same, Nat.zero_le _, fun z hz => nomatch hz⟩ (fun i σ H2 _ ⟨_, _, _, _, _, s2, _⟩ => s2.seq hS) ?_ ?_⟩
    · rintro i y σ H2 hi ⟨y2, y3, y4, ms, rfl, s2, hp, hl, sm⟩
      obtain ⟨c, hc, rfl⟩ := get_int hi
      have hi63 : i < 63 := by
        have := (List.getElem?_eq_some_iff.mp hc).1
        omega
      have room : ∀ j : Nat, j ≤ 60 → ((ms.length + j : Nat) < sizeLine) := fun j hj => Nat.lt_of_le_of_lt (show ms.length + j ≤ 61 * 62 + 60 by omega) (by decide)
      refine ⟨_, rfl, _, _, rfl, rfl, ⟨by decide, by decide, by decide⟩, _, _, rfl, rfl, _, rfl, ite2 (fun e => ?_) (fun e => ?_)⟩
      · -- a huge number: its pieces
        refine ⟨_, rfl, 60, rfl, by decide, by decide, for_range (n := 60) (fun j σ H3 => ∃ (y4 : Option V) (r : Int) (ms3 : List Int), σ = [some (.ref a), some (.ref p), some (.int c), some (.int r), y4] ∧ Same H H3 ∧ H3 p = some (.lst (ms3.map V.int)) ∧ ms3.length ≤ ms.length + j ∧ Small ms3)
          ⟨y4, c, ms, rfl, s2, hp, Nat.le_refl _, sm⟩ ?_ ?_⟩
        · rintro j σ H3 hj ⟨y4, r, ms3, rfl, s3, hp3, hl3, sm3⟩
          refine ⟨_, rfl, _, _, rfl, rfl, _, rfl, ite2 (fun e2 => ?_) (fun e2 => ?_)⟩
          · refine ⟨_, rfl, .inl ⟨rfl, _, SqL.of hp3⟩, _, rfl, _, _, rfl, rfl, (by show (0 : Int) < 1000000; decide), p, _, _, rfl, rfl, hp3, ?_, ?_⟩
            · rw [List.length_map]
              exact Nat.lt_of_le_of_lt hl3 (room j (by omega))
            · refine ⟨_, rfl, _, _, rfl, rfl, ⟨by decide, by decide⟩, ?_⟩
              refine ⟨_, _, ms3 ++ [r % 1000000], rfl, fun b o eb => ?_, ?_, ?_, sm3.add⟩
              · rw [upd_ne (ne_of_none eb np)]
                exact s3 _ _ eb
              · rw [upd_same, List.map_append]
                rfl
              · rw [List.length_append]
                show ms3.length + 1 ≤ _
                omega
          · exact ⟨_, r, ms3, rfl, s3, hp3, by omega, sm3⟩
        · rintro σ H3 ⟨y4, r, ms3, rfl, s3, hp3, hl3, sm3⟩
          exact ⟨_, _, y4, ms3, rfl, s3, hp3, by omega, sm3⟩
      · refine ⟨_, rfl, .inl ⟨rfl, _, SqL.of hp⟩, _, rfl, _, _, rfl, rfl, (by show (0 : Int) < 1000000; decide), p, _, _, rfl, rfl, hp, ?_, ?_⟩
        · rw [List.length_map]
          exact room 0 (by decide)
        · refine ⟨5, rfl, by decide, by decide, for_range (n := 5) (fun j σ H3 => ∃ (y4 : Option V) (ms3 : List Int), σ = [some (.ref a), some (.ref p), some (.int c), y3, y4] ∧ Same H H3 ∧ H3 p = some (.lst (ms3.map V.int)) ∧ ms3.length ≤ ms.length + 1 + j ∧ Small ms3)
            ⟨y4, ms ++ [c % 1000000], rfl, fun b o eb => ?_, ?_, ?_, sm.add⟩ ?_ ?_⟩
          · rw [upd_ne (ne_of_none eb np)]
            exact s2 _ _ eb
          · rw [upd_same, List.map_append]
            rfl
          · rw [List.length_append]
            show ms.length + 1 ≤ _
            omega
          · rintro j σ H3 hj ⟨y4, ms3, rfl, s3, hp3, hl3, sm3⟩
            refine ⟨_, rfl, .inl ⟨rfl, _, SqL.of hp3⟩, ?_⟩
            refine ⟨_, rfl, _, _, rfl, rfl, (by show (0 : Int) < 2147483647; decide), _, rfl, _, _, rfl, fun z1 _ _ => ?_⟩
            refine ⟨_, rfl, _, _, rfl, rfl, _, _, rfl, fun z2 _ _ => ?_⟩
            refine ⟨_, _, rfl, rfl, (by show (0 : Int) < 1000000; decide), p, _, _, rfl, rfl, hp3, ?_, ?_⟩
            · rw [List.length_map]
              exact Nat.lt_of_le_of_lt hl3 (Nat.lt_of_le_of_lt (show ms.length + 1 + j ≤ ms.length + 60 by omega) (room 60 (by decide)))
            · refine ⟨_, ms3 ++ [z2 % 1000000], rfl, fun b o eb => ?_, ?_, ?_, sm3.add⟩
              · rw [upd_ne (ne_of_none eb np)]
                exact s3 _ _ eb
              · rw [upd_same, List.map_append]
                rfl
              · rw [List.length_append]
                show ms3.length + 1 ≤ _
                omega
          · rintro σ H3 ⟨y4, ms3, rfl, s3, hp3, hl3, sm3⟩
            exact ⟨_, _, y4, ms3, rfl, s3, hp3, by omega, sm3⟩
    · rintro σ H2 ⟨y2, y3, y4, ms, rfl, s2, hp, hl, sm⟩
      exact ⟨_, rfl, q H2 p ms s2 np hp sm⟩
theorem sc_draw : FnScope ["draws", "at", "first"] ["draws"] (defScope (top 71)) := ⟨rfl, rfl, rfl, by decide +kernel, rfl, by decide +kernel, by decide +kernel⟩
theorem has_draw (D : Def K mg "_law_draw" ["draws"] (top 71)) (T : Txt mg) (C1 : Has P w K mg base 1 "_law_mixed" ["number", "k"] spMixed) : Has P w K mg base 2 "_law_draw" ["draws"] spDraw := D.has fun f fd F => by
  obtain ⟨f1, fd1, G_law_mixed, g_law_mixed, k_law_mixed, b_law_mixed⟩ := C1
  refine F.ok sc_draw (fun vs H Q E h => ?_) (fun cdv A outer s H vs Q E hr h => ?_)
  · obtain ⟨d, l, rfl, _⟩ := h; rfl
  · obtain ⟨d, l, rfl, ⟨n, ms, h1, h2, sm⟩, q⟩ := h
    have R_law_mixed : Room 1 _ := hr.mono (by decide)
    have nld := draws_ne h1 h2
    refine ⟨_, PSs.nox (pss_cons (ps_set (i := 1) sc_draw.nd rfl (Or.inl rfl) (pe_ix ix_list (pv 0) pe_int (fun _ _ => rfl))) (pss_cons (ps_asg (pe_op op_add (pv 1) pe_int) (pg_sub (pv 0) pe_int set_list)) (pss_cons (ps_if (pt_cmpR op_lt (pv 1) (pe_callB call_len_seq (by rfl) T.n_len PySem.boot_len (pa_cons (pe_ix ix_list (pv 0) pe_int (fun _ _ => rfl)) pa_nil)) (nomark _)) (pss_one (ps_ret (pe_ix ix_list (pe_ix ix_list (pv 0) pe_int (fun _ _ => rfl)) (pv 1) (fun _ _ => rfl)))) pss_nil) (pss_cons (ps_set (i := 2) sc_draw.nd rfl (Or.inl rfl) (pe_op op_add pe_int (pv 1))) (pss_cons (ps_if (pt_cmpR op_gt (pe_callB call_len_seq (by rfl) T.n_len PySem.boot_len (pa_cons (pe_ix ix_list (pv 0) pe_int (fun _ _ => rfl)) pa_nil)) pe_int (nomark _)) (pss_one (ps_set (i := 2) sc_draw.nd rfl (Or.inl rfl) (pe_op op_add (pv 2) (pe_op op_mul pe_int (pe_ix ix_list (pe_ix ix_list (pv 0) pe_int (fun _ _ => rfl)) pe_int (fun _ _ => rfl)))))) pss_nil) (pss_one (ps_ret (pe_op op_mod (pe_call G_law_mixed R_law_mixed (by rfl) g_law_mixed k_law_mixed b_law_mixed .nil pass0 (pa_cons (pe_call G_law_mixed R_law_mixed (by rfl) g_law_mixed k_law_mixed b_law_mixed .nil pass0 (pa_cons (pv 2) (pa_cons (pv 1) pa_nil))) (pa_cons pe_int pa_nil))) pe_int)))))))), ?_⟩
    refine ⟨_, rfl, d, _, _, _, rfl, rfl, SqL.of h1, atI_nat (j := 1) rfl, ?_⟩
    refine ⟨_, rfl, _, _, rfl, rfl, _, rfl, d, _, _, 1, rfl, rfl, h1, rfl, ?_⟩
    have k1 : Kp d H (upd H d (.lst ([V.ref l, V.int n].set 1 (.int ((n : Int) + 1))))) := Kp.upd
    have h1' : (upd H d (.lst ([V.ref l, V.int n].set 1 (.int ((n : Int) + 1))))) d = some (.lst [.ref l, .int ((n + 1 : Nat) : Int)]) := by
      rw [upd_same]
      rfl
    have h2' : (upd H d (.lst ([V.ref l, V.int n].set 1 (.int ((n : Int) + 1))))) l = some (.lst (ms.map V.int)) := k1 l _ h2 nld
    revert k1 h1' h2'
    generalize upd H d (.lst ([V.ref l, V.int n].set 1 (.int ((n : Int) + 1)))) = H1
    intro k1 h1' h2'
    have dr : DrA H1 d l := ⟨n + 1, ms, h1', h2', sm⟩
    refine ⟨_, rfl, _, rfl, d, _, _, _, rfl, rfl, SqL.of h1', atI_nat (j := 0) rfl, l, _, rfl, .inl (SqL.of h2'), _, _, rfl, rfl, _, rfl, ite2 (fun e => ?_) (fun e => ?_)⟩
    · have hn : n < ms.length := by
        have e1 := of_decide_eq_true e
        rw [List.length_map] at e1
        omega
      have e1 : (ms.map V.int)[n]? = some (.int ms[n]) := by
        rw [List.getElem?_map, List.getElem?_eq_getElem hn]
        rfl
      refine ⟨_, rfl, d, _, _, _, rfl, rfl, SqL.of h1', atI_nat (j := 0) rfl, _, rfl, l, _, _, _, rfl, rfl, SqL.of h2', atI_nat e1, ?_⟩
      obtain ⟨z0, z1⟩ := sm _ (List.getElem_mem hn)
      exact q _ _ z0 z1 dr k1
    · refine ⟨_, rfl, _, _, rfl, rfl, ?_⟩
      refine ⟨_, rfl, d, _, _, _, rfl, rfl, SqL.of h1', atI_nat (j := 0) rfl, l, _, rfl, .inl (SqL.of h2'), _, _, rfl, rfl, _, rfl, ite2 (fun e2 => ?_) (fun e2 => ?_)⟩
      · have hn : 0 < ms.length := by
          have e1 := of_decide_eq_true e2
          rw [List.length_map] at e1
          omega
        have e1 : (ms.map V.int)[0]? = some (.int ms[0]) := by
          rw [List.getElem?_map, List.getElem?_eq_getElem hn]
          rfl
        refine ⟨_, rfl, _, rfl, d, _, _, _, rfl, rfl, SqL.of h1', atI_nat (j := 0) rfl, l, _, _, _, rfl, rfl, SqL.of h2', atI_nat (j := 0) e1, _, _, rfl, rfl, .inl ⟨by decide, by decide⟩, _, _, rfl, rfl, ?_⟩
        refine ⟨_, rfl, _, rfl, _, _, rfl, fun z1 _ _ => ?_⟩
        refine ⟨_, _, rfl, fun z2 _ _ => ?_⟩
        refine ⟨_, _, rfl, rfl, (by show (0 : Int) < 1000000; decide), ?_⟩
        exact q _ _ (Int.emod_nonneg _ (by decide)) (Int.emod_lt_of_pos _ (by decide)) dr k1
      · refine ⟨_, rfl, _, rfl, _, _, rfl, fun z1 _ _ => ?_⟩
        refine ⟨_, _, rfl, fun z2 _ _ => ?_⟩
        refine ⟨_, _, rfl, rfl, (by show (0 : Int) < 1000000; decide), ?_⟩
        exact q _ _ (Int.emod_nonneg _ (by decide)) (Int.emod_lt_of_pos _ (by decide)) dr k1
end
/-! ### own errors -/
/-- what the head tells of the class x of errors (over ValueError) -/
structure XC (K : PySem.W.Frag) (mg : Str → Option Value) (x : Str) : Prop where
  g : mg x = some (.ref (He.ga K x))
  ex : PySem.W.excIn K (He.ga K x) [.type "ValueError", .type "Exception", .type "BaseException", .type "object"] "ValueError.__new__" = true
  k : PySem.W.keepIn K (.ref (He.ga K x)) = true
  b : PySem.W.subIn K (.ref (He.ga K x)) (.type "BaseException") = some true
  t : PySem.W.typeIn K (.ref (He.ga K x)) = some (.type "type")
  e : PySem.W.exmOne K (.ref (He.ga K x)) (.ref (He.ga K x)) = some true
  i : ExcC K (He.ga K x)
def xcB (K : PySem.W.Frag) (x : Str) : Bool :=
  PySem.W.excIn K (He.ga K x) [.type "ValueError", .type "Exception", .type "BaseException", .type "object"] "ValueError.__new__" && (PySem.W.keepIn K (.ref (He.ga K x)) && ((PySem.W.subIn K (.ref (He.ga K x)) (.type "BaseException") == some true) && ((PySem.W.typeIn K (.ref (He.ga K x)) == some (.type "type")) &&
  ((PySem.W.exmOne K (.ref (He.ga K x)) (.ref (He.ga K x)) == some true) && ((PySem.W.findIn K (.ref (He.ga K x)) "__getattribute__" == some (some (.builtin "BaseException.__getattribute__"))) && ((PySem.W.findIn K (.ref (He.ga K x)) "__getattr__" == some none) && (PySem.W.hasDictIn K (He.ga K x) &&
  ((PySem.W.findIn K (.ref (He.ga K x)) "__class__" == some (some (.builtin "object.__class__"))) && ((PySem.W.specialIn K (.builtin "object.__class__") "__get__" == some (some (.builtin "getset_descriptor.__get__"))) && ((PySem.W.takesIn K (.builtin "object.__class__") == some true) && (PySem.W.mroIn K (He.ga K x) (.type "object") == some true)))))))))))
theorem xcB_ok {K : PySem.W.Frag} {mg : Str → Option Value} {x : Str} (g : mg x = some (.ref (He.ga K x))) (h : xcB K x = true) : XC K mg x := by
  unfold xcB at h
  simp only [Bool.and_eq_true, beq_iff_eq] at h
  obtain ⟨h1, h2, h3, h4, h5, h6, h7, h8, h9, h10, h11, h12⟩ := h
  exact ⟨g, h1, h2, h3, h4, h5, ⟨h6, h7, h3, h8, h9, h10, h11, h12⟩⟩
/-- isinstance(e, C): of the class x, whether it is under the class c -/
def kitB2 (K : PySem.W.Frag) (x c : Str) (b : Bool) : Bool := PySem.W.kitOne K (.ref (He.ga K x)) (.ref (He.ga K c)) == some b
theorem kitB2_ok {K : PySem.W.Frag} {x c : Str} {b : Bool} (h : kitB2 K x c b = true) : PySem.W.kitOne K (.ref (He.ga K x)) (.ref (He.ga K c)) = some b := beq_iff_eq.mp h
section
variable {X : Cx}
theorem XC.raises {x : Str} {K : PySem.W.Frag} {mg : Str → Option Value} (c : XC K mg x) (hk : X.K = K) : Raises X (.ref (He.ga K x)) := by
  subst hk
  exact raises_own c.b c.t
/-- raise X('m') -/
theorem ps_raiseX {x m : Str} {j : Nat} {p p2 pos pos' : Pos} {W : WX} (c : XC X.K X.mg x) (hc : X.calm = true) (tk : Takes X W) (hg : Gl X x) (hdb : (x == ("__debug__" : Str)) = false := by decide) :
    PS X (.Raise (some (.Call (.Name x p) [.Constant (.str m) j p2] [] pos)) none pos') (fun _ σ H => W (.ref (He.ga X.K x)) none σ H) :=
  ps_raise hc tk (pmk_own PySem.F.excBase_ValueError c.ex c.g c.k (raises_own c.b c.t) hg hdb)
/-- isinstance(e, c) in the suite that holds e -/
theorem call_isE' {a : Addr} {oe : Obj} {cls : Value} {d : Option Addr} {pn : List (Addr × Obj)} (hz : Zc cls d oe) (hf : ∃ vs, oe.data = .fields vs) :
    CallR (X.suite a ((a, oe) :: pn)) (.builtin "isinstance") (fun xs H Q => ∃ (D C : Addr) (b : Bool), cls = .ref D ∧ d = none ∧ ExcC X.K D ∧ xs = [.ref a, .ref C] ∧ PySem.W.kitOne X.K (.ref D) (.ref C) = some b ∧ Q (.bl b) H) := by
  intro pins s σ H xs us Q I r h
  obtain ⟨D, C, b, rfl, rfl, c, rfl, k, q⟩ := h
  exact call_isE c hz hf pins s σ H _ us Q I r ⟨.ref C, .ref C, b, rfl, fun u e => e, k, q⟩
end
/-! ### what stands at the top -/
def thB (K : PySem.W.Frag) (x : Str) (kvs : List (Str × He.Dv)) : Bool := kvs.all fun p => match PySem.W.nsIn K (He.ga K x) p.1 with
  | some (some u) => He.relB (p.2.v K) u
  | _ => false
def msB (K : PySem.W.Frag) (x : Str) (ks : List Str) : Bool := ks.all fun k => match PySem.W.nsIn K (He.ga K x) k with
  | some none => true
  | _ => false
def d_is_whole : He.DefD := ⟨("is_whole", none), "is_whole", "is_whole", defArgs (top 6), defBody (top 6), defScope (top 6), [], []⟩
def d_is_between : He.DefD := ⟨("is_between", none), "is_between", "is_between", defArgs (top 7), defBody (top 7), defScope (top 7), [], []⟩
def d_is_name : He.DefD := ⟨("is_name", none), "is_name", "is_name", defArgs (top 13), defBody (top 13), defScope (top 13), [], []⟩
def d_are_variables : He.DefD := ⟨("_are_variables", none), "_are_variables", "_are_variables", defArgs (top 24), defBody (top 24), defScope (top 24), [], []⟩
def d_are_different : He.DefD := ⟨("are_different", none), "are_different", "are_different", defArgs (top 25), defBody (top 25), defScope (top 25), [], []⟩
def d_is_rel : He.DefD := ⟨("_is_rel", none), "_is_rel", "_is_rel", defArgs (top 26), defBody (top 26), defScope (top 26), [], []⟩
def d_is_comparison : He.DefD := ⟨("_is_comparison", none), "_is_comparison", "_is_comparison", defArgs (top 27), defBody (top 27), defScope (top 27), [], []⟩
def d_is_negation : He.DefD := ⟨("_is_negation", none), "_is_negation", "_is_negation", defArgs (top 28), defBody (top 28), defScope (top 28), [], []⟩
def d_is_joined : He.DefD := ⟨("_is_joined", none), "_is_joined", "_is_joined", defArgs (top 29), defBody (top 29), defScope (top 29), [], []⟩
def d_is_quantified : He.DefD := ⟨("_is_quantified", none), "_is_quantified", "_is_quantified", defArgs (top 30), defBody (top 30), defScope (top 30), [], []⟩
def d_is_fixed_point : He.DefD := ⟨("_is_fixed_point", none), "_is_fixed_point", "_is_fixed_point", defArgs (top 31), defBody (top 31), defScope (top 31), [], []⟩
def d_is_closure : He.DefD := ⟨("_is_closure", none), "_is_closure", "_is_closure", defArgs (top 32), defBody (top 32), defScope (top 32), [], []⟩
def d_is_guess : He.DefD := ⟨("_is_guess", none), "_is_guess", "_is_guess", defArgs (top 33), defBody (top 33), defScope (top 33), [], []⟩
def d_is_shape : He.DefD := ⟨("is_shape", none), "is_shape", "is_shape", defArgs (top 35), defBody (top 35), defScope (top 35), [], []⟩
def d_inner : He.DefD := ⟨("inner", none), "inner", "inner", defArgs (top 36), defBody (top 36), defScope (top 36), [], []⟩
def d_with_item : He.DefD := ⟨("_with_item", none), "_with_item", "_with_item", defArgs (top 37), defBody (top 37), defScope (top 37), [], []⟩
def d_with_inner : He.DefD := ⟨("with_inner", none), "with_inner", "with_inner", defArgs (top 38), defBody (top 38), defScope (top 38), [], []⟩
def d_own : He.DefD := ⟨("own", none), "own", "own", defArgs (top 39), defBody (top 39), defScope (top 39), [], []⟩
def d_with_own : He.DefD := ⟨("with_own", none), "with_own", "with_own", defArgs (top 40), defBody (top 40), defScope (top 40), [], []⟩
def d_arguments : He.DefD := ⟨("arguments", none), "arguments", "arguments", defArgs (top 41), defBody (top 41), defScope (top 41), [], []⟩
def d_with_arguments : He.DefD := ⟨("with_arguments", none), "with_arguments", "with_arguments", defArgs (top 42), defBody (top 42), defScope (top 42), [], []⟩
def d_bound_name : He.DefD := ⟨("bound_name", none), "bound_name", "bound_name", defArgs (top 43), defBody (top 43), defScope (top 43), [], []⟩
def d_bound_arity : He.DefD := ⟨("bound_arity", none), "bound_arity", "bound_arity", defArgs (top 44), defBody (top 44), defScope (top 44), [], []⟩
def d_check_shapes : He.DefD := ⟨("_check_shapes", none), "_check_shapes", "_check_shapes", defArgs (top 48), defBody (top 48), defScope (top 48), [], []⟩
def d_arities_in : He.DefD := ⟨("arities_in", none), "arities_in", "arities_in", defArgs (top 49), defBody (top 49), defScope (top 49), [], []⟩
def d_is_positive_in : He.DefD := ⟨("is_positive_in", none), "is_positive_in", "is_positive_in", defArgs (top 50), defBody (top 50), defScope (top 50), [], []⟩
def d_check_fixed_points : He.DefD := ⟨("_check_fixed_points", none), "_check_fixed_points", "_check_fixed_points", defArgs (top 51), defBody (top 51), defScope (top 51), [], []⟩
def d_check_formula : He.DefD := ⟨("check_formula", none), "check_formula", "check_formula", defArgs (top 52), defBody (top 52), defScope (top 52), [], []⟩
def d_within_bounds : He.DefD := ⟨("within_bounds", none), "within_bounds", "within_bounds", defArgs (top 53), defBody (top 53), defScope (top 53), [], []⟩
def d_pfree : He.DefD := ⟨("_free", none), "_free", "_free", defArgs (top 54), defBody (top 54), defScope (top 54), [], []⟩
def d_free : He.DefD := ⟨("free", none), "free", "free", defArgs (top 55), defBody (top 55), defScope (top 55), [], []⟩
def d_variables_in : He.DefD := ⟨("variables_in", none), "variables_in", "variables_in", defArgs (top 56), defBody (top 56), defScope (top 56), [], []⟩
def d_pfo : He.DefD := ⟨("_is_first_order", none), "_is_first_order", "_is_first_order", defArgs (top 57), defBody (top 57), defScope (top 57), [], []⟩
def d_is_first_order : He.DefD := ⟨("is_first_order", none), "is_first_order", "is_first_order", defArgs (top 58), defBody (top 58), defScope (top 58), [], []⟩
def d_Names___init__ : He.DefD := ⟨("Names", some "__init__"), "__init__", "Names.__init__", defArgs (inClass (top 60) 0), defBody (inClass (top 60) 0), defScope (inClass (top 60) 0), [], []⟩
def d_Names_fresh : He.DefD := ⟨("Names", some "fresh"), "fresh", "Names.fresh", defArgs (inClass (top 60) 1), defBody (inClass (top 60) 1), defScope (inClass (top 60) 1), [], []⟩
def d_Names_instead_of : He.DefD := ⟨("Names", some "instead_of"), "instead_of", "Names.instead_of", defArgs (inClass (top 60) 2), defBody (inClass (top 60) 2), defScope (inClass (top 60) 2), [], []⟩
def d_renamed : He.DefD := ⟨("renamed", none), "renamed", "renamed", defArgs (top 61), defBody (top 61), defScope (top 61), [], []⟩
def d_apart : He.DefD := ⟨("apart", none), "apart", "apart", defArgs (top 64), defBody (top 64), defScope (top 64), [], []⟩
def d_pulled_out : He.DefD := ⟨("_pulled_out", none), "_pulled_out", "_pulled_out", defArgs (top 65), defBody (top 65), defScope (top 65), [], []⟩
def d_blocks : He.DefD := ⟨("_blocks", none), "_blocks", "_blocks", defArgs (top 66), defBody (top 66), defScope (top 66), [], []⟩
def d_prenex : He.DefD := ⟨("prenex", none), "prenex", "prenex", defArgs (top 67), defBody (top 67), defScope (top 67), [], []⟩
def d_law_mixed : He.DefD := ⟨("_law_mixed", none), "_law_mixed", "_law_mixed", defArgs (top 69), defBody (top 69), defScope (top 69), [], []⟩
def d_law_numbers : He.DefD := ⟨("_law_numbers", none), "_law_numbers", "_law_numbers", defArgs (top 70), defBody (top 70), defScope (top 70), [], []⟩
def d_law_draw : He.DefD := ⟨("_law_draw", none), "_law_draw", "_law_draw", defArgs (top 71), defBody (top 71), defScope (top 71), [], []⟩
def d_law_some_of : He.DefD := ⟨("_law_some_of", none), "_law_some_of", "_law_some_of", defArgs (top 72), defBody (top 72), defScope (top 72), [], []⟩
def d_law_atom : He.DefD := ⟨("_law_atom", none), "_law_atom", "_law_atom", defArgs (top 73), defBody (top 73), defScope (top 73), [], []⟩
def d_law_within : He.DefD := ⟨("_law_within", none), "_law_within", "_law_within", defArgs (top 74), defBody (top 74), defScope (top 74), [], []⟩
def d_law_turned : He.DefD := ⟨("_law_turned", none), "_law_turned", "_law_turned", defArgs (top 75), defBody (top 75), defScope (top 75), [], []⟩
def d_law_barred : He.DefD := ⟨("_law_barred", none), "_law_barred", "_law_barred", defArgs (top 76), defBody (top 76), defScope (top 76), [], []⟩
def d_law_bound : He.DefD := ⟨("_law_bound", none), "_law_bound", "_law_bound", defArgs (top 77), defBody (top 77), defScope (top 77), [], []⟩
def d_law_formula : He.DefD := ⟨("_law_formula", none), "_law_formula", "_law_formula", defArgs (top 78), defBody (top 78), defScope (top 78), [], []⟩
def d_law_names : He.DefD := ⟨("_law_names", none), "_law_names", "_law_names", defArgs (top 79), defBody (top 79), defScope (top 79), [], []⟩
def d_law_parts : He.DefD := ⟨("_law_parts", none), "_law_parts", "_law_parts", defArgs (top 80), defBody (top 80), defScope (top 80), [], []⟩
def d_law_bound_here : He.DefD := ⟨("_law_bound_here", none), "_law_bound_here", "_law_bound_here", defArgs (top 81), defBody (top 81), defScope (top 81), [], []⟩
def d_law_own : He.DefD := ⟨("_law_own", none), "_law_own", "_law_own", defArgs (top 82), defBody (top 82), defScope (top 82), [], []⟩
def d_law_free : He.DefD := ⟨("_law_free", none), "_law_free", "_law_free", defArgs (top 83), defBody (top 83), defScope (top 83), [], []⟩
def d_law_symbols : He.DefD := ⟨("_law_symbols", none), "_law_symbols", "_law_symbols", defArgs (top 84), defBody (top 84), defScope (top 84), [], []⟩
def d_law_tuples : He.DefD := ⟨("_law_tuples", none), "_law_tuples", "_law_tuples", defArgs (top 85), defBody (top 85), defScope (top 85), [], []⟩
def d_law_with : He.DefD := ⟨("_law_with", none), "_law_with", "_law_with", defArgs (top 86), defBody (top 86), defScope (top 86), [], []⟩
def d_law_true : He.DefD := ⟨("_law_true", none), "_law_true", "_law_true", defArgs (top 91), defBody (top 91), defScope (top 91), [], []⟩
def d_law_cost : He.DefD := ⟨("_law_cost", none), "_law_cost", "_law_cost", defArgs (top 92), defBody (top 92), defScope (top 92), [], []⟩
def d_law_subset : He.DefD := ⟨("_law_subset", none), "_law_subset", "_law_subset", defArgs (top 93), defBody (top 93), defScope (top 93), [], []⟩
def d_law_world : He.DefD := ⟨("_law_world", none), "_law_world", "_law_world", defArgs (top 94), defBody (top 94), defScope (top 94), [], []⟩
def d_law_rows : He.DefD := ⟨("_law_rows", none), "_law_rows", "_law_rows", defArgs (top 95), defBody (top 95), defScope (top 95), [], []⟩
def d_law_matrix : He.DefD := ⟨("_law_matrix", none), "_law_matrix", "_law_matrix", defArgs (top 96), defBody (top 96), defScope (top 96), [], []⟩
def d_law_plain : He.DefD := ⟨("_law_plain", none), "_law_plain", "_law_plain", defArgs (top 97), defBody (top 97), defScope (top 97), [], []⟩
def d_law_refused : He.DefD := ⟨("_law_refused", none), "_law_refused", "_law_refused", defArgs (top 98), defBody (top 98), defScope (top 98), [], []⟩
def d_law_quantifiers : He.DefD := ⟨("_law_quantifiers", none), "_law_quantifiers", "_law_quantifiers", defArgs (top 99), defBody (top 99), defScope (top 99), [], []⟩
def d_law_theirs : He.DefD := ⟨("_law_theirs", none), "_law_theirs", "_law_theirs", defArgs (top 100), defBody (top 100), defScope (top 100), [], []⟩
def d_law : He.DefD := ⟨("law", none), "law", "law", defArgs (top 101), defBody (top 101), defScope (top 101), [], []⟩
def fns : List He.DefD := [d_is_whole, d_is_between, d_is_name, d_are_variables, d_are_different, d_is_rel, d_is_comparison, d_is_negation, d_is_joined, d_is_quantified, d_is_fixed_point, d_is_closure, d_is_guess, d_is_shape, d_inner, d_with_item, d_with_inner, d_own, d_with_own, d_arguments, d_with_arguments, d_bound_name, d_bound_arity, d_check_shapes, d_arities_in, d_is_positive_in, d_check_fixed_points, d_check_formula, d_within_bounds, d_pfree, d_free, d_variables_in, d_pfo, d_is_first_order, d_Names___init__, d_Names_fresh, d_Names_instead_of, d_renamed, d_apart, d_pulled_out, d_blocks, d_prenex, d_law_mixed, d_law_numbers, d_law_draw, d_law_some_of, d_law_atom, d_law_within, d_law_turned, d_law_barred, d_law_bound, d_law_formula, d_law_names, d_law_parts, d_law_bound_here, d_law_own, d_law_free, d_law_symbols, d_law_tuples, d_law_with, d_law_true, d_law_cost, d_law_subset, d_law_world, d_law_rows, d_law_matrix, d_law_plain, d_law_refused, d_law_quantifiers, d_law_theirs, d_law]
def fas : List He.Fa := [.glo "is_whole", .glo "is_between", .glo "is_name", .glo "_are_variables", .glo "are_different", .glo "_is_rel", .glo "_is_comparison", .glo "_is_negation", .glo "_is_joined", .glo "_is_quantified", .glo "_is_fixed_point", .glo "_is_closure", .glo "_is_guess", .glo "is_shape", .glo "inner", .glo "_with_item", .glo "with_inner", .glo "own", .glo "with_own", .glo "arguments", .glo "with_arguments", .glo "bound_name", .glo "bound_arity", .glo "_check_shapes", .glo "arities_in", .glo "is_positive_in", .glo "_check_fixed_points", .glo "check_formula", .glo "within_bounds", .glo "_free", .glo "free", .glo "variables_in", .glo "_is_first_order", .glo "is_first_order", .meth "Names" "__init__", .meth "Names" "fresh", .meth "Names" "instead_of", .glo "renamed", .glo "apart", .glo "_pulled_out", .glo "_blocks", .glo "prenex", .glo "_law_mixed", .glo "_law_numbers", .glo "_law_draw", .glo "_law_some_of", .glo "_law_atom", .glo "_law_within", .glo "_law_turned", .glo "_law_barred", .glo "_law_bound", .glo "_law_formula", .glo "_law_names", .glo "_law_parts", .glo "_law_bound_here", .glo "_law_own", .glo "_law_free", .glo "_law_symbols", .glo "_law_tuples", .glo "_law_with", .glo "_law_true", .glo "_law_cost", .glo "_law_subset", .glo "_law_world", .glo "_law_rows", .glo "_law_matrix", .glo "_law_plain", .glo "_law_refused", .glo "_law_quantifiers", .glo "_law_theirs", .glo "law", .free "len", .free "range", .free "isinstance", .free "list", .free "tuple", .free "bool", .free "int", .free "str", .free "sorted", .free "set", .free "all", .free "any", .free "sum", .free "max", .free "min", .free "dict", .free "enumerate", .free "zip", .int "LONGEST_NAME" 12, .int "MOST_JOINED" 40, .int "LARGEST_GUESS" 3, .int "MOST_PARTS" 2000, .int "MOST_DEEP" 40, .str "LETTERS" "abcdefghijklmnopqrstuvwxyz", .str "FIGURES" "0123456789", .glo "RESERVED", .glo "REL_COUNTS", .glo "OWN_COUNTS", .glo "TC_COUNTS", .glo "LENGTHS", .glo "BODY_AT", .glo "OWN_AT", .glo "ARGUMENTS_AT", .glo "TESTS", .glo "TURNED", .glo "BadArgument", .glo "BadFormula", .glo "TooLarge", .glo "Names", .cls "Names", .mkr "Names", .noat "Names" "used", .noat "Names" "known", .noat "Names" "made", .free "reversed"]
def tabs : List He.Tab := [((fun K => He.ga K "LENGTHS"), ["rel", "eq", "less", "not", "and", "or", "some", "all", "lfp", "pfp", "tc", "guess"]), ((fun K => He.ga K "BODY_AT"), ["not", "some", "all", "lfp", "pfp", "tc", "guess"]), ((fun K => He.ga K "OWN_AT"), ["some", "all", "lfp", "pfp", "tc"]), ((fun K => He.ga K "ARGUMENTS_AT"), ["rel", "lfp", "pfp", "tc"]), ((fun K => He.ga K "TESTS"), ["rel", "eq", "less", "not", "and", "or", "some", "all", "lfp", "pfp", "tc", "guess"]), ((fun K => He.ga K "TURNED"), ["and", "or", "some", "all"])]
def exs (K : PySem.W.Frag) : Bool := He.tupB K "RESERVED" [.str "and", .str "or", .str "not", .str "some", .str "all", .str "lfp", .str "pfp", .str "tc", .str "guess", .str "true", .str "false"] && (He.tupB K "REL_COUNTS" [.int 0, .int 1, .int 2, .int 3, .int 4, .int 5, .int 6] && (He.tupB K "OWN_COUNTS" [.int 1, .int 2, .int 3, .int 4, .int 5, .int 6] && (He.tupB K "TC_COUNTS" [.int 2, .int 4, .int 6, .int 8] && (thB K "LENGTHS" [("rel", .int 3), ("eq", .int 3), ("less", .int 3), ("not", .int 2), ("and", .int 2), ("or", .int 2), ("some", .int 3), ("all", .int 3), ("lfp", .int 5), ("pfp", .int 5), ("tc", .int 4), ("guess", .int 4)] && (thB K "BODY_AT" [("not", .int 1), ("some", .int 2), ("all", .int 2), ("lfp", .int 3), ("pfp", .int 3), ("tc", .int 2), ("guess", .int 3)] && (thB K "OWN_AT" [("some", .int 1), ("all", .int 1), ("lfp", .int 2), ("pfp", .int 2), ("tc", .int 1)] && (thB K "ARGUMENTS_AT" [("rel", .int 2), ("lfp", .int 4), ("pfp", .int 4), ("tc", .int 3)] && (thB K "TESTS" [("rel", .glo "_is_rel"), ("eq", .glo "_is_comparison"), ("less", .glo "_is_comparison"), ("not", .glo "_is_negation"), ("and", .glo "_is_joined"), ("or", .glo "_is_joined"), ("some", .glo "_is_quantified"), ("all", .glo "_is_quantified"), ("lfp", .glo "_is_fixed_point"), ("pfp", .glo "_is_fixed_point"), ("tc", .glo "_is_closure"), ("guess", .glo "_is_guess")] && (thB K "TURNED" [("and", .str "or"), ("or", .str "and"), ("some", .str "all"), ("all", .str "some")] && (msB K "BODY_AT" ["rel", "eq", "less", "and", "or"] && (msB K "OWN_AT" ["rel", "eq", "less", "not", "and", "or", "guess"] && (msB K "ARGUMENTS_AT" ["eq", "less", "not", "and", "or", "some", "all", "guess"] && (xcB K "BadArgument" && (xcB K "BadFormula" && (xcB K "TooLarge" && (kitB2 K "BadArgument" "BadFormula" false))))))))))))))))
abbrev R : PySem.W.OpenRow := PySem.W.OpenLaw.row PySem.Challenge.rw_sayso_k22_whole_prenex_forms
abbrev hk : PySem.W.Hook := He.hookX 4 fas fns tabs [] exs
def ob (s : PySem.W.SharedT) : He.AlX := He.obsX 4 fas fns tabs [] exs (HandSHeadRun.getT s)
theorem ob_eq (s : PySem.W.SharedT) : ob s = hk.obs s.abs := He.obsX_eq (HandSHeadRun.getT_eq s)
def looseN : List PySem.Str := (["SaysoError", "BadFormula", "BadArgument", "TooLarge", "is_whole", "is_between", "LONGEST_NAME", "LETTERS", "FIGURES", "RESERVED", "is_name", "MOST_JOINED", "LARGEST_GUESS", "REL_COUNTS", "OWN_COUNTS", "TC_COUNTS", "LENGTHS", "BODY_AT", "OWN_AT", "ARGUMENTS_AT", "_are_variables", "are_different", "_is_rel", "_is_comparison", "_is_negation", "_is_joined", "_is_quantified", "_is_fixed_point", "_is_closure", "_is_guess"] : List PySem.Str) ++ (["TESTS", "is_shape", "inner", "_with_item", "with_inner", "own", "with_own", "arguments", "with_arguments", "bound_name", "bound_arity", "MOST_PARTS", "MOST_DEEP", "_check_shapes", "arities_in", "is_positive_in", "_check_fixed_points", "check_formula", "within_bounds", "_free", "free", "variables_in", "_is_first_order", "is_first_order", "Names", "renamed", "TURNED", "apart", "_pulled_out", "_blocks"] : List PySem.Str) ++ (["prenex", "_law_mixed", "_law_numbers", "_law_draw", "_law_some_of", "_law_atom", "_law_within", "_law_turned", "_law_barred", "_law_bound", "_law_formula", "_law_names", "_law_parts", "_law_bound_here", "_law_own", "_law_free", "_law_symbols", "_law_tuples", "_law_with", "_law_next", "_law_settled", "_law_closed", "_law_guessed", "_law_true", "_law_cost", "_law_subset", "_law_world", "_law_rows", "_law_matrix", "_law_plain"] : List PySem.Str) ++ (["_law_refused", "_law_quantifiers", "_law_theirs"] : List PySem.Str)
theorem run_f (w : World) : HandSHeadRun.RunEq R (PySem.W.view R.prog [101]) hk ob 8000 looseN (w.withFollow "special-get-raises" false) := by
  intro os
  kernel_rfl
theorem run_t (w : World) : HandSHeadRun.RunEq R (PySem.W.view R.prog [101]) hk ob 8000 looseN (w.withFollow "special-get-raises" true) := by
  intro os
  kernel_rfl
theorem run (w : World) : HandSHeadRun.RunEq R (PySem.W.view R.prog [101]) hk ob 8000 looseN w :=
  PySem.W.byRow2 "special-get-raises" (P := fun w => HandSHeadRun.RunEq R (PySem.W.view R.prog [101]) hk ob 8000 looseN w) run_f run_t w

/-! ### small helpers -/
def tyN : V → String
  | .non => "NoneType"
  | .bl _ => "bool"
  | .int _ => "int"
  | .str _ => "str"
  | _ => ""
theorem ty_flat {K : PySem.W.Frag} {H : Hp} {v : V} (h : flatV v = true) : TyX K H v (.type (tyN v)) := by
  cases v with
  | non => exact .base .non
  | bl b => exact .base (.bl b)
  | int i => exact .base (.int i)
  | str z => exact .base (.str z)
  | byt b => cases h
  | flt b => cases h
  | ref a => cases h
  | ty n => cases h
theorem cT {k : Bool} {A B : Prop} (h : k = true) (q : A) : if k = true then A else B := by rw [if_pos h]; exact q
theorem cF {k : Bool} {A B : Prop} (h : k = false) (q : B) : if k = true then A else B := by rw [h]; exact iteF q
theorem nd_f {p : Prop} [Decidable p] (h : p) : (!decide p) = false := by rw [decide_eq_true h]; rfl
theorem nd_t {p : Prop} [Decidable p] (h : ¬ p) : (!decide p) = true := by rw [decide_eq_false h]; rfl
theorem isi_q {K : PySem.W.Frag} {i : Nat} {v : V} {n m : String} {b : Bool} {σ : L2.St} {H : Hp} {Q : VK} (e : σ[i]? = some (some v)) (t : TyX K H v (.type m)) (k : kitB m n = some b) (q : Q (.bl b) H) : tCB (rIsi K) (tCons (tVar i) (tCons (tC (.ty n)) tNil)) σ H Q :=
  ⟨_, e, _, _, _, _, _, rfl, .ty _, t, kit_ty k, q⟩
theorem isi_t {K : PySem.W.Frag} {i : Nat} {v : V} {n m : String} {b : Bool} {σ : L2.St} {H : Hp} {Q : Bool → Hp → Prop} (e : σ[i]? = some (some v)) (t : TyX K H v (.type m)) (k : kitB m n = some b) (q : Q b H) : tB (tCB (rIsi K) (tCons (tVar i) (tCons (tC (.ty n)) tNil))) σ H Q :=
  ⟨_, e, _, _, _, _, _, rfl, .ty _, t, kit_ty k, _, rfl, q⟩
/-! ### names -/
def lets : Str := "abcdefghijklmnopqrstuvwxyz"
def figs : Str := "0123456789"
def both : Str := "abcdefghijklmnopqrstuvwxyz0123456789"
def resv : List V := [.str "and", .str "or", .str "not", .str "some", .str "all", .str "lfp", .str "pfp", .str "tc", .str "guess", .str "true", .str "false"]
structure Nm (z : Str) : Prop where
  lo : 1 ≤ z.length
  hi : z.length ≤ 12
  first : ∀ c, z.cps.toList[0]? = some c → c ∈ lets.cps.toList
  res : inV (.str z) resv = false
  all_ : ∀ c, c ∈ z.cps.toList → c ∈ both.cps.toList
noncomputable def isNm (z : Str) : Bool := @decide (Nm z) (Classical.propDecidable _)
theorem isNm_t {z : Str} (h : Nm z) : isNm z = true := by unfold isNm; exact @decide_eq_true _ (_) h
theorem isNm_f {z : Str} (h : ¬ Nm z) : isNm z = false := by unfold isNm; exact @decide_eq_false _ (_) h
theorem both_eq : both.cps.toList = lets.cps.toList ++ figs.cps.toList := by decide +kernel
theorem in_both {c : Nat} : c ∈ both.cps.toList ↔ c ∈ lets.cps.toList ∨ c ∈ figs.cps.toList := by rw [both_eq]; exact List.mem_append
theorem filt_t {α : Type} {l : List α} {p : α → Bool} {i : Nat} {c : α} (h : l[i]? = some c) (hp : p c = true) : (l.take (i + 1)).filter p = (l.take i).filter p ++ [c] := by
  rw [List.take_add_one, h, List.filter_append]
  show _ ++ List.filter p [c] = _
  rw [List.filter_cons_of_pos hp, List.filter_nil]
theorem filt_f {α : Type} {l : List α} {p : α → Bool} {i : Nat} {c : α} (h : l[i]? = some c) (hp : p c = false) : (l.take (i + 1)).filter p = (l.take i).filter p := by
  rw [List.take_add_one, h, List.filter_append]
  show _ ++ List.filter p [c] = _
  rw [List.filter_cons_of_neg (by rw [hp]; exact Bool.false_ne_true), List.filter_nil, List.append_nil]
theorem sz_len (z : Str) : z.cps.toList.length = z.length := by show z.cps.toList.length = z.cps.size; simp
theorem at_sz {z : Str} {i c : Nat} (h : z.cps[i]? = some c) : z.cps.toList[i]? = some c := by simpa using h
def spIsName (K : PySem.W.Frag) : Sp := fun vs H Q _ => (∃ z : Str, vs = [.str z] ∧ z.length ≤ sizeLine ∧ Q (.bl (isNm z)) H) ∨ (∃ (x : V) (t : String), vs = [x] ∧ TyX K H x (.type t) ∧ kitB t "str" = some false ∧ Q (.bl false) H)
section
variable {P : Program} {w : World} {K : PySem.W.Frag} {mg : Str → Option Value} {base : Heap}
theorem sc_is_name : FnScope ["text", "sign"] ["text"] (defScope (top 13)) := ⟨rfl, rfl, rfl, by decide +kernel, rfl, by decide +kernel, by decide +kernel⟩
theorem has_is_name (D : Def K mg "is_name" ["text"] (top 13)) (T : Txt mg) (c1 : ∃ t, mg "LONGEST_NAME" = some (.int 12 t)) (c2 : ∃ t, mg "LETTERS" = some (.str lets t)) (c3 : ∃ t, mg "FIGURES" = some (.str figs t))
    (c_RESERVED : mg "RESERVED" = some (.ref (He.ga K "RESERVED"))) (rs : ∀ H : Hp, SqT K H (He.ga K "RESERVED") resv) : Has P w K mg base 1 "is_name" ["text"] (spIsName K) := D.has fun f fd F => by
  obtain ⟨t1, c_LONGEST_NAME⟩ := c1
  obtain ⟨t2, c_LETTERS⟩ := c2
  obtain ⟨t3, c_FIGURES⟩ := c3
  refine F.ok sc_is_name (fun vs H Q E h => ?_) (fun cdv A outer s H vs Q E hr h => ?_)
  · rcases h with ⟨z, rfl, _⟩ | ⟨x, t, rfl, _⟩ <;> rfl
  · refine ⟨_, PSs.nox (pss_cons (ps_if (PW.pt (pw_or (pt_not (pt_val (pe_callB call_isi (by rfl) T.n_isinstance (by decide +kernel) (pa_cons (pv 0) (pa_cons (pe_bltn (v := .ty "str") (by rfl) T.n_str (by decide +kernel) rfl) pa_nil))))) (pw_or1 (pt_not (pt_chain op_le op_le pe_int (pe_callB call_len_str (by rfl) T.n_len PySem.boot_len (pa_cons (pv 0) pa_nil)) (pe_glob (v := .int 12) (by rfl) c_LONGEST_NAME ⟨_, rfl⟩)))))) (pss_one (ps_ret pe_bl)) pss_nil) (pss_cons (ps_if (PW.pt (pw_or (pt_cmpR op_notIn_sign (pe_ix ix_str (pv 0) pe_int (fun _ _ => rfl)) (pe_glob (v := .str "abcdefghijklmnopqrstuvwxyz") (by rfl) c_LETTERS ⟨_, rfl⟩) (by rfl)) (pw_or1 (pt_cmpR op_in_seq (pv 0) (pe_glob (v := .ref (He.ga K "RESERVED")) (by rfl) c_RESERVED rfl) (by rfl))))) (pss_one (ps_ret pe_bl)) pss_nil) (pss_cons (ps_for PassesOwn.never rfl (pi_str (pv 0)) (pg_name (i := 1) sc_is_name.nd rfl (Or.inl rfl)) (pss_one (ps_if (PW.pt (pw_and (pt_cmpR op_notIn_sign (pv 1) (pe_glob (v := .str "abcdefghijklmnopqrstuvwxyz") (by rfl) c_LETTERS ⟨_, rfl⟩) (by rfl)) (pw_and1 (pt_cmpR op_notIn_sign (pv 1) (pe_glob (v := .str "0123456789") (by rfl) c_FIGURES ⟨_, rfl⟩) (by rfl))))) (pss_one (ps_ret pe_bl)) pss_nil))) (pss_one (ps_ret pe_bl))))), ?_⟩
    rcases h with ⟨z, rfl, hz, q⟩ | ⟨x, t, rfl, tx, hk, q⟩
    · have qf : ¬ Nm z → Q (.bl false) H := fun n => by rw [isNm_f n] at q; exact q
      have qt : Nm z → Q (.bl true) H := fun n => by rw [isNm_t n] at q; exact q
      refine ⟨_, rfl, _, _, _, _, _, rfl, .ty _, .base (.str z), kit_ty (b := "str") (r := true) (by decide +kernel), _, rfl, iteF ?_⟩
      refine ⟨_, rfl, _, rfl, hz, _, _, rfl, rfl, _, rfl, ite2 (fun e => ?_) (fun e => ?_)⟩
      · refine ⟨_, _, rfl, rfl, _, rfl, ?_⟩
        have e1 := of_decide_eq_true e
        by_cases h12 : ((z.length : Nat) : Int) ≤ 12
        · refine cF (nd_f h12) ?_
          have hl1 : 0 < z.cps.toList.length := by rw [sz_len]; omega
          have e0 : z.cps.toList[0]? = some (z.cps.toList[0]) := List.getElem?_eq_getElem hl1
          refine ⟨_, rfl, z, _, _, rfl, rfl, hz, atI_nat (j := 0) e0, _, _, rfl, rfl, _, rfl, ?_⟩
          by_cases hf : z.cps.toList[0] ∈ lets.cps.toList
          · refine cF (nd_f hf) ⟨_, rfl, _, _, rfl, .inr (rs _), rfl, rfl, _, rfl, ?_⟩
            by_cases hr2 : inV (.str z) resv = true
            · exact cT hr2 (qf fun n => by rw [n.res] at hr2; cases hr2)
            · have hr3 : inV (.str z) resv = false := by simpa using hr2
              refine cF hr3 ?_
              refine ⟨_, rfl, z, rfl, for_it walk_str (fun i σ H2 => ∃ y1, σ = [some (.str z), y1] ∧ H2 = H ∧ ∀ c, c ∈ z.cps.toList.take i → c ∈ both.cps.toList) ⟨none, rfl, rfl, fun c hc => by simp at hc⟩ (fun _ _ _ _ _ => trivial) ?_ ?_⟩
              · rintro i y σ H2 H3 hi ⟨y1, rfl, rfl, ha⟩ ⟨rfl, c, hc, rfl⟩
                have hc' := at_sz hc
                have next : c ∈ both.cps.toList → ∃ y1 : Option V, ([some (V.str z), some (V.str ⟨#[c]⟩)] : L2.St) = [some (.str z), y1] ∧ H3 = H3 ∧ ∀ c', c' ∈ z.cps.toList.take (i + 1) → c' ∈ both.cps.toList := fun hb => ⟨_, rfl, rfl, fun c' h' => by
                  rw [List.take_add_one, hc'] at h'
                  rcases List.mem_append.mp h' with h' | h'
                  · exact ha c' h'
                  · have e3 : c' = c := by simpa using h'
                    rw [e3]; exact hb⟩
                refine ⟨_, rfl, _, _, rfl, rfl, _, rfl, ?_⟩
                by_cases h1 : c ∈ lets.cps.toList
                · exact cF (nd_f h1) (iteF (next (in_both.mpr (.inl h1))))
                · refine cT (nd_t h1) ⟨_, rfl, _, _, rfl, rfl, _, rfl, ?_⟩
                  by_cases h2 : c ∈ figs.cps.toList
                  · exact cF (nd_f h2) (next (in_both.mpr (.inr h2)))
                  · refine cT (nd_t h2) (qf fun n => ?_)
                    rcases in_both.mp (n.all_ c (List.mem_of_getElem? hc')) with h3 | h3
                    · exact h1 h3
                    · exact h2 h3
              · rintro σ H2 ⟨y1, rfl, rfl, ha⟩
                refine qt ⟨by omega, by omega, fun c hc => by rw [e0] at hc; rw [← Option.some.inj hc]; exact hf, by simpa using hr2, fun c hc => ha c ?_⟩
                rw [List.take_of_length_le (by simp)]
                exact hc
          · exact cT (nd_t hf) (cT rfl (qf fun n => hf (n.first _ e0)))
        · exact cT (nd_t h12) (qf fun n => h12 (by have := n.hi; omega))
      · exact ⟨_, rfl, cT (k := !false) rfl (qf fun n => e (decide_eq_true (by have := n.lo; omega)))⟩
    · exact ⟨_, rfl, _, _, _, _, _, rfl, .ty _, tx, kit_ty (b := "str") (r := false) hk, _, rfl, iteT q⟩
end
/-! ### set(xs) of a list or a tuple of ints and texts: what it holds, how many -/
theorem sub_len {α : Type} [DecidableEq α] : ∀ (d l : List α), d.Nodup → (∀ x, x ∈ d → x ∈ l) → d.length ≤ l.length
  | [], _, _, _ => Nat.zero_le _
  | x :: d, l, nd, sub => by
    have two := List.nodup_cons.mp nd
    have inl := sub x (List.mem_cons_self ..)
    have step := sub_len d (l.erase x) two.2 (fun y hy => (List.mem_erase_of_ne (fun e => two.1 (by rw [← e]; exact hy))).mpr (sub y (List.mem_cons_of_mem _ hy)))
    have shorter := List.length_erase_of_mem inl
    have some_ := List.length_pos_of_mem inl
    simp only [List.length_cons]
    omega
theorem dup_shorter {α : Type} [DecidableEq α] : ∀ (l : List α), ¬ l.Nodup → ∃ l' : List α, l'.length < l.length ∧ ∀ x, x ∈ l → x ∈ l'
  | [], h => absurd List.nodup_nil h
  | x :: l, h => by
    by_cases hx : x ∈ l
    · exact ⟨l, Nat.lt_succ_self _, fun y hy => (List.mem_cons.mp hy).elim (fun e => by rw [e]; exact hx) id⟩
    · obtain ⟨l', h1, h2⟩ := dup_shorter l (fun hl => h (List.nodup_cons.mpr ⟨hx, hl⟩))
      refine ⟨x :: l', Nat.succ_lt_succ h1, fun y hy => ?_⟩
      rcases List.mem_cons.mp hy with e | hy
      · rw [e]; exact List.mem_cons_self ..
      · exact List.mem_cons_of_mem _ (h2 y hy)
/-- c different ones in l -/
def Cnt {α : Type} (l : List α) (c : Nat) : Prop := ∃ d : List α, d.Nodup ∧ (∀ k, k ∈ d ↔ k ∈ l) ∧ d.length = c
theorem Cnt.nil {α : Type} : Cnt ([] : List α) 0 := ⟨[], List.nodup_nil, fun _ => Iff.rfl, rfl⟩
theorem Cnt.old {α : Type} {l : List α} {c : Nat} {k : α} (h : Cnt l c) (hk : k ∈ l) : Cnt (l ++ [k]) c := by
  obtain ⟨d, h1, h2, h3⟩ := h
  refine ⟨d, h1, fun x => (h2 x).trans ⟨List.mem_append_left _, fun hx => ?_⟩, h3⟩
  rcases List.mem_append.mp hx with hx | hx
  · exact hx
  · rw [List.mem_singleton.mp hx]; exact hk
theorem Cnt.new {α : Type} {l : List α} {c : Nat} {k : α} (h : Cnt l c) (hk : ¬ k ∈ l) : Cnt (l ++ [k]) (c + 1) := by
  obtain ⟨d, h1, h2, h3⟩ := h
  refine ⟨k :: d, List.nodup_cons.mpr ⟨fun hd => hk ((h2 k).mp hd), h1⟩, fun x => ?_, by rw [List.length_cons, h3]⟩
  rw [List.mem_cons, h2 x, List.mem_append, List.mem_singleton]
  exact Or.comm
theorem Cnt.le {α : Type} [DecidableEq α] {l : List α} {c : Nat} (h : Cnt l c) : c ≤ l.length := by
  obtain ⟨d, h1, h2, rfl⟩ := h
  exact sub_len d l h1 fun x hx => (h2 x).mp hx
theorem Cnt.all {α : Type} [DecidableEq α] {l : List α} {c : Nat} (h : Cnt l c) : c = l.length ↔ l.Nodup := by
  obtain ⟨d, h1, h2, rfl⟩ := h
  constructor
  · intro e
    by_cases hn : l.Nodup
    · exact hn
    · obtain ⟨l', a, b⟩ := dup_shorter l hn
      have := sub_len d l' h1 fun x hx => b x ((h2 x).mp hx)
      omega
  · intro hn
    exact Nat.le_antisymm (sub_len d l h1 fun x hx => (h2 x).mp hx) (sub_len l d hn fun x hx => (h2 x).mpr hx)
section
variable {P : Program} {w : World} {A : Around} {E : Value → Shared → Prop} {R : Result → Shared → Prop} {it : Addr} {fp wr : List Addr} {G : Array GenState → Array GenState → Prop} {n : Nat} {Pv : Nat → Value → Prop} {St : Nat → Shared → Prop}
theorem setOf_moves {h h' : Heap} {a : Addr} {S : Key → Bool} {c : Nat} (q : h.SetOf (mixKind P w) a S c) (k : ∀ o, h.get? a = some o → h'.get? a = some o) : h'.SetOf (mixKind P w) a S c := setOf_at q k
/-- k stands in l -/
def memK (l : List Key) (k : Key) : Bool := l.any fun j => decide (j = k)
theorem memK_iff {l : List Key} {k : Key} : memK l k = true ↔ k ∈ l := by
  unfold memK
  rw [List.any_eq_true]
  exact ⟨fun ⟨x, h1, h2⟩ => of_decide_eq_true h2 ▸ h1, fun h => ⟨k, h, decide_eq_true rfl⟩⟩
theorem memK_snoc {l : List Key} {k j : Key} : memK (l ++ [k]) j = (memK l j || decide (j = k)) := by
  unfold memK
  rw [List.any_append, List.any_cons, List.any_nil, Bool.or_false]
  congr 1
  exact decide_eq_decide.mpr ⟨Eq.symm, Eq.symm⟩
theorem setOf_as {h : Heap} {a : Addr} {S S' : Key → Bool} {c : Nat} (q : h.SetOf (mixKind P w) a S c) (e : ∀ k, S k = S' k) : h.SetOf (mixKind P w) a S' c := by
  have e' : S = S' := funext e
  rw [← e']; exact q
/-- the loop of set.update, one key a turn -/
theorem keys_loop (W : WalksS P w A.in1 it fp wr G n Pv St) (S : Addr) (out : S ∉ fp) (ks : List Key) (len : n = ks.length) (room : n + 1 < scanBound)
    (val : ∀ i v, Pv i v → ∃ k, ks[i]? = some k ∧ keyIs k v = true ∧ v.scannable = true) : ∀ (m i : Nat) (s : Shared), n - i = m → i ≤ n → St i s →
      (∃ c, Cnt (ks.take i) c ∧ s.heap.SetOf (mixKind P w) S (memK (ks.take i)) c) →
      (∀ s' c, Moved (S :: wr) G s s' → Cnt ks c → s'.heap.SetOf (mixKind P w) S (memK ks) c → R (.ok (.ret .none)) s') → codeAny (model P w) A (.builtin "set.update.loop" ⟨[.ref S, .ref it], []⟩) R s := by
  have outW : S ∉ wr := fun z => out (W.sub _ z)
  have wider : ∀ b ∈ wr, b ∈ S :: wr := fun _ z => List.mem_cons_of_mem _ z
  intro m
  induction m with
  | zero =>
    intro i s e1 e2 st ⟨c, hc, hS⟩ fin
    have ei : i = n := by omega
    subst ei
    refine codeAny_builtin F.entry_set_update_loop ?_; rw [Around.under_plainId F.plain_set_update_loop _]
    show wpAny _ A.in1 (pyNext (.ref it) >>= _) _ _ s
    refine wpAny_bind (W.done s _ _ st fun s' mv => ?_)
    have all : ks.take i = ks := List.take_of_length_le (Nat.le_of_eq len.symm)
    rw [all] at hc hS
    exact wpAny_pure (fin s' c (mv.mono wider) hc (setOf_moves hS fun o z => mv.heap S o outW z))
  | succ m ih =>
    intro i s e1 e2 st ⟨c, hc, hS⟩ fin
    refine codeAny_builtin F.entry_set_update_loop ?_; rw [Around.under_plainId F.plain_set_update_loop _]
    show wpAny _ A.in1 (pyNext (.ref it) >>= _) _ _ s
    refine wpAny_bind (W.item i s _ _ (by omega) st fun v s' pv st' mv => ?_)
    obtain ⟨k, hk, kv, sc⟩ := val i v pv
    have nx : ks.take (i + 1) = ks.take i ++ [k] := by rw [List.take_add_one, hk]; rfl
    have hS' := setOf_moves hS fun o z => mv.heap S o outW z
    have cl : c ≤ i := Nat.le_trans hc.le (List.length_take_le _ _)
    show wpAny _ A.in1 (holding [v] (setAdd S v) >>= _) _ _ s'
    refine wpAny_bind (wpAny_holding ?_); unfold setAdd; refine wpAny_holding (wpAny_bind ((mixKind P w).pyHash (k := k) kv ?_))
    refine wpAny_setAddHashed_of (knd := mixKind P w) (s := { s' with toks := s'.toks + 1 }) kv sc hS' (by omega) fun h2 same hS2 => ?_
    have inv2 : ∃ c2, Cnt (ks.take (i + 1)) c2 ∧ h2.SetOf (mixKind P w) S (memK (ks.take (i + 1))) c2 := by
      cases hm : memK (ks.take i) k with
      | true =>
        refine ⟨c, nx ▸ hc.old (memK_iff.mp hm), ?_⟩
        rw [hm, if_pos rfl] at hS2
        exact setOf_as hS2 fun j => by rw [nx, memK_snoc]
      | false =>
        refine ⟨c + 1, nx ▸ hc.new (fun z => by rw [memK_iff.mpr z] at hm; cases hm), ?_⟩
        rw [hm, if_neg Bool.false_ne_true] at hS2
        exact setOf_as hS2 fun j => by rw [nx, memK_snoc]
    refine wpAny_pure ⟨plainId_quiet F.plain_set_update_loop _, ih (i + 1) _ (by omega) (by omega) (W.frame _ s' _ _ st' (Nat.le_succ _) fun b hb o z => ?_) inv2 fun s3 c3 mv3 hc3 hS3 => ?_⟩
    · exact (same.2 b (fun e => out (e ▸ hb))).trans z
    · refine fin s3 c3 (Moved.trans W.gtrans ((mv.mono wider).then_heap (Nat.le_succ _) fun b o hb z => ?_) mv3) hc3 hS3
      exact (same.2 b (fun e => hb (e ▸ List.mem_cons_self ..))).trans z
end
section
variable {P : Program} {w : World} {A : Around} {E : Value → Shared → Prop} {s : Shared}
abbrev emptySet (led : Bool) : Obj := { cls := .type "set", dict := none, data := .set #[] 0 (.fresh 0 0 led) }
theorem empty_setOf {h : Heap} {a : Addr} {led : Bool} (e : h.get? a = some (emptySet led)) : h.SetOf (mixKind P w) a (fun _ => false) 0 :=
  ⟨_, #[], 0, _, e, ⟨rfl, rfl, rfl⟩, rfl, fun z hz => (by simp at hz), fun k => (by simp), by decide, rfl, rfl⟩
set_option maxHeartbeats 8000000 in
/-- set(l), l a tuple of keys -/
theorem set_of_tuple {l : Addr} {items : Array Value} {ks : List Key} {Q : Value → Shared → Prop} (hh : A.handled = none) (src : s.heap.IsTuple l items) (len : items.size = ks.length) (room : ks.length + 1 < scanBound)
    (val : ∀ (i : Nat) (v : Value), items[i]? = some v → ∃ k, ks[i]? = some k ∧ keyIs k v = true ∧ v.scannable = true)
    (fin : ∀ h' tk c, Cnt ks c → h'.SetOf (mixKind P w) s.heap.objs.size (memK ks) c → (∀ b o, s.heap.get? b = some o → h'.get? b = some o) → Q (.ref s.heap.objs.size) { s with heap := h', toks := tk }) :
    wpAny (model P w) A (call (.type "set") [.ref l]) Q E s := by
  have ⟨mc, mt, mro⟩ := F.called_set.mro; have made := F.called_set.made; have subs := F.called_set.sub
  refine wpAny_call (codeAny_of_tree ?_); show wpAny _ _ (callAny (.type "set") _) _ _ _
  refine wpAny_pure ⟨Code.quiet_builtin _ (by decide +kernel), codeAny_builtin F.entry_type_call ?_⟩; rw [Around.under_plain (weight_type_call_type "set" [.ref l] []) rfl]
  have f1 := F.called_set.notType; have f2 := F.called_set.canCreate; have f3 := F.typeCall_set_1 (.ref l)
  repeat (any_goals (first | assumption | wp_step))
  refine codeAny_mono (code_set_new_1 (.ref l) (E := E) (Q₁ := fun ob s1 => ∃ led : Bool, ob = .ref s.heap.objs.size ∧ s1 = { s with heap := s.heap.push (emptySet led) }) fun led => ⟨led, rfl, rfl⟩) fun r s1 hr => ?_
  rcases r with e | fl
  · exact hr
  rcases fl with _ | _ | _ | ob
  all_goals first | exact hr.elim | skip
  obtain ⟨led, rfl, rfl⟩ := hr
  have at0 : (s.heap.push (emptySet led)).get? s.heap.objs.size = some (emptySet led) := Heap.get?_push_size _ rfl
  have isS : Shared.TypeIs { s with heap := s.heap.push (emptySet led) } (.ref s.heap.objs.size) "set" := ⟨_, at0, rfl⟩
  have f4 := F.called_set.init.lookup; have f5 := F.called_set.init.bind (.ref s.heap.objs.size)
  repeat (any_goals (first | assumption | wp_step))
  refine codeAny_mono (codeAny_call_builtin (R := wants (fun r s2 => r = .none ∧ ∃ h' tk c, s2 = { s with heap := h', toks := tk } ∧ Cnt ks c ∧ h'.SetOf (mixKind P w) s.heap.objs.size (memK ks) c ∧ ∀ b o, s.heap.get? b = some o → h'.get? b = some o) E)
    F.called_set.init.plain F.entry_set_init (check_set_init_1 isS ?_)) fun r2 s2 hr2 => ?_
  · obtain ⟨ol, atl, cl, nl, dl⟩ := src; obtain ⟨oc, od, odt, osl⟩ := ol; simp only at cl dl; subst cl dl
    have ltl : l < s.heap.objs.size := Heap.lt_size atl
    have at1 : (s.heap.push (emptySet led)).get? l = some { cls := .type "tuple", dict := od, data := .seq items nl, slots := osl } := Heap.get?_push_of_some _ atl
    have g1 := F.sub_tuple_set; have g2 := F.sub_tuple_frozenset; have g3 : (Value.type "tuple" == Value.type "dict") = false := by decide
    have src1 : (s.heap.push (emptySet led)).IsTuple l items := ⟨_, at1, rfl, nl, rfl⟩
    have szp : (s.heap.push (emptySet led)).objs.size = s.heap.objs.size + 1 := Heap.size_push ..
    unfold Builtin.«set.__init__» noKeywords Builtin.Frozenset.updateFrom
    generalize keepIter : pyIter = PI
    wp_walk
    subst keepIter
    refine wpAny_pyIter_tuple src1 (wpAny_bind (wpAny_runValue ?_))
    have neI : l ≠ (s.heap.push (emptySet led)).objs.size := by rw [szp]; exact Nat.ne_of_lt (Nat.lt_succ_of_lt ltl)
    have notIn : s.heap.objs.size ∉ [(s.heap.push (emptySet led)).objs.size, l] := fun z => by
      rw [szp] at z
      rcases List.mem_cons.mp z with z | z
      · exact absurd z (Nat.ne_of_lt (Nat.lt_succ_self _))
      · exact absurd (List.mem_singleton.mp z).symm (Nat.ne_of_lt ltl)
    refine keys_loop ((Walks.tuple (show A.in1.in1.in1.handled = none by simp [hh]) _ l neI items).toS) s.heap.objs.size notIn ks len (by rw [len]; exact room) val (items.size - 0) 0 _ (by omega) (Nat.zero_le _)
      ⟨⟨_, Heap.get?_push_size _ rfl, rfl, rfl⟩, src1.push _⟩ ⟨0, .nil, ?_⟩ fun s' c mv hc hS => ?_
    · exact setOf_as (empty_setOf (led := led) (Heap.get?_push_of_some _ at0)) fun k => rfl
    · obtain ⟨h', g', d', tk', os'⟩ := s'
      obtain rfl : g' = s.gens := mv.gens
      obtain rfl : d' = s.drawn := mv.drawn
      obtain rfl : os' = s.os := mv.os
      refine wpAny_pure (wpAny_pure ⟨rfl, h', tk', c, rfl, hc, hS, fun b o z => ?_⟩)
      have lb := Heap.lt_size z
      refine mv.heap b o (fun hm => ?_) (Heap.get?_push_of_some _ (Heap.get?_push_of_some _ z))
      rcases List.mem_cons.mp hm with e | hm
      · exact absurd e (Nat.ne_of_lt lb)
      · have e := List.mem_singleton.mp hm
        rw [szp] at e
        exact absurd e (Nat.ne_of_lt (Nat.lt_succ_of_lt lb))
  · rcases r2 with e | fl2
    · exact hr2
    rcases fl2 with _ | _ | _ | r
    all_goals first | exact hr2.elim | skip
    obtain ⟨rfl, h', tk, c, rfl, hc, hS, hk⟩ := hr2
    repeat (any_goals (first | assumption | wp_step))
    exact fin _ _ _ hc hS hk
set_option maxHeartbeats 8000000 in
/-- set(l), l a list of keys -/
theorem set_of_list {l : Addr} {items : Array Value} {ks : List Key} {Q : Value → Shared → Prop} (hh : A.handled = none) (src : s.heap.IsList l items) (len : items.size = ks.length) (room : ks.length + 1 < scanBound)
    (val : ∀ (i : Nat) (v : Value), items[i]? = some v → ∃ k, ks[i]? = some k ∧ keyIs k v = true ∧ v.scannable = true)
    (fin : ∀ h' tk c, Cnt ks c → h'.SetOf (mixKind P w) s.heap.objs.size (memK ks) c → (∀ b o, s.heap.get? b = some o → h'.get? b = some o) → Q (.ref s.heap.objs.size) { s with heap := h', toks := tk }) :
    wpAny (model P w) A (call (.type "set") [.ref l]) Q E s := by
  have ⟨mc, mt, mro⟩ := F.called_set.mro; have made := F.called_set.made; have subs := F.called_set.sub
  refine wpAny_call (codeAny_of_tree ?_); show wpAny _ _ (callAny (.type "set") _) _ _ _
  refine wpAny_pure ⟨Code.quiet_builtin _ (by decide +kernel), codeAny_builtin F.entry_type_call ?_⟩; rw [Around.under_plain (weight_type_call_type "set" [.ref l] []) rfl]
  have f1 := F.called_set.notType; have f2 := F.called_set.canCreate; have f3 := F.typeCall_set_1 (.ref l)
  repeat (any_goals (first | assumption | wp_step))
  refine codeAny_mono (code_set_new_1 (.ref l) (E := E) (Q₁ := fun ob s1 => ∃ led : Bool, ob = .ref s.heap.objs.size ∧ s1 = { s with heap := s.heap.push (emptySet led) }) fun led => ⟨led, rfl, rfl⟩) fun r s1 hr => ?_
  rcases r with e | fl
  · exact hr
  rcases fl with _ | _ | _ | ob
  all_goals first | exact hr.elim | skip
  obtain ⟨led, rfl, rfl⟩ := hr
  have at0 : (s.heap.push (emptySet led)).get? s.heap.objs.size = some (emptySet led) := Heap.get?_push_size _ rfl
  have isS : Shared.TypeIs { s with heap := s.heap.push (emptySet led) } (.ref s.heap.objs.size) "set" := ⟨_, at0, rfl⟩
  have f4 := F.called_set.init.lookup; have f5 := F.called_set.init.bind (.ref s.heap.objs.size)
  repeat (any_goals (first | assumption | wp_step))
  refine codeAny_mono (codeAny_call_builtin (R := wants (fun r s2 => r = .none ∧ ∃ h' tk c, s2 = { s with heap := h', toks := tk } ∧ Cnt ks c ∧ h'.SetOf (mixKind P w) s.heap.objs.size (memK ks) c ∧ ∀ b o, s.heap.get? b = some o → h'.get? b = some o) E)
    F.called_set.init.plain F.entry_set_init (check_set_init_1 isS ?_)) fun r2 s2 hr2 => ?_
  · obtain ⟨ol, atl, cl, nl, dl⟩ := src; obtain ⟨oc, od, odt, osl⟩ := ol; simp only at cl dl; subst cl dl
    have ltl : l < s.heap.objs.size := Heap.lt_size atl
    have at1 : (s.heap.push (emptySet led)).get? l = some { cls := .type "list", dict := od, data := .seq items nl, slots := osl } := Heap.get?_push_of_some _ atl
    have g1 := F.sub_list_set; have g2 := F.sub_list_frozenset; have g3 : (Value.type "list" == Value.type "dict") = false := by decide
    have src1 : (s.heap.push (emptySet led)).IsList l items := ⟨_, at1, rfl, nl, rfl⟩
    have szp : (s.heap.push (emptySet led)).objs.size = s.heap.objs.size + 1 := Heap.size_push ..
    unfold Builtin.«set.__init__» noKeywords Builtin.Frozenset.updateFrom
    generalize keepIter : pyIter = PI
    wp_walk
    subst keepIter
    refine wpAny_pyIter_list src1 (wpAny_bind (wpAny_runValue ?_))
    have neI : l ≠ (s.heap.push (emptySet led)).objs.size := by rw [szp]; exact Nat.ne_of_lt (Nat.lt_succ_of_lt ltl)
    have notIn : s.heap.objs.size ∉ [(s.heap.push (emptySet led)).objs.size, l] := fun z => by
      rw [szp] at z
      rcases List.mem_cons.mp z with z | z
      · exact absurd z (Nat.ne_of_lt (Nat.lt_succ_self _))
      · exact absurd (List.mem_singleton.mp z).symm (Nat.ne_of_lt ltl)
    refine keys_loop ((Walks.list (show A.in1.in1.in1.handled = none by simp [hh]) _ l neI items).toS) s.heap.objs.size notIn ks len (by rw [len]; exact room) val (items.size - 0) 0 _ (by omega) (Nat.zero_le _)
      ⟨⟨_, Heap.get?_push_size _ rfl, rfl, rfl⟩, src1.push _⟩ ⟨0, .nil, ?_⟩ fun s' c mv hc hS => ?_
    · exact setOf_as (empty_setOf (led := led) (Heap.get?_push_of_some _ at0)) fun k => rfl
    · obtain ⟨h', g', d', tk', os'⟩ := s'
      obtain rfl : g' = s.gens := mv.gens
      obtain rfl : d' = s.drawn := mv.drawn
      obtain rfl : os' = s.os := mv.os
      refine wpAny_pure (wpAny_pure ⟨rfl, h', tk', c, rfl, hc, hS, fun b o z => ?_⟩)
      have lb := Heap.lt_size z
      refine mv.heap b o (fun hm => ?_) (Heap.get?_push_of_some _ (Heap.get?_push_of_some _ z))
      rcases List.mem_cons.mp hm with e | hm
      · exact absurd e (Nat.ne_of_lt lb)
      · have e := List.mem_singleton.mp hm
        rw [szp] at e
        exact absurd e (Nat.ne_of_lt (Nat.lt_succ_of_lt lb))
  · rcases r2 with e | fl2
    · exact hr2
    rcases fl2 with _ | _ | _ | r
    all_goals first | exact hr2.elim | skip
    obtain ⟨rfl, h', tk, c, rfl, hc, hS, hk⟩ := hr2
    repeat (any_goals (first | assumption | wp_step))
    exact fin _ _ _ hc hS hk
end
section
variable {X : Cx}
theorem keys_val : ∀ {ks : List Key} {us : List Value}, Vals (ks.map kV) us → ∀ (i : Nat) (v : Value), us[i]? = some v → ∃ k, ks[i]? = some k ∧ keyIs k v = true ∧ v.scannable = true
  | [], _, .nil, i, v, h => by simp at h
  | k :: ks, _, .cons r t, 0, v, h => by
    have e := Option.some.inj h
    subst e
    exact ⟨k, rfl, by cases k with | inl i => obtain ⟨t, rfl⟩ := r; exact keyIs_int i t | inr x => obtain ⟨t, rfl⟩ := r; exact keyIs_str x t, key_scan r⟩
  | k :: ks, _, .cons r t, i + 1, v, h => keys_val t i v h
/-- set(xs), xs a list or a tuple of ints and texts -/
def rSetK (K : PySem.W.Frag) (P : Program) (w : World) : List V → Hp → VK → Prop := fun xs H Q => ∃ (l : Addr) (ks : List Key), xs = [V.ref l] ∧ (SqL K H l (ks.map kV) ∨ SqT K H l (ks.map kV)) ∧ ks.length ≤ 4000 ∧
  ∀ p c, H p = none → Cnt ks c → Q (.ref p) (upd H p (SetK P w p (memK ks) c))
theorem cr_setK (hc : X.calm = true) : CallR X (.type "set") (rSetK X.K X.prog X.w) := by
  intro pins s σ H xs us Q I r h
  obtain ⟨l, ks, rfl, hq, few, q⟩ := h
  rw [Vals.ref1 r]
  have new := I.hok.fresh (Nat.le_refl s.heap.objs.size)
  have small : ks.length + 1 < scanBound := Nat.lt_of_le_of_lt (Nat.succ_le_succ few) (by decide)
  rcases hq with hq | hq
  · obtain ⟨its, rv, pl, hz⟩ := I.list hq
    refine set_of_list (I.ok.hd hc) pl.isList (by rw [List.size_toArray, ← rv.length, List.length_map]) small (fun i v hv => keys_val rv i v (by simpa using hv)) fun h' tk c hcn hS k => ?_
    exact ⟨.ref s.heap.objs.size, upd H s.heap.objs.size (SetK X.prog X.w s.heap.objs.size (memK ks) c), I.laid (t' := tk) k (Nat.le_refl _) (setK_new hS), rfl, q _ c new hcn⟩
  · obtain ⟨its, rv, tp, hz⟩ := I.tuple hq
    refine set_of_tuple (I.ok.hd hc) (show s.heap.IsTuple l its.toArray from tp) (by rw [List.size_toArray, ← rv.length, List.length_map]) small (fun i v hv => keys_val rv i v (by simpa using hv)) fun h' tk c hcn hS k => ?_
    exact ⟨.ref s.heap.objs.size, upd H s.heap.objs.size (SetK X.prog X.w s.heap.objs.size (memK ks) c), I.laid (t' := tk) k (Nat.le_refl _) (setK_new hS), rfl, q _ c new hcn⟩
/-- len of a set of keys -/
def rLenSK (P : Program) (w : World) : List V → Hp → VK → Prop := fun xs H Q => ∃ (a : Addr) (S : Key → Bool) (n : Nat), xs = [V.ref a] ∧ H a = some (SetK P w a S n) ∧ Q (.int n) H
theorem call_lenSK : CallR X (.builtin "len") (rLenSK X.prog X.w) := by
  intro pins s σ H xs us Q I r h
  obtain ⟨a, S, n, rfl, ha, q⟩ := h
  rw [Vals.ref1 r]
  obtain ⟨o, es, ep, t, ho, hex, hd, _, _, hb, hf, hn⟩ := setK_get I ha
  have fit : (es.size : Int) < 2 ^ 63 := by
    have h1 : es.size < 4096 := hb
    omega
  exact call_len_set ho hex hd hf fit ⟨.int n, H, I.tok _, ⟨_, by rw [hn]⟩, q⟩
end
/-! ### formulas as data -/
inductive Hd where
  | rel (n : Str) (as : List Str)
  | eq (x y : Str)
  | less (x y : Str)
  | no
  | con
  | dis
  | ex (vs : List Str)
  | al (vs : List Str)
  | lfp (n : Str) (vs as : List Str)
  | pfp (n : Str) (vs as : List Str)
  | tc (vs as : List Str)
  | gs (n : Str) (k : Nat)
inductive Fm where
  | mk (h : Hd) (ps : List Fm)
theorem Fm.ind {P : Fm → Prop} (step : ∀ h ps, (∀ p, p ∈ ps → P p) → P (.mk h ps)) : ∀ f, P f := fun f =>
  Fm.rec (motive_1 := P) (motive_2 := fun ps => ∀ p, p ∈ ps → P p) (fun h ps ih => step h ps ih) (fun _ hp => nomatch hp)
    (fun q qs h1 h2 p hp => (List.mem_cons.mp hp).elim (fun e => e ▸ h1) (h2 p)) f
mutual
def Fm.fold {α : Type} (g : Hd → List α → α) : Fm → α
  | .mk h ps => g h (Fm.folds g ps)
def Fm.folds {α : Type} (g : Hd → List α → α) : List Fm → List α
  | [] => []
  | p :: ps => Fm.fold g p :: Fm.folds g ps
end
theorem Fm.folds_map {α : Type} (g : Hd → List α → α) : ∀ ps : List Fm, Fm.folds g ps = ps.map (Fm.fold g)
  | [] => by rw [Fm.folds]; rfl
  | p :: ps => by rw [Fm.folds, Fm.folds_map g ps]; rfl
theorem Fm.fold_mk {α : Type} (g : Hd → List α → α) (h : Hd) (ps : List Fm) : Fm.fold g (.mk h ps) = g h (ps.map (Fm.fold g)) := by
  rw [Fm.fold, Fm.folds_map]
def Fm.hd : Fm → Hd
  | .mk h _ => h
def Fm.parts : Fm → List Fm
  | .mk _ ps => ps
/-! heads -/
def tS (as : List Str) : PyData := .tuple (as.map PyData.str)
inductive Kd where
  | rel
  | eq
  | less
  | no
  | con
  | dis
  | ex
  | al
  | lfp
  | pfp
  | tc
  | gs
  deriving DecidableEq
def Kd.word : Kd → Str
  | .rel => "rel"
  | .eq => "eq"
  | .less => "less"
  | .no => "not"
  | .con => "and"
  | .dis => "or"
  | .ex => "some"
  | .al => "all"
  | .lfp => "lfp"
  | .pfp => "pfp"
  | .tc => "tc"
  | .gs => "guess"
def Hd.kd : Hd → Kd
  | .rel _ _ => .rel
  | .eq _ _ => .eq
  | .less _ _ => .less
  | .no => .no
  | .con => .con
  | .dis => .dis
  | .ex _ => .ex
  | .al _ => .al
  | .lfp _ _ _ => .lfp
  | .pfp _ _ _ => .pfp
  | .tc _ _ => .tc
  | .gs _ _ => .gs
abbrev Hd.word (h : Hd) : Str := h.kd.word
/-- what stands behind the word -/
def Hd.rest (h : Hd) (ds : List PyData) : List PyData := match h with
  | .rel n as => [.str n, tS as]
  | .eq x y => [.str x, .str y]
  | .less x y => [.str x, .str y]
  | .no => ds
  | .con => [.tuple ds]
  | .dis => [.tuple ds]
  | .ex vs => tS vs :: ds
  | .al vs => tS vs :: ds
  | .lfp n vs as => .str n :: tS vs :: (ds ++ [tS as])
  | .pfp n vs as => .str n :: tS vs :: (ds ++ [tS as])
  | .tc vs as => tS vs :: (ds ++ [tS as])
  | .gs n k => .str n :: .int k :: ds
def Hd.data (h : Hd) (ds : List PyData) : PyData := .tuple (.str h.word :: h.rest ds)
def Fm.data : Fm → PyData := Fm.fold Hd.data
theorem Fm.data_mk (h : Hd) (ps : List Fm) : (Fm.mk h ps).data = h.data (ps.map Fm.data) := Fm.fold_mk _ h ps
/-- how many formulas stand directly in it (none: any number) -/
def Hd.one : Hd → Option Nat
  | .rel _ _ => some 0
  | .eq _ _ => some 0
  | .less _ _ => some 0
  | .con => none
  | .dis => none
  | _ => some 1
def Hd.own : Hd → List Str
  | .ex vs => vs
  | .al vs => vs
  | .lfp _ vs _ => vs
  | .pfp _ vs _ => vs
  | .tc vs _ => vs
  | _ => []
def Hd.args : Hd → List Str
  | .rel _ as => as
  | .eq x y => [x, y]
  | .less x y => [x, y]
  | .lfp _ _ as => as
  | .pfp _ _ as => as
  | .tc _ as => as
  | _ => []
def Hd.bound : Hd → Option (Str × Nat)
  | .lfp n vs _ => some (n, vs.length)
  | .pfp n vs _ => some (n, vs.length)
  | .gs n k => some (n, k)
  | _ => none
def Names (vs : List Str) : Prop := ∀ v, v ∈ vs → Nm v
def OwnOk (vs : List Str) : Prop := 1 ≤ vs.length ∧ vs.length ≤ 6 ∧ Names vs ∧ vs.Nodup
/-- a head with n formulas in it is well formed -/
def Hd.Ok (h : Hd) (n : Nat) : Prop := match h with
  | .rel m as => Nm m ∧ as.length ≤ 6 ∧ Names as ∧ n = 0
  | .eq x y => Nm x ∧ Nm y ∧ n = 0
  | .less x y => Nm x ∧ Nm y ∧ n = 0
  | .no => n = 1
  | .con => n ≤ 40
  | .dis => n ≤ 40
  | .ex vs => OwnOk vs ∧ n = 1
  | .al vs => OwnOk vs ∧ n = 1
  | .lfp m vs as => Nm m ∧ OwnOk vs ∧ as.length = vs.length ∧ Names as ∧ n = 1
  | .pfp m vs as => Nm m ∧ OwnOk vs ∧ as.length = vs.length ∧ Names as ∧ n = 1
  | .tc vs as => (vs.length = 2 ∨ vs.length = 4 ∨ vs.length = 6 ∨ vs.length = 8) ∧ Names vs ∧ vs.Nodup ∧ as.length = vs.length ∧ Names as ∧ n = 1
  | .gs m k => Nm m ∧ k ≤ 3 ∧ n = 1
/-! measures -/
def sumN (xs : List Nat) : Nat := xs.foldr (· + ·) 0
def maxN (xs : List Nat) : Nat := xs.foldr max 0
def Fm.cnt : Fm → Nat := Fm.fold fun _ xs => 1 + sumN xs
def Fm.dep : Fm → Nat := Fm.fold fun _ xs => 1 + maxN xs
theorem Fm.cnt_mk (h : Hd) (ps : List Fm) : (Fm.mk h ps).cnt = 1 + sumN (ps.map Fm.cnt) := Fm.fold_mk _ h ps
theorem Fm.dep_mk (h : Hd) (ps : List Fm) : (Fm.mk h ps).dep = 1 + maxN (ps.map Fm.dep) := Fm.fold_mk _ h ps
theorem le_maxN : ∀ {xs : List Nat} {x : Nat}, x ∈ xs → x ≤ maxN xs
  | [], _, h => nomatch h
  | y :: ys, x, h => by
    show x ≤ max y (maxN ys)
    rcases List.mem_cons.mp h with e | h
    · rw [e]; exact Nat.le_max_left _ _
    · exact Nat.le_trans (le_maxN h) (Nat.le_max_right _ _)
theorem le_sumN : ∀ {xs : List Nat} {x : Nat}, x ∈ xs → x ≤ sumN xs
  | [], _, h => nomatch h
  | y :: ys, x, h => by
    show x ≤ y + sumN ys
    rcases List.mem_cons.mp h with e | h
    · omega
    · have := le_sumN h; omega
theorem dep_part {h : Hd} {ps : List Fm} {p : Fm} (hp : p ∈ ps) : p.dep < (Fm.mk h ps).dep := by
  rw [Fm.dep_mk]
  have := le_maxN (List.mem_map_of_mem (f := Fm.dep) hp)
  omega
theorem dep_pos (f : Fm) : 1 ≤ f.dep := by
  obtain ⟨h, ps⟩ := f
  rw [Fm.dep_mk]
  omega
/-- every head in it is well formed -/
inductive Fm.Ok : Fm → Prop
  | mk {h : Hd} {ps : List Fm} (a : h.Ok ps.length) (b : ∀ p, p ∈ ps → p.Ok) : (Fm.mk h ps).Ok
theorem Fm.Ok.hd_ {h : Hd} {ps : List Fm} (k : (Fm.mk h ps).Ok) : h.Ok ps.length := by cases k; assumption
theorem Fm.Ok.part {h : Hd} {ps : List Fm} (k : (Fm.mk h ps).Ok) {p : Fm} (hp : p ∈ ps) : p.Ok := by cases k with | mk a b => exact b p hp
theorem get_map {α β : Type} {f : α → β} {l : List α} {i : Nat} {y : β} (h : (l.map f)[i]? = some y) : ∃ x, l[i]? = some x ∧ y = f x := by
  rw [List.getElem?_map] at h
  cases e : l[i]? with
  | none => rw [e] at h; cases h
  | some x => rw [e] at h; exact ⟨x, rfl, (Option.some.inj h).symm⟩
/-! data in the heap -/
section
variable {K : PySem.W.Frag} {H H' : Hp}
theorem Same.sqt {a : Addr} {xs : List V} (e : Same H H') (h : SqT K H a xs) : SqT K H' a xs := by
  rcases h with (h | ⟨o, h⟩) | h
  · exact .inl (.inl (e _ _ h))
  · exact .inl (.inr ⟨o, e _ _ h⟩)
  · exact .inr h
mutual
theorem Dp.same (e : Same H H') : ∀ {v : V} {d : PyData}, Dp K H v d → Dp K H' v d
  | _, _, .non => .non
  | _, _, .bl b => .bl b
  | _, _, .int i => .int i
  | _, _, .str x => .str x
  | _, _, .lst h t => .lst (e.seq h) (DpAll.same e t)
  | _, _, .tup h t => .tup (Same.sqt e h) (DpAll.same e t)
theorem DpAll.same (e : Same H H') : ∀ {vs : List V} {ds : List PyData}, DpAll K H vs ds → DpAll K H' vs ds
  | _, _, .nil => .nil
  | _, _, .cons h t => .cons (Dp.same e h) (DpAll.same e t)
end
theorem Dp.tup_inv {v : V} {ds : List PyData} (h : Dp K H v (.tuple ds)) : ∃ a xs, v = .ref a ∧ SqT K H a xs ∧ DpAll K H xs ds := by
  cases h with | tup a b => exact ⟨_, _, rfl, a, b⟩
theorem Dp.lst_inv {v : V} {ds : List PyData} (h : Dp K H v (.list ds)) : ∃ a xs, v = .ref a ∧ SqL K H a xs ∧ DpAll K H xs ds := by
  cases h with | lst a b => exact ⟨_, _, rfl, a, b⟩
theorem Dp.str_inv {v : V} {z : Str} (h : Dp K H v (.str z)) : v = .str z := by cases h; rfl
theorem Dp.int_inv {v : V} {i : Int} (h : Dp K H v (.int i)) : v = .int i := by cases h; rfl
theorem Dp.bl_inv {v : V} {i : Bool} (h : Dp K H v (.bool i)) : v = .bl i := by cases h; rfl
theorem DpAll.cons_inv {vs : List V} {d : PyData} {ds : List PyData} (h : DpAll K H vs (d :: ds)) : ∃ v ws, vs = v :: ws ∧ Dp K H v d ∧ DpAll K H ws ds := by
  cases h with | cons a b => exact ⟨_, _, rfl, a, b⟩
theorem DpAll.nil_inv {vs : List V} (h : DpAll K H vs []) : vs = [] := by cases h; rfl
theorem DpAll.length : ∀ {vs : List V} {ds : List PyData}, DpAll K H vs ds → vs.length = ds.length
  | _, _, .nil => rfl
  | _, _, .cons _ t => congrArg Nat.succ (DpAll.length t)
theorem DpAll.get : ∀ {vs : List V} {ds : List PyData} {i : Nat} {d : PyData}, DpAll K H vs ds → ds[i]? = some d → ∃ v, vs[i]? = some v ∧ Dp K H v d
  | _, _, i, d, .nil, h => by simp at h
  | _, _, 0, d, .cons a t, h => by
    have e := Option.some.inj h
    subst e
    exact ⟨_, rfl, a⟩
  | _, _, i + 1, d, .cons a t, h => DpAll.get (i := i) t h
theorem DpAll.get' : ∀ {vs : List V} {ds : List PyData} {i : Nat} {v : V}, DpAll K H vs ds → vs[i]? = some v → ∃ d, ds[i]? = some d ∧ Dp K H v d
  | _, _, i, d, .nil, h => by simp at h
  | _, _, 0, d, .cons a t, h => by
    have e := Option.some.inj h
    subst e
    exact ⟨_, rfl, a⟩
  | _, _, i + 1, d, .cons a t, h => DpAll.get' (i := i) t h
theorem DpAll.append : ∀ {vs ws : List V} {ds es : List PyData}, DpAll K H vs ds → DpAll K H ws es → DpAll K H (vs ++ ws) (ds ++ es)
  | _, _, _, _, .nil, s => s
  | _, _, _, _, .cons a t, s => .cons a (DpAll.append t s)
theorem DpAll.strs : ∀ {vs : List V} {as : List Str}, DpAll K H vs (as.map PyData.str) → vs = as.map V.str
  | _, [], h => by rw [DpAll.nil_inv h]; rfl
  | _, a :: as, h => by
    obtain ⟨v, ws, rfl, h1, h2⟩ := DpAll.cons_inv h
    rw [Dp.str_inv h1, DpAll.strs h2]; rfl
theorem DpAll.of_strs : ∀ (as : List Str), DpAll K H (as.map V.str) (as.map PyData.str)
  | [] => .nil
  | a :: as => .cons (.str a) (DpAll.of_strs as)
theorem tS_inv {v : V} {as : List Str} (h : Dp K H v (tS as)) : ∃ a, v = .ref a ∧ SqT K H a (as.map V.str) := by
  obtain ⟨a, xs, rfl, h1, h2⟩ := Dp.tup_inv h
  rw [DpAll.strs h2] at h1
  exact ⟨a, rfl, h1⟩
theorem tS_of {a : Addr} {as : List Str} (h : SqT K H a (as.map V.str)) : Dp K H (.ref a) (tS as) := .tup h (DpAll.of_strs as)
/-- a formula's value: a tuple that begins with its word -/
theorem hd_inv {v : V} {h : Hd} {ds : List PyData} (q : Dp K H v (h.data ds)) : ∃ a xs, v = .ref a ∧ SqT K H a (.str h.word :: xs) ∧ DpAll K H xs (h.rest ds) := by
  obtain ⟨a, ys, rfl, h1, h2⟩ := Dp.tup_inv q
  obtain ⟨w, xs, rfl, h3, h4⟩ := DpAll.cons_inv h2
  rw [Dp.str_inv h3] at h1
  exact ⟨a, xs, rfl, h1, h4⟩
end
/-! ### the heap without the draws -/
def wo (d : Addr) (H : Hp) : Hp := fun b => if b = d then none else H b
theorem wo_ne {d b : Addr} {H : Hp} (h : b ≠ d) : wo d H b = H b := if_neg h
theorem wo_sub {d : Addr} {H : Hp} : Same (wo d H) H := fun b o e => by
  by_cases h : b = d
  · rw [show wo d H b = none from if_pos h] at e; cases e
  · rw [wo_ne h] at e; exact e
theorem wo_kp {d : Addr} {H H' : Hp} (k : Kp d H H') : Same (wo d H) (wo d H') := fun b o e => by
  by_cases h : b = d
  · rw [show wo d H b = none from if_pos h] at e; cases e
  · rw [wo_ne h] at e ⊢; exact k b o e h
theorem wo_same {d : Addr} {H H' : Hp} (k : Same H H') : Same (wo d H) (wo d H') := wo_kp (.of k)
theorem wo_at {d b : Addr} {H : Hp} {o : HO} (h : b ≠ d) (e : H b = some o) : wo d H b = some o := by rw [wo_ne h]; exact e
section
variable {K : PySem.W.Frag} {H : Hp}
theorem strsL {v : V} {as : List Str} (h : Dp K H v (.list (as.map PyData.str))) : ∃ a, v = .ref a ∧ SqL K H a (as.map V.str) := by
  obtain ⟨a, xs, rfl, h1, h2⟩ := Dp.lst_inv h
  rw [DpAll.strs h2] at h1
  exact ⟨a, rfl, h1⟩
theorem strsL_of {a : Addr} {as : List Str} (h : SqL K H a (as.map V.str)) : Dp K H (.ref a) (.list (as.map PyData.str)) := .lst h (DpAll.of_strs as)
end
theorem eraseIdx_map {α β : Type} (f : α → β) : ∀ (l : List α) (i : Nat), (l.map f).eraseIdx i = (l.eraseIdx i).map f
  | [], i => by simp
  | a :: r, 0 => by simp
  | a :: r, i + 1 => by simp [eraseIdx_map f r i]
theorem eraseIdx_perm {α : Type} : ∀ {l : List α} {i : Nat} {x : α}, l[i]? = some x → l.Perm (x :: l.eraseIdx i)
  | [], _, _, h => by simp at h
  | a :: r, 0, x, h => by have e := Option.some.inj h; rw [← e]; exact List.Perm.refl _
  | a :: r, i + 1, x, h => ((eraseIdx_perm (l := r) (i := i) h).cons a).trans (List.Perm.swap _ _ _)
theorem wo_none {d p : Addr} {H : Hp} (h : H p = none) : wo d H p = none := by
  unfold wo
  split
  · rfl
  · exact h
theorem wo_upd {d p : Addr} {H : Hp} {o : HO} (n : p ≠ d) : wo d (upd H p o) p = some o := by rw [wo_ne n, upd_same]
/-- a new object leaves all else -/
theorem kp_new {d p : Addr} {H H' : Hp} {o : HO} (k : Kp d H H') (np : H' p = none) : Kp d H (upd H' p o) := k.trans (.of (same_upd np))
/-- an object of one's own is changed: what stood before it was made stays -/
theorem kp_own {d p : Addr} {H H' : Hp} {o : HO} (k : Kp d H H') (np : H p = none) : Kp d H (upd H' p o) := fun b x e n => by
  rw [upd_ne (ne_of_none e np)]
  exact k b x e n
theorem bounds_ok {i : Int} {n : Nat} (h0 : 0 ≤ i) (h1 : i < n) (hn : n ≤ 1000) : -(2 ^ 63) ≤ i ∧ i < 2 ^ 63 := by omega
def spSomeOf (K : PySem.W.Frag) : Sp := fun vs H Q _ => ∃ (d l : Addr) (pv : V) (pool : List Str) (m : Nat), vs = [.ref d, pv, .int (m : Nat)] ∧ DrA H d l ∧ Dp K (wo d H) pv (.list (pool.map PyData.str)) ∧ m ≤ pool.length ∧ pool.length ≤ 20 ∧
  ∀ (H' : Hp) (r : Addr) (ch : List Str), DrA H' d l → Kp d H H' → Dp K (wo d H') (.ref r) (.list (ch.map PyData.str)) → ch.length = m → (∀ x, x ∈ ch → x ∈ pool) → (pool.Nodup → ch.Nodup) → Q (.ref r) H'
section
variable {P : Program} {w : World} {K : PySem.W.Frag} {mg : Str → Option Value} {base : Heap}
theorem sc_some_of : FnScope ["draws", "pool", "many", "left", "chosen", "k"] ["draws", "pool", "many"] (defScope (top 72)) := ⟨rfl, rfl, rfl, by decide +kernel, rfl, by decide +kernel, by decide +kernel⟩
theorem has_some_of (D : Def K mg "_law_some_of" ["draws", "pool", "many"] (top 72)) (T : Txt mg) (C1 : Has P w K mg base 2 "_law_draw" ["draws"] spDraw) : Has P w K mg base 3 "_law_some_of" ["draws", "pool", "many"] (spSomeOf K) := D.has fun f fd F => by
  obtain ⟨f1, fd1, G_law_draw, g_law_draw, k_law_draw, b_law_draw⟩ := C1
  refine F.ok sc_some_of (fun vs H Q E h => ?_) (fun cdv A outer s H vs Q E hr h => ?_)
  · obtain ⟨d, l, vp, pool, m, rfl, _⟩ := h; rfl
  · obtain ⟨d, l, vp, pool, m, rfl, dr, dp, hm, h20, q⟩ := h
    have R_law_draw : Room 2 _ := hr.mono (by decide)
    refine ⟨_, PSs.nox (pss_cons (ps_set (i := 3) sc_some_of.nd rfl (Or.inl rfl) (pe_callTy call_list_of (by rfl) T.n_list (by decide +kernel) (pa_cons (pv 1) pa_nil))) (pss_cons (ps_set (i := 4) sc_some_of.nd rfl (Or.inl rfl) (pe_lst pa_nil)) (pss_cons (ps_for PassesOwn.never rfl (pi_range1 (by rfl) T.n_range (pa_cons (pv 2) pa_nil)) (pg_name (i := 5) sc_some_of.nd rfl (Or.inl rfl)) (pss_one (ps_expr (pe_bm PySem.F.plainAttrs_list PySem.F.slot_list_append PySem.F.type_list_append mt_append (pv 4) (pa_cons (pe_bm PySem.F.plainAttrs_list PySem.F.slot_list_pop PySem.F.type_list_pop mt_popAt (pv 3) (pa_cons (pe_op op_mod (pe_call G_law_draw R_law_draw (by rfl) g_law_draw k_law_draw b_law_draw .nil pass0 (pa_cons (pv 0) pa_nil)) (pe_callB call_len_seq (by rfl) T.n_len PySem.boot_len (pa_cons (pv 3) pa_nil))) pa_nil)) pa_nil))))) (pss_one (ps_ret (pv 4)))))), ?_⟩
    obtain ⟨b, rfl, hb⟩ := strsL dp
    have hb' : SqL K H b (pool.map V.str) := wo_sub.seq hb
    refine ⟨_, rfl, b, _, rfl, .inl hb', fun e ne => ?_⟩
    obtain ⟨ned, nel⟩ := dr.ne ne
    have dr1 : DrA (upd H e (.lst (pool.map V.str))) d l := dr.same (same_upd ne)
    have k1 : Kp d H (upd H e (.lst (pool.map V.str))) := .of (same_upd ne)
    have he : (upd H e (.lst (pool.map V.str))) e = some (.lst (pool.map V.str)) := upd_same
    revert dr1 k1 he
    generalize upd H e (.lst (pool.map V.str)) = H1
    intro dr1 k1 he
    refine ⟨Nat.zero_le _, fun c nc => ?_⟩
    obtain ⟨ncd, ncl⟩ := dr1.ne nc
    have nce : e ≠ c := ne_of_none he nc
    have nc0 : H c = none := k1.free ncd nc
    refine ⟨_, rfl, m, rfl, by omega, by omega, for_range (n := m) (fun i σ H2 => ∃ (y5 : Option V) (rem ch : List Str), σ = [some (.ref d), some (.ref b), some (.int (m : Nat)), some (.ref e), some (.ref c), y5] ∧ DrA H2 d l ∧ Kp d H H2 ∧
      H2 e = some (.lst (rem.map V.str)) ∧ H2 c = some (.lst (ch.map V.str)) ∧ ch.length = i ∧ rem.length + i = pool.length ∧ pool.Perm (ch ++ rem))
      ⟨none, pool, [], rfl, dr1.same (same_upd nc), kp_new k1 nc, by rw [upd_ne nce]; exact he, upd_same, rfl, rfl, List.Perm.refl _⟩ ?_ ?_⟩
    · rintro i σ H2 hi ⟨y5, rem, ch, rfl, dr2, k2, he2, hc2, hl, hrl, pm⟩
      refine ⟨_, rfl, .inl ⟨rfl, _, SqL.of hc2⟩, ?_⟩
      refine ⟨_, rfl, .inl ⟨rfl, _, SqL.of he2⟩, ?_⟩
      refine ⟨_, rfl, d, l, rfl, dr2, fun z H3 z0 z1 dr3 k3 => ?_⟩
      have he3 := k3 _ _ he2 ned
      have hc3 := k3 _ _ hc2 ncd
      have rl : 0 < rem.length := by omega
      have i0 : 0 ≤ z % (rem.length : Int) := Int.emod_nonneg _ (by omega)
      have i1 : z % (rem.length : Int) < (rem.length : Int) := Int.emod_lt_of_pos _ (by omega)
      have il : (z % (rem.length : Int)).toNat < rem.length := by omega
      obtain ⟨x, hx⟩ : ∃ x, rem[(z % (rem.length : Int)).toNat]? = some x := ⟨_, List.getElem?_eq_getElem il⟩
      refine ⟨_, rfl, e, _, rfl, .inl (SqL.of he3), _, _, rfl, rfl, (by show (0 : Int) < (((rem.map V.str).length : Nat) : Int); rw [List.length_map]; omega), ?_⟩
      rw [List.length_map]
      refine ⟨e, _, _, (z % (rem.length : Int)).toNat, .str x, rfl, rfl, he3, by omega, by omega, by rw [List.length_map]; exact seqIndex_of i0 i1, by rw [List.getElem?_map, hx]; rfl, ?_⟩
      have hc4 : (upd H3 e (.lst ((rem.map V.str).eraseIdx (z % (rem.length : Int)).toNat))) c = some (.lst (ch.map V.str)) := by rw [upd_ne nce.symm]; exact hc3
      refine ⟨c, _, _, rfl, rfl, hc4, ?_, ?_⟩
      · rw [List.length_map]
        exact small1000 (by omega)
      · refine ⟨_, rem.eraseIdx (z % (rem.length : Int)).toNat, ch ++ [x], rfl, ?_, ?_, ?_, ?_, ?_, ?_, ?_⟩
        · exact (dr3.kp Kp.upd ⟨ned, nel⟩).kp Kp.upd ⟨ncd, ncl⟩
        · exact kp_own (kp_own (k2.trans k3) ne) nc0
        · rw [upd_ne nce, upd_same, eraseIdx_map]
        · rw [upd_same, List.map_append]
          rfl
        · rw [List.length_append, hl]; rfl
        · rw [List.length_eraseIdx_of_lt il]; omega
        · refine pm.trans ?_
          have p2 := eraseIdx_perm hx
          have p3 : (ch ++ rem).Perm (ch ++ (x :: rem.eraseIdx (z % (rem.length : Int)).toNat)) := List.Perm.append_left ch p2
          rw [List.append_assoc]
          exact p3
    · rintro σ H2 ⟨y5, rem, ch, rfl, dr2, k2, he2, hc2, hl, hrl, pm⟩
      refine ⟨_, rfl, q H2 c ch dr2 k2 (strsL_of (SqL.of (wo_at ncd hc2))) hl (fun x hx => pm.mem_iff.mpr (List.mem_append_left _ hx)) fun nd => ?_⟩
      exact (List.nodup_append.mp (pm.nodup_iff.mp nd)).1
end
/-! ### rules within a comprehension -/
section
variable {X : Cx} {K : PySem.W.Frag}
theorem ix_listK (h : X.K = K) : IxR X (rIxL K) := h ▸ ix_list
theorem ix_tupK (h : X.K = K) : IxR X (rIxT K) := h ▸ ix_tup
theorem sl_listK (h : X.K = K) : SlR X (rSlL K) := h ▸ sl_list
theorem op_in_seqK (h : X.K = K) : OpR X (compareOp .In) (rIn K false) := h ▸ op_in_seq
theorem op_notIn_seqK (h : X.K = K) : OpR X (compareOp .NotIn) (rIn K true) := h ▸ op_notIn_seq
theorem call_len_seqK (h : X.K = K) : CallR X (.builtin "len") (fun xs H Q => ∃ p ys, xs = [.ref p] ∧ (SqL K H p ys ∨ SqT K H p ys) ∧ Q (.int ys.length) H) := h ▸ call_len_seq
end
/-! ### data that the draws are no part of -/
def int1 : List PyData → Bool
  | _ :: .int _ :: _ => false
  | _ => true
mutual
def good : PyData → Bool
  | .list ts => goods ts && int1 ts
  | .tuple ts => goods ts
  | _ => true
def goods : List PyData → Bool
  | [] => true
  | t :: ts => good t && goods ts
end
theorem goods_cons {t : PyData} {ts : List PyData} : goods (t :: ts) = (good t && goods ts) := by rw [goods]
theorem goods_append : ∀ (ts us : List PyData), goods (ts ++ us) = (goods ts && goods us)
  | [], us => by rw [goods]; rfl
  | t :: ts, us => by rw [List.cons_append, goods_cons, goods_cons, goods_append ts us, Bool.and_assoc]
theorem goods_all : ∀ {ts : List PyData}, (∀ t, t ∈ ts → good t = true) → goods ts = true
  | [], _ => by rw [goods]
  | t :: ts, h => by
    rw [goods_cons, h t (List.mem_cons_self ..), goods_all fun u hu => h u (List.mem_cons_of_mem _ hu)]; rfl
theorem good_str {z : Str} : good (.str z) = true := by rw [good]; all_goals (intros; contradiction)
theorem good_int {z : Int} : good (.int z) = true := by rw [good]; all_goals (intros; contradiction)
theorem good_tup {ts : List PyData} (h : goods ts = true) : good (.tuple ts) = true := by rw [good]; exact h
theorem good_lst {ts : List PyData} (h : goods ts = true) (n : ∀ t, t ∈ ts → ∀ i : Int, t ≠ .int i) : good (.list ts) = true := by
  rw [good, h]
  cases ts with
  | nil => rfl
  | cons a r =>
    cases r with
    | nil => rfl
    | cons b r =>
      cases b with
      | int i => exact absurd rfl (n (.int i) (by simp) i)
      | _ => rfl
theorem goods_strs (as : List Str) : goods (as.map PyData.str) = true := goods_all fun t ht => by
  obtain ⟨z, _, rfl⟩ := List.mem_map.mp ht
  exact good_str
theorem good_tS (as : List Str) : good (tS as) = true := good_tup (goods_strs as)
theorem good_strl (as : List Str) : good (.list (as.map PyData.str)) = true := good_lst (goods_strs as) fun t ht i e => by
  obtain ⟨z, _, rfl⟩ := List.mem_map.mp ht
  cases e
theorem good_hd {h : Hd} {ds : List PyData} (g : goods ds = true) : good (h.data ds) = true := by
  refine good_tup ?_
  rw [goods_cons, good_str]
  have n0 : goods [] = true := by rw [goods]
  cases h <;> simp only [Hd.rest, goods_cons, goods_append, good_str, good_int, good_tS, g, n0, good_tup g, Bool.and_self, Bool.true_and]
theorem Fm.good : ∀ f : Fm, SaysoV.good f.data = true := Fm.ind fun h ps ih => by
  rw [Fm.data_mk]
  refine good_hd (goods_all fun t ht => ?_)
  obtain ⟨p, hp, rfl⟩ := List.mem_map.mp ht
  exact ih p hp
section
variable {K : PySem.W.Frag} {H H' : Hp} {d l : Addr} {n : Int}
theorem SqT.wo {a : Addr} {xs ys : List V} (h1 : H d = some (.lst ys)) (h : SqT K H a xs) : SqT K (wo d H) a xs := by
  have ne : ∀ {o : HO}, H a = some o → (∀ zs, o ≠ .lst zs) → a ≠ d := fun e k z => by
    rw [z, h1] at e
    exact k ys (Option.some.inj e).symm
  rcases h with (h | ⟨o, h⟩) | h
  · exact .inl (.inl (by rw [wo_ne (ne h fun zs z => nomatch z)]; exact h))
  · exact .inl (.inr ⟨o, by rw [wo_ne (ne h fun zs z => nomatch z)]; exact h⟩)
  · exact .inr h
theorem SqL.wo {a : Addr} {xs ys : List V} (h1 : H d = some (.lst ys)) (n : xs ≠ ys) (h : SqL K H a xs) : SqL K (wo d H) a xs := by
  rcases h with (h | ⟨o, h⟩) | h
  · refine .inl (.inl ?_)
    by_cases e : a = d
    · rw [e, h1] at h
      exact absurd (HO.lst.inj (Option.some.inj h)).symm n
    · rw [wo_ne e]; exact h
  · refine .inl (.inr ⟨o, ?_⟩)
    by_cases e : a = d
    · rw [e, h1] at h
      cases h
    · rw [wo_ne e]; exact h
  · exact .inr h
theorem no_ints {l : Addr} {n : Int} {ds : List PyData} (t : DpAll K H [.ref l, .int n] ds) : good (.list ds) = false := by
  cases t with
  | cons a t =>
    cases t with
    | cons b t =>
      cases t
      cases b
      rw [good]
      exact Bool.and_false _
mutual
theorem Dp.woG (h1 : H d = some (.lst [.ref l, .int n])) : ∀ {v : V} {t : PyData}, Dp K H v t → good t = true → Dp K (wo d H) v t
  | _, _, .non, _ => .non
  | _, _, .bl b, _ => .bl b
  | _, _, .int i, _ => .int i
  | _, _, .str x, _ => .str x
  | _, _, .lst h t, g => .lst (SqL.wo h1 (fun z => by rw [z] at t; rw [no_ints t] at g; cases g) h) (DpAll.woG h1 t (by rw [good] at g; exact (Bool.and_eq_true_iff.mp g).1))
  | _, _, .tup h t, g => .tup (SqT.wo h1 h) (DpAll.woG h1 t (by rw [good] at g; exact g))
theorem DpAll.woG (h1 : H d = some (.lst [.ref l, .int n])) : ∀ {vs : List V} {ts : List PyData}, DpAll K H vs ts → goods ts = true → DpAll K (wo d H) vs ts
  | _, _, .nil, _ => .nil
  | _, _, .cons h t, g => .cons (Dp.woG h1 h (by rw [goods_cons] at g; exact (Bool.and_eq_true_iff.mp g).1)) (DpAll.woG h1 t (by rw [goods_cons] at g; exact (Bool.and_eq_true_iff.mp g).2))
end
theorem Dp.wod {v : V} {t : PyData} (r : DrA H d l) (h : Dp K H v t) (g : good t = true) : Dp K (SaysoV.wo d H) v t := by
  obtain ⟨n, ms, h1, _⟩ := r
  exact Dp.woG h1 h g
/-- a draw leaves it -/
theorem Dp.kpA {v : V} {t : PyData} (h : Dp K H v t) (r : DrA H d l) (g : good t = true) (k : Kp d H H') : Dp K H' v t := Dp.same wo_sub (Dp.same (wo_kp k) (Dp.wod r h g))
theorem DpAll.kpA {vs : List V} {ts : List PyData} (h : DpAll K H vs ts) (r : DrA H d l) (g : goods ts = true) (k : Kp d H H') : DpAll K H' vs ts := by
  obtain ⟨n, ms, h1, _⟩ := r
  exact DpAll.same wo_sub (DpAll.same (wo_kp k) (DpAll.woG h1 h g))
end
/-! data without lists: whatever becomes of lists, it stays -/
mutual
def noL : PyData → Bool
  | .list _ => false
  | .tuple ts => noLs ts
  | _ => true
def noLs : List PyData → Bool
  | [] => true
  | t :: ts => noL t && noLs ts
end
theorem noLs_cons {t : PyData} {ts : List PyData} : noLs (t :: ts) = (noL t && noLs ts) := by rw [noLs]
theorem noLs_append : ∀ (ts us : List PyData), noLs (ts ++ us) = (noLs ts && noLs us)
  | [], us => by rw [noLs]; rfl
  | t :: ts, us => by rw [List.cons_append, noLs_cons, noLs_cons, noLs_append ts us, Bool.and_assoc]
theorem noLs_all : ∀ {ts : List PyData}, (∀ t, t ∈ ts → noL t = true) → noLs ts = true
  | [], _ => by rw [noLs]
  | t :: ts, h => by
    rw [noLs_cons, h t (List.mem_cons_self ..), noLs_all fun u hu => h u (List.mem_cons_of_mem _ hu)]; rfl
theorem noL_str {z : Str} : noL (.str z) = true := by rw [noL]; all_goals (intros; contradiction)
theorem noL_int {z : Int} : noL (.int z) = true := by rw [noL]; all_goals (intros; contradiction)
theorem noL_tup {ts : List PyData} (h : noLs ts = true) : noL (.tuple ts) = true := by rw [noL]; exact h
theorem noLs_strs (as : List Str) : noLs (as.map PyData.str) = true := noLs_all fun t ht => by
  obtain ⟨z, _, rfl⟩ := List.mem_map.mp ht
  exact noL_str
theorem noL_tS (as : List Str) : noL (tS as) = true := noL_tup (noLs_strs as)
theorem noL_hd {h : Hd} {ds : List PyData} (g : noLs ds = true) : noL (h.data ds) = true := by
  refine noL_tup ?_
  rw [noLs_cons, noL_str]
  have n0 : noLs [] = true := by rw [noLs]
  cases h <;> simp only [Hd.rest, noLs_cons, noLs_append, noL_str, noL_int, noL_tS, g, n0, noL_tup g, Bool.and_self, Bool.true_and]
theorem Fm.noL : ∀ f : Fm, SaysoV.noL f.data = true := Fm.ind fun h ps ih => by
  rw [Fm.data_mk]
  refine noL_hd (noLs_all fun t ht => ?_)
  obtain ⟨p, hp, rfl⟩ := List.mem_map.mp ht
  exact ih p hp
theorem fms_noL (ps : List Fm) : noLs (ps.map Fm.data) = true := noLs_all fun t ht => by
  obtain ⟨p, _, rfl⟩ := List.mem_map.mp ht
  exact p.noL
/-- all but lists stays -/
def Kl (H H' : Hp) : Prop := ∀ b o, H b = some o → (∀ ys, o ≠ .lst ys) → H' b = some o
theorem Kl.refl (H : Hp) : Kl H H := fun _ _ e _ => e
theorem Kl.of {H H' : Hp} (s : Same H H') : Kl H H' := fun b o e _ => s b o e
theorem Kl.trans {H H1 H2 : Hp} (a : Kl H H1) (b : Kl H1 H2) : Kl H H2 := fun c o e n => b c o (a c o e n) n
theorem Kl.kp {H H' : Hp} {d : Addr} {ys : List V} (k : Kp d H H') (h : H d = some (.lst ys)) : Kl H H' := fun b o e n => k b o e fun z => by
  rw [z, h] at e
  exact n ys (Option.some.inj e).symm
theorem Kl.dr {H H' : Hp} {d l : Addr} (k : Kp d H H') (r : DrA H d l) : Kl H H' := by
  obtain ⟨n, ms, h1, _⟩ := r
  exact .kp k h1
theorem Kl.upd {H : Hp} {p : Addr} {o : HO} {ys : List V} (h : H p = some (.lst ys)) : Kl H (L2.upd H p o) := fun b x e n => by
  rw [upd_ne fun z => by rw [z, h] at e; exact n ys (Option.some.inj e).symm]
  exact e
theorem Kl.new {H : Hp} {p : Addr} {o : HO} (h : H p = none) : Kl H (L2.upd H p o) := .of (same_upd h)
section
variable {K : PySem.W.Frag} {H H' : Hp}
theorem SqT.kl {a : Addr} {xs : List V} (k : Kl H H') (h : SqT K H a xs) : SqT K H' a xs := by
  rcases h with (h | ⟨o, h⟩) | h
  · exact .inl (.inl (k _ _ h fun zs z => nomatch z))
  · exact .inl (.inr ⟨o, k _ _ h fun zs z => nomatch z⟩)
  · exact .inr h
mutual
theorem Dp.kl (k : Kl H H') : ∀ {v : V} {t : PyData}, Dp K H v t → noL t = true → Dp K H' v t
  | _, _, .non, _ => .non
  | _, _, .bl b, _ => .bl b
  | _, _, .int i, _ => .int i
  | _, _, .str x, _ => .str x
  | _, _, .lst h t, g => by rw [noL] at g; cases g
  | _, _, .tup h t, g => .tup (SqT.kl k h) (DpAll.kl k t (by rw [noL] at g; exact g))
theorem DpAll.kl (k : Kl H H') : ∀ {vs : List V} {ts : List PyData}, DpAll K H vs ts → noLs ts = true → DpAll K H' vs ts
  | _, _, .nil, _ => .nil
  | _, _, .cons h t, g => .cons (Dp.kl k h (by rw [noLs_cons] at g; exact (Bool.and_eq_true_iff.mp g).1)) (DpAll.kl k t (by rw [noLs_cons] at g; exact (Bool.and_eq_true_iff.mp g).2))
end
end
/-! ### the lists of names: name, arity, mode -/
abbrev NE := Str × Nat × Nat
def nD (p : NE) : PyData := .tuple [.str p.1, .int p.2.1, .int p.2.2]
def nsD (ns : List NE) : PyData := .list (ns.map nD)
theorem good_nD (p : NE) : good (nD p) = true := good_tup (by rw [goods_cons, goods_cons, goods_cons, good_str, good_int, good_int, goods]; rfl)
theorem noL_nD (p : NE) : noL (nD p) = true := noL_tup (by rw [noLs_cons, noLs_cons, noLs_cons, noL_str, noL_int, noL_int, noLs]; rfl)
theorem ns_noL (ns : List NE) : noLs (ns.map nD) = true := noLs_all fun t ht => by
  obtain ⟨p, _, rfl⟩ := List.mem_map.mp ht
  exact noL_nD p
theorem good_nsD (ns : List NE) : good (nsD ns) = true := good_lst (goods_all fun t ht => by
  obtain ⟨z, _, rfl⟩ := List.mem_map.mp ht
  exact good_nD z) fun t ht i e => by
  obtain ⟨z, _, rfl⟩ := List.mem_map.mp ht
  cases e
def within (ns : List NE) (p : NE) : List NE := (ns.filter fun q => !decide (q.1 = p.1)) ++ [p]
def mode4 (a b c e : Nat) (m : Nat) : Nat := match m with
  | 0 => a
  | 1 => b
  | 2 => c
  | _ => e
def turned (ns : List NE) : List NE := ns.map fun p => (p.1, p.2.1, mode4 0 2 1 3 p.2.2)
def barred (ns : List NE) : List NE := ns.map fun p => (p.1, p.2.1, mode4 0 3 3 3 p.2.2)
section
variable {K : PySem.W.Frag} {H H' : Hp}
theorem nD_inv {v : V} {p : NE} (h : Dp K H v (nD p)) : ∃ t, v = .ref t ∧ SqT K H t [.str p.1, .int p.2.1, .int p.2.2] := by
  obtain ⟨a, xs, rfl, h1, h2⟩ := Dp.tup_inv h
  obtain ⟨v1, w1, rfl, e1, h2⟩ := DpAll.cons_inv h2
  obtain ⟨v2, w2, rfl, e2, h2⟩ := DpAll.cons_inv h2
  obtain ⟨v3, w3, rfl, e3, h2⟩ := DpAll.cons_inv h2
  rw [Dp.str_inv e1, Dp.int_inv e2, Dp.int_inv e3, DpAll.nil_inv h2] at h1
  exact ⟨a, rfl, h1⟩
theorem nD_of {t : Addr} {p : NE} (h : SqT K H t [.str p.1, .int p.2.1, .int p.2.2]) : Dp K H (.ref t) (nD p) := .tup h (.cons (.str _) (.cons (.int _) (.cons (.int _) .nil)))
theorem DpAll.snoc {vs : List V} {ds : List PyData} {v : V} {t : PyData} (h : DpAll K H vs ds) (e : Dp K H v t) : DpAll K H (vs ++ [v]) (ds ++ [t]) := DpAll.append h (.cons e .nil)
end
theorem filter_snoc {α : Type} {p : α → Bool} {l : List α} {i : Nat} {x : α} (h : l[i]? = some x) : (l.take (i + 1)).filter p = (l.take i).filter p ++ (if p x then [x] else []) := by
  rw [List.take_add_one, h, List.filter_append]
  congr 1
  show List.filter p [x] = _
  cases e : p x <;> simp [List.filter, e]
def spWithin (K : PySem.W.Frag) : Sp := fun vs H Q _ => ∃ (nv : V) (name : Str) (k m : Nat) (ns : List NE), vs = [nv, .str name, .int k, .int m] ∧ Dp K H nv (nsD ns) ∧ ns.length ≤ 100 ∧ ∀ (H' : Hp) (r : V), Same H H' → Dp K H' r (nsD (within ns (name, k, m))) → Q r H'
def spMode (K : PySem.W.Frag) (F : List NE → List NE) : Sp := fun vs H Q _ => ∃ (nv : V) (ns : List NE), vs = [nv] ∧ Dp K H nv (nsD ns) ∧ ns.length ≤ 100 ∧ (∀ p, p ∈ ns → p.2.2 ≤ 3) ∧ ∀ (H' : Hp) (r : V), Same H H' → Dp K H' r (nsD (F ns)) → Q r H'
section
variable {P : Program} {w : World} {K : PySem.W.Frag} {mg : Str → Option Value} {base : Heap}
theorem sc_within : FnScope ["names", "name", "arity", "mode", "one"] ["names", "name", "arity", "mode"] (defScope (top 74)) := ⟨rfl, rfl, rfl, by decide +kernel, rfl, by decide +kernel, by decide +kernel⟩
theorem has_within (D : Def K mg "_law_within" ["names", "name", "arity", "mode"] (top 74)) : Has P w K mg base 1 "_law_within" ["names", "name", "arity", "mode"] (spWithin K) := D.has fun f fd F => by
  refine F.ok sc_within (fun vs H Q E h => ?_) (fun cdv A outer s H vs Q E hr h => ?_)
  · obtain ⟨nv, name, k, m, ns, rfl, _⟩ := h; rfl
  · obtain ⟨nv, name, k, m, ns, rfl, dn, hl, q⟩ := h
    refine ⟨_, PSs.nox (pss_one (ps_ret (pe_op op_cat (pe_lc (own := [("one", 4)]) rfl sc_within.nd (pi_list (pv 0)) (blkOk_by (N := ["names", "name", "arity", "mode", "one"]) (sc := defScope (top 74)) (by decide +kernel)) (fun _ _ _ _ _ => (pg_name (i := 4) sc_within.nd rfl (Or.inl rfl))) (fun _ _ _ _ _ => (pts_one (pt_cmpR op_ne (pe_ix (ix_tupK (K := K) rfl) (pv 4) pe_int (fun _ _ => rfl)) (pv 1) (nomark _)))) (fun _ _ _ _ _ => (pv 4))) (pe_lst (pa_cons (pe_tup (pa_cons (pv 1) (pa_cons (pv 2) (pa_cons (pv 3) pa_nil)))) pa_nil))))), ?_⟩
    obtain ⟨a, xs, rfl, ha, hx⟩ := Dp.lst_inv dn
    refine ⟨_, rfl, a, rfl, ⟨_, ha⟩, fun L nL => ?_⟩
    refine lc_it (walk_list (K := K) (a := a) (xs := xs)) (fun i H2 => ∃ acc, H2 L = some (.lst acc) ∧ DpAll K H acc (((ns.take i).filter fun p => !decide (p.1 = name)).map nD) ∧ Same H H2) ⟨[], upd_same, .nil, same_upd nL⟩ (fun i H2 _ ⟨_, _, _, s2⟩ => s2.seq ha) ?_ ?_
    · rintro i y H2 H3 hi ⟨acc, hL, hacc, s2⟩ ⟨rfl, hy⟩
      obtain ⟨dd, hd, dpy⟩ := DpAll.get' hx hy
      obtain ⟨p, hp, rfl⟩ := get_map hd
      obtain ⟨t, rfl, ht⟩ := nD_inv dpy
      refine ⟨rfl, _, rfl, t, _, _, _, rfl, rfl, Same.sqt s2 ht, atI_nat (j := 0) rfl, _, rfl, rfl, _, rfl, ?_⟩
      have ed : decide (V.str p.1 = V.str name) = decide (p.1 = name) := decide_eq_decide.mpr ⟨fun y => V.str.inj y, fun y => congrArg V.str y⟩
      have ef := filter_snoc (p := fun p : NE => !decide (p.1 = name)) hp
      by_cases e : p.1 = name
      · refine cF (k := !decide (V.str p.1 = V.str name)) (by rw [ed, decide_eq_true e]; rfl) ⟨acc, hL, ?_, s2⟩
        rw [show (if (!decide (p.1 = name)) = true then [p] else []) = [] by simp [e], List.append_nil] at ef
        rw [ef]
        exact hacc
      · refine cT (k := !decide (V.str p.1 = V.str name)) (by rw [ed, decide_eq_false e]; rfl) ⟨_, rfl, _, hL, ?_, ?_⟩
        · have e1 := DpAll.length hacc
          rw [List.length_map] at e1
          have e2 := List.length_filter_le (fun p : NE => !decide (p.1 = name)) (ns.take i)
          have e3 := List.length_take_le' i ns
          exact small1000 (by omega)
        · refine ⟨_, upd_same, ?_, fun b o eb => by rw [upd_ne (ne_of_none eb nL)]; exact s2 _ _ eb⟩
          rw [show (if (!decide (p.1 = name)) = true then [p] else []) = [p] by simp [e]] at ef
          rw [ef, List.map_append]
          exact DpAll.snoc hacc (nD_of ht)
    · rintro H2 ⟨acc, hL, hacc, s2⟩
      have el : xs.length = ns.length := by rw [DpAll.length hx, List.length_map]
      rw [List.take_of_length_le (show ns.length ≤ xs.length by omega)] at hacc
      refine ⟨_, rfl, _, rfl, _, rfl, (by show 3 ≤ sizeLine; decide), fun t nt => ⟨(by show 1 ≤ sizeLine; decide), fun b nb => ?_⟩⟩
      have t1 : Same H2 (upd H2 t (.tup [.str name, .int k, .int m])) := same_upd nt
      have t2 := same_upd (o := .lst [.ref t]) nb
      refine ⟨L, b, acc, [.ref t], rfl, rfl, t2 _ _ (t1 _ _ hL), upd_same, ?_, fun p np => ?_⟩
      · have e1 := DpAll.length hacc
        rw [List.length_map] at e1
        have e2 := List.length_filter_le (fun p : NE => !decide (p.1 = name)) ns
        have := small1000 (n := acc.length + 1) (by omega)
        show acc.length + 1 ≤ sizeLine
        omega
      · have t3 := same_upd (o := .lst (acc ++ [.ref t])) np
        have s4 : Same H _ := ((s2.trans t1).trans t2).trans t3
        refine q _ _ s4 (.lst (.inl (.inl upd_same)) ?_)
        show DpAll K _ _ (((ns.filter fun q => !decide (q.1 = name)) ++ [(name, k, m)]).map nD)
        rw [List.map_append]
        exact DpAll.snoc (DpAll.same s4 hacc) (nD_of (Same.sqt t3 (Same.sqt t2 (.inl (.inl upd_same)))))
theorem mode_at {a b c e m : Nat} (h : m ≤ 3) : [V.int a, V.int b, V.int c, V.int e][m]? = some (.int (mode4 a b c e m : Nat)) := by
  match m, h with
  | 0, _ => rfl
  | 1, _ => rfl
  | 2, _ => rfl
  | 3, _ => rfl
theorem sc_turned : FnScope ["names", "one"] ["names"] (defScope (top 75)) := ⟨rfl, rfl, rfl, by decide +kernel, rfl, by decide +kernel, by decide +kernel⟩
theorem has_turned (D : Def K mg "_law_turned" ["names"] (top 75)) : Has P w K mg base 1 "_law_turned" ["names"] (spMode K turned) := D.has fun f fd F => by
  refine F.ok sc_turned (fun vs H Q E h => ?_) (fun cdv A outer s H vs Q E hr h => ?_)
  · obtain ⟨nv, ns, rfl, _⟩ := h; rfl
  · obtain ⟨nv, ns, rfl, dn, hl, hm, q⟩ := h
    refine ⟨_, PSs.nox (pss_one (ps_ret (pe_lc (own := [("one", 1)]) rfl sc_turned.nd (pi_list (pv 0)) (blkOk_by (N := ["names", "one"]) (sc := defScope (top 75)) (by decide +kernel)) (fun _ _ _ _ _ => (pg_name (i := 1) sc_turned.nd rfl (Or.inl rfl))) (fun _ _ _ _ _ => pts_nil) (fun _ _ _ _ _ => (pe_tup (pa_cons (pe_ix (ix_tupK (K := K) rfl) (pv 1) pe_int (fun _ _ => rfl)) (pa_cons (pe_ix (ix_tupK (K := K) rfl) (pv 1) pe_int (fun _ _ => rfl)) (pa_cons (pe_ix (ix_listK (K := K) rfl) (pe_lst (pa_cons pe_int (pa_cons pe_int (pa_cons pe_int (pa_cons pe_int pa_nil))))) (pe_ix (ix_tupK (K := K) rfl) (pv 1) pe_int (fun _ _ => rfl)) (fun _ _ => rfl)) pa_nil)))))))), ?_⟩
    obtain ⟨a, xs, rfl, ha, hx⟩ := Dp.lst_inv dn
    refine ⟨_, rfl, a, rfl, ⟨_, ha⟩, fun L nL => ?_⟩
    refine lc_it (walk_list (K := K) (a := a) (xs := xs)) (fun i H2 => ∃ acc, H2 L = some (.lst acc) ∧ DpAll K H2 acc ((turned (ns.take i)).map nD) ∧ Same H H2) ⟨[], upd_same, .nil, same_upd nL⟩ (fun i H2 _ ⟨_, _, _, s2⟩ => s2.seq ha) ?_ ?_
    · rintro i y H2 H3 hi ⟨acc, hL, hacc, s2⟩ ⟨rfl, hy⟩
      obtain ⟨dd, hd, dpy⟩ := DpAll.get' hx hy
      obtain ⟨p, hp, rfl⟩ := get_map hd
      obtain ⟨t, rfl, ht⟩ := nD_inv (Dp.same s2 dpy)
      have hm3 := hm p (List.mem_of_getElem? hp)
      refine ⟨rfl, _, rfl, t, _, _, _, rfl, rfl, ht, atI_nat (j := 0) rfl, ?_⟩
      refine ⟨_, rfl, t, _, _, _, rfl, rfl, ht, atI_nat (j := 1) rfl, ?_⟩
      refine ⟨(by show 4 ≤ sizeLine; decide), fun c nc => ?_⟩
      have t1 := same_upd (o := .lst [V.int 0, V.int 2, V.int 1, V.int 3]) nc
      refine ⟨_, rfl, t, _, _, _, rfl, rfl, Same.sqt t1 ht, atI_nat (j := 2) rfl, c, _, _, _, rfl, rfl, .inl (.inl upd_same), atI_nat (mode_at hm3), ?_⟩
      refine ⟨(by show 3 ≤ sizeLine; decide), fun e ne => ?_⟩
      have t2 := same_upd (o := .tup [.str p.1, .int p.2.1, .int (mode4 0 2 1 3 p.2.2 : Nat)]) ne
      have t12 := t1.trans t2
      refine ⟨acc, t12 _ _ hL, ?_, acc ++ [.ref e], upd_same, ?_, fun b o eb => by rw [upd_ne (ne_of_none eb nL)]; exact t12 _ _ (s2 _ _ eb)⟩
      · have e1 := DpAll.length hacc
        rw [List.length_map] at e1
        have e2 : (turned (ns.take i)).length = (ns.take i).length := List.length_map ..
        have e3 := List.length_take_le' i ns
        exact small1000 (by omega)
      · have et : turned (ns.take (i + 1)) = turned (ns.take i) ++ [(p.1, p.2.1, mode4 0 2 1 3 p.2.2)] := by
          rw [List.take_add_one, hp]
          exact List.map_append
        rw [et, List.map_append]
        have d2 : Dp K (upd (upd H3 c (.lst [V.int 0, V.int 2, V.int 1, V.int 3])) e (.tup [.str p.1, .int p.2.1, .int (mode4 0 2 1 3 p.2.2 : Nat)])) (.ref e) (nD (p.1, p.2.1, mode4 0 2 1 3 p.2.2)) := nD_of (.inl (.inl upd_same))
        exact DpAll.kl (Kl.upd (t12 _ _ hL)) (DpAll.snoc (DpAll.kl (.of t12) hacc (ns_noL _)) d2) (by rw [noLs_append, ns_noL, ns_noL]; rfl)
    · rintro H2 ⟨acc, hL, hacc, s2⟩
      have el : xs.length = ns.length := by rw [DpAll.length hx, List.length_map]
      rw [List.take_of_length_le (show ns.length ≤ xs.length by omega)] at hacc
      exact q H2 (.ref L) s2 (.lst (.inl (.inl hL)) hacc)
theorem sc_barred : FnScope ["names", "one"] ["names"] (defScope (top 76)) := ⟨rfl, rfl, rfl, by decide +kernel, rfl, by decide +kernel, by decide +kernel⟩
theorem has_barred (D : Def K mg "_law_barred" ["names"] (top 76)) : Has P w K mg base 1 "_law_barred" ["names"] (spMode K barred) := D.has fun f fd F => by
  refine F.ok sc_barred (fun vs H Q E h => ?_) (fun cdv A outer s H vs Q E hr h => ?_)
  · obtain ⟨nv, ns, rfl, _⟩ := h; rfl
  · obtain ⟨nv, ns, rfl, dn, hl, hm, q⟩ := h
    refine ⟨_, PSs.nox (pss_one (ps_ret (pe_lc (own := [("one", 1)]) rfl sc_barred.nd (pi_list (pv 0)) (blkOk_by (N := ["names", "one"]) (sc := defScope (top 76)) (by decide +kernel)) (fun _ _ _ _ _ => (pg_name (i := 1) sc_barred.nd rfl (Or.inl rfl))) (fun _ _ _ _ _ => pts_nil) (fun _ _ _ _ _ => (pe_tup (pa_cons (pe_ix (ix_tupK (K := K) rfl) (pv 1) pe_int (fun _ _ => rfl)) (pa_cons (pe_ix (ix_tupK (K := K) rfl) (pv 1) pe_int (fun _ _ => rfl)) (pa_cons (pe_ix (ix_listK (K := K) rfl) (pe_lst (pa_cons pe_int (pa_cons pe_int (pa_cons pe_int (pa_cons pe_int pa_nil))))) (pe_ix (ix_tupK (K := K) rfl) (pv 1) pe_int (fun _ _ => rfl)) (fun _ _ => rfl)) pa_nil)))))))), ?_⟩
    obtain ⟨a, xs, rfl, ha, hx⟩ := Dp.lst_inv dn
    refine ⟨_, rfl, a, rfl, ⟨_, ha⟩, fun L nL => ?_⟩
    refine lc_it (walk_list (K := K) (a := a) (xs := xs)) (fun i H2 => ∃ acc, H2 L = some (.lst acc) ∧ DpAll K H2 acc ((barred (ns.take i)).map nD) ∧ Same H H2) ⟨[], upd_same, .nil, same_upd nL⟩ (fun i H2 _ ⟨_, _, _, s2⟩ => s2.seq ha) ?_ ?_
    · rintro i y H2 H3 hi ⟨acc, hL, hacc, s2⟩ ⟨rfl, hy⟩
      obtain ⟨dd, hd, dpy⟩ := DpAll.get' hx hy
      obtain ⟨p, hp, rfl⟩ := get_map hd
      obtain ⟨t, rfl, ht⟩ := nD_inv (Dp.same s2 dpy)
      have hm3 := hm p (List.mem_of_getElem? hp)
      refine ⟨rfl, _, rfl, t, _, _, _, rfl, rfl, ht, atI_nat (j := 0) rfl, ?_⟩
      refine ⟨_, rfl, t, _, _, _, rfl, rfl, ht, atI_nat (j := 1) rfl, ?_⟩
      refine ⟨(by show 4 ≤ sizeLine; decide), fun c nc => ?_⟩
      have t1 := same_upd (o := .lst [V.int 0, V.int 3, V.int 3, V.int 3]) nc
      refine ⟨_, rfl, t, _, _, _, rfl, rfl, Same.sqt t1 ht, atI_nat (j := 2) rfl, c, _, _, _, rfl, rfl, .inl (.inl upd_same), atI_nat (mode_at hm3), ?_⟩
      refine ⟨(by show 3 ≤ sizeLine; decide), fun e ne => ?_⟩
      have t2 := same_upd (o := .tup [.str p.1, .int p.2.1, .int (mode4 0 3 3 3 p.2.2 : Nat)]) ne
      have t12 := t1.trans t2
      refine ⟨acc, t12 _ _ hL, ?_, acc ++ [.ref e], upd_same, ?_, fun b o eb => by rw [upd_ne (ne_of_none eb nL)]; exact t12 _ _ (s2 _ _ eb)⟩
      · have e1 := DpAll.length hacc
        rw [List.length_map] at e1
        have e2 : (barred (ns.take i)).length = (ns.take i).length := List.length_map ..
        have e3 := List.length_take_le' i ns
        exact small1000 (by omega)
      · have et : barred (ns.take (i + 1)) = barred (ns.take i) ++ [(p.1, p.2.1, mode4 0 3 3 3 p.2.2)] := by
          rw [List.take_add_one, hp]
          exact List.map_append
        rw [et, List.map_append]
        have d2 : Dp K (upd (upd H3 c (.lst [V.int 0, V.int 3, V.int 3, V.int 3])) e (.tup [.str p.1, .int p.2.1, .int (mode4 0 3 3 3 p.2.2 : Nat)])) (.ref e) (nD (p.1, p.2.1, mode4 0 3 3 3 p.2.2)) := nD_of (.inl (.inl upd_same))
        exact DpAll.kl (Kl.upd (t12 _ _ hL)) (DpAll.snoc (DpAll.kl (.of t12) hacc (ns_noL _)) d2) (by rw [noLs_append, ns_noL, ns_noL]; rfl)
    · rintro H2 ⟨acc, hL, hacc, s2⟩
      have el : xs.length = ns.length := by rw [DpAll.length hx, List.length_map]
      rw [List.take_of_length_le (show ns.length ≤ xs.length by omega)] at hacc
      exact q H2 (.ref L) s2 (.lst (.inl (.inl hL)) hacc)
end
/-! ### reading written dicts -/
section
variable {X : Cx} {o e : Expr} {td ty : TE} {apos cpos : Pos}
/-- d.get(k), d a dict of the module -/
def tKGet (K : PySem.W.Frag) (w : World) (td ty : TE) : TE := fun σ H Q => td σ H fun x H1 => ∃ p es n, x = .ref p ∧ KDict K w p es n ∧ ty σ H1 fun y H2 => ∃ (z : Str) (r : Option Value) (v : V), y = .str z ∧ PySem.W.nsIn K p z = some r ∧ RelV v (r.getD .none) ∧ Q v H2
theorem pe_kget (ho : PE X o td) (he : PE X e ty) (m : M1 X o "get" apos e cpos) : PE X (.Call (.Attribute o "get" apos) [e] [] cpos) (tKGet X.K X.w td ty) := by
  refine ⟨fun pins s σ H Q I h => ?_⟩
  refine wpAny_Call_method m.base m.few m.line PySem.F.plainAttrs_dict PySem.F.slot_dict_get PySem.F.type_dict_get (thn (ho.run pins s σ H _ I h) fun u s1 ⟨x, H1, I1, rx, p, es, n, ex, D, q1⟩ => ?_)
  subst ex
  obtain rfl : u = Value.ref p := rx
  refine ⟨kd_type D I1, fun b eb => by cases eb; exact ⟨_, I1.kIn _ _ D.at_, rfl⟩, ?_⟩
  rw [m.trees]
  refine Calls.callWith_builtin rfl (Calls.evalArgs_plain (Calls.spliced_cons (thn (he.run pins s1 σ H1 _ I1 q1) fun iv s2 ⟨y, H2, I2, ry, z, r, v, ey, en, rv, q2⟩ => Calls.spliced_nil ?_)))
  subst ey
  obtain ⟨t, rfl⟩ := ry
  refine call_meetsIn PySem.F.slot_dict_get (kd_type D I2) PySem.F.entry_dict_get (PySem.F.args_dict_get_2 _ _) (meets_dict_get (PySem.strKind X.prog X.w) p (PySem.strKind_is X.prog X.w z t) D.low) ⟨_, PySem.W.mapOf_K (prog := X.prog) I2.kIn D.at_ D.lit, ?_⟩
  rw [PySem.W.find_K D.at_ en]
  exact ⟨v, H2, I2.tok _, rv, q2⟩
end
/-- what the module's dict x holds under twelve words -/
structure KTab (K : PySem.W.Frag) (w : World) (mg : Str → Option Value) (x : Str) (kvs : List (Str × V)) : Prop where
  g : mg x = some (.ref (He.ga K x))
  d : ∃ es n, KDict K w (He.ga K x) es n
  there : ∀ k v, (k, v) ∈ kvs → ∃ u, PySem.W.nsIn K (He.ga K x) k = some (some u) ∧ RelV v u
def words12 : List Str := ["rel", "eq", "less", "not", "and", "or", "some", "all", "lfp", "pfp", "tc", "guess"]
def Miss (K : PySem.W.Frag) (x : Str) (ks : List Str) : Prop := ∀ k, k ∈ ks → PySem.W.nsIn K (He.ga K x) k = some none
theorem KTab.dct {K : PySem.W.Frag} {w : World} {mg : Str → Option Value} {x : Str} {kvs : List (Str × V)} (t : KTab K w mg x kvs) {k : Str} {v : V} (h : (k, v) ∈ kvs) : KDct K w (He.ga K x) k v := by
  obtain ⟨es, n, D⟩ := t.d
  obtain ⟨u, h1, h2⟩ := t.there k v h
  exact ⟨es, n, u, D.at_, D.lit, h1, h2⟩
/-! ### the tables of heads -/
def Kd.bodyAt : Kd → Option Nat
  | .no => some 1
  | .ex => some 2
  | .al => some 2
  | .lfp => some 3
  | .pfp => some 3
  | .tc => some 2
  | .gs => some 3
  | _ => none
def Kd.ownAt : Kd → Option Nat
  | .ex => some 1
  | .al => some 1
  | .lfp => some 2
  | .pfp => some 2
  | .tc => some 1
  | _ => none
def Kd.argsAt : Kd → Option Nat
  | .rel => some 2
  | .lfp => some 4
  | .pfp => some 4
  | .tc => some 3
  | _ => none
def Kd.many : Kd → Nat
  | .rel => 3
  | .eq => 3
  | .less => 3
  | .no => 2
  | .con => 2
  | .dis => 2
  | .ex => 3
  | .al => 3
  | .lfp => 5
  | .pfp => 5
  | .tc => 4
  | .gs => 4
def bodyTab : List (Str × V) := [("not", .int 1), ("some", .int 2), ("all", .int 2), ("lfp", .int 3), ("pfp", .int 3), ("tc", .int 2), ("guess", .int 3)]
def ownTab : List (Str × V) := [("some", .int 1), ("all", .int 1), ("lfp", .int 2), ("pfp", .int 2), ("tc", .int 1)]
def argsTab : List (Str × V) := [("rel", .int 2), ("lfp", .int 4), ("pfp", .int 4), ("tc", .int 3)]
def lenTab : List (Str × V) := [("rel", .int 3), ("eq", .int 3), ("less", .int 3), ("not", .int 2), ("and", .int 2), ("or", .int 2), ("some", .int 3), ("all", .int 3), ("lfp", .int 5), ("pfp", .int 5), ("tc", .int 4), ("guess", .int 4)]
def Kd.test : Kd → Str
  | .rel => "_is_rel"
  | .eq => "_is_comparison"
  | .less => "_is_comparison"
  | .no => "_is_negation"
  | .con => "_is_joined"
  | .dis => "_is_joined"
  | .ex => "_is_quantified"
  | .al => "_is_quantified"
  | .lfp => "_is_fixed_point"
  | .pfp => "_is_fixed_point"
  | .tc => "_is_closure"
  | .gs => "_is_guess"
def testTab (K : PySem.W.Frag) : List (Str × V) := [("rel", .ref (He.ga K "_is_rel")), ("eq", .ref (He.ga K "_is_comparison")), ("less", .ref (He.ga K "_is_comparison")), ("not", .ref (He.ga K "_is_negation")), ("and", .ref (He.ga K "_is_joined")), ("or", .ref (He.ga K "_is_joined")),
  ("some", .ref (He.ga K "_is_quantified")), ("all", .ref (He.ga K "_is_quantified")), ("lfp", .ref (He.ga K "_is_fixed_point")), ("pfp", .ref (He.ga K "_is_fixed_point")), ("tc", .ref (He.ga K "_is_closure")), ("guess", .ref (He.ga K "_is_guess"))]
/-- the constants of shapes -/
structure Shp (K : PySem.W.Frag) (w : World) (mg : Str → Option Value) : Prop where
  joined : ∃ t, mg "MOST_JOINED" = some (.int 40 t)
  guess : ∃ t, mg "LARGEST_GUESS" = some (.int 3 t)
  relG : mg "REL_COUNTS" = some (.ref (He.ga K "REL_COUNTS"))
  relC : ∀ H : Hp, SqT K H (He.ga K "REL_COUNTS") (([0, 1, 2, 3, 4, 5, 6] : List Int).map V.int)
  ownG : mg "OWN_COUNTS" = some (.ref (He.ga K "OWN_COUNTS"))
  ownC : ∀ H : Hp, SqT K H (He.ga K "OWN_COUNTS") (([1, 2, 3, 4, 5, 6] : List Int).map V.int)
  tcG : mg "TC_COUNTS" = some (.ref (He.ga K "TC_COUNTS"))
  tcC : ∀ H : Hp, SqT K H (He.ga K "TC_COUNTS") (([2, 4, 6, 8] : List Int).map V.int)
  lens : KTab K w mg "LENGTHS" lenTab
  body : KTab K w mg "BODY_AT" bodyTab
  own : KTab K w mg "OWN_AT" ownTab
  args : KTab K w mg "ARGUMENTS_AT" argsTab
  tests : KTab K w mg "TESTS" (testTab K)
  bodyM : Miss K "BODY_AT" ["rel", "eq", "less", "and", "or"]
  ownM : Miss K "OWN_AT" ["rel", "eq", "less", "not", "and", "or", "guess"]
  argsM : Miss K "ARGUMENTS_AT" ["eq", "less", "not", "and", "or", "some", "all", "guess"]
/-! ### the promises -/
/-- the number of formulas in it is right -/
def Hd.fits (h : Hd) (n : Nat) : Prop := ∀ k, h.one = some k → n = k
theorem Hd.Ok.fits {h : Hd} {n : Nat} (k : h.Ok n) : h.fits n := by
  intro m e
  cases h <;> first | (cases e; exact k.2.2) | (cases e; exact k.2.2.2) | (cases e; exact k) | (cases e; exact k.2) | (cases e; exact k.2.2.2.2) | (cases e; exact k.2.2.2.2.2) | cases e
/-- a function of a formula's head and parts that changes nothing -/
def spHd (K : PySem.W.Frag) (R : Hd → List PyData → V → Hp → Prop) : Sp := fun vs H Q _ => ∃ (v : V) (h : Hd) (ds : List PyData), vs = [v] ∧ Dp K H v (h.data ds) ∧ h.fits ds.length ∧ ∀ (H' : Hp) (r : V), Same H H' → R h ds r H' → Q r H'
abbrev spInner (K : PySem.W.Frag) : Sp := spHd K fun _ ds r H' => Dp K H' r (.tuple ds)
abbrev spOwn (K : PySem.W.Frag) : Sp := spHd K fun h _ r H' => Dp K H' r (tS h.own)
abbrev spArgs (K : PySem.W.Frag) : Sp := spHd K fun h _ r H' => Dp K H' r (tS h.args)
abbrev spBName (K : PySem.W.Frag) : Sp := spHd K fun h _ r _ => r = match h.bound with | some (n, _) => V.str n | none => .non
abbrev spBArity (K : PySem.W.Frag) : Sp := fun vs H Q _ => ∃ (v : V) (h : Hd) (ds : List PyData) (n : Str) (k : Nat), vs = [v] ∧ Dp K H v (h.data ds) ∧ h.bound = some (n, k) ∧ ∀ (H' : Hp), Same H H' → Q (.int k) H'
theorem body_mem : ∀ (k : Kd) (i : Nat), k.bodyAt = some i → (k.word, V.int (i : Nat)) ∈ bodyTab := by
  intro k i e
  cases k <;> first | (cases e; decide +kernel) | cases e
theorem body_mis : ∀ k : Kd, k.bodyAt = none → k.word ∈ (["rel", "eq", "less", "and", "or"] : List Str) := by
  intro k e
  cases k <;> first | decide +kernel | cases e
theorem own_mem : ∀ (k : Kd) (i : Nat), k.ownAt = some i → (k.word, V.int (i : Nat)) ∈ ownTab := by
  intro k i e
  cases k <;> first | (cases e; decide +kernel) | cases e
theorem own_mis : ∀ k : Kd, k.ownAt = none → k.word ∈ (["rel", "eq", "less", "not", "and", "or", "guess"] : List Str) := by
  intro k e
  cases k <;> first | decide +kernel | cases e
theorem args_mem : ∀ (k : Kd) (i : Nat), k.argsAt = some i → (k.word, V.int (i : Nat)) ∈ argsTab := by
  intro k i e
  cases k <;> first | (cases e; decide +kernel) | cases e
theorem args_mis : ∀ k : Kd, k.argsAt = none → k.word ∈ (["eq", "less", "not", "and", "or", "some", "all", "guess"] : List Str) := by
  intro k e
  cases k <;> first | decide +kernel | cases e
theorem len_mem : ∀ (k : Kd), (k.word, V.int (k.many : Nat)) ∈ lenTab := by
  intro k
  cases k <;> decide +kernel
theorem kd_isJ : ∀ k : Kd, inV (.str k.word) [.str "and", .str "or"] = true → k = .con ∨ k = .dis := by
  intro k; cases k <;> decide +kernel
theorem kd_isJ' : ∀ k : Kd, inV (.str k.word) [.str "and", .str "or"] = false → k ≠ .con ∧ k ≠ .dis := by
  intro k; cases k <;> decide +kernel
theorem kd_isE : ∀ k : Kd, inV (.str k.word) [.str "eq", .str "less"] = true → k = .eq ∨ k = .less := by
  intro k; cases k <;> decide +kernel
theorem kd_isE' : ∀ k : Kd, inV (.str k.word) [.str "eq", .str "less"] = false → k ≠ .eq ∧ k ≠ .less := by
  intro k; cases k <;> decide +kernel
theorem isJ (h : Hd) (z : inV (.str h.word) [.str "and", .str "or"] = true) : h = .con ∨ h = .dis := by
  rcases kd_isJ _ z with e | e <;> cases h <;> first | exact Or.inl rfl | exact Or.inr rfl | cases e
theorem isJ' (h : Hd) (z : inV (.str h.word) [.str "and", .str "or"] = false) : h ≠ .con ∧ h ≠ .dis := by
  have := kd_isJ' _ z
  exact ⟨fun e => this.1 (by rw [e]; rfl), fun e => this.2 (by rw [e]; rfl)⟩
theorem isE (h : Hd) (z : inV (.str h.word) [.str "eq", .str "less"] = true) : ∃ x y, (h = .eq x y ∨ h = .less x y) := by
  rcases kd_isE _ z with e | e <;> cases h <;> first | exact ⟨_, _, Or.inl rfl⟩ | exact ⟨_, _, Or.inr rfl⟩ | cases e
theorem isE' (h : Hd) (z : inV (.str h.word) [.str "eq", .str "less"] = false) : ∀ x y, h ≠ .eq x y ∧ h ≠ .less x y := by
  have := kd_isE' _ z
  exact fun x y => ⟨fun e => this.1 (by rw [e]; rfl), fun e => this.2 (by rw [e]; rfl)⟩
section
variable {P : Program} {w : World} {K : PySem.W.Frag} {mg : Str → Option Value} {base : Heap}
theorem at0 {v : V} {xs : List V} : (v :: xs)[0]? = some v := rfl
theorem atS {v d : V} {xs : List V} {i : Nat} (h : xs[i]? = some d) : (v :: xs)[i + 1]? = some d := h
theorem sc_inner : FnScope ["formula"] ["formula"] (defScope (top 36)) := ⟨rfl, rfl, rfl, by decide +kernel, rfl, by decide +kernel, by decide +kernel⟩
theorem has_inner (D : Def K mg "inner" ["formula"] (top 36)) (T : Txt mg) (S : Shp K w mg) : Has P w K mg base 1 "inner" ["formula"] (spInner K) := D.has fun f fd F => by
  have c_BODY_AT := S.body.g
  obtain ⟨es, n, D_BODY_AT⟩ := S.body.d
  refine F.ok sc_inner (fun vs H Q E h => ?_) (fun cdv A outer s H vs Q E hr h => ?_)
  · obtain ⟨v, h, ds, rfl, _⟩ := h; rfl
  · obtain ⟨v, h, ds, rfl, dp, fit, q⟩ := h
    refine ⟨_, PSs.nox (pss_cons (ps_if (pt_cmpR op_in_seq (pe_ix ix_tup (pv 0) pe_int (fun _ _ => rfl)) (pe_tup (pa_cons pe_str (pa_cons pe_str pa_nil))) (by rfl)) (pss_one (ps_ret (pe_ix ix_tup (pv 0) pe_int (fun _ _ => rfl)))) pss_nil) (pss_cons (ps_if (pt_cmpR (op_in_kd D_BODY_AT) (pe_ix ix_tup (pv 0) pe_int (fun _ _ => rfl)) (pe_glob (v := .ref (He.ga K "BODY_AT")) (by rfl) c_BODY_AT rfl) (by rfl)) (pss_one (ps_ret (pe_tup (pa_cons (pe_ix ix_tup (pv 0) (pe_ix ix_kdict (pe_glob (v := .ref (He.ga K "BODY_AT")) (by rfl) c_BODY_AT rfl) (pe_ix ix_tup (pv 0) pe_int (fun _ _ => rfl)) (fun _ _ => rfl)) (fun _ _ => rfl)) pa_nil)))) pss_nil) (pss_one (ps_ret (pe_tup pa_nil))))), ?_⟩
    obtain ⟨a, xs, rfl, hT, hx⟩ := hd_inv dp
    refine ⟨_, rfl, a, _, _, _, rfl, rfl, hT, atI_nat (j := 0) rfl, (by show 2 ≤ sizeLine; decide), fun p np => ⟨p, _, rfl, .inr (SqT.of upd_same), rfl, rfl, _, rfl, ?_⟩⟩
    have sp : Same H (upd H p (.tup [.str "and", .str "or"])) := same_upd np
    have hT1 := Same.sqt sp hT
    have dp1 : DpAll K (upd H p (.tup [.str "and", .str "or"])) xs (h.rest ds) := DpAll.same sp hx
    by_cases j : inV (.str h.word) [.str "and", .str "or"] = true
    · refine cT j ?_
      have e : h.rest ds = [.tuple ds] := by rcases isJ h j with e | e <;> rw [e] <;> rfl
      rw [e] at dp1
      obtain ⟨v1, ws, rfl, h1, _⟩ := DpAll.cons_inv dp1
      exact ⟨_, rfl, a, _, _, _, rfl, rfl, hT1, atI_nat (j := 1) rfl, q _ _ sp h1⟩
    · have j' : inV (.str h.word) [.str "and", .str "or"] = false := by simpa using j
      refine cF j' ?_
      have nj := isJ' h j'
      refine ⟨_, rfl, a, _, _, _, rfl, rfl, hT1, atI_nat (j := 0) rfl, ?_⟩
      cases hb : h.kd.bodyAt with
      | some i =>
        have mem := body_mem _ _ hb
        obtain ⟨u, n1, ru⟩ := S.body.there _ _ mem
        refine ⟨_, _, rfl, rfl, n1, _, rfl, cT (k := (some u).isSome) rfl ?_⟩
        have one : ∃ d v2, ds = [d] ∧ (V.str h.word :: xs)[i]? = some v2 ∧ Dp K (upd H p (.tup [.str "and", .str "or"])) v2 d := by
          have l1 : ds.length = 1 := fit 1 (by cases h <;> first | cases hb; rfl | cases hb)
          obtain ⟨d, rfl⟩ := List.length_eq_one_iff.mp l1
          have g : (PyData.str h.word :: h.rest [d])[i]? = some d := by cases h <;> first | cases hb; rfl | cases hb
          obtain ⟨v2, g2, g3⟩ := DpAll.get (DpAll.cons (.str h.word) dp1) g
          exact ⟨d, v2, rfl, g2, g3⟩
        obtain ⟨d, v2, rfl, g2, g3⟩ := one
        refine ⟨_, rfl, _, rfl, a, _, _, _, rfl, rfl, hT1, atI_nat (j := 0) rfl, _, _, _, rfl, rfl, S.body.dct mem, a, _, _, _, rfl, rfl, hT1, atI_nat g2, (by show 1 ≤ sizeLine; decide), fun p2 np2 => ?_⟩
        exact q _ _ (sp.trans (same_upd np2)) (.tup (SqT.of upd_same) (.cons (Dp.same (same_upd np2) g3) .nil))
      | none =>
        have mem := body_mis _ hb
        refine ⟨_, _, rfl, rfl, S.bodyM _ mem, _, rfl, cF (k := (none : Option Value).isSome) rfl ?_⟩
        have e0 : ds = [] := by
          have l0 : ds.length = 0 := fit 0 (by cases h <;> first | rfl | exact absurd rfl nj.1 | exact absurd rfl nj.2 | cases hb)
          exact List.eq_nil_of_length_eq_zero l0
        subst e0
        refine ⟨(by show 0 ≤ sizeLine; decide), fun p2 np2 => ?_⟩
        exact q _ _ (sp.trans (same_upd np2)) (.tup (SqT.of upd_same) .nil)
theorem sc_own : FnScope ["formula"] ["formula"] (defScope (top 39)) := ⟨rfl, rfl, rfl, by decide +kernel, rfl, by decide +kernel, by decide +kernel⟩
theorem has_own (D : Def K mg "own" ["formula"] (top 39)) (T : Txt mg) (S : Shp K w mg) : Has P w K mg base 1 "own" ["formula"] (spOwn K) := D.has fun f fd F => by
  have c_OWN_AT := S.own.g
  obtain ⟨es, n, D_OWN_AT⟩ := S.own.d
  refine F.ok sc_own (fun vs H Q E h => ?_) (fun cdv A outer s H vs Q E hr h => ?_)
  · obtain ⟨v, h, ds, rfl, _⟩ := h; rfl
  · obtain ⟨v, h, ds, rfl, dp, fit, q⟩ := h
    refine ⟨_, PSs.nox (pss_cons (ps_if (pt_cmpR (op_in_kd D_OWN_AT) (pe_ix ix_tup (pv 0) pe_int (fun _ _ => rfl)) (pe_glob (v := .ref (He.ga K "OWN_AT")) (by rfl) c_OWN_AT rfl) (by rfl)) (pss_one (ps_ret (pe_ix ix_tup (pv 0) (pe_ix ix_kdict (pe_glob (v := .ref (He.ga K "OWN_AT")) (by rfl) c_OWN_AT rfl) (pe_ix ix_tup (pv 0) pe_int (fun _ _ => rfl)) (fun _ _ => rfl)) (fun _ _ => rfl)))) pss_nil) (pss_one (ps_ret (pe_tup pa_nil)))), ?_⟩
    obtain ⟨a, xs, rfl, hT, hx⟩ := hd_inv dp
    refine ⟨_, rfl, a, _, _, _, rfl, rfl, hT, atI_nat (j := 0) rfl, ?_⟩
    cases hb : h.kd.ownAt with
    | some i =>
      have mem := own_mem _ _ hb
      obtain ⟨u, n1, ru⟩ := S.own.there _ _ mem
      refine ⟨_, _, rfl, rfl, n1, _, rfl, cT (k := (some u).isSome) rfl ?_⟩
      have g : (PyData.str h.word :: h.rest ds)[i]? = some (tS h.own) := by cases h <;> first | cases hb; rfl | cases hb
      obtain ⟨v2, g2, g3⟩ := DpAll.get (DpAll.cons (.str h.word) hx) g
      refine ⟨_, rfl, _, rfl, a, _, _, _, rfl, rfl, hT, atI_nat (j := 0) rfl, _, _, _, rfl, rfl, S.own.dct mem, a, _, _, _, rfl, rfl, hT, atI_nat g2, ?_⟩
      exact q _ _ (.refl _) g3
    | none =>
      have mem := own_mis _ hb
      refine ⟨_, _, rfl, rfl, S.ownM _ mem, _, rfl, cF (k := (none : Option Value).isSome) rfl ?_⟩
      have e0 : h.own = [] := by cases h <;> first | rfl | cases hb
      refine ⟨(by show 0 ≤ sizeLine; decide), fun p2 np2 => ?_⟩
      exact q _ _ (same_upd np2) (by show Dp K _ _ (tS h.own); rw [e0]; exact .tup (SqT.of upd_same) .nil)
theorem sc_arguments : FnScope ["formula"] ["formula"] (defScope (top 41)) := ⟨rfl, rfl, rfl, by decide +kernel, rfl, by decide +kernel, by decide +kernel⟩
theorem has_arguments (D : Def K mg "arguments" ["formula"] (top 41)) (T : Txt mg) (S : Shp K w mg) : Has P w K mg base 1 "arguments" ["formula"] (spArgs K) := D.has fun f fd F => by
  have c_ARGUMENTS_AT := S.args.g
  obtain ⟨es, n, D_ARGUMENTS_AT⟩ := S.args.d
  refine F.ok sc_arguments (fun vs H Q E h => ?_) (fun cdv A outer s H vs Q E hr h => ?_)
  · obtain ⟨v, h, ds, rfl, _⟩ := h; rfl
  · obtain ⟨v, h, ds, rfl, dp, fit, q⟩ := h
    refine ⟨_, PSs.nox (pss_cons (ps_if (pt_cmpR op_in_seq (pe_ix ix_tup (pv 0) pe_int (fun _ _ => rfl)) (pe_tup (pa_cons pe_str (pa_cons pe_str pa_nil))) (by rfl)) (pss_one (ps_ret (pe_slice sl_tup (pv 0) (po_some pe_int) po_none))) pss_nil) (pss_cons (ps_if (pt_cmpR (op_in_kd D_ARGUMENTS_AT) (pe_ix ix_tup (pv 0) pe_int (fun _ _ => rfl)) (pe_glob (v := .ref (He.ga K "ARGUMENTS_AT")) (by rfl) c_ARGUMENTS_AT rfl) (by rfl)) (pss_one (ps_ret (pe_ix ix_tup (pv 0) (pe_ix ix_kdict (pe_glob (v := .ref (He.ga K "ARGUMENTS_AT")) (by rfl) c_ARGUMENTS_AT rfl) (pe_ix ix_tup (pv 0) pe_int (fun _ _ => rfl)) (fun _ _ => rfl)) (fun _ _ => rfl)))) pss_nil) (pss_one (ps_ret (pe_tup pa_nil))))), ?_⟩
    obtain ⟨a, xs, rfl, hT, hx⟩ := hd_inv dp
    refine ⟨_, rfl, a, _, _, _, rfl, rfl, hT, atI_nat (j := 0) rfl, (by show 2 ≤ sizeLine; decide), fun p np => ⟨p, _, rfl, .inr (SqT.of upd_same), rfl, rfl, _, rfl, ?_⟩⟩
    have sp : Same H (upd H p (.tup [.str "eq", .str "less"])) := same_upd np
    have hT1 := Same.sqt sp hT
    have dp1 : DpAll K (upd H p (.tup [.str "eq", .str "less"])) xs (h.rest ds) := DpAll.same sp hx
    by_cases j : inV (.str h.word) [.str "eq", .str "less"] = true
    · refine cT j ?_
      obtain ⟨x, y, e⟩ := isE h j
      have e2 : xs = [.str x, .str y] := by
        rcases e with e | e <;> subst e <;> exact DpAll.strs (as := [x, y]) dp1
      have e3 : h.args = [x, y] := by rcases e with e | e <;> rw [e] <;> rfl
      subst e2
      refine ⟨_, rfl, 1, rfl, a, _, rfl, hT1, fun z => absurd z.1 (by show ¬ (HT.sIx 3 0 (some 1) = 0); decide), fun p2 np2 => ?_⟩
      refine q _ _ (sp.trans (same_upd np2)) ?_
      show Dp K _ _ (tS h.args)
      rw [e3]
      exact tS_of (SqT.of upd_same)
    · have j' : inV (.str h.word) [.str "eq", .str "less"] = false := by simpa using j
      refine cF j' ?_
      have nj := isE' h j'
      refine ⟨_, rfl, a, _, _, _, rfl, rfl, hT1, atI_nat (j := 0) rfl, ?_⟩
      cases hb : h.kd.argsAt with
      | some i =>
        have mem := args_mem _ _ hb
        obtain ⟨u, n1, ru⟩ := S.args.there _ _ mem
        refine ⟨_, _, rfl, rfl, n1, _, rfl, cT (k := (some u).isSome) rfl ?_⟩
        have g : (PyData.str h.word :: h.rest ds)[i]? = some (tS h.args) := by
          cases h with
          | lfp m us bs => cases hb; obtain ⟨d, rfl⟩ := List.length_eq_one_iff.mp (fit 1 rfl); rfl
          | pfp m us bs => cases hb; obtain ⟨d, rfl⟩ := List.length_eq_one_iff.mp (fit 1 rfl); rfl
          | tc us bs => cases hb; obtain ⟨d, rfl⟩ := List.length_eq_one_iff.mp (fit 1 rfl); rfl
          | rel m bs => cases hb; rfl
          | _ => cases hb
        obtain ⟨v2, g2, g3⟩ := DpAll.get (DpAll.cons (.str h.word) dp1) g
        refine ⟨_, rfl, _, rfl, a, _, _, _, rfl, rfl, hT1, atI_nat (j := 0) rfl, _, _, _, rfl, rfl, S.args.dct mem, a, _, _, _, rfl, rfl, hT1, atI_nat g2, ?_⟩
        exact q _ _ sp g3
      | none =>
        have mem := args_mis _ hb
        refine ⟨_, _, rfl, rfl, S.argsM _ mem, _, rfl, cF (k := (none : Option Value).isSome) rfl ?_⟩
        have e0 : h.args = [] := by cases h <;> first | rfl | exact absurd rfl (nj _ _).1 | exact absurd rfl (nj _ _).2 | cases hb
        refine ⟨(by show 0 ≤ sizeLine; decide), fun p2 np2 => ?_⟩
        exact q _ _ (sp.trans (same_upd np2)) (by show Dp K _ _ (tS h.args); rw [e0]; exact .tup (SqT.of upd_same) .nil)
end
section
variable {P : Program} {w : World} {K : PySem.W.Frag} {mg : Str → Option Value} {base : Heap}
theorem kd_isB : ∀ k : Kd, inV (.str k.word) [.str "lfp", .str "pfp", .str "guess"] = true → k = .lfp ∨ k = .pfp ∨ k = .gs := by
  intro k; cases k <;> decide +kernel
theorem kd_isB' : ∀ k : Kd, inV (.str k.word) [.str "lfp", .str "pfp", .str "guess"] = false → k ≠ .lfp ∧ k ≠ .pfp ∧ k ≠ .gs := by
  intro k; cases k <;> decide +kernel
theorem rest_bound {h : Hd} {ds : List PyData} {n : Str} {k : Nat} (b : h.bound = some (n, k)) : (h.rest ds)[0]? = some (.str n) := by
  cases h <;> first | (cases b; rfl) | cases b
theorem bound_kd {h : Hd} (z : h.kd = .lfp ∨ h.kd = .pfp ∨ h.kd = .gs) : ∃ n k, h.bound = some (n, k) := by
  rcases z with e | e | e <;> cases h <;> first | exact ⟨_, _, rfl⟩ | cases e
theorem bound_kd' {h : Hd} (z : h.kd ≠ .lfp ∧ h.kd ≠ .pfp ∧ h.kd ≠ .gs) : h.bound = none := by
  cases h <;> first | rfl | exact absurd rfl z.1 | exact absurd rfl z.2.1 | exact absurd rfl z.2.2
theorem sc_bound_name : FnScope ["formula"] ["formula"] (defScope (top 43)) := ⟨rfl, rfl, rfl, by decide +kernel, rfl, by decide +kernel, by decide +kernel⟩
theorem has_bound_name (D : Def K mg "bound_name" ["formula"] (top 43)) : Has P w K mg base 1 "bound_name" ["formula"] (spBName K) := D.has fun f fd F => by
  refine F.ok sc_bound_name (fun vs H Q E h => ?_) (fun cdv A outer s H vs Q E hr h => ?_)
  · obtain ⟨v, h, ds, rfl, _⟩ := h; rfl
  · obtain ⟨v, h, ds, rfl, dp, fit, q⟩ := h
    refine ⟨_, PSs.nox (pss_cons (ps_if (pt_cmpR op_in_seq (pe_ix ix_tup (pv 0) pe_int (fun _ _ => rfl)) (pe_tup (pa_cons pe_str (pa_cons pe_str (pa_cons pe_str pa_nil)))) (by rfl)) (pss_one (ps_ret (pe_ix ix_tup (pv 0) pe_int (fun _ _ => rfl)))) pss_nil) (pss_one (ps_ret pe_non))), ?_⟩
    obtain ⟨a, xs, rfl, hT, hx⟩ := hd_inv dp
    refine ⟨_, rfl, a, _, _, _, rfl, rfl, hT, atI_nat (j := 0) rfl, (by show 3 ≤ sizeLine; decide), fun p np => ⟨p, _, rfl, .inr (SqT.of upd_same), rfl, rfl, _, rfl, ?_⟩⟩
    have sp : Same H (upd H p (.tup [.str "lfp", .str "pfp", .str "guess"])) := same_upd np
    by_cases j : inV (.str h.word) [.str "lfp", .str "pfp", .str "guess"] = true
    · refine cT j ?_
      obtain ⟨n, k, b⟩ := bound_kd (kd_isB _ j)
      obtain ⟨v2, g2, g3⟩ := DpAll.get hx (rest_bound b)
      refine ⟨_, rfl, a, _, _, _, rfl, rfl, Same.sqt sp hT, atI_nat (j := 1) (atS g2), ?_⟩
      refine q _ _ sp ?_
      show v2 = match h.bound with | some (n, _) => V.str n | none => .non
      rw [b]
      exact Dp.str_inv g3
    · have j' : inV (.str h.word) [.str "lfp", .str "pfp", .str "guess"] = false := by simpa using j
      refine cF j' ?_
      refine q _ _ sp ?_
      show V.non = match h.bound with | some (n, _) => V.str n | none => .non
      rw [bound_kd' (kd_isB' _ j')]
theorem kd_gs : ∀ k : Kd, decide (V.str k.word = V.str "guess") = true → k = .gs := by
  intro k; cases k <;> decide +kernel
theorem sc_bound_arity : FnScope ["formula"] ["formula"] (defScope (top 44)) := ⟨rfl, rfl, rfl, by decide +kernel, rfl, by decide +kernel, by decide +kernel⟩
theorem has_bound_arity (D : Def K mg "bound_arity" ["formula"] (top 44)) (T : Txt mg) : Has P w K mg base 1 "bound_arity" ["formula"] (spBArity K) := D.has fun f fd F => by
  refine F.ok sc_bound_arity (fun vs H Q E h => ?_) (fun cdv A outer s H vs Q E hr h => ?_)
  · obtain ⟨v, h, ds, n, k, rfl, _⟩ := h; rfl
  · obtain ⟨v, h, ds, n, k, rfl, dp, b, q⟩ := h
    refine ⟨_, PSs.nox (pss_cons (ps_if (pt_cmpR op_eq (pe_ix ix_tup (pv 0) pe_int (fun _ _ => rfl)) pe_str (nomark _)) (pss_one (ps_ret (pe_ix ix_tup (pv 0) pe_int (fun _ _ => rfl)))) pss_nil) (pss_one (ps_ret (pe_callB call_len_seq (by rfl) T.n_len PySem.boot_len (pa_cons (pe_ix ix_tup (pv 0) pe_int (fun _ _ => rfl)) pa_nil))))), ?_⟩
    obtain ⟨a, xs, rfl, hT, hx⟩ := hd_inv dp
    refine ⟨_, rfl, a, _, _, _, rfl, rfl, hT, atI_nat (j := 0) rfl, rfl, _, rfl, ite2 (fun e => ?_) (fun e => ?_)⟩
    · have ek := kd_gs _ e
      have g : (h.rest ds)[1]? = some (.int k) := by cases h <;> first | (cases b; rfl) | cases ek
      obtain ⟨v2, g2, g3⟩ := DpAll.get hx g
      rw [Dp.int_inv g3] at g2
      exact ⟨_, rfl, a, _, _, _, rfl, rfl, hT, atI_nat (j := 2) (atS g2), q _ (.refl _)⟩
    · have g : ∃ us : List Str, (h.rest ds)[1]? = some (tS us) ∧ us.length = k := by
        cases h <;> first | (cases b; exact ⟨_, rfl, rfl⟩) | (cases b; exact absurd rfl e) | cases b
      obtain ⟨us, g, rfl⟩ := g
      obtain ⟨v2, g2, g3⟩ := DpAll.get hx g
      obtain ⟨t, rfl, ht⟩ := tS_inv g3
      refine ⟨_, rfl, a, _, _, _, rfl, rfl, hT, atI_nat (j := 2) (atS g2), t, _, rfl, .inr ht, ?_⟩
      have := q _ (.refl H)
      rw [List.length_map]
      exact this
/-- are these variables, as many as one of the counts -/
noncomputable def allNm (as : List Str) : Bool := as.all isNm
def spAreVars (K : PySem.W.Frag) : Sp := fun vs H Q _ => ∃ (v : V) (as : List Str) (c : Addr) (ns : List Int), vs = [v, .ref c] ∧ Dp K H v (tS as) ∧ SqT K H c (ns.map V.int) ∧ (∀ z, z ∈ as → z.length ≤ sizeLine) ∧ as.length ≤ 1000 ∧
  ∀ (H' : Hp), Same H H' → Q (.bl (decide ((as.length : Int) ∈ ns) && allNm as)) H'
theorem inV_int {i : Int} : ∀ {ns : List Int}, inV (.int i) (ns.map V.int) = decide (i ∈ ns)
  | [] => by simp [inV]
  | n :: ns => by
    have ih := inV_int (i := i) (ns := ns)
    unfold inV at ih ⊢
    rw [List.map_cons, List.any_cons, ih]
    show ((n == i) || _) = _
    by_cases e : n = i
    · subst e; simp
    · have e2 : i ≠ n := fun z => e z.symm
      simp [e, e2]
theorem flat_ints : ∀ (ns : List Int), (ns.map V.int).all flatV = true
  | [] => rfl
  | n :: ns => by rw [List.map_cons, List.all_cons, flat_ints ns]; rfl
theorem flat_strs : ∀ (ns : List Str), (ns.map V.str).all flatV = true
  | [] => rfl
  | n :: ns => by rw [List.map_cons, List.all_cons, flat_strs ns]; rfl
theorem ty_tup {H : Hp} {a : Addr} {xs : List V} (h : SqT K H a xs) : TyX K H (.ref a) (.type "tuple") := by
  rcases h with (h | ⟨o, h⟩) | ⟨o, its, n, h, c, _⟩
  · exact .base (.tup h)
  · exact .fTuple h
  · exact .kTuple h c
theorem get_str {ns : List Str} {i : Nat} {y : V} (h : (ns.map V.str)[i]? = some y) : ∃ z, ns[i]? = some z ∧ y = .str z := by
  rw [List.getElem?_map] at h
  cases e : ns[i]? with
  | none => rw [e] at h; cases h
  | some z => rw [e] at h; exact ⟨z, rfl, (Option.some.inj h).symm⟩
theorem sc_are_variables : FnScope ["value", "counts", "variable"] ["value", "counts"] (defScope (top 24)) := ⟨rfl, rfl, rfl, by decide +kernel, rfl, by decide +kernel, by decide +kernel⟩
theorem has_are_variables (D : Def K mg "_are_variables" ["value", "counts"] (top 24)) (T : Txt mg) (C1 : Has P w K mg base 1 "is_name" ["text"] (spIsName K)) : Has P w K mg base 2 "_are_variables" ["value", "counts"] (spAreVars K) := D.has fun f fd F => by
  obtain ⟨f1, fd1, G_is_name, g_is_name, k_is_name, b_is_name⟩ := C1
  refine F.ok sc_are_variables (fun vs H Q E h => ?_) (fun cdv A outer s H vs Q E hr h => ?_)
  · obtain ⟨v, as, c, ns, rfl, _⟩ := h; rfl
  · obtain ⟨v, as, c, ns, rfl, dp, hc, lz, few, q⟩ := h
    have R_is_name : Room 1 _ := hr.mono (by decide)
    refine ⟨_, PSs.nox (pss_cons (ps_if (PW.pt (pw_or (pt_not (pt_val (pe_callB call_isi (by rfl) T.n_isinstance (by decide +kernel) (pa_cons (pv 0) (pa_cons (pe_bltn (v := .ty "tuple") (by rfl) T.n_tuple (by decide +kernel) rfl) pa_nil))))) (pw_or1 (pt_cmpR op_notIn_seq (pe_callB call_len_seq (by rfl) T.n_len PySem.boot_len (pa_cons (pv 0) pa_nil)) (pv 1) (by rfl))))) (pss_one (ps_ret pe_bl)) pss_nil) (pss_one (ps_ret (pe_callB (cr_all rfl) (by rfl) T.n_all (by decide +kernel) (pa_cons (pe_lc (own := [("variable", 2)]) rfl sc_are_variables.nd (pi_tup (pv 0)) (blkOk_by (N := ["value", "counts", "variable"]) (sc := defScope (top 24)) (by decide +kernel)) (fun _ _ _ _ _ => (pg_name (i := 2) sc_are_variables.nd rfl (Or.inl rfl))) (fun _ _ _ _ _ => pts_nil) (fun _ _ _ _ _ => (pe_call G_is_name R_is_name (by rfl) g_is_name k_is_name b_is_name .nil pass0 (pa_cons (pv 2) pa_nil)))) pa_nil))))), ?_⟩
    obtain ⟨t, rfl, ht⟩ := tS_inv dp
    refine ⟨_, rfl, _, _, _, _, _, rfl, .ty _, ty_tup ht, kit_ty (b := "tuple") (r := true) (by decide +kernel), _, rfl, iteF ?_⟩
    refine ⟨_, rfl, t, _, rfl, .inr ht, _, rfl, c, _, rfl, .inr hc, rfl, flat_ints ns, _, rfl, ?_⟩
    have el : inV (.int ((as.map V.str).length : Nat)) (ns.map V.int) = decide ((as.length : Int) ∈ ns) := by rw [List.length_map]; exact inV_int
    cases hin : decide ((as.length : Int) ∈ ns) with
    | false =>
      rw [hin] at el
      refine cT (k := !inV (.int ((as.map V.str).length : Nat)) (ns.map V.int)) (by rw [el]; rfl) ?_
      have := q H (.refl H)
      rw [hin] at this
      exact this
    | true =>
      rw [hin] at el
      refine cF (k := !inV (.int ((as.map V.str).length : Nat)) (ns.map V.int)) (by rw [el]; rfl) ?_
      refine ⟨_, rfl, t, rfl, ⟨_, ht⟩, fun L nL => ?_⟩
      refine lc_it (walk_tup (K := K) (a := t) (xs := as.map V.str)) (fun i H2 => H2 L = some (.lst (((as.take i).map isNm).map V.bl)) ∧ Same H H2) ⟨upd_same, same_upd nL⟩ (fun i H2 _ ⟨_, s2⟩ => Same.sqt s2 ht) ?_ ?_
      · rintro i y H2 H3 hi ⟨hL, s2⟩ ⟨rfl, hy⟩
        obtain ⟨z, hz, rfl⟩ := get_str hy
        refine ⟨rfl, _, rfl, .inl ⟨z, rfl, lz z (List.mem_of_getElem? hz), _, hL, ?_, ?_, fun b o eb => ?_⟩⟩
        · rw [List.length_map, List.length_map]
          exact Nat.lt_of_le_of_lt (List.length_take_le' _ _) (small1000 few)
        · rw [upd_same, List.take_add_one, hz, List.map_append, List.map_append]
          rfl
        · rw [upd_ne (ne_of_none eb nL)]
          exact s2 _ _ eb
      · rintro H2 ⟨hL, s2⟩
        have et : as.take (as.map V.str).length = as := by rw [List.length_map]; exact List.take_length
        rw [et] at hL
        refine ⟨L, as.map isNm, rfl, SqL.of hL, ?_⟩
        have e2 : (as.map isNm).all id = allNm as := by rw [List.all_map]; rfl
        have := q H2 s2
        rw [hin] at this
        show Q (.bl ((as.map isNm).all id)) H2
        rw [e2]
        exact this
end
section
variable {P : Program} {w : World} {K : PySem.W.Frag} {mg : Str → Option Value} {base : Heap}
def spAreDiff (K : PySem.W.Frag) : Sp := fun vs H Q _ => ∃ (v : V) (as : List Str) (c : Addr) (ns : List Int), vs = [v, .ref c] ∧ Dp K H v (tS as) ∧ SqT K H c (ns.map V.int) ∧ (∀ z, z ∈ as → z.length ≤ sizeLine) ∧ as.length ≤ 1000 ∧
  ∀ (H' : Hp), Same H H' → Q (.bl ((decide ((as.length : Int) ∈ ns) && allNm as) && decide as.Nodup)) H'
theorem strs_kV (as : List Str) : (as.map (Sum.inr : Str → Key)).map kV = as.map V.str := by
  rw [List.map_map]; rfl
theorem nodup_inr {as : List Str} : (as.map (Sum.inr : Str → Key)).Nodup ↔ as.Nodup := by
  constructor
  · intro h
    exact List.Pairwise.of_map _ (fun a b hne e => hne (congrArg _ e)) h
  · intro h
    exact List.Pairwise.map _ (fun a b hne e => hne (Sum.inr.inj e)) h
theorem sc_are_different : FnScope ["value", "counts"] ["value", "counts"] (defScope (top 25)) := ⟨rfl, rfl, rfl, by decide +kernel, rfl, by decide +kernel, by decide +kernel⟩
theorem has_are_different (D : Def K mg "are_different" ["value", "counts"] (top 25)) (T : Txt mg) (C1 : Has P w K mg base 2 "_are_variables" ["value", "counts"] (spAreVars K)) : Has P w K mg base 3 "are_different" ["value", "counts"] (spAreDiff K) := D.has fun f fd F => by
  obtain ⟨f1, fd1, G_are_variables, g_are_variables, k_are_variables, b_are_variables⟩ := C1
  refine F.ok sc_are_different (fun vs H Q E h => ?_) (fun cdv A outer s H vs Q E hr h => ?_)
  · obtain ⟨v, as, c, ns, rfl, _⟩ := h; rfl
  · obtain ⟨v, as, c, ns, rfl, dp, hc, lz, few, q⟩ := h
    have R_are_variables : Room 2 _ := hr.mono (by decide)
    refine ⟨_, PSs.nox (pss_one (ps_ret (pe_and (pe_call G_are_variables R_are_variables (by rfl) g_are_variables k_are_variables b_are_variables .nil pass0 (pa_cons (pv 0) (pa_cons (pv 1) pa_nil))) (pe_one (pe_cmpR op_eq (pe_callB call_lenSK (by rfl) T.n_len PySem.boot_len (pa_cons (pe_callTy (cr_setK rfl) (by rfl) T.n_set (by decide +kernel) (pa_cons (pv 0) pa_nil)) pa_nil)) (pe_callB call_len_seq (by rfl) T.n_len PySem.boot_len (pa_cons (pv 0) pa_nil)) (nomark _)))))), ?_⟩
    refine ⟨_, rfl, _, rfl, v, as, c, ns, rfl, dp, hc, lz, few, fun H1 s1 => ⟨_, rfl, ?_⟩⟩
    cases hb : (decide ((as.length : Int) ∈ ns) && allNm as) with
    | false =>
      refine iteF ?_
      have := q H1 s1
      rw [hb] at this
      exact this
    | true =>
      refine iteT ?_
      obtain ⟨t, rfl, ht⟩ := tS_inv (Dp.same s1 dp)
      refine ⟨_, rfl, t, as.map Sum.inr, rfl, .inr (by rw [strs_kV]; exact ht), (by rw [List.length_map]; omega), fun p c2 np hc2 => ?_⟩
      have s2 := s1.trans (same_upd (o := SetK P w p (memK (as.map Sum.inr)) c2) np)
      refine ⟨p, _, _, rfl, upd_same, _, rfl, t, _, rfl, .inr (Same.sqt (same_upd np) ht), rfl, ?_⟩
      have := q _ s2
      rw [hb] at this
      have e : decide (V.int (c2 : Nat) = V.int ((as.map V.str).length : Nat)) = (true && decide as.Nodup) := by
        have z := hc2.all
        rw [nodup_inr, List.length_map] at z
        rw [List.length_map]
        by_cases hn : as.Nodup
        · rw [z.mpr hn, decide_eq_true hn]
          exact decide_eq_true rfl
        · rw [decide_eq_false hn]
          refine decide_eq_false fun h => hn (z.mp ?_)
          have h2 : (c2 : Int) = (as.length : Nat) := V.int.inj h
          omega
      show Q (.bl (decide (V.int (c2 : Nat) = V.int ((as.map V.str).length : Nat)))) _
      rw [e]
      exact this
/-- the promise of a test of heads -/
def spTest (K : PySem.W.Frag) (x : Str) : Sp := fun vs H Q _ => ∃ (v : V) (h : Hd) (ds : List PyData), vs = [v] ∧ Dp K H v (h.data ds) ∧ h.Ok ds.length ∧ h.kd.test = x ∧ ∀ (H' : Hp), Same H H' → Q (.bl true) H'
theorem Nm.short {z : Str} (n : Nm z) : z.length ≤ sizeLine := Nat.le_trans n.hi (by decide)
theorem names_all {as : List Str} (h : Names as) : allNm as = true := List.all_eq_true.mpr fun z hz => isNm_t (h z hz)
theorem names_short {as : List Str} (h : Names as) : ∀ z, z ∈ as → z.length ≤ sizeLine := fun z hz => (h z hz).short
theorem vars_t {as : List Str} {ns : List Int} (h : Names as) (m : (as.length : Int) ∈ ns) : (decide ((as.length : Int) ∈ ns) && allNm as) = true := by
  rw [decide_eq_true m, names_all h]; rfl
theorem diff_t {as : List Str} {ns : List Int} (h : Names as) (m : (as.length : Int) ∈ ns) (d : as.Nodup) : ((decide ((as.length : Int) ∈ ns) && allNm as) && decide as.Nodup) = true := by
  rw [vars_t h m, decide_eq_true d]; rfl
theorem kd_tn : ∀ (k : Kd), (k.test = "_is_rel" → k = .rel) ∧ (k.test = "_is_comparison" → k = .eq ∨ k = .less) ∧ (k.test = "_is_joined" → k = .con ∨ k = .dis) ∧ (k.test = "_is_quantified" → k = .ex ∨ k = .al) ∧
    (k.test = "_is_fixed_point" → k = .lfp ∨ k = .pfp) ∧ (k.test = "_is_closure" → k = .tc) ∧ (k.test = "_is_guess" → k = .gs) := by
  intro k; cases k <;> decide +kernel
theorem sc_is_rel : FnScope ["value"] ["value"] (defScope (top 26)) := ⟨rfl, rfl, rfl, by decide +kernel, rfl, by decide +kernel, by decide +kernel⟩
theorem has_is_rel (D : Def K mg "_is_rel" ["value"] (top 26)) (S : Shp K w mg) (C1 : Has P w K mg base 1 "is_name" ["text"] (spIsName K)) (C2 : Has P w K mg base 2 "_are_variables" ["value", "counts"] (spAreVars K)) : Has P w K mg base 4 "_is_rel" ["value"] (spTest K "_is_rel") := D.has fun f fd F => by
  obtain ⟨f1, fd1, G_is_name, g_is_name, k_is_name, b_is_name⟩ := C1
  obtain ⟨f2, fd2, G_are_variables, g_are_variables, k_are_variables, b_are_variables⟩ := C2
  have c_REL_COUNTS := S.relG
  refine F.ok sc_is_rel (fun vs H Q E h => ?_) (fun cdv A outer s H vs Q E hr h => ?_)
  · obtain ⟨v, h, ds, rfl, _⟩ := h; rfl
  · obtain ⟨v, h, ds, rfl, dp, ok, tn, q⟩ := h
    have R_is_name : Room 1 _ := hr.mono (by decide)
    have R_are_variables : Room 2 _ := hr.mono (by decide)
    refine ⟨_, PSs.nox (pss_one (ps_ret (pe_and (pe_call G_is_name R_is_name (by rfl) g_is_name k_is_name b_is_name .nil pass0 (pa_cons (pe_ix ix_tup (pv 0) pe_int (fun _ _ => rfl)) pa_nil)) (pe_one (pe_call G_are_variables R_are_variables (by rfl) g_are_variables k_are_variables b_are_variables .nil pass0 (pa_cons (pe_ix ix_tup (pv 0) pe_int (fun _ _ => rfl)) (pa_cons (pe_glob (v := .ref (He.ga K "REL_COUNTS")) (by rfl) c_REL_COUNTS rfl) pa_nil))))))), ?_⟩
    have ek := (kd_tn _).1 tn
    cases h with
    | rel n as =>
      obtain ⟨hn, hl, hs, _⟩ := ok
      obtain ⟨a, xs, rfl, hT, hx⟩ := hd_inv dp
      obtain ⟨v1, ws, rfl, h1, h2⟩ := DpAll.cons_inv hx
      obtain ⟨v2, ws2, rfl, h3, h4⟩ := DpAll.cons_inv h2
      rw [Dp.str_inv h1] at hT
      refine ⟨_, rfl, a, _, _, _, rfl, rfl, hT, atI_nat (j := 1) rfl, .inl ⟨n, rfl, hn.short, _, rfl, ?_⟩⟩
      refine cT (isNm_t hn) ⟨_, rfl, a, _, _, _, rfl, rfl, hT, atI_nat (j := 2) rfl, v2, as, _, [0, 1, 2, 3, 4, 5, 6], rfl, h3, S.relC _, names_short hs, by omega, fun H1 s1 => ?_⟩
      have m : (as.length : Int) ∈ ([0, 1, 2, 3, 4, 5, 6] : List Int) := by simp only [List.mem_cons, List.not_mem_nil, or_false]; omega
      rw [vars_t hs m]
      exact q H1 s1
    | _ => cases ek
theorem sc_is_comparison : FnScope ["value"] ["value"] (defScope (top 27)) := ⟨rfl, rfl, rfl, by decide +kernel, rfl, by decide +kernel, by decide +kernel⟩
theorem has_is_comparison (D : Def K mg "_is_comparison" ["value"] (top 27)) (C1 : Has P w K mg base 1 "is_name" ["text"] (spIsName K)) : Has P w K mg base 4 "_is_comparison" ["value"] (spTest K "_is_comparison") := D.has fun f fd F => by
  obtain ⟨f1, fd1, G_is_name, g_is_name, k_is_name, b_is_name⟩ := C1
  refine F.ok sc_is_comparison (fun vs H Q E h => ?_) (fun cdv A outer s H vs Q E hr h => ?_)
  · obtain ⟨v, h, ds, rfl, _⟩ := h; rfl
  · obtain ⟨v, h, ds, rfl, dp, ok, tn, q⟩ := h
    have R_is_name : Room 1 _ := hr.mono (by decide)
    refine ⟨_, PSs.nox (pss_one (ps_ret (pe_and (pe_call G_is_name R_is_name (by rfl) g_is_name k_is_name b_is_name .nil pass0 (pa_cons (pe_ix ix_tup (pv 0) pe_int (fun _ _ => rfl)) pa_nil)) (pe_one (pe_call G_is_name R_is_name (by rfl) g_is_name k_is_name b_is_name .nil pass0 (pa_cons (pe_ix ix_tup (pv 0) pe_int (fun _ _ => rfl)) pa_nil)))))), ?_⟩
    have two : ∃ x y, Nm x ∧ Nm y ∧ h.rest ds = [.str x, .str y] := by
      rcases (kd_tn _).2.1 tn with e | e <;> cases h <;> first | exact ⟨_, _, ok.1, ok.2.1, rfl⟩ | cases e
    obtain ⟨x, y, nx, ny, e⟩ := two
    obtain ⟨a, xs, rfl, hT, hx⟩ := hd_inv dp
    rw [e] at hx
    rw [DpAll.strs (as := [x, y]) hx] at hT
    refine ⟨_, rfl, a, _, _, _, rfl, rfl, hT, atI_nat (j := 1) rfl, .inl ⟨x, rfl, nx.short, _, rfl, ?_⟩⟩
    refine cT (isNm_t nx) ⟨_, rfl, a, _, _, _, rfl, rfl, hT, atI_nat (j := 2) rfl, .inl ⟨y, rfl, ny.short, ?_⟩⟩
    rw [isNm_t ny]
    exact q H (.refl H)
theorem sc_is_negation : FnScope ["_value"] ["_value"] (defScope (top 28)) := ⟨rfl, rfl, rfl, by decide +kernel, rfl, by decide +kernel, by decide +kernel⟩
theorem has_is_negation (D : Def K mg "_is_negation" ["_value"] (top 28)) : Has P w K mg base 4 "_is_negation" ["_value"] (spTest K "_is_negation") := D.has fun f fd F => by
  refine F.ok sc_is_negation (fun vs H Q E h => ?_) (fun cdv A outer s H vs Q E hr h => ?_)
  · obtain ⟨v, h, ds, rfl, _⟩ := h; rfl
  · obtain ⟨v, h, ds, rfl, dp, ok, tn, q⟩ := h
    exact ⟨_, PSs.nox (pss_one (ps_ret pe_bl)), q H (.refl H)⟩
theorem sc_is_joined : FnScope ["value"] ["value"] (defScope (top 29)) := ⟨rfl, rfl, rfl, by decide +kernel, rfl, by decide +kernel, by decide +kernel⟩
theorem has_is_joined (D : Def K mg "_is_joined" ["value"] (top 29)) (T : Txt mg) (S : Shp K w mg) : Has P w K mg base 4 "_is_joined" ["value"] (spTest K "_is_joined") := D.has fun f fd F => by
  obtain ⟨t1, c_MOST_JOINED⟩ := S.joined
  refine F.ok sc_is_joined (fun vs H Q E h => ?_) (fun cdv A outer s H vs Q E hr h => ?_)
  · obtain ⟨v, h, ds, rfl, _⟩ := h; rfl
  · obtain ⟨v, h, ds, rfl, dp, ok, tn, q⟩ := h
    refine ⟨_, PSs.nox (pss_one (ps_ret (pe_and (pe_callB call_isi (by rfl) T.n_isinstance (by decide +kernel) (pa_cons (pe_ix ix_tup (pv 0) pe_int (fun _ _ => rfl)) (pa_cons (pe_bltn (v := .ty "tuple") (by rfl) T.n_tuple (by decide +kernel) rfl) pa_nil))) (pe_one (pe_cmpR op_le (pe_callB call_len_seq (by rfl) T.n_len PySem.boot_len (pa_cons (pe_ix ix_tup (pv 0) pe_int (fun _ _ => rfl)) pa_nil)) (pe_glob (v := .int 40) (by rfl) c_MOST_JOINED ⟨_, rfl⟩) (nomark _)))))), ?_⟩
    have two : ds.length ≤ 40 ∧ h.rest ds = [.tuple ds] := by
      rcases (kd_tn _).2.2.1 tn with e | e <;> cases h <;> first | exact ⟨ok, rfl⟩ | cases e
    obtain ⟨l40, e⟩ := two
    obtain ⟨a, xs, rfl, hT, hx⟩ := hd_inv dp
    rw [e] at hx
    obtain ⟨v1, ws, rfl, h1, h2⟩ := DpAll.cons_inv hx
    obtain ⟨b, ys, rfl, hb, hy⟩ := Dp.tup_inv h1
    refine ⟨_, rfl, a, _, _, _, rfl, rfl, hT, atI_nat (j := 1) rfl, _, _, _, _, _, rfl, .ty _, ty_tup hb, kit_ty (b := "tuple") (r := true) (by decide +kernel), _, rfl, iteT ?_⟩
    refine ⟨_, rfl, a, _, _, _, rfl, rfl, hT, atI_nat (j := 1) rfl, b, _, rfl, .inr hb, _, _, rfl, rfl, ?_⟩
    show Q (.bl (decide (((ys.length : Nat) : Int) ≤ 40))) H
    rw [decide_eq_true (show ((ys.length : Nat) : Int) ≤ 40 by rw [DpAll.length hy]; omega)]
    exact q H (.refl H)
theorem sc_is_quantified : FnScope ["value"] ["value"] (defScope (top 30)) := ⟨rfl, rfl, rfl, by decide +kernel, rfl, by decide +kernel, by decide +kernel⟩
theorem has_is_quantified (D : Def K mg "_is_quantified" ["value"] (top 30)) (S : Shp K w mg) (C2 : Has P w K mg base 3 "are_different" ["value", "counts"] (spAreDiff K)) : Has P w K mg base 4 "_is_quantified" ["value"] (spTest K "_is_quantified") := D.has fun f fd F => by
  obtain ⟨f2, fd2, G_are_different, g_are_different, k_are_different, b_are_different⟩ := C2
  have c_OWN_COUNTS := S.ownG
  refine F.ok sc_is_quantified (fun vs H Q E h => ?_) (fun cdv A outer s H vs Q E hr h => ?_)
  · obtain ⟨v, h, ds, rfl, _⟩ := h; rfl
  · obtain ⟨v, h, ds, rfl, dp, ok, tn, q⟩ := h
    have R_are_different : Room 3 _ := hr.mono (by decide)
    refine ⟨_, PSs.nox (pss_one (ps_ret (pe_call G_are_different R_are_different (by rfl) g_are_different k_are_different b_are_different .nil pass0 (pa_cons (pe_ix ix_tup (pv 0) pe_int (fun _ _ => rfl)) (pa_cons (pe_glob (v := .ref (He.ga K "OWN_COUNTS")) (by rfl) c_OWN_COUNTS rfl) pa_nil))))), ?_⟩
    have two : ∃ us, OwnOk us ∧ h.rest ds = tS us :: ds := by
      rcases (kd_tn _).2.2.2.1 tn with e | e <;> cases h <;> first | exact ⟨_, ok.1, rfl⟩ | cases e
    obtain ⟨us, ⟨o1, o6, on, od⟩, e⟩ := two
    obtain ⟨a, xs, rfl, hT, hx⟩ := hd_inv dp
    rw [e] at hx
    obtain ⟨v1, ws, rfl, h1, h2⟩ := DpAll.cons_inv hx
    refine ⟨_, rfl, a, _, _, _, rfl, rfl, hT, atI_nat (j := 1) rfl, v1, us, _, [1, 2, 3, 4, 5, 6], rfl, h1, S.ownC _, names_short on, by omega, fun H1 s1 => ?_⟩
    have m : (us.length : Int) ∈ ([1, 2, 3, 4, 5, 6] : List Int) := by simp only [List.mem_cons, List.not_mem_nil, or_false]; omega
    rw [diff_t on m od]
    exact q H1 s1
theorem sc_is_fixed_point : FnScope ["value"] ["value"] (defScope (top 31)) := ⟨rfl, rfl, rfl, by decide +kernel, rfl, by decide +kernel, by decide +kernel⟩
theorem has_is_fixed_point (D : Def K mg "_is_fixed_point" ["value"] (top 31)) (T : Txt mg) (S : Shp K w mg) (C1 : Has P w K mg base 1 "is_name" ["text"] (spIsName K)) (C2 : Has P w K mg base 2 "_are_variables" ["value", "counts"] (spAreVars K))
    (C3 : Has P w K mg base 3 "are_different" ["value", "counts"] (spAreDiff K)) : Has P w K mg base 4 "_is_fixed_point" ["value"] (spTest K "_is_fixed_point") := D.has fun f fd F => by
  obtain ⟨f1, fd1, G_is_name, g_is_name, k_is_name, b_is_name⟩ := C1
  obtain ⟨f2, fd2, G_are_variables, g_are_variables, k_are_variables, b_are_variables⟩ := C2
  obtain ⟨f3, fd3, G_are_different, g_are_different, k_are_different, b_are_different⟩ := C3
  have c_OWN_COUNTS := S.ownG
  refine F.ok sc_is_fixed_point (fun vs H Q E h => ?_) (fun cdv A outer s H vs Q E hr h => ?_)
  · obtain ⟨v, h, ds, rfl, _⟩ := h; rfl
  · obtain ⟨v, h, ds, rfl, dp, ok, tn, q⟩ := h
    have R_is_name : Room 1 _ := hr.mono (by decide)
    have R_are_variables : Room 2 _ := hr.mono (by decide)
    have R_are_different : Room 3 _ := hr.mono (by decide)
    refine ⟨_, PSs.nox (pss_cons (ps_if (PW.pt (pw_or (pt_not (pt_val (pe_call G_is_name R_is_name (by rfl) g_is_name k_is_name b_is_name .nil pass0 (pa_cons (pe_ix ix_tup (pv 0) pe_int (fun _ _ => rfl)) pa_nil)))) (pw_or1 (pt_not (pt_val (pe_call G_are_different R_are_different (by rfl) g_are_different k_are_different b_are_different .nil pass0 (pa_cons (pe_ix ix_tup (pv 0) pe_int (fun _ _ => rfl)) (pa_cons (pe_glob (v := .ref (He.ga K "OWN_COUNTS")) (by rfl) c_OWN_COUNTS rfl) pa_nil)))))))) (pss_one (ps_ret pe_bl)) pss_nil) (pss_one (ps_ret (pe_call G_are_variables R_are_variables (by rfl) g_are_variables k_are_variables b_are_variables .nil pass0 (pa_cons (pe_ix ix_tup (pv 0) pe_int (fun _ _ => rfl)) (pa_cons (pe_tup (pa_cons (pe_callB call_len_seq (by rfl) T.n_len PySem.boot_len (pa_cons (pe_ix ix_tup (pv 0) pe_int (fun _ _ => rfl)) pa_nil)) pa_nil)) pa_nil)))))), ?_⟩
    have two : ∃ n us as d, Nm n ∧ OwnOk us ∧ as.length = us.length ∧ Names as ∧ h.rest ds = [.str n, tS us, d, tS as] := by
      rcases (kd_tn _).2.2.2.2.1 tn with e | e <;> cases h <;> first | cases e; done | skip
      all_goals first | cases e; done | (obtain ⟨a1, a2, a3, a4, a5⟩ := ok; obtain ⟨d, rfl⟩ := List.length_eq_one_iff.mp a5; exact ⟨_, _, _, d, a1, a2, a3, a4, rfl⟩)
    obtain ⟨n, us, as, d, nn, ⟨o1, o6, on, od⟩, el, an, e⟩ := two
    obtain ⟨a, xs, rfl, hT, hx⟩ := hd_inv dp
    rw [e] at hx
    obtain ⟨v1, ws1, rfl, h1, hx⟩ := DpAll.cons_inv hx
    obtain ⟨v2, ws2, rfl, h2, hx⟩ := DpAll.cons_inv hx
    obtain ⟨v3, ws3, rfl, h3, hx⟩ := DpAll.cons_inv hx
    obtain ⟨v4, ws4, rfl, h4, hx⟩ := DpAll.cons_inv hx
    rw [Dp.str_inv h1] at hT
    refine ⟨_, rfl, a, _, _, _, rfl, rfl, hT, atI_nat (j := 1) rfl, .inl ⟨n, rfl, nn.short, _, rfl, ?_⟩⟩
    refine cF (k := !isNm n) (by rw [isNm_t nn]; rfl) ?_
    refine ⟨_, rfl, a, _, _, _, rfl, rfl, hT, atI_nat (j := 2) rfl, v2, us, _, [1, 2, 3, 4, 5, 6], rfl, h2, S.ownC _, names_short on, by omega, fun H1 s1 => ⟨_, rfl, ?_⟩⟩
    have m : (us.length : Int) ∈ ([1, 2, 3, 4, 5, 6] : List Int) := by simp only [List.mem_cons, List.not_mem_nil, or_false]; omega
    refine cF (k := !_) (by rw [diff_t on m od]; rfl) ?_
    have hT1 := Same.sqt s1 hT
    obtain ⟨t2, rfl, ht2⟩ := tS_inv (Dp.same s1 h2)
    refine ⟨_, rfl, a, _, _, _, rfl, rfl, hT1, atI_nat (j := 4) rfl, _, rfl, a, _, _, _, rfl, rfl, hT1, atI_nat (j := 2) rfl, t2, _, rfl, .inr ht2, (by show 1 ≤ sizeLine; decide), fun p np => ?_⟩
    refine ⟨v4, as, p, [((us.map V.str).length : Nat)], rfl, Dp.same (s1.trans (same_upd np)) h4, SqT.of upd_same, names_short an, by omega, fun H2 s2 => ?_⟩
    have m2 : (as.length : Int) ∈ ([((us.map V.str).length : Nat)] : List Int) := by rw [List.length_map, el]; exact List.mem_singleton.mpr rfl
    rw [vars_t an m2]
    exact q H2 ((s1.trans (same_upd np)).trans s2)
theorem sc_is_closure : FnScope ["value"] ["value"] (defScope (top 32)) := ⟨rfl, rfl, rfl, by decide +kernel, rfl, by decide +kernel, by decide +kernel⟩
theorem has_is_closure (D : Def K mg "_is_closure" ["value"] (top 32)) (T : Txt mg) (S : Shp K w mg) (C2 : Has P w K mg base 2 "_are_variables" ["value", "counts"] (spAreVars K))
    (C3 : Has P w K mg base 3 "are_different" ["value", "counts"] (spAreDiff K)) : Has P w K mg base 4 "_is_closure" ["value"] (spTest K "_is_closure") := D.has fun f fd F => by
  obtain ⟨f2, fd2, G_are_variables, g_are_variables, k_are_variables, b_are_variables⟩ := C2
  obtain ⟨f3, fd3, G_are_different, g_are_different, k_are_different, b_are_different⟩ := C3
  have c_TC_COUNTS := S.tcG
  refine F.ok sc_is_closure (fun vs H Q E h => ?_) (fun cdv A outer s H vs Q E hr h => ?_)
  · obtain ⟨v, h, ds, rfl, _⟩ := h; rfl
  · obtain ⟨v, h, ds, rfl, dp, ok, tn, q⟩ := h
    have R_are_variables : Room 2 _ := hr.mono (by decide)
    have R_are_different : Room 3 _ := hr.mono (by decide)
    refine ⟨_, PSs.nox (pss_one (ps_ret (pe_and (pe_call G_are_different R_are_different (by rfl) g_are_different k_are_different b_are_different .nil pass0 (pa_cons (pe_ix ix_tup (pv 0) pe_int (fun _ _ => rfl)) (pa_cons (pe_glob (v := .ref (He.ga K "TC_COUNTS")) (by rfl) c_TC_COUNTS rfl) pa_nil))) (pe_one (pe_call G_are_variables R_are_variables (by rfl) g_are_variables k_are_variables b_are_variables .nil pass0 (pa_cons (pe_ix ix_tup (pv 0) pe_int (fun _ _ => rfl)) (pa_cons (pe_tup (pa_cons (pe_callB call_len_seq (by rfl) T.n_len PySem.boot_len (pa_cons (pe_ix ix_tup (pv 0) pe_int (fun _ _ => rfl)) pa_nil)) pa_nil)) pa_nil))))))), ?_⟩
    have ek := (kd_tn _).2.2.2.2.2.1 tn
    cases h with
    | tc us as =>
      obtain ⟨lens, on, od, el, an, one⟩ := ok
      obtain ⟨d, rfl⟩ := List.length_eq_one_iff.mp one
      obtain ⟨a, xs, rfl, hT, hx⟩ := hd_inv dp
      obtain ⟨v1, ws1, rfl, h1, hx⟩ := DpAll.cons_inv hx
      obtain ⟨v2, ws2, rfl, h2, hx⟩ := DpAll.cons_inv hx
      obtain ⟨v3, ws3, rfl, h3, hx⟩ := DpAll.cons_inv hx
      refine ⟨_, rfl, a, _, _, _, rfl, rfl, hT, atI_nat (j := 1) rfl, v1, us, _, [2, 4, 6, 8], rfl, h1, S.tcC _, names_short on, by omega, fun H1 s1 => ⟨_, rfl, ?_⟩⟩
      have m : (us.length : Int) ∈ ([2, 4, 6, 8] : List Int) := by simp only [List.mem_cons, List.not_mem_nil, or_false]; omega
      refine cT (diff_t on m od) ?_
      have hT1 := Same.sqt s1 hT
      obtain ⟨t2, rfl, ht2⟩ := tS_inv (Dp.same s1 h1)
      refine ⟨_, rfl, a, _, _, _, rfl, rfl, hT1, atI_nat (j := 3) rfl, _, rfl, a, _, _, _, rfl, rfl, hT1, atI_nat (j := 1) rfl, t2, _, rfl, .inr ht2, (by show 1 ≤ sizeLine; decide), fun p np => ?_⟩
      refine ⟨v3, as, p, [((us.map V.str).length : Nat)], rfl, Dp.same (s1.trans (same_upd np)) h3, SqT.of upd_same, names_short an, by omega, fun H2 s2 => ?_⟩
      have m2 : (as.length : Int) ∈ ([((us.map V.str).length : Nat)] : List Int) := by rw [List.length_map, el]; exact List.mem_singleton.mpr rfl
      rw [vars_t an m2]
      exact q H2 ((s1.trans (same_upd np)).trans s2)
    | _ => cases ek
end
/-! ### whole numbers -/
def isI : V → Bool
  | .int _ => true
  | _ => false
def btw (lo hi : Int) : V → Bool
  | .int i => decide (lo ≤ i) && decide (i ≤ hi)
  | _ => false
def spWhole : Sp := fun vs H Q _ => ∃ x : V, vs = [x] ∧ flatV x = true ∧ Q (.bl (isI x)) H
def spBetween : Sp := fun vs H Q _ => ∃ (x : V) (lo hi : Int), vs = [x, .int lo, .int hi] ∧ flatV x = true ∧ Q (.bl (btw lo hi x)) H
section
variable {P : Program} {w : World} {K : PySem.W.Frag} {mg : Str → Option Value} {base : Heap}
theorem sc_is_whole : FnScope ["value"] ["value"] (defScope (top 6)) := ⟨rfl, rfl, rfl, by decide +kernel, rfl, by decide +kernel, by decide +kernel⟩
theorem has_is_whole (D : Def K mg "is_whole" ["value"] (top 6)) (T : Txt mg) : Has P w K mg base 1 "is_whole" ["value"] spWhole := D.has fun f fd F => by
  refine F.ok sc_is_whole (fun vs H Q E h => ?_) (fun cdv A outer s H vs Q E hr h => ?_)
  · obtain ⟨x, rfl, _⟩ := h; rfl
  · obtain ⟨x, rfl, fx, q⟩ := h
    refine ⟨_, PSs.nox (pss_one (ps_ret (pe_and (pe_callB call_isi (by rfl) T.n_isinstance (by decide +kernel) (pa_cons (pv 0) (pa_cons (pe_bltn (v := .ty "int") (by rfl) T.n_int (by decide +kernel) rfl) pa_nil))) (pe_one (pe_not (pe_callB call_isi (by rfl) T.n_isinstance (by decide +kernel) (pa_cons (pv 0) (pa_cons (pe_bltn (v := .ty "bool") (by rfl) T.n_bool (by decide +kernel) rfl) pa_nil)))))))), ?_⟩
    cases x with
    | int i => exact isi_q rfl (.base (.int i)) (b := true) (by decide +kernel) ⟨_, rfl, iteT (isi_q rfl (.base (.int i)) (b := false) (by decide +kernel) ⟨_, rfl, q⟩)⟩
    | bl b => exact isi_q rfl (.base (.bl b)) (b := true) (by decide +kernel) ⟨_, rfl, iteT (isi_q rfl (.base (.bl b)) (b := true) (by decide +kernel) ⟨_, rfl, q⟩)⟩
    | str z => exact isi_q rfl (.base (.str z)) (b := false) (by decide +kernel) ⟨_, rfl, iteF q⟩
    | non => exact isi_q rfl (.base .non) (b := false) (by decide +kernel) ⟨_, rfl, iteF q⟩
    | byt _ => cases fx
    | flt _ => cases fx
    | ref _ => cases fx
    | ty _ => cases fx
theorem sc_is_between : FnScope ["value", "low", "high"] ["value", "low", "high"] (defScope (top 7)) := ⟨rfl, rfl, rfl, by decide +kernel, rfl, by decide +kernel, by decide +kernel⟩
theorem has_is_between (D : Def K mg "is_between" ["value", "low", "high"] (top 7)) (C1 : Has P w K mg base 1 "is_whole" ["value"] spWhole) : Has P w K mg base 2 "is_between" ["value", "low", "high"] spBetween := D.has fun f fd F => by
  obtain ⟨f1, fd1, G_is_whole, g_is_whole, k_is_whole, b_is_whole⟩ := C1
  refine F.ok sc_is_between (fun vs H Q E h => ?_) (fun cdv A outer s H vs Q E hr h => ?_)
  · obtain ⟨x, lo, hi, rfl, _⟩ := h; rfl
  · obtain ⟨x, lo, hi, rfl, fx, q⟩ := h
    have R_is_whole : Room 1 _ := hr.mono (by decide)
    refine ⟨_, PSs.nox (pss_one (ps_ret (pe_and (pe_call G_is_whole R_is_whole (by rfl) g_is_whole k_is_whole b_is_whole .nil pass0 (pa_cons (pv 0) pa_nil)) (pe_one (pe_chain op_le op_le (pv 1) (pv 0) (pv 2)))))), ?_⟩
    refine ⟨_, rfl, x, rfl, fx, _, rfl, ?_⟩
    cases x with
    | int i =>
      refine iteT ⟨_, rfl, _, rfl, _, _, rfl, rfl, _, rfl, ?_⟩
      have q' : Q (.bl (decide (lo ≤ i) && decide (i ≤ hi))) H := q
      by_cases e : lo ≤ i
      · refine cT (decide_eq_true e) ⟨_, rfl, _, _, rfl, rfl, ?_⟩
        rw [decide_eq_true e] at q'
        exact q'
      · refine cF (decide_eq_false e) ?_
        rw [decide_eq_false e] at q'
        exact q'
    | bl b => exact iteF q
    | str z => exact iteF q
    | non => exact iteF q
    | byt _ => cases fx
    | flt _ => cases fx
    | ref _ => cases fx
    | ty _ => cases fx
end
section
variable {P : Program} {w : World} {K : PySem.W.Frag} {mg : Str → Option Value} {base : Heap}
theorem sc_is_guess : FnScope ["value"] ["value"] (defScope (top 33)) := ⟨rfl, rfl, rfl, by decide +kernel, rfl, by decide +kernel, by decide +kernel⟩
theorem has_is_guess (D : Def K mg "_is_guess" ["value"] (top 33)) (S : Shp K w mg) (C1 : Has P w K mg base 1 "is_name" ["text"] (spIsName K)) (C2 : Has P w K mg base 2 "is_between" ["value", "low", "high"] spBetween) : Has P w K mg base 4 "_is_guess" ["value"] (spTest K "_is_guess") := D.has fun f fd F => by
  obtain ⟨f1, fd1, G_is_name, g_is_name, k_is_name, b_is_name⟩ := C1
  obtain ⟨f2, fd2, G_is_between, g_is_between, k_is_between, b_is_between⟩ := C2
  obtain ⟨t1, c_LARGEST_GUESS⟩ := S.guess
  refine F.ok sc_is_guess (fun vs H Q E h => ?_) (fun cdv A outer s H vs Q E hr h => ?_)
  · obtain ⟨v, h, ds, rfl, _⟩ := h; rfl
  · obtain ⟨v, h, ds, rfl, dp, ok, tn, q⟩ := h
    have R_is_name : Room 1 _ := hr.mono (by decide)
    have R_is_between : Room 2 _ := hr.mono (by decide)
    refine ⟨_, PSs.nox (pss_one (ps_ret (pe_and (pe_call G_is_name R_is_name (by rfl) g_is_name k_is_name b_is_name .nil pass0 (pa_cons (pe_ix ix_tup (pv 0) pe_int (fun _ _ => rfl)) pa_nil)) (pe_one (pe_call G_is_between R_is_between (by rfl) g_is_between k_is_between b_is_between .nil pass0 (pa_cons (pe_ix ix_tup (pv 0) pe_int (fun _ _ => rfl)) (pa_cons pe_int (pa_cons (pe_glob (v := .int 3) (by rfl) c_LARGEST_GUESS ⟨_, rfl⟩) pa_nil)))))))), ?_⟩
    have ek := (kd_tn _).2.2.2.2.2.2 tn
    cases h with
    | gs n k =>
      obtain ⟨nn, k3, _⟩ := ok
      obtain ⟨a, xs, rfl, hT, hx⟩ := hd_inv dp
      obtain ⟨v1, ws1, rfl, h1, hx⟩ := DpAll.cons_inv hx
      obtain ⟨v2, ws2, rfl, h2, hx⟩ := DpAll.cons_inv hx
      rw [Dp.str_inv h1, Dp.int_inv h2] at hT
      refine ⟨_, rfl, a, _, _, _, rfl, rfl, hT, atI_nat (j := 1) rfl, .inl ⟨n, rfl, nn.short, _, rfl, ?_⟩⟩
      refine cT (isNm_t nn) ⟨_, rfl, a, _, _, _, rfl, rfl, hT, atI_nat (j := 2) rfl, .int k, 0, 3, rfl, rfl, ?_⟩
      have e : btw 0 3 (.int (k : Nat)) = true := by
        show (decide ((0 : Int) ≤ (k : Nat)) && decide (((k : Nat) : Int) ≤ 3)) = true
        rw [decide_eq_true (by omega), decide_eq_true (by omega)]; rfl
      rw [e]
      exact q H (.refl H)
    | _ => cases ek
def spShape (K : PySem.W.Frag) : Sp := fun vs H Q _ => ∃ (v : V) (h : Hd) (ds : List PyData), vs = [v] ∧ Dp K H v (h.data ds) ∧ h.Ok ds.length ∧ ∀ (H' : Hp), Same H H' → Q (.bl true) H'
theorem rest_len {h : Hd} {ds : List PyData} (ok : h.fits ds.length) : (h.rest ds).length + 1 = h.kd.many := by
  cases h with
  | no => have e := ok 1 rfl; show ds.length + 1 = 2; omega
  | ex us => have e := ok 1 rfl; show ds.length + 1 + 1 = 3; omega
  | al us => have e := ok 1 rfl; show ds.length + 1 + 1 = 3; omega
  | lfp n us as => have e := ok 1 rfl; show (ds ++ [tS as]).length + 1 + 1 + 1 = 5; rw [List.length_append, e]; rfl
  | pfp n us as => have e := ok 1 rfl; show (ds ++ [tS as]).length + 1 + 1 + 1 = 5; rw [List.length_append, e]; rfl
  | tc us as => have e := ok 1 rfl; show (ds ++ [tS as]).length + 1 + 1 = 4; rw [List.length_append, e]; rfl
  | gs n k => have e := ok 1 rfl; show ds.length + 1 + 1 + 1 = 4; omega
  | _ => rfl
theorem test_mem (K : PySem.W.Frag) (k : Kd) : (k.word, V.ref (He.ga K k.test)) ∈ testTab K := by
  cases k <;> simp [testTab, Kd.word, Kd.test]
structure Tests (P : Program) (w : World) (K : PySem.W.Frag) (mg : Str → Option Value) (base : Heap) : Prop where
  at_ : ∀ k : Kd, mg k.test = some (.ref (He.ga K k.test))
  has : ∀ k : Kd, ∃ ps, Has P w K mg base 4 k.test ps (spTest K k.test)
theorem sc_is_shape : FnScope ["value", "test"] ["value"] (defScope (top 35)) := ⟨rfl, rfl, rfl, by decide +kernel, rfl, by decide +kernel, by decide +kernel⟩
theorem has_is_shape (D : Def K mg "is_shape" ["value"] (top 35)) (T : Txt mg) (S : Shp K w mg) (C : Tests P w K mg base) : Has P w K mg base 5 "is_shape" ["value"] (spShape K) := D.has fun f fd F => by
  have c_LENGTHS := S.lens.g
  have c_TESTS := S.tests.g
  refine F.ok sc_is_shape (fun vs H Q E h => ?_) (fun cdv A outer s H vs Q E hr h => ?_)
  · obtain ⟨v, h, ds, rfl, _⟩ := h; rfl
  · obtain ⟨v, h, ds, rfl, dp, ok, q⟩ := h
    obtain ⟨ps1, f1, fd1, G1, g1, k1, b1⟩ := C.has h.kd
    have ef : f1 = He.ga K h.kd.test := by
      have := g1.symm.trans (C.at_ h.kd)
      injection this with this
      injection this
    have R1 : Room 4 _ := hr.mono (by decide)
    refine ⟨_, PSs.nox (pss_cons (ps_if (PW.pt (pw_or (pt_not (pt_val (pe_callB call_isi (by rfl) T.n_isinstance (by decide +kernel) (pa_cons (pv 0) (pa_cons (pe_bltn (v := .ty "tuple") (by rfl) T.n_tuple (by decide +kernel) rfl) pa_nil))))) (pw_or (pt_not (pt_truth (pv 0) (by intro _; rfl))) (pw_or1 (pt_not (pt_val (pe_callB call_isi (by rfl) T.n_isinstance (by decide +kernel) (pa_cons (pe_ix ix_tup (pv 0) pe_int (fun _ _ => rfl)) (pa_cons (pe_bltn (v := .ty "str") (by rfl) T.n_str (by decide +kernel) rfl) pa_nil))))))))) (pss_one (ps_ret pe_bl)) pss_nil) (pss_cons (ps_if (pt_cmpR op_ne (pe_kget (pe_glob (v := .ref (He.ga K "LENGTHS")) (by rfl) c_LENGTHS rfl) (pe_ix ix_tup (pv 0) pe_int (fun _ _ => rfl)) ⟨rfl, rfl, rfl, rfl⟩) (pe_callB call_len_seq (by rfl) T.n_len PySem.boot_len (pa_cons (pv 0) pa_nil)) (nomark _)) (pss_one (ps_ret pe_bl)) pss_nil) (pss_cons (ps_set (i := 1) sc_is_shape.nd rfl (Or.inl rfl) (pe_ix ix_kdict (pe_glob (v := .ref (He.ga K "TESTS")) (by rfl) c_TESTS rfl) (pe_ix ix_tup (pv 0) pe_int (fun _ _ => rfl)) (fun _ _ => rfl))) (pss_one (ps_ret (pe_callL (i := 1) G1 R1 rfl (Or.inl rfl) k1 b1 .nil pass0 (pa_cons (pv 0) pa_nil))))))), ?_⟩
    obtain ⟨a, xs, rfl, hT, hx⟩ := hd_inv dp
    refine ⟨_, rfl, _, _, _, _, _, rfl, .ty _, ty_tup hT, kit_ty (b := "tuple") (r := true) (by decide +kernel), _, rfl, iteF ?_⟩
    refine ⟨_, rfl, true, .inr (.inl ⟨_, hT, rfl⟩), iteF ?_⟩
    refine ⟨_, rfl, a, _, _, _, rfl, rfl, hT, atI_nat (j := 0) rfl, _, _, _, _, _, rfl, .ty _, .base (.str _), kit_ty (b := "str") (r := true) (by decide +kernel), _, rfl, iteF ?_⟩
    obtain ⟨es, n, DL⟩ := S.lens.d
    obtain ⟨u, n1, ru⟩ := S.lens.there _ _ (len_mem h.kd)
    refine ⟨_, es, n, rfl, DL, _, rfl, a, _, _, _, rfl, rfl, hT, atI_nat (j := 0) rfl, _, _, .int (h.kd.many : Nat), rfl, n1, ru, _, rfl, a, _, rfl, .inr hT, rfl, _, rfl, ?_⟩
    have el : decide (V.int (h.kd.many : Nat) = V.int (((V.str h.word :: xs).length : Nat) : Int)) = true := decide_eq_true (by rw [List.length_cons, DpAll.length hx, rest_len ok.fits])
    refine cF (k := !decide (V.int (h.kd.many : Nat) = V.int (((V.str h.word :: xs).length : Nat) : Int))) (by rw [el]; rfl) ?_
    refine ⟨_, rfl, a, _, _, _, rfl, rfl, hT, atI_nat (j := 0) rfl, _, _, _, rfl, rfl, S.tests.dct (test_mem K h.kd), ?_⟩
    refine ⟨?_, _, rfl, _, h, ds, rfl, dp, ok, rfl, q⟩
    rw [ef]
    rfl
end
/-! ### going through a formula -/
theorem sumN_append : ∀ (xs ys : List Nat), sumN (xs ++ ys) = sumN xs + sumN ys
  | [], ys => (Nat.zero_add _).symm
  | x :: xs, ys => by show x + sumN (xs ++ ys) = x + sumN xs + sumN ys; rw [sumN_append xs ys]; omega
theorem sumN_take {xs : List Nat} {i x : Nat} (h : xs[i]? = some x) : sumN (xs.take (i + 1)) = sumN (xs.take i) + x := by
  rw [List.take_add_one, h, sumN_append]; rfl
theorem sumN_take_le (xs : List Nat) (i : Nat) : sumN (xs.take i) ≤ sumN xs := by
  have e := sumN_append (xs.take i) (xs.drop i)
  rw [List.take_append_drop] at e
  omega
/-- the names that a formula gives to its own relation -/
def Hd.sgn (h : Hd) (s : Int) : Int := match h with
  | .no => -s
  | .pfp _ _ _ => 0
  | _ => s
def Hd.bname (h : Hd) : Option Str := h.bound.map (·.1)
def posStep (h : Hd) (xs : List (Str → Int → Bool)) (name : Str) (s : Int) : Bool := match h with
  | .rel n _ => s == 1 || !decide (n = name)
  | _ => if h.bname = some name then true else xs.all fun g => g name (h.sgn s)
def Fm.pos : Fm → Str → Int → Bool := Fm.fold posStep
theorem Fm.pos_mk (h : Hd) (ps : List Fm) (name : Str) (s : Int) : (Fm.mk h ps).pos name s = posStep h (ps.map Fm.pos) name s := congrFun (congrFun (Fm.fold_mk posStep h ps) name) s
theorem Fm.pos_rel {n : Str} {as : List Str} {ps : List Fm} {name : Str} {s : Int} : (Fm.mk (.rel n as) ps).pos name s = (s == 1 || !decide (n = name)) := Fm.pos_mk _ _ _ _
theorem Fm.pos_other {h : Hd} {ps : List Fm} {name : Str} {s : Int} (nr : h.kd ≠ .rel) : (Fm.mk h ps).pos name s = if h.bname = some name then true else ps.all fun p => p.pos name (h.sgn s) := by
  rw [Fm.pos_mk]
  have e : posStep h (ps.map Fm.pos) name s = if h.bname = some name then true else (ps.map Fm.pos).all fun g => g name (h.sgn s) := by cases h <;> first | rfl | exact absurd rfl nr
  rw [e, List.all_map]
  rfl
/-- the body of each lfp is positive in its name -/
inductive Fm.PosOk : Fm → Prop
  | mk {h : Hd} {ps : List Fm} (a : ∀ n us as, h = .lfp n us as → ∀ p, p ∈ ps → p.pos n 1 = true) (b : ∀ p, p ∈ ps → p.PosOk) : (Fm.mk h ps).PosOk
theorem Fm.PosOk.part {h : Hd} {ps : List Fm} (k : (Fm.mk h ps).PosOk) {p : Fm} (hp : p ∈ ps) : p.PosOk := by cases k with | mk a b => exact b p hp
theorem Fm.PosOk.here {n : Str} {us as : List Str} {ps : List Fm} (k : (Fm.mk (.lfp n us as) ps).PosOk) {p : Fm} (hp : p ∈ ps) : p.pos n 1 = true := by cases k with | mk a b => exact a n us as rfl p hp
/-! ### the promises -/
section
variable {P : Program} {w : World} {K : PySem.W.Frag} {mg : Str → Option Value} {base : Heap}
def spCS (K : PySem.W.Frag) (n : Nat) : Sp := fun vs H Q _ => ∃ (v : V) (l p : Int) (f : Fm), vs = [v, .int l, .int p] ∧ Dp K H v f.data ∧ f.Ok ∧ f.dep ≤ n ∧ (f.dep : Int) ≤ l ∧ (f.cnt : Int) ≤ p ∧ ∀ (H' : Hp), Same H H' → Q (.int (p - f.cnt)) H'
theorem sc_check_shapes : FnScope ["value", "levels_left", "parts_left", "part"] ["value", "levels_left", "parts_left"] (defScope (top 48)) := ⟨rfl, rfl, rfl, by decide +kernel, rfl, by decide +kernel, by decide +kernel⟩
theorem has_check_shapes (D : Def K mg "_check_shapes" ["value", "levels_left", "parts_left"] (top 48)) (C1 : Has P w K mg base 5 "is_shape" ["value"] (spShape K)) (C2 : Has P w K mg base 1 "inner" ["formula"] (spInner K)) :
    ∀ n : Nat, Has P w K mg base (6 + n) "_check_shapes" ["value", "levels_left", "parts_left"] (spCS K n) := by
  obtain ⟨f1, fd1, G_is_shape, g_is_shape, k_is_shape, b_is_shape⟩ := C1
  obtain ⟨f2, fd2, G_inner, g_inner, k_inner, b_inner⟩ := C2
  intro n
  induction n with
  | zero =>
    refine D.has fun f fd F => F.ok sc_check_shapes (fun vs H Q E h => ?_) (fun cdv A outer s H vs Q E hr h => ?_)
    · obtain ⟨v, l, p, f, rfl, _⟩ := h; rfl
    · obtain ⟨v, l, p, f, rfl, _, _, h0, _⟩ := h
      have := dep_pos f
      omega
  | succ n ih =>
    obtain ⟨f3, fd3, G_check_shapes, g_check_shapes, k_check_shapes, b_check_shapes⟩ := ih
    refine D.has fun f fd F => F.ok sc_check_shapes (fun vs H Q E h => ?_) (fun cdv A outer s H vs Q E hr h => ?_)
    · obtain ⟨v, l, p, f, rfl, _⟩ := h; rfl
    · obtain ⟨v, l, p, f, rfl, dp, ok, hn, hl, hp, q⟩ := h
      have R_is_shape : Room 5 _ := hr.mono (Nat.le_trans (by decide) (Nat.le_add_right 6 n))
      have R_inner : Room 1 _ := hr.mono (Nat.le_trans (by decide) (Nat.le_add_right 6 n))
      have R_check_shapes : Room (6 + n) _ := hr
      refine ⟨_, PSs.nox (pss_cons (ps_if (PW.pt (pw_or (pt_cmpR op_lt (pv 1) pe_int (nomark _)) (pw_or1 (pt_cmpR op_lt (pv 2) pe_int (nomark _))))) pss_never pss_nil) (pss_cons (ps_if (pt_not (pt_val (pe_call G_is_shape R_is_shape (by rfl) g_is_shape k_is_shape b_is_shape .nil pass0 (pa_cons (pv 0) pa_nil)))) pss_never pss_nil) (pss_cons (ps_aug (i := 2) sc_check_shapes.nd rfl (Or.inl rfl) pe_int ip_sub) (pss_cons (ps_for PassesOwn.never rfl (pi_tup (pe_call G_inner R_inner (by rfl) g_inner k_inner b_inner .nil pass0 (pa_cons (pv 0) pa_nil))) (pg_name (i := 3) sc_check_shapes.nd rfl (Or.inl rfl)) (pss_one (ps_set (i := 2) sc_check_shapes.nd rfl (Or.inl rfl) (pe_call G_check_shapes R_check_shapes (by rfl) g_check_shapes k_check_shapes b_check_shapes .nil pass0 (pa_cons (pv 3) (pa_cons (pe_op op_sub (pv 1) pe_int) (pa_cons (pv 2) pa_nil))))))) (pss_one (ps_ret (pv 2))))))), ?_⟩
      obtain ⟨h, ps⟩ := f
      rw [Fm.data_mk] at dp
      have hd1 : 1 ≤ (Fm.mk h ps).dep := dep_pos _
      have hc1 : (Fm.mk h ps).cnt = 1 + sumN (ps.map Fm.cnt) := Fm.cnt_mk h ps
      have fit : h.Ok (ps.map Fm.data).length := by rw [List.length_map]; exact ok.hd_
      refine ⟨_, rfl, _, _, rfl, rfl, _, rfl, cF (k := decide (l < 1)) (decide_eq_false (by omega)) ⟨_, rfl, _, _, rfl, rfl, _, rfl, cF (k := decide (p < 1)) (decide_eq_false (by omega)) ?_⟩⟩
      refine ⟨_, rfl, v, h, _, rfl, dp, fit, fun H1 s1 => ⟨_, rfl, iteF ?_⟩⟩
      refine ⟨_, rfl, _, _, rfl, rfl, ?_⟩
      refine ⟨_, rfl, v, h, _, rfl, Dp.same s1 dp, fit.fits, fun H2 r s2 hr2 => ?_⟩
      obtain ⟨b, ys, rfl, hb, hy⟩ := Dp.tup_inv hr2
      refine ⟨b, rfl, ⟨_, hb⟩, for_tup (K := K) (a := b) (xs := ys) (fun i σ H3 => ∃ y3, σ = [some v, some (.int l), some (.int (p - 1 - (sumN ((ps.map Fm.cnt).take i) : Nat))), y3] ∧ Same H2 H3)
        ⟨none, by show _ = [some v, some (.int l), some (.int (p - 1 - ((0 : Nat) : Int))), none]; rw [show (p - 1 - ((0 : Nat) : Int)) = p - 1 by omega]; rfl, .refl _⟩ (fun i σ H3 _ ⟨_, _, s3⟩ => Same.sqt s3 hb) ?_ ?_⟩
      · rintro i y σ H3 hi ⟨y3, rfl, s3⟩
        obtain ⟨d, hd, dpy⟩ := DpAll.get' hy hi
        obtain ⟨g, hg, rfl⟩ := get_map hd
        have mem := List.mem_of_getElem? hg
        have dl : g.dep < (Fm.mk h ps).dep := dep_part mem
        have eg : (ps.map Fm.cnt)[i]? = some g.cnt := by rw [List.getElem?_map, hg]; rfl
        have es := sumN_take eg
        have el := sumN_take_le (ps.map Fm.cnt) (i + 1)
        refine ⟨_, rfl, _, rfl, _, _, rfl, rfl, _, rfl, y, l - 1, _, g, rfl, Dp.same s3 dpy, ok.part mem, by omega, by omega, by omega, fun H4 s4 => ?_⟩
        refine ⟨some y, ?_, s3.trans s4⟩
        rw [es]
        have e5 : p - 1 - ((sumN ((ps.map Fm.cnt).take i) : Nat) : Int) - (g.cnt : Int) = p - 1 - ((sumN ((ps.map Fm.cnt).take i) + g.cnt : Nat) : Int) := by omega
        rw [e5]
        rfl
      · rintro σ H3 ⟨y3, rfl, s3⟩
        have ey : ys.length = ps.length := by rw [DpAll.length hy, List.length_map]
        have et : (ps.map Fm.cnt).take ys.length = ps.map Fm.cnt := List.take_of_length_le (by rw [List.length_map]; omega)
        refine ⟨_, rfl, ?_⟩
        have e6 : p - 1 - ((sumN ((ps.map Fm.cnt).take ys.length) : Nat) : Int) = p - (((Fm.mk h ps).cnt : Nat) : Int) := by rw [et, hc1]; omega
        show Q (.int (p - 1 - ((sumN ((ps.map Fm.cnt).take ys.length) : Nat) : Int))) H3
        rw [e6]
        exact q H3 ((s1.trans s2).trans s3)
theorem kw_rel : ∀ k : Kd, decide (V.str k.word = V.str "rel") = decide (k = .rel) := by intro k; cases k <;> decide +kernel
theorem kw_not : ∀ k : Kd, decide (V.str k.word = V.str "not") = decide (k = .no) := by intro k; cases k <;> decide +kernel
theorem kw_pfp : ∀ k : Kd, decide (V.str k.word = V.str "pfp") = decide (k = .pfp) := by intro k; cases k <;> decide +kernel
theorem kw_lfp : ∀ k : Kd, decide (V.str k.word = V.str "lfp") = decide (k = .lfp) := by intro k; cases k <;> decide +kernel
def spPos (K : PySem.W.Frag) (n : Nat) : Sp := fun vs H Q _ => ∃ (v : V) (name : Str) (sg : Int) (f : Fm), vs = [v, .str name, .int sg] ∧ Dp K H v f.data ∧ f.Ok ∧ f.dep ≤ n ∧ ∀ (H' : Hp), Same H H' → Q (.bl (f.pos name sg)) H'
theorem sc_is_positive : FnScope ["formula", "name", "sign", "part"] ["formula", "name", "sign"] (defScope (top 50)) := ⟨rfl, rfl, rfl, by decide +kernel, rfl, by decide +kernel, by decide +kernel⟩
theorem has_is_positive (D : Def K mg "is_positive_in" ["formula", "name", "sign"] (top 50)) (C1 : Has P w K mg base 1 "bound_name" ["formula"] (spBName K)) (C2 : Has P w K mg base 1 "inner" ["formula"] (spInner K)) :
    ∀ n : Nat, Has P w K mg base (2 + n) "is_positive_in" ["formula", "name", "sign"] (spPos K n) := by
  obtain ⟨f1, fd1, G_bound_name, g_bound_name, k_bound_name, b_bound_name⟩ := C1
  obtain ⟨f2, fd2, G_inner, g_inner, k_inner, b_inner⟩ := C2
  intro n
  induction n with
  | zero =>
    refine D.has fun f fd F => F.ok sc_is_positive (fun vs H Q E h => ?_) (fun cdv A outer s H vs Q E hr h => ?_)
    · obtain ⟨v, l, p, f, rfl, _⟩ := h; rfl
    · obtain ⟨v, l, p, f, rfl, _, _, h0, _⟩ := h
      have := dep_pos f
      omega
  | succ n ih =>
    obtain ⟨f3, fd3, G_is_positive_in, g_is_positive_in, k_is_positive_in, b_is_positive_in⟩ := ih
    refine D.has fun f fd F => F.ok sc_is_positive (fun vs H Q E h => ?_) (fun cdv A outer s H vs Q E hr h => ?_)
    · obtain ⟨v, l, p, f, rfl, _⟩ := h; rfl
    · obtain ⟨v, name, sg, f, rfl, dp, ok, hn, q⟩ := h
      have R_bound_name : Room 1 _ := hr.mono (Nat.le_trans (by decide) (Nat.le_add_right 2 n))
      have R_inner : Room 1 _ := hr.mono (Nat.le_trans (by decide) (Nat.le_add_right 2 n))
      have R_is_positive_in : Room (2 + n) _ := hr
      refine ⟨_, PSs.nox (pss_cons (ps_if (pt_cmpR op_eq (pe_ix ix_tup (pv 0) pe_int (fun _ _ => rfl)) pe_str (nomark _)) (pss_one (ps_ret (pe_or (pe_cmpR op_eq (pv 2) pe_int (nomark _)) (pe_one (pe_cmpR op_ne (pe_ix ix_tup (pv 0) pe_int (fun _ _ => rfl)) (pv 1) (nomark _)))))) pss_nil) (pss_cons (ps_if (pt_cmpR op_eq (pe_call G_bound_name R_bound_name (by rfl) g_bound_name k_bound_name b_bound_name .nil pass0 (pa_cons (pv 0) pa_nil)) (pv 1) (nomark _)) (pss_one (ps_ret pe_bl)) pss_nil) (pss_cons (ps_if (pt_cmpR op_eq (pe_ix ix_tup (pv 0) pe_int (fun _ _ => rfl)) pe_str (nomark _)) (pss_one (ps_set (i := 2) sc_is_positive.nd rfl (Or.inl rfl) (pe_un un_neg (pv 2)))) pss_nil) (pss_cons (ps_if (pt_cmpR op_eq (pe_ix ix_tup (pv 0) pe_int (fun _ _ => rfl)) pe_str (nomark _)) (pss_one (ps_set (i := 2) sc_is_positive.nd rfl (Or.inl rfl) pe_int)) pss_nil) (pss_cons (ps_for PassesOwn.never rfl (pi_tup (pe_call G_inner R_inner (by rfl) g_inner k_inner b_inner .nil pass0 (pa_cons (pv 0) pa_nil))) (pg_name (i := 3) sc_is_positive.nd rfl (Or.inl rfl)) (pss_one (ps_if (pt_not (pt_val (pe_call G_is_positive_in R_is_positive_in (by rfl) g_is_positive_in k_is_positive_in b_is_positive_in .nil pass0 (pa_cons (pv 3) (pa_cons (pv 1) (pa_cons (pv 2) pa_nil)))))) (pss_one (ps_ret pe_bl)) pss_nil))) (pss_one (ps_ret pe_bl))))))), ?_⟩
      obtain ⟨h, ps⟩ := f
      rw [Fm.data_mk] at dp
      have fit : h.Ok (ps.map Fm.data).length := by rw [List.length_map]; exact ok.hd_
      obtain ⟨a, xs, rfl, hT, hx⟩ := hd_inv dp
      refine ⟨_, rfl, a, _, _, _, rfl, rfl, hT, atI_nat (j := 0) rfl, rfl, _, rfl, ?_⟩
      by_cases kr : h.kd = .rel
      · refine cT (k := decide (V.str h.word = V.str "rel")) (by rw [kw_rel, decide_eq_true kr]) ?_
        cases h with
        | rel m as =>
          obtain ⟨v1, ws1, rfl, h1, _⟩ := DpAll.cons_inv hx
          rw [Dp.str_inv h1] at hT
          have q' := q H (.refl H)
          rw [Fm.pos_rel] at q'
          refine ⟨_, rfl, rfl, _, rfl, ?_⟩
          by_cases e1 : sg = 1
          · refine cT (decide_eq_true (by rw [e1])) ?_
            have e2 : (sg == 1) = true := by rw [e1]; rfl
            rw [e2] at q'
            exact q'
          · refine cF (decide_eq_false fun z => e1 (V.int.inj z)) ⟨_, rfl, a, _, _, _, rfl, rfl, hT, atI_nat (j := 1) rfl, _, rfl, rfl, ?_⟩
            have e2 : (sg == 1) = false := by simpa using e1
            rw [e2] at q'
            have e3 : decide (V.str m = V.str name) = decide (m = name) := decide_eq_decide.mpr ⟨fun y => V.str.inj y, fun y => congrArg V.str y⟩
            show Q (.bl (!decide (V.str m = V.str name))) H
            rw [e3]
            exact q'
        | _ => cases kr
      · refine cF (k := decide (V.str h.word = V.str "rel")) (by rw [kw_rel, decide_eq_false kr]) ?_
        rw [Fm.pos_other kr] at q
        refine ⟨_, rfl, _, h, _, rfl, dp, fit.fits, fun H1 r1 s1 er => ?_⟩
        have eb : scal r1 (.str name) = true ∧ decide (r1 = V.str name) = decide (h.bname = some name) := by
          rw [er]
          cases eb : h.bound with
          | none =>
            refine ⟨rfl, ?_⟩
            have e1 : h.bname = none := by unfold Hd.bname; rw [eb]; rfl
            rw [e1]
            rfl
          | some z =>
            refine ⟨rfl, ?_⟩
            have e1 : h.bname = some z.1 := by unfold Hd.bname; rw [eb]; rfl
            rw [e1]
            exact decide_eq_decide.mpr ⟨fun y => congrArg some (V.str.inj y), fun y => congrArg V.str (Option.some.inj y)⟩
        refine ⟨_, rfl, eb.1, _, rfl, ?_⟩
        by_cases hb : h.bname = some name
        · refine cT (k := decide (r1 = V.str name)) (by rw [eb.2, decide_eq_true hb]) ?_
          have q' := q H1 s1
          rw [if_pos hb] at q'
          exact q'
        · refine cF (k := decide (r1 = V.str name)) (by rw [eb.2, decide_eq_false hb]) ?_
          have q' : ∀ H', Same H H' → Q (.bl (ps.all fun p => p.pos name (h.sgn sg))) H' := fun H' s' => by
            have := q H' s'
            rw [if_neg hb] at this
            exact this
          have hT1 := Same.sqt s1 hT
          have go : ∀ (σ : L2.St), σ = [some (.ref a), some (.str name), some (.int (h.sgn sg)), none] → tSeq (tFor (iTup K (tCall (spInner K) [] E0 (tCons (tVar 0) tNil))) (gName 3) (tIfS (tNot (tB (tCall (spPos K n) [] E0 (tCons (tVar 3) (tCons (tVar 1) (tCons (tVar 2) tNil)))))) (tRet (tC (.bl false))) tNext)) (tRet (tC (.bl true)))
              { nx := fun _ H' => Q .non H', rt := Q } σ H1 := by
            rintro σ rfl
            refine ⟨_, rfl, _, h, _, rfl, Dp.same s1 dp, fit.fits, fun H2 r s2 hr2 => ?_⟩
            obtain ⟨b, ys, rfl, hb2, hy⟩ := Dp.tup_inv hr2
            refine ⟨b, rfl, ⟨_, hb2⟩, for_tup (K := K) (a := b) (xs := ys) (fun i σ H3 => ∃ y3, σ = [some (.ref a), some (.str name), some (.int (h.sgn sg)), y3] ∧ Same H2 H3 ∧ ∀ p, p ∈ ps.take i → p.pos name (h.sgn sg) = true)
              ⟨none, rfl, .refl _, fun p hp => by simp at hp⟩ (fun i σ H3 _ ⟨_, _, s3, _⟩ => Same.sqt s3 hb2) ?_ ?_⟩
            · rintro i y σ H3 hi ⟨y3, rfl, s3, all⟩
              obtain ⟨d, hd, dpy⟩ := DpAll.get' hy hi
              obtain ⟨g, hg, rfl⟩ := get_map hd
              have mem := List.mem_of_getElem? hg
              have dl : g.dep < (Fm.mk h ps).dep := dep_part mem
              refine ⟨_, rfl, _, rfl, _, rfl, y, name, h.sgn sg, g, rfl, Dp.same s3 dpy, ok.part mem, by omega, fun H4 s4 => ⟨_, rfl, ?_⟩⟩
              cases eg : g.pos name (h.sgn sg) with
              | false =>
                refine iteT ?_
                have e7 : (ps.all fun p => p.pos name (h.sgn sg)) = false := by
                  cases z : (ps.all fun p => p.pos name (h.sgn sg)) with
                  | false => rfl
                  | true => rw [List.all_eq_true.mp z g mem] at eg; cases eg
                have := q' H4 (((s1.trans s2).trans s3).trans s4)
                rw [e7] at this
                exact this
              | true =>
                refine iteF ⟨_, rfl, s3.trans s4, fun p hp => ?_⟩
                rw [List.take_add_one, hg] at hp
                rcases List.mem_append.mp hp with hp | hp
                · exact all p hp
                · have e8 : p = g := by simpa using hp
                  rw [e8]; exact eg
            · rintro σ H3 ⟨y3, rfl, s3, all⟩
              have ey : ys.length = ps.length := by rw [DpAll.length hy, List.length_map]
              have e9 : (ps.all fun p => p.pos name (h.sgn sg)) = true := List.all_eq_true.mpr fun p hp => all p (by rw [List.take_of_length_le (by omega)]; exact hp)
              have := q' H3 ((s1.trans s2).trans s3)
              rw [e9] at this
              exact this
          refine ⟨_, rfl, a, _, _, _, rfl, rfl, hT1, atI_nat (j := 0) rfl, rfl, _, rfl, ?_⟩
          by_cases kn : h.kd = .no
          · refine cT (k := decide (V.str h.word = V.str "not")) (by rw [kw_not, decide_eq_true kn]) ⟨_, rfl, _, rfl, ?_⟩
            refine ⟨_, rfl, a, _, _, _, rfl, rfl, hT1, atI_nat (j := 0) rfl, rfl, _, rfl, ?_⟩
            refine cF (k := decide (V.str h.word = V.str "pfp")) (by rw [kw_pfp, decide_eq_false (by rw [kn]; exact fun z => nomatch z)]) ?_
            refine go _ ?_
            have e9 : h.sgn sg = -sg := by cases h <;> first | rfl | cases kn
            rw [e9]
            rfl
          · refine cF (k := decide (V.str h.word = V.str "not")) (by rw [kw_not, decide_eq_false kn]) ?_
            refine ⟨_, rfl, a, _, _, _, rfl, rfl, hT1, atI_nat (j := 0) rfl, rfl, _, rfl, ?_⟩
            by_cases kp : h.kd = .pfp
            · refine cT (k := decide (V.str h.word = V.str "pfp")) (by rw [kw_pfp, decide_eq_true kp]) ?_
              refine go _ ?_
              have e9 : h.sgn sg = 0 := by cases h <;> first | rfl | cases kp
              rw [e9]
              rfl
            · refine cF (k := decide (V.str h.word = V.str "pfp")) (by rw [kw_pfp, decide_eq_false kp]) ?_
              refine go _ ?_
              have e9 : h.sgn sg = sg := by cases h <;> first | rfl | exact absurd rfl kn | exact absurd rfl kp
              rw [e9]
              rfl
def spCF (K : PySem.W.Frag) (n : Nat) : Sp := fun vs H Q _ => ∃ (v : V) (f : Fm), vs = [v] ∧ Dp K H v f.data ∧ f.Ok ∧ f.PosOk ∧ f.dep ≤ n ∧ ∀ (H' : Hp), Same H H' → Q .non H'
theorem sc_check_fixed_points : FnScope ["formula", "part"] ["formula"] (defScope (top 51)) := ⟨rfl, rfl, rfl, by decide +kernel, rfl, by decide +kernel, by decide +kernel⟩
theorem has_check_fixed_points (D : Def K mg "_check_fixed_points" ["formula"] (top 51)) (C1 : ∀ n, Has P w K mg base (2 + n) "is_positive_in" ["formula", "name", "sign"] (spPos K n)) (C2 : Has P w K mg base 1 "inner" ["formula"] (spInner K)) :
    ∀ n : Nat, Has P w K mg base (3 + n) "_check_fixed_points" ["formula"] (spCF K n) := by
  obtain ⟨f2, fd2, G_inner, g_inner, k_inner, b_inner⟩ := C2
  intro n
  induction n with
  | zero =>
    refine D.has fun f fd F => F.ok sc_check_fixed_points (fun vs H Q E h => ?_) (fun cdv A outer s H vs Q E hr h => ?_)
    · obtain ⟨v, f, rfl, _⟩ := h; rfl
    · obtain ⟨v, f, rfl, _, _, _, h0, _⟩ := h
      have := dep_pos f
      omega
  | succ n ih =>
    obtain ⟨f1, fd1, G_is_positive_in, g_is_positive_in, k_is_positive_in, b_is_positive_in⟩ := C1 n
    obtain ⟨f3, fd3, G_check_fixed_points, g_check_fixed_points, k_check_fixed_points, b_check_fixed_points⟩ := ih
    refine D.has fun f fd F => F.ok sc_check_fixed_points (fun vs H Q E h => ?_) (fun cdv A outer s H vs Q E hr h => ?_)
    · obtain ⟨v, f, rfl, _⟩ := h; rfl
    · obtain ⟨v, f, rfl, dp, ok, po, hn, q⟩ := h
      have R_is_positive_in : Room (2 + n) _ := hr.mono (Nat.add_le_add_right (by decide) n)
      have R_inner : Room 1 _ := hr.mono (Nat.le_trans (by decide) (Nat.le_add_right 3 n))
      have R_check_fixed_points : Room (3 + n) _ := hr
      refine ⟨_, PSs.nox (pss_cons (ps_if (PW.pt (pw_and (pt_cmpR op_eq (pe_ix ix_tup (pv 0) pe_int (fun _ _ => rfl)) pe_str (nomark _)) (pw_and1 (pt_not (pt_val (pe_call G_is_positive_in R_is_positive_in (by rfl) g_is_positive_in k_is_positive_in b_is_positive_in .nil pass0 (pa_cons (pe_ix ix_tup (pv 0) pe_int (fun _ _ => rfl)) (pa_cons (pe_ix ix_tup (pv 0) pe_int (fun _ _ => rfl)) (pa_cons pe_int pa_nil))))))))) pss_never pss_nil) (pss_one (ps_for PassesOwn.never rfl (pi_tup (pe_call G_inner R_inner (by rfl) g_inner k_inner b_inner .nil pass0 (pa_cons (pv 0) pa_nil))) (pg_name (i := 1) sc_check_fixed_points.nd rfl (Or.inl rfl)) (pss_one (ps_expr (pe_call G_check_fixed_points R_check_fixed_points (by rfl) g_check_fixed_points k_check_fixed_points b_check_fixed_points .nil pass0 (pa_cons (pv 1) pa_nil))))))), ?_⟩
      obtain ⟨h, ps⟩ := f
      rw [Fm.data_mk] at dp
      have fit : h.Ok (ps.map Fm.data).length := by rw [List.length_map]; exact ok.hd_
      obtain ⟨a, xs, rfl, hT, hx⟩ := hd_inv dp
      have go : ∀ (H1 : Hp), Same H H1 → tFor (iTup K (tCall (spInner K) [] E0 (tCons (tVar 0) tNil))) (gName 1) (tDrop (tCall (spCF K n) [] E0 (tCons (tVar 1) tNil))) { nx := fun _ H' => Q .non H', rt := Q } [some (.ref a), none] H1 := by
        intro H1 s1
        refine ⟨_, rfl, _, h, _, rfl, Dp.same s1 dp, fit.fits, fun H2 r s2 hr2 => ?_⟩
        obtain ⟨b, ys, rfl, hb2, hy⟩ := Dp.tup_inv hr2
        refine ⟨b, rfl, ⟨_, hb2⟩, for_tup (K := K) (a := b) (xs := ys) (fun i σ H3 => ∃ y3, σ = [some (.ref a), y3] ∧ Same H2 H3) ⟨none, rfl, .refl _⟩ (fun i σ H3 _ ⟨_, _, s3⟩ => Same.sqt s3 hb2) ?_ ?_⟩
        · rintro i y σ H3 hi ⟨y3, rfl, s3⟩
          obtain ⟨d, hd, dpy⟩ := DpAll.get' hy hi
          obtain ⟨g, hg, rfl⟩ := get_map hd
          have mem := List.mem_of_getElem? hg
          have dl : g.dep < (Fm.mk h ps).dep := dep_part mem
          exact ⟨_, rfl, y, g, rfl, Dp.same s3 dpy, ok.part mem, po.part mem, by omega, fun H4 s4 => ⟨_, rfl, s3.trans s4⟩⟩
        · rintro σ H3 ⟨y3, rfl, s3⟩
          exact q H3 ((s1.trans s2).trans s3)
      refine ⟨_, rfl, a, _, _, _, rfl, rfl, hT, atI_nat (j := 0) rfl, rfl, _, rfl, ?_⟩
      by_cases kl : h.kd = .lfp
      · refine cT (k := decide (V.str h.word = V.str "lfp")) (by rw [kw_lfp, decide_eq_true kl]) ?_
        cases h with
        | lfp m us as =>
          have l1 : (ps.map Fm.data).length = 1 := fit.fits 1 rfl
          rw [List.length_map] at l1
          obtain ⟨g, rfl⟩ := List.length_eq_one_iff.mp l1
          obtain ⟨v1, ws1, rfl, h1, hx⟩ := DpAll.cons_inv hx
          obtain ⟨v2, ws2, rfl, h2, hx⟩ := DpAll.cons_inv hx
          obtain ⟨v3, ws3, rfl, h3, hx⟩ := DpAll.cons_inv hx
          rw [Dp.str_inv h1] at hT
          have mem : g ∈ [g] := List.mem_singleton.mpr rfl
          have dl : g.dep < (Fm.mk (.lfp m us as) [g]).dep := dep_part mem
          refine ⟨_, rfl, a, _, _, _, rfl, rfl, hT, atI_nat (j := 3) rfl, _, rfl, a, _, _, _, rfl, rfl, hT, atI_nat (j := 1) rfl, v3, m, 1, g, rfl, h3, ok.part mem, by omega, fun H1 s1 => ⟨_, rfl, ?_⟩⟩
          refine cF (k := !_) (by rw [po.here mem]; rfl) ?_
          exact go H1 s1
        | _ => cases kl
      · exact cF (k := decide (V.str h.word = V.str "lfp")) (by rw [kw_lfp, decide_eq_false kl]) (go H (.refl H))
end
/-! ### the symbols of a formula -/
def symStep (h : Hd) (xs : List (List (Str × Nat))) : List (Str × Nat) := match h with
  | .rel n as => [(n, as.length)]
  | _ => xs.flatten.filter fun p => !decide (h.bname = some p.1)
def Fm.syms : Fm → List (Str × Nat) := Fm.fold symStep
theorem Fm.syms_mk (h : Hd) (ps : List Fm) : (Fm.mk h ps).syms = symStep h (ps.map Fm.syms) := Fm.fold_mk symStep h ps
theorem Fm.syms_rel {n : Str} {as : List Str} {ps : List Fm} : (Fm.mk (.rel n as) ps).syms = [(n, as.length)] := Fm.syms_mk _ _
theorem Fm.syms_mem {h : Hd} {ps : List Fm} (nr : h.kd ≠ .rel) {p : Str × Nat} : p ∈ (Fm.mk h ps).syms ↔ h.bname ≠ some p.1 ∧ ∃ g, g ∈ ps ∧ p ∈ g.syms := by
  have e : symStep h (ps.map Fm.syms) = (ps.map Fm.syms).flatten.filter fun p => !decide (h.bname = some p.1) := by cases h <;> first | rfl | exact absurd rfl nr
  rw [Fm.syms_mk, e, List.mem_filter, List.mem_flatten]
  constructor
  · rintro ⟨⟨l, hl, hp⟩, hb⟩
    obtain ⟨g, hg, rfl⟩ := List.mem_map.mp hl
    exact ⟨by simpa using hb, g, hg, hp⟩
  · rintro ⟨hb, g, hg, hp⟩
    exact ⟨⟨_, List.mem_map.mpr ⟨g, hg, rfl⟩, hp⟩, by simpa using hb⟩
abbrev ArE := Str → Option Nat
def Hd.env (h : Hd) (Γ : ArE) : ArE := match h.bound with
  | some (n, k) => fun m => if m = n then some k else Γ m
  | none => Γ
/-- each name has the arity that Γ, or what binds it, says -/
inductive Fm.Typed : ArE → Fm → Prop
  | rel {Γ : ArE} {n : Str} {as : List Str} {ps : List Fm} (e : Γ n = some as.length) : Fm.Typed Γ (.mk (.rel n as) ps)
  | other {Γ : ArE} {h : Hd} {ps : List Fm} (nr : h.kd ≠ .rel) (b : ∀ p, p ∈ ps → Fm.Typed (h.env Γ) p) : Fm.Typed Γ (.mk h ps)
theorem Fm.Typed.part {Γ : ArE} {h : Hd} {ps : List Fm} (nr : h.kd ≠ .rel) (t : (Fm.mk h ps).Typed Γ) {p : Fm} (hp : p ∈ ps) : p.Typed (h.env Γ) := by
  cases t with
  | rel e => exact absurd rfl nr
  | other _ b => exact b p hp
theorem typed_sym : ∀ (f : Fm) (Γ : ArE), f.Typed Γ → ∀ p, p ∈ f.syms → Γ p.1 = some p.2 := fun f => Fm.ind (P := fun f => ∀ (Γ : ArE), f.Typed Γ → ∀ p, p ∈ f.syms → Γ p.1 = some p.2) (fun h ps ih Γ t p hp => by
  by_cases nr : h.kd = .rel
  · cases h with
    | rel n as =>
      rw [Fm.syms_rel] at hp
      have e := List.mem_singleton.mp hp
      subst e
      cases t with
      | rel e => exact e
      | other nr2 _ => exact absurd rfl nr2
    | _ => cases nr
  · obtain ⟨hb, g, hg, hpg⟩ := (Fm.syms_mem nr).mp hp
    have e := ih g hg _ (t.part nr hg) p hpg
    unfold Hd.env at e
    cases hbd : h.bound with
    | none => rw [hbd] at e; exact e
    | some z =>
      obtain ⟨n, k⟩ := z
      rw [hbd] at e
      have ne : p.1 ≠ n := fun z => hb (by unfold Hd.bname; rw [hbd, z]; rfl)
      simpa [ne] using e) f
theorem sum_lens : ∀ (ps : List Fm), (∀ p, p ∈ ps → p.syms.length ≤ p.cnt) → (ps.map Fm.syms).flatten.length ≤ sumN (ps.map Fm.cnt)
  | [], _ => Nat.zero_le _
  | p :: ps, h => by
    have a := h p (List.mem_cons_self ..)
    have b := sum_lens ps fun q hq => h q (List.mem_cons_of_mem _ hq)
    show ((p.syms) ++ (ps.map Fm.syms).flatten).length ≤ p.cnt + sumN (ps.map Fm.cnt)
    rw [List.length_append]
    omega
theorem syms_cnt : ∀ f : Fm, f.syms.length ≤ f.cnt := Fm.ind fun h ps ih => by
  rw [Fm.syms_mk, Fm.cnt_mk]
  have := sum_lens ps ih
  by_cases nr : h.kd = .rel
  · have e : (symStep h (ps.map Fm.syms)).length = 1 := by cases h <;> first | rfl | cases nr
    omega
  · have e : symStep h (ps.map Fm.syms) = (ps.map Fm.syms).flatten.filter fun p => !decide (h.bname = some p.1) := by cases h <;> first | rfl | exact absurd rfl nr
    rw [e]
    have := List.length_filter_le (fun p => !decide (h.bname = some p.1)) (ps.map Fm.syms).flatten
    omega
/-! dicts of names and numbers -/
def enc (p : Str × Nat) : Key × V := (Sum.inr p.1, .int (p.2 : Nat))
theorem val_enc : ∀ {l : List (Str × Nat)} {n : Str} {v : V}, valV (l.map enc) (Sum.inr n) = some v → ∃ a, (n, a) ∈ l ∧ v = .int (a : Nat)
  | [], n, v, h => by cases h
  | p :: l, n, v, h => by
    by_cases e : p.1 = n
    · rw [List.map_cons, valV_pos (by show Sum.inr p.1 = Sum.inr n; rw [e])] at h
      exact ⟨p.2, by rw [← e]; exact List.mem_cons_self .., (Option.some.inj h).symm⟩
    · rw [List.map_cons, valV_neg (by intro z; exact e (Sum.inr.inj z))] at h
      obtain ⟨a, h1, h2⟩ := val_enc h
      exact ⟨a, List.mem_cons_of_mem _ h1, h2⟩
theorem val_enc_none : ∀ {l : List (Str × Nat)} {n : Str}, valV (l.map enc) (Sum.inr n) = none ↔ ¬ n ∈ l.map (·.1)
  | [], n => by simp [valV]
  | p :: l, n => by
    by_cases e : p.1 = n
    · rw [List.map_cons, valV_pos (by show Sum.inr p.1 = Sum.inr n; rw [e])]
      simp [e]
    · rw [List.map_cons, valV_neg (by intro z; exact e (Sum.inr.inj z)), val_enc_none]
      have e2 : ¬ n = p.1 := fun z => e z.symm
      simp [e2]
theorem drop_enc (l : List (Str × Nat)) (n : Str) : dropK (l.map enc) (Sum.inr n) = (l.filter fun p => !decide (p.1 = n)).map enc := by
  unfold dropK
  rw [List.filter_map]
  congr 1
  refine List.filter_congr fun p _ => ?_
  show decide ((Sum.inr p.1 : Key) ≠ Sum.inr n) = !decide (p.1 = n)
  by_cases e : p.1 = n
  · rw [decide_eq_true e]
    exact decide_eq_false fun z => z (congrArg Sum.inr e)
  · rw [decide_eq_false e]
    exact decide_eq_true fun z => e (Sum.inr.inj z)
theorem val_of : ∀ {l : List (Str × Nat)} {n : Str} {a : Nat}, (l.map (·.1)).Nodup → (n, a) ∈ l → valV (l.map enc) (Sum.inr n) = some (.int (a : Nat))
  | [], _, _, _, h => nomatch h
  | p :: l, n, a, nd, h => by
    rw [List.map_cons] at nd
    obtain ⟨nd1, nd2⟩ := List.nodup_cons.mp nd
    by_cases e : p.1 = n
    · rw [List.map_cons, valV_pos (by show Sum.inr p.1 = Sum.inr n; rw [e])]
      rcases List.mem_cons.mp h with e1 | h
      · rw [← e1]; rfl
      · exact absurd (by rw [e]; exact List.mem_map.mpr ⟨_, h, rfl⟩) nd1
    · rw [List.map_cons, valV_neg (by intro z; exact e (Sum.inr.inj z))]
      rcases List.mem_cons.mp h with e1 | h
      · exact absurd (by rw [← e1]) e
      · exact val_of nd2 h
theorem nodup_val {l : List (Str × Nat)} {n : Str} {a b : Nat} : (l.map (·.1)).Nodup → (n, a) ∈ l → (n, b) ∈ l → a = b := by
  induction l with
  | nil => intro _ h; cases h
  | cons p l ih =>
    intro nd h1 h2
    rw [List.map_cons] at nd
    obtain ⟨nd1, nd2⟩ := List.nodup_cons.mp nd
    rcases List.mem_cons.mp h1 with e1 | h1
    · rcases List.mem_cons.mp h2 with e2 | h2
      · rw [← e1] at e2; exact (congrArg Prod.snd e2).symm
      · exact absurd (by rw [← e1]; exact List.mem_map.mpr ⟨_, h2, rfl⟩) nd1
    · rcases List.mem_cons.mp h2 with e2 | h2
      · exact absurd (by rw [← e2]; exact List.mem_map.mpr ⟨_, h1, rfl⟩) nd1
      · exact ih nd2 h1 h2
/-- the dict l holds just what stands in xs -/
structure DictOf (l xs : List (Str × Nat)) : Prop where
  nd : (l.map (·.1)).Nodup
  mem : ∀ p, p ∈ l ↔ p ∈ xs
theorem DictOf.add {l xs : List (Str × Nat)} {n : Str} {a : Nat} (d : DictOf l xs) (h : ¬ n ∈ l.map (·.1)) : DictOf (l ++ [(n, a)]) (xs ++ [(n, a)]) := by
  refine ⟨?_, fun p => by rw [List.mem_append, List.mem_append, d.mem]⟩
  rw [List.map_append, List.nodup_append]
  refine ⟨d.nd, by simp, fun x hx y hy => ?_⟩
  have : y = n := by simpa using hy
  rw [this]
  exact fun z => h (by rw [← z]; exact hx)
theorem DictOf.keep {l xs : List (Str × Nat)} {p : Str × Nat} (d : DictOf l xs) (h : p ∈ l) : DictOf l (xs ++ [p]) :=
  ⟨d.nd, fun q => by
    rw [List.mem_append, d.mem]
    exact ⟨.inl, fun z => z.elim id fun z => by rw [List.mem_singleton.mp z]; exact (d.mem p).mp h⟩⟩
theorem DictOf.as {l xs ys : List (Str × Nat)} (d : DictOf l xs) (e : ∀ p, p ∈ xs ↔ p ∈ ys) : DictOf l ys := ⟨d.nd, fun p => (d.mem p).trans (e p)⟩
theorem DictOf.len {l xs : List (Str × Nat)} (d : DictOf l xs) : l.length ≤ xs.length :=
  sub_len l xs (List.Pairwise.of_map (·.1) (fun a b hne e => hne (by rw [e])) d.nd) fun p hp => (d.mem p).mp hp
theorem take_flat {ps : List Fm} {i : Nat} {g : Fm} (h : ps[i]? = some g) : ((ps.take (i + 1)).map Fm.syms).flatten = ((ps.take i).map Fm.syms).flatten ++ g.syms := by
  rw [List.take_add_one, h, List.map_append, List.flatten_append]
  show _ ++ (g.syms ++ []) = _
  rw [List.append_nil]
/-- d is neither a list nor a tuple -/
def NotSeq (H : Hp) (d : Addr) : Prop := ∃ kvs, H d = some (.dK kvs)
section
variable {K : PySem.W.Frag} {H H' : Hp} {d : Addr}
theorem Kp.sqt' {a : Addr} {xs : List V} (k : Kp d H H') (n : NotSeq H d) (h : SqT K H a xs) : SqT K H' a xs := by
  obtain ⟨kvs, n⟩ := n
  rcases h with (h | ⟨o, h⟩) | h
  · exact .inl (.inl (k _ _ h (ne_of h n (fun z => nomatch z))))
  · exact .inl (.inr ⟨o, k _ _ h (ne_of h n (fun z => nomatch z))⟩)
  · exact .inr h
theorem Kp.sql' {a : Addr} {xs : List V} (k : Kp d H H') (n : NotSeq H d) (h : SqL K H a xs) : SqL K H' a xs := by
  obtain ⟨kvs, n⟩ := n
  rcases h with (h | ⟨o, h⟩) | h
  · exact .inl (.inl (k _ _ h (ne_of h n (fun z => nomatch z))))
  · exact .inl (.inr ⟨o, k _ _ h (ne_of h n (fun z => nomatch z))⟩)
  · exact .inr h
mutual
theorem Dp.kpD (k : Kp d H H') (n : NotSeq H d) : ∀ {v : V} {t : PyData}, Dp K H v t → Dp K H' v t
  | _, _, .non => .non
  | _, _, .bl b => .bl b
  | _, _, .int i => .int i
  | _, _, .str x => .str x
  | _, _, .lst h t => .lst (k.sql' n h) (DpAll.kpD k n t)
  | _, _, .tup h t => .tup (k.sqt' n h) (DpAll.kpD k n t)
theorem DpAll.kpD (k : Kp d H H') (n : NotSeq H d) : ∀ {vs : List V} {ts : List PyData}, DpAll K H vs ts → DpAll K H' vs ts
  | _, _, .nil => .nil
  | _, _, .cons h t => .cons (Dp.kpD k n h) (DpAll.kpD k n t)
end
end
section
variable {P : Program} {w : World} {K : PySem.W.Frag} {mg : Str → Option Value} {base : Heap}
def spAr (K : PySem.W.Frag) (n : Nat) : Sp := fun vs H Q _ => ∃ (v : V) (f : Fm) (Γ : ArE), vs = [v] ∧ Dp K H v f.data ∧ f.Ok ∧ f.Typed Γ ∧ f.dep ≤ n ∧ f.cnt ≤ 2000 ∧
  ∀ (H' : Hp) (d : Addr) (l : List (Str × Nat)), Same H H' → H d = none → H' d = some (.dK (l.map enc)) → DictOf l f.syms → Q (.ref d) H'
theorem sc_arities : FnScope ["formula", "found", "part", "within", "name", "bound"] ["formula"] (defScope (top 49)) := ⟨rfl, rfl, rfl, by decide +kernel, rfl, by decide +kernel, by decide +kernel⟩
theorem has_arities (D : Def K mg "arities_in" ["formula"] (top 49)) (T : Txt mg) (C1 : Has P w K mg base 1 "bound_name" ["formula"] (spBName K)) (C2 : Has P w K mg base 1 "inner" ["formula"] (spInner K)) (C3 : Has P w K mg base 1 "bound_arity" ["formula"] (spBArity K)) :
    ∀ n : Nat, Has P w K mg base (2 + n) "arities_in" ["formula"] (spAr K n) := by
  obtain ⟨f1, fd1, G_bound_name, g_bound_name, k_bound_name, b_bound_name⟩ := C1
  obtain ⟨f2, fd2, G_inner, g_inner, k_inner, b_inner⟩ := C2
  obtain ⟨f4, fd4, G_bound_arity, g_bound_arity, k_bound_arity, b_bound_arity⟩ := C3
  intro n
  induction n with
  | zero =>
    refine D.has fun f fd F => F.ok sc_arities (fun vs H Q E h => ?_) (fun cdv A outer s H vs Q E hr h => ?_)
    · obtain ⟨v, f, Γ, rfl, _⟩ := h; rfl
    · obtain ⟨v, f, Γ, rfl, _, _, _, h0, _⟩ := h
      have := dep_pos f
      omega
  | succ n ih =>
    obtain ⟨f3, fd3, G_arities_in, g_arities_in, k_arities_in, b_arities_in⟩ := ih
    refine D.has fun f fd F => F.ok sc_arities (fun vs H Q E h => ?_) (fun cdv A outer s H vs Q E hr h => ?_)
    · obtain ⟨v, f, Γ, rfl, _⟩ := h; rfl
    · obtain ⟨v, f, Γ, rfl, dp, ok, ty, hn, hc, q⟩ := h
      have R_bound_name : Room 1 _ := hr.mono (Nat.le_trans (by decide) (Nat.le_add_right 2 n))
      have R_bound_arity : Room 1 _ := hr.mono (Nat.le_trans (by decide) (Nat.le_add_right 2 n))
      have R_inner : Room 1 _ := hr.mono (Nat.le_trans (by decide) (Nat.le_add_right 2 n))
      have R_arities_in : Room (2 + n) _ := hr
      refine ⟨_, PSs.nox (pss_cons (ps_if (pt_cmpR op_eq (pe_ix ix_tup (pv 0) pe_int (fun _ _ => rfl)) pe_str (nomark _)) (pss_one (ps_ret (pe_disp (pps_cons (pe_ix ix_tup (pv 0) pe_int (fun _ _ => rfl)) (pe_callB call_len_seq (by rfl) T.n_len PySem.boot_len (pa_cons (pe_ix ix_tup (pv 0) pe_int (fun _ _ => rfl)) pa_nil)) pps_nil) (by rfl) (by rfl) (fun z => by cases z) (by decide)))) pss_nil) (pss_cons (ps_set (i := 1) sc_arities.nd rfl (Or.inl rfl) pe_dnewK) (pss_cons (ps_for PassesOwn.never rfl (pi_tup (pe_call G_inner R_inner (by rfl) g_inner k_inner b_inner .nil pass0 (pa_cons (pv 0) pa_nil))) (pg_name (i := 2) sc_arities.nd rfl (Or.inl rfl)) (pss_cons (ps_set (i := 3) sc_arities.nd rfl (Or.inl rfl) (pe_call G_arities_in R_arities_in (by rfl) g_arities_in k_arities_in b_arities_in .nil pass0 (pa_cons (pv 2) pa_nil))) (pss_one (ps_lock (ps_for PassesOwn.never rfl (pi_keys (pv 3)) (pg_name (i := 4) sc_arities.nd rfl (Or.inl rfl)) (pss_one (ps_if (pt_cmpR op_ne (pe_dsetd (pv 1) (pv 4) (pe_dget (hu_of hr) (pv 3) (pv 4) (fun _ _ => rfl)) ⟨rfl, rfl, rfl, rfl⟩) (pe_dget (hu_of hr) (pv 3) (pv 4) (fun _ _ => rfl)) (nomark _)) pss_never pss_nil))))))) (pss_cons (ps_set (i := 5) sc_arities.nd rfl (Or.inl rfl) (pe_call G_bound_name R_bound_name (by rfl) g_bound_name k_bound_name b_bound_name .nil pass0 (pa_cons (pv 0) pa_nil))) (pss_cons (ps_if (pt_cmp (pc_dinN (hu_of hr) (pv 5) (pv 1))) (pss_one (ps_if (pt_cmpR op_ne (pe_dpop1 (pv 1) (pv 5) ⟨rfl, rfl, rfl, rfl⟩) (pe_call G_bound_arity R_bound_arity (by rfl) g_bound_arity k_bound_arity b_bound_arity .nil pass0 (pa_cons (pv 0) pa_nil)) (nomark _)) pss_never pss_nil)) pss_nil) (pss_one (ps_ret (pv 1)))))))), ?_⟩
      obtain ⟨h, ps⟩ := f
      rw [Fm.data_mk] at dp
      have fit : h.Ok (ps.map Fm.data).length := by rw [List.length_map]; exact ok.hd_
      obtain ⟨a, xs, rfl, hT, hx⟩ := hd_inv dp
      refine ⟨_, rfl, a, _, _, _, rfl, rfl, hT, atI_nat (j := 0) rfl, rfl, _, rfl, ?_⟩
      by_cases kr : h.kd = .rel
      · refine cT (k := decide (V.str h.word = V.str "rel")) (by rw [kw_rel, decide_eq_true kr]) ?_
        cases h with
        | rel m as =>
          obtain ⟨v1, ws1, rfl, h1, hx⟩ := DpAll.cons_inv hx
          obtain ⟨v2, ws2, rfl, h2, _⟩ := DpAll.cons_inv hx
          rw [Dp.str_inv h1] at hT
          obtain ⟨t2, rfl, ht2⟩ := tS_inv h2
          intro p np
          have sp := same_upd (o := .dK []) np
          refine ⟨_, rfl, a, _, _, _, rfl, rfl, Same.sqt sp hT, atI_nat (j := 1) rfl, _, rfl, a, _, _, _, rfl, rfl, Same.sqt sp hT, atI_nat (j := 2) rfl, t2, _, rfl, .inr (Same.sqt sp ht2), upd_same, [enc (m, (as.map V.str).length)], rfl, (by show 1 ≤ 15; decide), ?_⟩
          refine q _ p [(m, as.length)] (fun b o eb => ?_) np ?_ ?_
          · rw [upd_ne (ne_of_none eb np)]
            exact sp _ _ eb
          · rw [upd_same, List.length_map]
            rfl
          · rw [Fm.syms_rel]
            exact ⟨by simp, fun _ => Iff.rfl⟩
        | _ => cases kr
      · refine cF (k := decide (V.str h.word = V.str "rel")) (by rw [kw_rel, decide_eq_false kr]) ?_
        -- found = {}
        intro d nd
        have s0 := same_upd (o := .dK []) nd
        have hd0 : (upd H d (.dK [])) d = some (.dK (([] : List (Str × Nat)).map enc)) := upd_same
        revert s0 hd0
        generalize upd H d (.dK []) = H0
        intro s0 hd0
        refine ⟨_, rfl, _, h, _, rfl, Dp.same s0 dp, fit.fits, fun H2 r s2 hr2 => ?_⟩
        obtain ⟨b, ys, rfl, hb2, hy⟩ := Dp.tup_inv hr2
        have s02 := s0.trans s2
        have ndb : ∀ {x : Addr} {o : HO}, H x = some o → x ≠ d := fun e z => by rw [z, nd] at e; cases e
        have n2 : NotSeq H2 d := ⟨_, s2 _ _ hd0⟩
        have same3 : ∀ {H3 : Hp}, Kp d H2 H3 → Same H H3 := fun k c o e => k c o (s02 c o e) (ndb e)
        have lenE : ∀ {l : List (Str × Nat)} {i : Nat}, DictOf l ((ps.take i).map Fm.syms).flatten → l.length ≤ 2000 := fun {l i} dd => by
          have e1 := dd.len
          have e2 : ((ps.take i).map Fm.syms).flatten.length ≤ (ps.map Fm.syms).flatten.length := by
            have z : (ps.map Fm.syms).flatten = ((ps.take i).map Fm.syms).flatten ++ ((ps.drop i).map Fm.syms).flatten := by rw [← List.flatten_append, ← List.map_append, List.take_append_drop]
            rw [z, List.length_append]
            omega
          have e3 := sum_lens ps fun p _ => syms_cnt p
          rw [Fm.cnt_mk] at hc
          omega
        refine ⟨b, rfl, ⟨_, hb2⟩, for_tup (K := K) (a := b) (xs := ys) (fun i σ H3 => ∃ (y2 y3 y4 : Option V) (l : List (Str × Nat)), σ = [some (.ref a), some (.ref d), y2, y3, y4, none] ∧ Kp d H2 H3 ∧ H3 d = some (.dK (List.map enc l)) ∧ DictOf l ((ps.take i).map Fm.syms).flatten)
          ⟨none, none, none, [], rfl, .refl _ _, s2 _ _ hd0, ⟨List.nodup_nil, fun p => by simp⟩⟩ (fun i σ H3 _ ⟨_, _, _, _, _, k3, _⟩ => k3.sqt' n2 hb2) ?_ ?_⟩
        · rintro i y σ H3 hi ⟨y2, y3, y4, l, rfl, k3, hd3, dl⟩
          obtain ⟨dd, hdd, dpy⟩ := DpAll.get' hy hi
          obtain ⟨g, hg, rfl⟩ := get_map hdd
          have mem := List.mem_of_getElem? hg
          have dep1 : g.dep < (Fm.mk h ps).dep := dep_part mem
          have cnt1 : g.cnt ≤ 2000 := by
            have := le_sumN (List.mem_map_of_mem (f := Fm.cnt) mem)
            rw [Fm.cnt_mk] at hc
            omega
          have tg := ty.part kr mem
          refine ⟨_, rfl, y, g, h.env Γ, rfl, Dp.kpD k3 n2 dpy, ok.part mem, tg, by omega, cnt1, fun H4 e l2 s4 ne he d2 => ?_⟩
          have ned : e ≠ d := fun z => by rw [z, hd3] at ne; cases ne
          have l2len : l2.length ≤ 2000 := by
            have := d2.len
            have := syms_cnt g
            omega
          refine ⟨e, .dK (l2.map enc), he, trivial, fun od => ?_⟩
          refine ⟨_, rfl, e, od, rfl, .inl ⟨_, upd_same, for_it walk_keys (fun j σ H5 => ∃ (y4 : Option V) (l' : List (Str × Nat)), σ = [some (.ref a), some (.ref d), some y, some (.ref e), y4, none] ∧ H5 e = some (.frz od (.dK (l2.map enc))) ∧ (∀ c o, H4 c = some o → c ≠ d → c ≠ e → H5 c = some o) ∧
            H5 d = some (.dK (l'.map enc)) ∧ DictOf l' (((ps.take i).map Fm.syms).flatten ++ l2.take j))
            ⟨y4, l, rfl, upd_same, fun c o ec nc ne2 => by rw [upd_ne ne2]; exact ec, by rw [upd_ne ned.symm]; exact s4 _ _ hd3, by rw [List.take_zero, List.append_nil]; exact dl⟩ (fun j σ H5 _ ⟨_, _, _, q1, _⟩ => q1) ?_ ?_⟩⟩
          · rintro j x σ H5 H6 hj ⟨y4, l', rfl, he5, k5, hd5, dl'⟩ ⟨rfl, kk, vv, hkv, rfl⟩
            obtain ⟨p, hp, ep⟩ := get_map hkv
            have ek : kk = Sum.inr p.1 := congrArg Prod.fst ep
            subst ek
            have pm := List.mem_of_getElem? hp
            have vp : valV (l2.map enc) (Sum.inr p.1) = some (.int (p.2 : Nat)) := val_of d2.nd pm
            have ep2 : (h.env Γ) p.1 = some p.2 := typed_sym g _ tg p ((d2.mem p).mp pm)
            have tk : l2.take (j + 1) = l2.take j ++ [p] := by rw [List.take_add_one, hp]; rfl
            have lens : l'.length < sizeLine := by
              have e1 := dl'.len
              rw [List.length_append] at e1
              have e2 : ((ps.take i).map Fm.syms).flatten.length ≤ 2000 := by
                have z : (ps.map Fm.syms).flatten = ((ps.take i).map Fm.syms).flatten ++ ((ps.drop i).map Fm.syms).flatten := by rw [← List.flatten_append, ← List.map_append, List.take_append_drop]
                have e3 := sum_lens ps fun p _ => syms_cnt p
                rw [Fm.cnt_mk] at hc
                rw [z, List.length_append] at e3
                omega
              have e4 := List.length_take_le j l2
              exact Nat.lt_of_le_of_lt (show l'.length ≤ 4000 by have := List.length_take_le' j l2; omega) (by decide)
            have get2 : ∀ H7 : Hp, H7 e = some (.frz od (.dK (l2.map enc))) → DGet H7 e (.str p.1) (some (.int (p.2 : Nat))) := fun H7 e7 => .inl ⟨_, Sum.inr p.1, .inr ⟨od, e7⟩, rfl, vp.symm⟩
            refine ⟨_, rfl, d, rfl, .inl ⟨_, Rd.of hd5⟩, _, rfl, _, rfl, _, rfl, e, _, rfl, get2 _ he5, _, Sum.inr p.1, hd5, rfl, by rw [List.length_map]; exact lens, fun v hv => ?_, fun hv => ?_⟩
            · obtain ⟨a2, ha2, rfl⟩ := val_enc hv
              have ea : (h.env Γ) p.1 = some a2 := by
                rcases List.mem_append.mp ((dl'.mem _).mp ha2) with z | z
                · obtain ⟨lz, hlz, hz⟩ := List.mem_flatten.mp z
                  obtain ⟨g2, hg2, rfl⟩ := List.mem_map.mp hlz
                  exact typed_sym g2 _ (ty.part kr (List.mem_of_mem_take hg2)) _ hz
                · exact typed_sym g _ tg _ ((d2.mem _).mp (List.mem_of_mem_take z))
              have e22 : a2 = p.2 := Option.some.inj (ea.symm.trans ep2)
              refine ⟨_, rfl, _, rfl, e, _, rfl, get2 _ he5, rfl, _, rfl, ?_⟩
              refine cF (k := !decide (V.int (a2 : Nat) = V.int (p.2 : Nat))) (by rw [e22, decide_eq_true rfl]; rfl) ?_
              refine ⟨_, l', rfl, he5, k5, hd5, ?_⟩
              rw [tk, ← List.append_assoc]
              rw [e22] at ha2
              exact dl'.keep ha2
            · have hn2 := val_enc_none.mp hv
              rw [putK_new _ hv]
              have e23 : (l'.map enc) ++ [((Sum.inr p.1 : Key), V.int (p.2 : Nat))] = (l' ++ [p]).map enc := by rw [List.map_append]; rfl
              rw [e23]
              have he6 : (upd H6 d (.dK ((l' ++ [p]).map enc))) e = some (.frz od (.dK (l2.map enc))) := by rw [upd_ne ned]; exact he5
              refine ⟨_, rfl, _, rfl, e, _, rfl, get2 _ he6, rfl, _, rfl, ?_⟩
              refine cF (k := !decide (V.int (p.2 : Nat) = V.int (p.2 : Nat))) (by rw [decide_eq_true rfl]; rfl) ?_
              refine ⟨_, l' ++ [p], rfl, he6, fun c o ec nc ne2 => by rw [upd_ne nc]; exact k5 c o ec nc ne2, upd_same, ?_⟩
              rw [tk, ← List.append_assoc]
              exact dl'.add hn2
          · rintro σ H5 ⟨y4, l', rfl, he5, k5, hd5, dl'⟩
            refine ⟨he5, _, _, _, l', rfl, fun c o ec nc => ?_, ?_, ?_⟩
            · have e3 := k3 c o ec nc
              have nce : c ≠ e := ne_of_none e3 ne
              rw [upd_ne nce]
              exact k5 c o (s4 _ _ e3) nc nce
            · rw [upd_ne ned.symm]
              exact hd5
            · have tl : l2.take (l2.map enc).length = l2 := List.take_of_length_le (by rw [List.length_map]; exact Nat.le_refl _)
              rw [tl] at dl'
              rw [take_flat hg]
              exact dl'.as fun p => by rw [List.mem_append, List.mem_append, d2.mem]
        · rintro σ H3 ⟨y2, y3, y4, l, rfl, k3, hd3, dl⟩
          have ey : ys.length = ps.length := by rw [DpAll.length hy, List.length_map]
          rw [List.take_of_length_le (show ps.length ≤ ys.length by omega)] at dl
          have s3 := same3 k3
          refine ⟨_, rfl, _, h, _, rfl, Dp.same s3 dp, fit.fits, fun H6 r1 s6 er => ?_⟩
          have er : r1 = match h.bound with | some (n, _) => V.str n | none => .non := er
          have hd6 := s6 _ _ hd3
          have s36 := s3.trans s6
          have fin : h.bname = none → Q (.ref d) H6 := fun hb => q H6 d l s36 nd hd6 (dl.as fun p => by
            rw [Fm.syms_mem kr, hb]
            constructor
            · intro z
              obtain ⟨lz, hlz, hz⟩ := List.mem_flatten.mp z
              obtain ⟨g2, hg2, rfl⟩ := List.mem_map.mp hlz
              exact ⟨(fun z => nomatch z), g2, hg2, hz⟩
            · rintro ⟨_, g2, hg2, hz⟩
              exact List.mem_flatten.mpr ⟨_, List.mem_map.mpr ⟨g2, hg2, rfl⟩, hz⟩)
          cases hbd : h.bound with
          | none =>
            rw [hbd] at er
            subst er
            refine ⟨_, rfl, _, rfl, .inr ⟨d, _, rfl, rfl, Rd.of hd6, _, rfl, iteF ?_⟩⟩
            exact ⟨_, rfl, fin (by unfold Hd.bname; rw [hbd]; rfl)⟩
          | some z =>
            obtain ⟨n0, k0⟩ := z
            rw [hbd] at er
            have hbn : h.bname = some n0 := by unfold Hd.bname; rw [hbd]; rfl
            subst er
            refine ⟨_, rfl, _, rfl, .inl ⟨d, _, rfl, DGet.k (k := Sum.inr n0) hd6, _, rfl, ?_⟩⟩
            cases hv : valV (l.map enc) (Sum.inr n0) with
            | none =>
              refine cF (k := (none : Option V).isSome) rfl ⟨_, rfl, q H6 d l s36 nd hd6 (dl.as fun p => ?_)⟩
              have nin := val_enc_none.mp hv
              rw [Fm.syms_mem kr, hbn]
              constructor
              · intro z
                have pl : p ∈ l := (dl.mem p).mpr z
                obtain ⟨lz, hlz, hz⟩ := List.mem_flatten.mp z
                obtain ⟨g2, hg2, rfl⟩ := List.mem_map.mp hlz
                exact ⟨fun z => nin (List.mem_map.mpr ⟨p, pl, (Option.some.inj z).symm⟩), g2, hg2, hz⟩
              · rintro ⟨_, g2, hg2, hz⟩
                exact List.mem_flatten.mpr ⟨_, List.mem_map.mpr ⟨g2, hg2, rfl⟩, hz⟩
            | some v =>
              obtain ⟨a2, ha2, rfl⟩ := val_enc hv
              have ea : a2 = k0 := by
                obtain ⟨lz, hlz, hz⟩ := List.mem_flatten.mp ((dl.mem _).mp ha2)
                obtain ⟨g2, hg2, rfl⟩ := List.mem_map.mp hlz
                have e1 := typed_sym g2 _ (ty.part kr hg2) _ hz
                unfold Hd.env at e1
                rw [hbd] at e1
                have e2 : some k0 = some a2 := by simpa using e1
                exact (Option.some.inj e2).symm
              refine cT (k := (some (V.int (a2 : Nat))).isSome) rfl ?_
              have s37 : Same H (upd H6 d (.dK (dropK (l.map enc) (Sum.inr n0)))) := fun c o e => by rw [upd_ne (ndb e)]; exact s36 c o e
              refine ⟨_, rfl, d, rfl, .inl ⟨_, Rd.of hd6⟩, _, rfl, _, Sum.inr n0, _, hd6, rfl, hv, ?_⟩
              refine ⟨_, rfl, _, h, _, n0, k0, rfl, Dp.same s37 dp, hbd, fun H7 s7 => ⟨rfl, _, rfl, ?_⟩⟩
              refine cF (k := !decide (V.int (a2 : Nat) = V.int (k0 : Nat))) (by rw [ea, decide_eq_true rfl]; rfl) ?_
              refine ⟨_, rfl, q H7 d (l.filter fun p => !decide (p.1 = n0)) (s37.trans s7) nd ?_ ⟨?_, fun p => ?_⟩⟩
              · rw [← drop_enc]
                exact s7 _ _ upd_same
              · exact List.Nodup.sublist ((List.filter_sublist (p := fun p => !decide (p.1 = n0)) (l := l)).map _) dl.nd
              · rw [List.mem_filter, dl.mem, Fm.syms_mem kr, hbn]
                constructor
                · rintro ⟨z, zn⟩
                  obtain ⟨lz, hlz, hz⟩ := List.mem_flatten.mp z
                  obtain ⟨g2, hg2, rfl⟩ := List.mem_map.mp hlz
                  refine ⟨fun z => ?_, g2, hg2, hz⟩
                  have e9 : n0 = p.1 := Option.some.inj z
                  rw [e9] at zn
                  simp at zn
                · rintro ⟨zn, g2, hg2, hz⟩
                  refine ⟨List.mem_flatten.mpr ⟨_, List.mem_map.mpr ⟨g2, hg2, rfl⟩, hz⟩, ?_⟩
                  have e9 : ¬ p.1 = n0 := fun z => zn (by rw [z])
                  simp [e9]
end
/-! ### check_formula of a right formula -/
structure Fm.Wf (f : Fm) : Prop where
  ok : f.Ok
  dep : f.dep ≤ 40
  cnt : f.cnt ≤ 2000
  pos : f.PosOk
  ty : ∃ Γ, f.Typed Γ
section
variable {P : Program} {w : World} {K : PySem.W.Frag} {mg : Str → Option Value} {base : Heap}
/-- a function of a right formula that changes nothing -/
def spWf (K : PySem.W.Frag) (R : Fm → V → Hp → Prop) : Sp := fun vs H Q _ => ∃ (v : V) (f : Fm), vs = [v] ∧ Dp K H v f.data ∧ f.Wf ∧ ∀ (H' : Hp) (r : V), Same H H' → R f r H' → Q r H'
abbrev spCheck (K : PySem.W.Frag) : Sp := spWf K fun _ r _ => r = .non
theorem sc_check_formula : FnScope ["formula"] ["formula"] (defScope (top 52)) := ⟨rfl, rfl, rfl, by decide +kernel, rfl, by decide +kernel, by decide +kernel⟩
theorem has_check_formula (D : Def K mg "check_formula" ["formula"] (top 52)) (k1 : ∃ t, mg "MOST_DEEP" = some (.int 40 t)) (k2 : ∃ t, mg "MOST_PARTS" = some (.int 2000 t))
    (C1 : ∀ n, Has P w K mg base (6 + n) "_check_shapes" ["value", "levels_left", "parts_left"] (spCS K n)) (C2 : ∀ n, Has P w K mg base (2 + n) "arities_in" ["formula"] (spAr K n)) (C3 : ∀ n, Has P w K mg base (3 + n) "_check_fixed_points" ["formula"] (spCF K n)) :
    Has P w K mg base 47 "check_formula" ["formula"] (spCheck K) := D.has fun f fd F => by
  obtain ⟨f1, fd1, G_check_shapes, g_check_shapes, k_check_shapes, b_check_shapes⟩ := C1 40
  obtain ⟨f2, fd2, G_arities_in, g_arities_in, k_arities_in, b_arities_in⟩ := C2 40
  obtain ⟨f3, fd3, G_check_fixed_points, g_check_fixed_points, k_check_fixed_points, b_check_fixed_points⟩ := C3 40
  obtain ⟨t1, c_MOST_DEEP⟩ := k1
  obtain ⟨t2, c_MOST_PARTS⟩ := k2
  refine F.ok sc_check_formula (fun vs H Q E h => ?_) (fun cdv A outer s H vs Q E hr h => ?_)
  · obtain ⟨v, f, rfl, _⟩ := h; rfl
  · obtain ⟨v, f, rfl, dp, wf, q⟩ := h
    have R_check_shapes : Room (6 + 40) _ := hr.mono (by decide)
    have R_arities_in : Room (2 + 40) _ := hr.mono (by decide)
    have R_check_fixed_points : Room (3 + 40) _ := hr.mono (by decide)
    refine ⟨_, PSs.nox (pss_cons (ps_expr (pe_call G_check_shapes R_check_shapes (by rfl) g_check_shapes k_check_shapes b_check_shapes .nil pass0 (pa_cons (pv 0) (pa_cons (pe_glob (v := .int 40) (by rfl) c_MOST_DEEP ⟨_, rfl⟩) (pa_cons (pe_glob (v := .int 2000) (by rfl) c_MOST_PARTS ⟨_, rfl⟩) pa_nil))))) (pss_cons (ps_expr (pe_call G_arities_in R_arities_in (by rfl) g_arities_in k_arities_in b_arities_in .nil pass0 (pa_cons (pv 0) pa_nil))) (pss_one (ps_expr (pe_call G_check_fixed_points R_check_fixed_points (by rfl) g_check_fixed_points k_check_fixed_points b_check_fixed_points .nil pass0 (pa_cons (pv 0) pa_nil)))))), ?_⟩
    obtain ⟨Γ, ty⟩ := wf.ty
    have h1 := wf.dep
    have h2 := wf.cnt
    refine ⟨_, rfl, v, 40, 2000, f, rfl, dp, wf.ok, h1, by omega, by omega, fun H1 s1 => ?_⟩
    refine ⟨_, rfl, v, f, Γ, rfl, Dp.same s1 dp, wf.ok, ty, h1, h2, fun H2 d l s2 _ _ _ => ?_⟩
    refine ⟨_, rfl, v, f, rfl, Dp.same (s1.trans s2) dp, wf.ok, wf.pos, h1, fun H3 s3 => ?_⟩
    exact q H3 .non ((s1.trans s2).trans s3) rfl
end
/-! ### what the law's formulas are -/
def sgOf (m : Nat) : Option Int := match m with
  | 0 => none
  | 1 => some 1
  | 2 => some (-1)
  | _ => some 0
def five : List Str := ["e", "p", "q", "r", "s"]
def Hd.vars (h : Hd) : List Str := h.own ++ h.args
def Hd.rn (h : Hd) : List Str := match h with
  | .rel n _ => [n]
  | _ => []
/-- all variables that occur, all names of relations that occur -/
def Fm.vars : Fm → List Str := Fm.fold fun h xs => h.vars ++ xs.flatten
def Fm.rns : Fm → List Str := Fm.fold fun h xs => h.rn ++ xs.flatten
theorem Fm.vars_mk (h : Hd) (ps : List Fm) : (Fm.mk h ps).vars = h.vars ++ (ps.map Fm.vars).flatten := Fm.fold_mk _ h ps
theorem Fm.rns_mk (h : Hd) (ps : List Fm) : (Fm.mk h ps).rns = h.rn ++ (ps.map Fm.rns).flatten := Fm.fold_mk _ h ps
structure Occ (pool : List Str) (f : Fm) : Prop where
  vs : ∀ x, x ∈ f.vars → x ∈ pool
  rs : ∀ x, x ∈ f.rns → x ∈ five
theorem Occ.part {pool : List Str} {h : Hd} {ps : List Fm} {p : Fm} (o : Occ pool (.mk h ps)) (hp : p ∈ ps) : Occ pool p :=
  ⟨fun x hx => o.vs x (by rw [Fm.vars_mk]; exact List.mem_append_right _ (List.mem_flatten.mpr ⟨_, List.mem_map.mpr ⟨p, hp, rfl⟩, hx⟩)),
   fun x hx => o.rs x (by rw [Fm.rns_mk]; exact List.mem_append_right _ (List.mem_flatten.mpr ⟨_, List.mem_map.mpr ⟨p, hp, rfl⟩, hx⟩))⟩
theorem Occ.mk' {pool : List Str} {h : Hd} {ps : List Fm} (a : ∀ x, x ∈ h.vars → x ∈ pool) (b : ∀ x, x ∈ h.rn → x ∈ five) (c : ∀ p, p ∈ ps → Occ pool p) : Occ pool (.mk h ps) := by
  refine ⟨fun x hx => ?_, fun x hx => ?_⟩
  · rw [Fm.vars_mk] at hx
    rcases List.mem_append.mp hx with hx | hx
    · exact a x hx
    · obtain ⟨l, hl, hx⟩ := List.mem_flatten.mp hx
      obtain ⟨p, hp, rfl⟩ := List.mem_map.mp hl
      exact (c p hp).vs x hx
  · rw [Fm.rns_mk] at hx
    rcases List.mem_append.mp hx with hx | hx
    · exact b x hx
    · obtain ⟨l, hl, hx⟩ := List.mem_flatten.mp hx
      obtain ⟨p, hp, rfl⟩ := List.mem_map.mp hl
      exact (c p hp).rs x hx
structure NOk (ns : List NE) (Γ : ArE) : Prop where
  nm : ∀ p, p ∈ ns → Nm p.1
  ar : ∀ p, p ∈ ns → p.2.1 ≤ 3
  md : ∀ p, p ∈ ns → p.2.2 ≤ 3
  fit : ∀ p, p ∈ ns → Γ p.1 = some p.2.1
  uni : ∀ p q, p ∈ ns → q ∈ ns → p.1 = q.1 → p = q
  fv : ∀ p, p ∈ ns → p.1 ∈ five
theorem mode_le {a b c e m : Nat} (ha : a ≤ 3) (hb : b ≤ 3) (hc : c ≤ 3) (he : e ≤ 3) : mode4 a b c e m ≤ 3 := by
  unfold mode4
  split <;> assumption
theorem NOk.map {ns : List NE} {Γ : ArE} (F : Nat → Nat) (hF : ∀ m, F m ≤ 3) (k : NOk ns Γ) : NOk (ns.map fun p => (p.1, p.2.1, F p.2.2)) Γ := by
  have inv : ∀ p, p ∈ (ns.map fun p : NE => (p.1, p.2.1, F p.2.2)) → ∃ q, q ∈ ns ∧ p = (q.1, q.2.1, F q.2.2) := fun p hp => by
    obtain ⟨q, hq, e⟩ := List.mem_map.mp hp
    exact ⟨q, hq, e.symm⟩
  refine ⟨fun p hp => ?_, fun p hp => ?_, fun p hp => ?_, fun p hp => ?_, fun p q hp hq e => ?_, fun p hp => ?_⟩
  · obtain ⟨q, hq, rfl⟩ := inv p hp; exact k.nm q hq
  · obtain ⟨q, hq, rfl⟩ := inv p hp; exact k.ar q hq
  · obtain ⟨q, hq, rfl⟩ := inv p hp; exact hF _
  · obtain ⟨q, hq, rfl⟩ := inv p hp; exact k.fit q hq
  · obtain ⟨p0, hp0, rfl⟩ := inv p hp
    obtain ⟨q0, hq0, rfl⟩ := inv q hq
    rw [k.uni p0 q0 hp0 hq0 e]
  · obtain ⟨q, hq, rfl⟩ := inv p hp; exact k.fv q hq
theorem NOk.turned {ns : List NE} {Γ : ArE} (k : NOk ns Γ) : NOk (turned ns) Γ := k.map _ fun m => mode_le (by decide) (by decide) (by decide) (by decide)
theorem NOk.barred {ns : List NE} {Γ : ArE} (k : NOk ns Γ) : NOk (barred ns) Γ := k.map _ fun m => mode_le (by decide) (by decide) (by decide) (by decide)
theorem mem_within {ns : List NE} {p q : NE} : q ∈ within ns p ↔ (q ∈ ns ∧ q.1 ≠ p.1) ∨ q = p := by
  unfold within
  rw [List.mem_append, List.mem_filter, List.mem_singleton]
  simp
theorem NOk.within {ns : List NE} {Γ Δ : ArE} {p : NE} (k : NOk ns Γ) (hn : Nm p.1) (h5 : p.1 ∈ five) (ha : p.2.1 ≤ 3) (hm : p.2.2 ≤ 3) (hΔ : ∀ x, Δ x = if x = p.1 then some p.2.1 else Γ x) : NOk (within ns p) Δ := by
  refine ⟨fun q hq => ?_, fun q hq => ?_, fun q hq => ?_, fun q hq => ?_, fun q r hq hr e => ?_, fun q hq => ?_⟩
  · rcases mem_within.mp hq with ⟨h, _⟩ | rfl
    · exact k.nm q h
    · exact hn
  · rcases mem_within.mp hq with ⟨h, _⟩ | rfl
    · exact k.ar q h
    · exact ha
  · rcases mem_within.mp hq with ⟨h, _⟩ | rfl
    · exact k.md q h
    · exact hm
  · rw [hΔ]
    rcases mem_within.mp hq with ⟨h, n⟩ | rfl
    · rw [if_neg n]; exact k.fit q h
    · rw [if_pos rfl]
  · rcases mem_within.mp hq with ⟨h, n⟩ | rfl
    · rcases mem_within.mp hr with ⟨h2, n2⟩ | rfl
      · exact k.uni q r h h2 e
      · exact absurd e n
    · rcases mem_within.mp hr with ⟨h2, n2⟩ | rfl
      · exact absurd e.symm n2
      · rfl
  · rcases mem_within.mp hq with ⟨h, _⟩ | rfl
    · exact k.fv q h
    · exact h5
def Hd.kw (h : Hd) : List Str := match h with
  | .rel _ _ => []
  | .eq _ _ => []
  | .less _ _ => []
  | .no => []
  | .con => []
  | .dis => []
  | _ => [h.word]
/-- the kinds of formulas that bind, wherever they stand -/
def Fm.kws : Fm → List Str := Fm.fold fun h xs => h.kw ++ xs.flatten
theorem Fm.kws_mk (h : Hd) (ps : List Fm) : (Fm.mk h ps).kws = h.kw ++ (ps.map Fm.kws).flatten := Fm.fold_mk _ h ps
theorem kws_of {h : Hd} {ps : List Fm} {ks : List Str} (a : ∀ x, x ∈ h.kw → x ∈ ks) (b : ∀ p, p ∈ ps → ∀ x, x ∈ p.kws → x ∈ ks) : ∀ x, x ∈ (Fm.mk h ps).kws → x ∈ ks := fun x hx => by
  rw [Fm.kws_mk] at hx
  rcases List.mem_append.mp hx with hx | hx
  · exact a x hx
  · obtain ⟨l, hl, hx⟩ := List.mem_flatten.mp hx
    obtain ⟨p, hp, rfl⟩ := List.mem_map.mp hl
    exact b p hp x hx
structure Gen (ks pool : List Str) (ns : List NE) (Γ : ArE) (f : Fm) (n : Nat) : Prop where
  ok : f.Ok
  ty : f.Typed Γ
  po : f.PosOk
  md : ∀ p, p ∈ ns → ∀ s, sgOf p.2.2 = some s → f.pos p.1 s = true
  dep : f.dep ≤ n
  cnt : 2 * f.cnt + 1 ≤ 3 ^ n
  oc : Occ pool f
  kd : ∀ x, x ∈ f.kws → x ∈ ks
  sy : ∀ p, p ∈ f.syms → ∃ q, q ∈ ns ∧ q.1 = p.1 ∧ q.2.1 = p.2
theorem Gen.mono {ks pool : List Str} {ns : List NE} {Γ : ArE} {f : Fm} {n m : Nat} (g : Gen ks pool ns Γ f n) (h : n ≤ m) : Gen ks pool ns Γ f m :=
  ⟨g.ok, g.ty, g.po, g.md, Nat.le_trans g.dep h, Nat.le_trans g.cnt (Nat.pow_le_pow_right (by decide) h), g.oc, g.kd, g.sy⟩
theorem Gen.kinds {ks ks' pool : List Str} {ns : List NE} {Γ : ArE} {f : Fm} {n : Nat} (g : Gen ks pool ns Γ f n) (h : ∀ x, x ∈ ks → x ∈ ks') : Gen ks' pool ns Γ f n :=
  ⟨g.ok, g.ty, g.po, g.md, g.dep, g.cnt, g.oc, fun x hx => h x (g.kd x hx), g.sy⟩
theorem Gen.rel {ks pool : List Str} {ns : List NE} {Γ : ArE} {p : NE} {as : List Str} (k : NOk ns Γ) (hp : p ∈ ns) (u : p.2.2 < 2) (len : as.length = p.2.1) (hs : Names as) (hv : ∀ x, x ∈ as → x ∈ pool) : Gen ks pool ns Γ (.mk (.rel p.1 as) []) 1 := by
  refine ⟨.mk ⟨k.nm p hp, ?_, hs, rfl⟩ (fun q hq => nomatch hq), .rel (by rw [len]; exact k.fit p hp), .mk (fun n us as e => by cases e) (fun q hq => nomatch hq), fun q hq s hs => ?_, by rw [Fm.dep_mk]; exact Nat.le_refl _, by rw [Fm.cnt_mk]; exact Nat.le_refl _, .mk' hv (fun x hx => by rw [List.mem_singleton.mp hx]; exact k.fv p hp) (fun q hq => nomatch hq), kws_of (fun x hx => nomatch hx) (fun q hq => nomatch hq), fun s hs => ⟨p, hp, by rw [Fm.syms_rel] at hs; rw [List.mem_singleton.mp hs], by rw [Fm.syms_rel] at hs; rw [List.mem_singleton.mp hs]; exact len.symm⟩⟩
  · have := k.ar p hp
    omega
  · rw [Fm.pos_rel]
    by_cases e : p.1 = q.1
    · have e2 := k.uni p q hp hq e
      subst e2
      obtain ⟨a, b, m⟩ := p
      have u : m < 2 := u
      match m, u with
      | 0, _ => cases hs
      | 1, _ =>
        have : s = 1 := (Option.some.inj hs).symm
        rw [this]; rfl
    · rw [decide_eq_false e]
      exact Bool.or_true _
theorem Gen.cmp {ks pool : List Str} {ns : List NE} {Γ : ArE} {h : Hd} (c : (∃ x y, h = .eq x y ∧ (Nm x ∧ x ∈ pool) ∧ Nm y ∧ y ∈ pool) ∨ (∃ x y, h = .less x y ∧ (Nm x ∧ x ∈ pool) ∧ Nm y ∧ y ∈ pool)) : Gen ks pool ns Γ (.mk h []) 1 := by
  have nr : h.kd ≠ .rel := by rcases c with ⟨x, y, rfl, _⟩ | ⟨x, y, rfl, _⟩ <;> exact fun z => nomatch z
  refine ⟨.mk ?_ (fun q hq => nomatch hq), .other nr (fun q hq => nomatch hq), .mk (fun n us as e => ?_) (fun q hq => nomatch hq), fun q hq s hs => ?_, by rw [Fm.dep_mk]; exact Nat.le_refl _, by rw [Fm.cnt_mk]; exact Nat.le_refl _, .mk' (fun z hz => ?_) (fun z hz => ?_) (fun q hq => nomatch hq), kws_of (fun x hx => by rcases c with ⟨_, _, rfl, _⟩ | ⟨_, _, rfl, _⟩ <;> exact nomatch hx) (fun q hq => nomatch hq), fun s hs => by obtain ⟨_, q, hq, _⟩ := (Fm.syms_mem nr).mp hs; cases hq⟩
  · rcases c with ⟨x, y, rfl, h1, h2⟩ | ⟨x, y, rfl, h1, h2⟩ <;> exact ⟨h1.1, h2.1, rfl⟩
  · rcases c with ⟨x, y, rfl, h1, h2⟩ | ⟨x, y, rfl, h1, h2⟩ <;> cases e
  · rw [Fm.pos_other nr]
    split <;> rfl
  · rcases c with ⟨x, y, rfl, h1, h2⟩ | ⟨x, y, rfl, h1, h2⟩
    · have hz : z ∈ [x, y] := hz
      rcases List.mem_cons.mp hz with rfl | hz
      · exact h1.2
      · rw [List.mem_singleton.mp hz]; exact h2.2
    · have hz : z ∈ [x, y] := hz
      rcases List.mem_cons.mp hz with rfl | hz
      · exact h1.2
      · rw [List.mem_singleton.mp hz]; exact h2.2
  · rcases c with ⟨x, y, rfl, h1, h2⟩ | ⟨x, y, rfl, h1, h2⟩ <;> exact nomatch hz
theorem rn_none {h : Hd} (nr : h.kd ≠ .rel) : h.rn = [] := by cases h <;> first | rfl | exact absurd rfl nr
theorem sum_gen {n : Nat} : ∀ (ps : List Fm), (∀ p, p ∈ ps → 2 * p.cnt + 1 ≤ 3 ^ n) → 2 * sumN (ps.map Fm.cnt) + ps.length ≤ ps.length * 3 ^ n
  | [], _ => Nat.zero_le _
  | p :: ps, h => by
    have a := h p (List.mem_cons_self ..)
    have b := sum_gen ps fun q hq => h q (List.mem_cons_of_mem _ hq)
    show 2 * (p.cnt + sumN (ps.map Fm.cnt)) + (ps.length + 1) ≤ (ps.length + 1) * 3 ^ n
    rw [Nat.add_mul, Nat.one_mul]
    omega
theorem maxN_le {n : Nat} : ∀ (xs : List Nat), (∀ x, x ∈ xs → x ≤ n) → maxN xs ≤ n
  | [], _ => Nat.zero_le _
  | x :: xs, h => Nat.max_le.mpr ⟨h x (List.mem_cons_self ..), maxN_le xs fun y hy => h y (List.mem_cons_of_mem _ hy)⟩
theorem Gen.step {ks pool : List Str} {ns ns' : List NE} {Γ : ArE} {h : Hd} {ps : List Fm} {n : Nat} (nr : h.kd ≠ .rel) (kw : ∀ x, x ∈ h.kw → x ∈ ks) (su : ∀ q, q ∈ ns' → h.bname ≠ some q.1 → ∃ q', q' ∈ ns ∧ q'.1 = q.1 ∧ q'.2.1 = q.2.1) (ok : h.Ok ps.length) (hv : ∀ x, x ∈ h.vars → x ∈ pool) (hg : ∀ g, g ∈ ps → Gen ks pool ns' (h.env Γ) g n) (len : ps.length ≤ 3)
    (hl : ∀ m us as, h = .lfp m us as → ∃ q, q ∈ ns' ∧ q.1 = m ∧ sgOf q.2.2 = some 1)
    (tr : ∀ p, p ∈ ns → h.bname ≠ some p.1 → ∀ s, sgOf p.2.2 = some s → ∃ q, q ∈ ns' ∧ q.1 = p.1 ∧ sgOf q.2.2 = some (h.sgn s)) : Gen ks pool ns Γ (.mk h ps) (n + 1) := by
  refine ⟨.mk ok fun p hp => (hg p hp).ok, .other nr fun p hp => (hg p hp).ty, .mk (fun m us as e p hp => ?_) fun p hp => (hg p hp).po, fun p hp s hs => ?_, ?_, ?_, .mk' hv (fun x hx => by rw [rn_none nr] at hx; cases hx) (fun p hp => (hg p hp).oc), kws_of kw (fun p hp => (hg p hp).kd), fun s hs => by
    obtain ⟨nb, g, hgm, hx⟩ := (Fm.syms_mem nr).mp hs
    obtain ⟨q, hq, e1, e2⟩ := (hg g hgm).sy s hx
    obtain ⟨q', hq', e3, e4⟩ := su q hq (by rw [e1]; exact nb)
    exact ⟨q', hq', e3.trans e1, e4.trans e2⟩⟩
  · obtain ⟨q, hq, e1, e2⟩ := hl m us as e
    rw [← e1]
    exact (hg p hp).md q hq 1 e2
  · rw [Fm.pos_other nr]
    by_cases hb : h.bname = some p.1
    · rw [if_pos hb]
    · rw [if_neg hb]
      refine List.all_eq_true.mpr fun g hgm => ?_
      obtain ⟨q, hq, e1, e2⟩ := tr p hp hb s hs
      rw [← e1]
      exact (hg g hgm).md q hq _ e2
  · rw [Fm.dep_mk]
    have := maxN_le (n := n) (ps.map Fm.dep) fun x hx => by
      obtain ⟨g, hgm, rfl⟩ := List.mem_map.mp hx
      exact (hg g hgm).dep
    omega
  · rw [Fm.cnt_mk]
    have h1 := sum_gen ps fun p hp => (hg p hp).cnt
    have h2 : 1 ≤ 3 ^ n := Nat.one_le_pow _ _ (by decide)
    rw [Nat.pow_succ]
    generalize sumN (ps.map Fm.cnt) = S at h1 ⊢
    generalize 3 ^ n = T at h1 h2 ⊢
    match hL : ps.length, len with
    | 0, _ => rw [hL] at h1; omega
    | 1, _ => rw [hL] at h1; omega
    | 2, _ => rw [hL] at h1; omega
    | 3, _ => rw [hL] at h1; omega
theorem sgOf_turn {m : Nat} {s : Int} (h : sgOf m = some s) : sgOf (mode4 0 2 1 3 m) = some (-s) := by
  match m with
  | 0 => cases h
  | 1 => rw [← Option.some.inj h]; rfl
  | 2 => rw [← Option.some.inj h]; rfl
  | _ + 3 => rw [← Option.some.inj h]; rfl
theorem sgOf_bar {m : Nat} {s : Int} (h : sgOf m = some s) : sgOf (mode4 0 3 3 3 m) = some 0 := by
  match m with
  | 0 => cases h
  | 1 => rfl
  | 2 => rfl
  | _ + 3 => rfl
theorem Gen.no {ks pool : List Str} {ns : List NE} {Γ : ArE} {g : Fm} {n : Nat} (hg : Gen ks pool (turned ns) Γ g n) : Gen ks pool ns Γ (.mk .no [g]) (n + 1) :=
  .step (ns' := SaysoV.turned ns) (fun z => nomatch z) (fun x hx => nomatch hx) (fun q hq _ => by obtain ⟨p, hp, rfl⟩ := List.mem_map.mp hq; exact ⟨p, hp, rfl, rfl⟩) rfl (fun x hx => nomatch hx) (fun f hf => by rw [List.mem_singleton.mp hf]; exact hg) (show 1 ≤ 3 by decide) (fun m us as e => by cases e) fun p hp _ s hs => ⟨(p.1, p.2.1, mode4 0 2 1 3 p.2.2), List.mem_map.mpr ⟨p, hp, rfl⟩, rfl, sgOf_turn hs⟩
theorem Gen.con {ks pool : List Str} {ns : List NE} {Γ : ArE} {h : Hd} {ps : List Fm} {n : Nat} (c : h = .con ∨ h = .dis) (hg : ∀ g, g ∈ ps → Gen ks pool ns Γ g n) (len : ps.length ≤ 3) : Gen ks pool ns Γ (.mk h ps) (n + 1) := by
  refine .step (ns' := ns) ?_ (by rcases c with rfl | rfl <;> exact fun x hx => nomatch hx) (fun q hq _ => ⟨q, hq, rfl, rfl⟩) ?_ ?_ (fun f hf => ?_) len ?_ ?_
  · rcases c with rfl | rfl <;> exact fun z => nomatch z
  · rcases c with rfl | rfl <;> exact Nat.le_trans len (by decide)
  · rcases c with rfl | rfl <;> exact fun x hx => nomatch hx
  · rcases c with rfl | rfl <;> exact hg f hf
  · rcases c with rfl | rfl <;> exact fun m us as e => by cases e
  · rcases c with rfl | rfl <;> exact fun p hp _ s hs => ⟨p, hp, rfl, hs⟩
theorem Gen.quant {ks pool : List Str} {ns : List NE} {Γ : ArE} {h : Hd} {vs : List Str} {g : Fm} {n : Nat} (c : h = .ex vs ∨ h = .al vs) (kw : h.word ∈ ks) (o : OwnOk vs) (hv : ∀ x, x ∈ vs → x ∈ pool) (hg : Gen ks pool ns Γ g n) : Gen ks pool ns Γ (.mk h [g]) (n + 1) := by
  refine .step (ns' := ns) ?_ (by rcases c with rfl | rfl <;> exact fun x hx => by rw [List.mem_singleton.mp hx]; exact kw) (fun q hq _ => ⟨q, hq, rfl, rfl⟩) ?_ ?_ (fun f hf => ?_) (show 1 ≤ 3 by decide) ?_ ?_
  · rcases c with rfl | rfl <;> exact fun z => nomatch z
  · rcases c with rfl | rfl <;> exact ⟨o, rfl⟩
  · intro x hx
    refine hv x ?_
    rcases c with rfl | rfl
    · have hx : x ∈ vs ++ [] := hx
      rwa [List.append_nil] at hx
    · have hx : x ∈ vs ++ [] := hx
      rwa [List.append_nil] at hx
  · rw [List.mem_singleton.mp hf]
    rcases c with rfl | rfl <;> exact hg
  · rcases c with rfl | rfl <;> exact fun m us as e => by cases e
  · rcases c with rfl | rfl <;> exact fun p hp _ s hs => ⟨p, hp, rfl, hs⟩
theorem Gen.tc {ks pool : List Str} {ns : List NE} {Γ : ArE} {vs as : List Str} {g : Fm} {n : Nat} (kw : (("tc" : Str)) ∈ ks) (l2 : vs.length = 2) (nv : Names vs) (nd : vs.Nodup) (la : as.length = 2) (na : Names as) (hv : ∀ x, x ∈ vs → x ∈ pool) (hw : ∀ x, x ∈ as → x ∈ pool) (hg : Gen ks pool ns Γ g n) : Gen ks pool ns Γ (.mk (.tc vs as) [g]) (n + 1) :=
  .step (ns' := ns) (fun z => nomatch z) (fun x hx => by rw [List.mem_singleton.mp hx]; exact kw) (fun q hq _ => ⟨q, hq, rfl, rfl⟩) ⟨.inl l2, nv, nd, by rw [l2, la], na, rfl⟩ (fun x hx => (List.mem_append.mp (show x ∈ vs ++ as from hx)).elim (hv x) (hw x)) (fun f hf => by rw [List.mem_singleton.mp hf]; exact hg) (show 1 ≤ 3 by decide) (fun m us as e => by cases e) fun p hp _ s hs => ⟨p, hp, rfl, hs⟩
theorem Gen.lfp {ks pool : List Str} {ns : List NE} {Γ : ArE} {name : Str} {vs as : List Str} {g : Fm} {n : Nat} (kw : (("lfp" : Str)) ∈ ks) (nn : Nm name) (o : OwnOk vs) (la : as.length = vs.length) (na : Names as) (hv : ∀ x, x ∈ vs → x ∈ pool) (hw : ∀ x, x ∈ as → x ∈ pool) (hg : Gen ks pool (SaysoV.within ns (name, vs.length, 1)) (Hd.env (.lfp name vs as) Γ) g n) : Gen ks pool ns Γ (.mk (.lfp name vs as) [g]) (n + 1) :=
  .step (ns' := SaysoV.within ns (name, vs.length, 1)) (fun z => nomatch z) (fun x hx => by rw [List.mem_singleton.mp hx]; exact kw) (fun q hq nb => by rcases mem_within.mp hq with ⟨h, _⟩ | rfl; exact ⟨q, h, rfl, rfl⟩; exact (nb rfl).elim) ⟨nn, o, la, na, rfl⟩ (fun x hx => (List.mem_append.mp (show x ∈ vs ++ as from hx)).elim (hv x) (hw x)) (fun f hf => by rw [List.mem_singleton.mp hf]; exact hg) (show 1 ≤ 3 by decide)
    (fun m us as e => ⟨_, mem_within.mpr (.inr rfl), by injection e, rfl⟩)
    fun p hp hb s hs => ⟨p, mem_within.mpr (.inl ⟨hp, fun e => hb (congrArg some e.symm)⟩), rfl, hs⟩
theorem Gen.pfp {ks pool : List Str} {ns : List NE} {Γ : ArE} {name : Str} {vs as : List Str} {g : Fm} {n : Nat} (kw : (("pfp" : Str)) ∈ ks) (nn : Nm name) (o : OwnOk vs) (la : as.length = vs.length) (na : Names as) (hv : ∀ x, x ∈ vs → x ∈ pool) (hw : ∀ x, x ∈ as → x ∈ pool) (hg : Gen ks pool (SaysoV.within (SaysoV.barred ns) (name, vs.length, 0)) (Hd.env (.pfp name vs as) Γ) g n) : Gen ks pool ns Γ (.mk (.pfp name vs as) [g]) (n + 1) :=
  .step (ns' := SaysoV.within (SaysoV.barred ns) (name, vs.length, 0)) (fun z => nomatch z) (fun x hx => by rw [List.mem_singleton.mp hx]; exact kw) (fun q hq nb => by rcases mem_within.mp hq with ⟨h, _⟩ | rfl; obtain ⟨p, hp, rfl⟩ := List.mem_map.mp h; exact ⟨p, hp, rfl, rfl⟩; exact (nb rfl).elim) ⟨nn, o, la, na, rfl⟩ (fun x hx => (List.mem_append.mp (show x ∈ vs ++ as from hx)).elim (hv x) (hw x)) (fun f hf => by rw [List.mem_singleton.mp hf]; exact hg) (show 1 ≤ 3 by decide)
    (fun m us as e => by cases e)
    fun p hp hb s hs => ⟨(p.1, p.2.1, mode4 0 3 3 3 p.2.2), mem_within.mpr (.inl ⟨List.mem_map.mpr ⟨p, hp, rfl⟩, fun e => hb (congrArg some e.symm)⟩), rfl, sgOf_bar hs⟩
theorem Gen.gs {ks pool : List Str} {ns : List NE} {Γ : ArE} {name : Str} {k : Nat} {g : Fm} {n : Nat} (kw : (("guess" : Str)) ∈ ks) (nn : Nm name) (hk : k ≤ 3) (hg : Gen ks pool (SaysoV.within ns (name, k, 0)) (Hd.env (.gs name k) Γ) g n) : Gen ks pool ns Γ (.mk (.gs name k) [g]) (n + 1) :=
  .step (ns' := SaysoV.within ns (name, k, 0)) (fun z => nomatch z) (fun x hx => by rw [List.mem_singleton.mp hx]; exact kw) (fun q hq nb => by rcases mem_within.mp hq with ⟨h, _⟩ | rfl; exact ⟨q, h, rfl, rfl⟩; exact (nb rfl).elim) ⟨nn, hk, rfl⟩ (fun x hx => nomatch hx) (fun f hf => by rw [List.mem_singleton.mp hf]; exact hg) (show 1 ≤ 3 by decide)
    (fun m us as e => by cases e)
    fun p hp hb s hs => ⟨p, mem_within.mpr (.inl ⟨hp, fun e => hb (congrArg some e.symm)⟩), rfl, hs⟩
/-! ### the heap under draws -/
def Far (xs : List V) : Prop := ∀ (l : Addr) (n : Int), xs ≠ [.ref l, .int n]
theorem far_strs (as : List Str) : Far (as.map V.str) := fun l n e => by
  cases as with
  | nil => cases e
  | cons a r => injection e with h _; cases h
section
variable {K : PySem.W.Frag} {H H' : Hp} {d l : Addr}
theorem far_dp {xs : List V} {ts : List PyData} (h : DpAll K H xs ts) (g : good (.list ts) = true) : Far xs := fun l n e => by
  rw [e] at h
  rw [no_ints h] at g
  cases g
theorem SqL.kpA {a : Addr} {xs : List V} (h : SqL K H a xs) (far : Far xs) (r : DrA H d l) (k : Kp d H H') : SqL K H' a xs := by
  obtain ⟨n, ms, h1, _⟩ := r
  exact wo_sub.seq ((wo_kp k).seq (SqL.wo h1 (far l n) h))
end
theorem DpAll.inMem {K : PySem.W.Frag} {H : Hp} {xs : List V} {ts : List PyData} {v : V} (h : DpAll K H xs ts) (m : v ∈ xs) : ∃ t, t ∈ ts ∧ Dp K H v t := by
  obtain ⟨i, hi⟩ := List.mem_iff_getElem?.mp m
  obtain ⟨t, ht, e⟩ := DpAll.get' h hi
  exact ⟨t, List.mem_of_getElem? ht, e⟩
theorem atI_mod {xs : List V} (z : Int) (h : 0 < xs.length) : ∃ v, v ∈ xs ∧ atI xs (z % (xs.length : Int)) = some v := by
  have i0 : 0 ≤ z % (xs.length : Int) := Int.emod_nonneg _ (by omega)
  have i1 : z % (xs.length : Int) < (xs.length : Int) := Int.emod_lt_of_pos _ (by omega)
  obtain ⟨j, hj⟩ : ∃ j : Nat, z % (xs.length : Int) = (j : Int) := ⟨(z % (xs.length : Int)).toNat, by omega⟩
  rw [hj] at i1 ⊢
  have hl : j < xs.length := by omega
  exact ⟨xs[j], List.getElem_mem hl, atI_nat (List.getElem?_eq_getElem hl)⟩
theorem atI_str {as : List Str} (z : Int) (h : 0 < as.length) : ∃ x, x ∈ as ∧ atI (as.map V.str) (z % ((as.map V.str).length : Int)) = some (.str x) := by
  obtain ⟨v, hv, e⟩ := atI_mod (xs := as.map V.str) z (by rw [List.length_map]; exact h)
  obtain ⟨x, hx, rfl⟩ := List.mem_map.mp hv
  exact ⟨x, hx, e⟩
theorem swap2 {B G : Prop} (f : B → G) (b : B) : G := f b
structure Pool (pool : List Str) : Prop where
  nm : Names pool
  nd : pool.Nodup
  two : 2 ≤ pool.length
  few : pool.length ≤ 20
def spAtom (K : PySem.W.Frag) : Sp := fun vs H Q _ => ∃ (d l : Addr) (vp vn : V) (pool : List Str) (ns : List NE) (Γ : ArE), vs = [.ref d, vp, vn] ∧ DrA H d l ∧ Dp K H vp (.list (pool.map PyData.str)) ∧ Dp K H vn (nsD ns) ∧ NOk ns Γ ∧ Pool pool ∧ ns.length ≤ 100 ∧
  ∀ (H' : Hp) (r : V) (f : Fm), DrA H' d l → Kp d H H' → Dp K H' r f.data → Gen [] pool ns Γ f 1 → Q r H'
section
variable {P : Program} {w : World} {K : PySem.W.Frag} {mg : Str → Option Value} {base : Heap}
theorem sc_atom : FnScope ["draws", "pool", "names", "usable", "pick", "one", "word", "k"] ["draws", "pool", "names"] (defScope (top 73)) := ⟨rfl, rfl, rfl, by decide +kernel, rfl, by decide +kernel, by decide +kernel⟩
theorem has_atom (D : Def K mg "_law_atom" ["draws", "pool", "names"] (top 73)) (T : Txt mg) (C1 : Has P w K mg base 2 "_law_draw" ["draws"] spDraw) : Has P w K mg base 3 "_law_atom" ["draws", "pool", "names"] (spAtom K) := D.has fun f fd F => by
  obtain ⟨f1, fd1, G_law_draw, g_law_draw, k_law_draw, b_law_draw⟩ := C1
  refine F.ok sc_atom (fun vs H Q E h => ?_) (fun cdv A outer s H vs Q E hr h => ?_)
  · obtain ⟨d, l, vp, vn, pool, ns, Γ, rfl, _⟩ := h; rfl
  · obtain ⟨d, l, vp, vn, pool, ns, Γ, rfl, dr, dp, dn, ok, po, hl, q⟩ := h
    have R_law_draw : Room 2 _ := hr.mono (by decide)
    refine ⟨_, PSs.nox (pss_cons (ps_setLc (i := 3) (own := [("one", 5)]) rfl sc_atom.nd rfl rfl (sw_true rfl rfl rfl (by decide +kernel)) (pi_list (pv 2)) (blkOk_by (N := ["draws", "pool", "names", "usable", "pick", "one", "word", "k"]) (sc := defScope (top 73)) (by decide +kernel)) (fun _ _ _ _ _ => (pg_name (i := 5) sc_atom.nd rfl (Or.inl rfl))) (fun _ _ _ _ _ => (pts_one (pt_cmpR op_lt (pe_ix (ix_tupK (K := K) rfl) (pv 5) pe_int (fun _ _ => rfl)) pe_int (nomark _)))) (fun _ _ _ _ _ => (pv 5))) (pss_cons (ps_set (i := 4) sc_atom.nd rfl (Or.inl rfl) (pe_op op_mod (pe_call G_law_draw R_law_draw (by rfl) g_law_draw k_law_draw b_law_draw .nil pass0 (pa_cons (pv 0) pa_nil)) pe_int)) (pss_cons (ps_if (PW.pt (pw_and (pt_cmpR op_lt (pv 4) pe_int (nomark _)) (pw_and1 (pt_cmpR op_gt (pe_callB call_len_seq (by rfl) T.n_len PySem.boot_len (pa_cons (pv 3) pa_nil)) pe_int (nomark _))))) (pss_cons (ps_set (i := 5) sc_atom.nd rfl (Or.inl rfl) (pe_ix ix_list (pv 3) (pe_op op_mod (pe_call G_law_draw R_law_draw (by rfl) g_law_draw k_law_draw b_law_draw .nil pass0 (pa_cons (pv 0) pa_nil)) (pe_callB call_len_seq (by rfl) T.n_len PySem.boot_len (pa_cons (pv 3) pa_nil))) (fun _ _ => rfl))) (pss_one (ps_ret (pe_tup (pa_cons pe_str (pa_cons (pe_ix ix_tup (pv 5) pe_int (fun _ _ => rfl)) (pa_cons (pe_callTy call_tuple_of (by rfl) T.n_tuple (by decide +kernel) (pa_cons (pe_lc (own := [("k", 7)]) rfl sc_atom.nd (pi_range1 (by rfl) T.n_range (pa_cons (pe_ix ix_tup (pv 5) pe_int (fun _ _ => rfl)) pa_nil)) (blkOk_by (N := ["draws", "pool", "names", "usable", "pick", "one", "word", "k"]) (sc := defScope (top 73)) (by decide +kernel)) (fun _ _ _ _ _ => (pg_name (i := 7) sc_atom.nd rfl (Or.inl rfl))) (fun _ _ _ _ _ => pts_nil) (fun _ _ _ _ _ => (pe_ix (ix_listK (K := K) rfl) (pv 1) (pe_op op_mod (pe_call G_law_draw R_law_draw (by rfl) g_law_draw k_law_draw b_law_draw .nil pass0 (pa_cons (pv 0) pa_nil)) (pe_callB (call_len_seqK (K := K) rfl) (by rfl) T.n_len PySem.boot_len (pa_cons (pv 1) pa_nil))) (fun _ _ => rfl)))) pa_nil)) pa_nil))))))) pss_nil) (pss_cons (ps_set (i := 6) sc_atom.nd rfl (Or.inl rfl) (pe_ix ix_list (pe_lst (pa_cons pe_str (pa_cons pe_str pa_nil))) (pe_op op_mod (pe_call G_law_draw R_law_draw (by rfl) g_law_draw k_law_draw b_law_draw .nil pass0 (pa_cons (pv 0) pa_nil)) pe_int) (fun _ _ => rfl))) (pss_one (ps_ret (pe_tup (pa_cons (pv 6) (pa_cons (pe_ix ix_list (pv 1) (pe_op op_mod (pe_call G_law_draw R_law_draw (by rfl) g_law_draw k_law_draw b_law_draw .nil pass0 (pa_cons (pv 0) pa_nil)) (pe_callB call_len_seq (by rfl) T.n_len PySem.boot_len (pa_cons (pv 1) pa_nil))) (fun _ _ => rfl)) (pa_cons (pe_ix ix_list (pv 1) (pe_op op_mod (pe_call G_law_draw R_law_draw (by rfl) g_law_draw k_law_draw b_law_draw .nil pass0 (pa_cons (pv 0) pa_nil)) (pe_callB call_len_seq (by rfl) T.n_len PySem.boot_len (pa_cons (pv 1) pa_nil))) (fun _ _ => rfl)) pa_nil)))))))))), ?_⟩
    obtain ⟨b, rfl, hb⟩ := strsL dp
    obtain ⟨a, xs, rfl, ha, hx⟩ := Dp.lst_inv dn
    have p0 : 0 < pool.length := by have := po.two; omega
    -- usable
    refine ⟨_, rfl, a, rfl, ⟨_, ha⟩, fun L nL => ?_⟩
    refine lc_it (walk_list (K := K) (a := a) (xs := xs)) (fun i H2 => ∃ acc, H2 L = some (.lst acc) ∧ DpAll K H acc (((ns.take i).filter fun p : NE => decide (p.2.2 < 2)).map nD) ∧ Same H H2) ⟨[], upd_same, .nil, same_upd nL⟩ (fun i H2 _ ⟨_, _, _, s2⟩ => s2.seq ha) ?_ ?_
    · rintro i y H2 H3 hi ⟨acc, hL, hacc, s2⟩ ⟨rfl, hy⟩
      obtain ⟨dd, hd, dpy⟩ := DpAll.get' hx hy
      obtain ⟨p, hp, rfl⟩ := get_map hd
      obtain ⟨t, rfl, ht⟩ := nD_inv dpy
      refine ⟨rfl, _, rfl, t, _, _, _, rfl, rfl, Same.sqt s2 ht, atI_nat (j := 2) rfl, _, _, rfl, rfl, _, rfl, ?_⟩
      have ef := filter_snoc (p := fun p : NE => decide (p.2.2 < 2)) hp
      by_cases e : p.2.2 < 2
      · refine cT (k := decide ((p.2.2 : Int) < 2)) (decide_eq_true (by omega)) ⟨_, rfl, _, hL, ?_, ?_⟩
        · have e1 := DpAll.length hacc
          rw [List.length_map] at e1
          have e2 := List.length_filter_le (fun p : NE => decide (p.2.2 < 2)) (ns.take i)
          have e3 := List.length_take_le' i ns
          exact small1000 (by omega)
        · refine ⟨_, upd_same, ?_, fun b o eb => by rw [upd_ne (ne_of_none eb nL)]; exact s2 _ _ eb⟩
          rw [show (if decide (p.2.2 < 2) = true then [p] else []) = [p] by simp [e]] at ef
          rw [ef, List.map_append]
          exact DpAll.snoc hacc (nD_of ht)
      · refine cF (k := decide ((p.2.2 : Int) < 2)) (decide_eq_false (by omega)) ⟨acc, hL, ?_, s2⟩
        rw [show (if decide (p.2.2 < 2) = true then [p] else []) = [] by simp [e], List.append_nil] at ef
        rw [ef]
        exact hacc
    · rintro H2 ⟨acc, hL, hacc, s2⟩
      have el : xs.length = ns.length := by rw [DpAll.length hx, List.length_map]
      rw [List.take_of_length_le (show ns.length ≤ xs.length by omega)] at hacc
      have dr2 := dr.same s2
      have nd : L ≠ d ∧ L ≠ l := dr.ne nL
      refine ⟨_, rfl, d, l, rfl, dr2, fun z1 H3 _ _ dr3 k3 => ?_⟩
      refine ⟨_, _, rfl, rfl, (by show (0 : Int) < 5; decide), ?_⟩
      have hL3 := k3 _ _ hL nd.1
      have k03 : Kp d H H3 := (Kp.of s2).trans k3
      have Z : DpAll K H3 acc ((ns.filter fun p : NE => decide (p.2.2 < 2)).map nD) := DpAll.kl (.dr k03 dr) hacc (ns_noL _)
      have hb3 := SqL.kpA hb (far_strs _) dr k03
      by_cases hc : z1 % 5 < 3 ∧ 0 < acc.length
      · refine ⟨_, rfl, _, _, rfl, rfl, _, rfl, ite2 (fun e => ?_) (fun e => absurd (decide_eq_true hc.1) e)⟩
        refine ⟨_, rfl, L, _, rfl, .inl (SqL.of hL3), _, _, rfl, rfl, _, rfl, ?_⟩
        refine cT (k := decide ((0 : Int) < (acc.length : Nat))) (decide_eq_true (by omega)) ?_
        refine ⟨_, rfl, _, rfl, d, l, rfl, dr3, fun z2 H4 _ _ dr4 k4 => ?_⟩
        have hL4 := k4 _ _ hL3 nd.1
        obtain ⟨v, hv, hat⟩ := atI_mod z2 hc.2
        obtain ⟨t1, ht1, dv⟩ := DpAll.inMem Z hv
        obtain ⟨p, hp, rfl⟩ := List.mem_map.mp ht1
        obtain ⟨hp1, hp2⟩ := List.mem_filter.mp hp
        obtain ⟨t, rfl, ht⟩ := nD_inv (Dp.kl (.dr k4 dr3) dv (noL_nD p))
        refine ⟨_, rfl, L, _, rfl, .inl (SqL.of hL4), _, _, rfl, rfl, (by omega), L, _, _, _, rfl, rfl, SqL.of hL4, hat, ?_⟩
        have a3 := ok.ar p hp1
        refine ⟨_, rfl, t, _, _, _, rfl, rfl, ht, atI_nat (j := 0) rfl, ?_⟩
        refine ⟨_, rfl, t, _, _, _, rfl, rfl, ht, atI_nat (j := 1) rfl, p.2.1, rfl, by omega, by omega, fun M nM => ?_⟩
        have k04 := k03.trans k4
        have hb4 := SqL.kpA hb (far_strs _) dr k04
        obtain ⟨nMd, nMl⟩ := dr4.ne nM
        refine lc_it walk_range (fun i H5 => ∃ as : List Str, DrA H5 d l ∧ Kp d H4 H5 ∧ H5 M = some (.lst (as.map V.str)) ∧ as.length = i ∧ ∀ x, x ∈ as → x ∈ pool) ⟨[], dr4.same (same_upd nM), .of (same_upd nM), upd_same, rfl, fun x hx => nomatch hx⟩ (fun _ _ _ _ => trivial) ?_ ?_
        · rintro i y H5 H6 hi ⟨as, dr5, k5, hM, len, hs⟩ ⟨rfl, rfl⟩
          refine ⟨rfl, _, rfl, _, rfl, d, l, rfl, dr5, fun z6 H7 _ _ dr7 k7 => ?_⟩
          have hb7 := SqL.kpA hb4 (far_strs _) dr4 (k5.trans k7)
          obtain ⟨x, hx, hax⟩ := atI_str (as := pool) z6 p0
          have hM7 := k7 _ _ hM nMd
          refine ⟨_, rfl, b, _, rfl, .inl hb7, _, _, rfl, rfl, (by rw [List.length_map]; omega), b, _, _, _, rfl, rfl, hb7, hax, _, hM7, ?_, as ++ [x], dr7.kp Kp.upd ⟨nMd, nMl⟩, kp_own (k5.trans k7) nM, ?_, ?_, ?_⟩
          · rw [List.length_map]
            exact small1000 (by omega)
          · rw [upd_same, List.map_append]; rfl
          · rw [List.length_append, len]; rfl
          · intro y hy
            rcases List.mem_append.mp hy with hy | hy
            · exact hs y hy
            · rw [List.mem_singleton.mp hy]; exact hx
        · rintro H5 ⟨as, dr5, k5, hM, len, hs⟩
          refine ⟨M, _, rfl, .inl ⟨SqL.of hM, fun u nu => ?_⟩⟩
          refine ⟨(by show 3 ≤ sizeLine; decide), fun r nr => ?_⟩
          have s7 := same_upd (o := .tup (as.map V.str)) nu
          have s8 := same_upd (o := .tup [.str "rel", .str p.1, .ref u]) nr
          refine q _ _ (.mk (.rel p.1 as) []) (dr5.same (s7.trans s8)) ((k04.trans k5).trans (.of (s7.trans s8))) ?_ (.rel ok hp1 (by simpa using hp2) len (fun x hx => po.nm x (hs x hx)) hs)
          rw [Fm.data_mk]
          exact .tup (.inl (.inl upd_same)) (.cons (.str _) (.cons (.str _) (.cons (tS_of (Same.sqt s8 (.inl (.inl upd_same)))) .nil)))
      · refine swap2 (fun rest => ⟨_, rfl, _, _, rfl, rfl, _, rfl, ite2 (fun e => ⟨_, rfl, L, _, rfl, .inl (SqL.of hL3), _, _, rfl, rfl, _, rfl, cF (k := decide ((0 : Int) < (acc.length : Nat))) (decide_eq_false fun z => hc ⟨of_decide_eq_true e, by omega⟩) rest⟩) (fun e => iteF rest)⟩) ?_
        refine ⟨(by show 2 ≤ sizeLine; decide), fun c nc => ?_⟩
        have s3 := same_upd (o := .lst ((["eq", "less"] : List Str).map V.str)) nc
        have dr3' := dr3.same s3
        have nc3 := dr3.ne nc
        refine ⟨_, rfl, d, l, rfl, dr3', fun z2 H4 _ _ dr4 k4 => ?_⟩
        obtain ⟨wd, hw, hat⟩ := atI_str (as := ["eq", "less"]) z2 (by decide)
        have hc4 := k4 _ _ upd_same nc3.1
        refine ⟨_, _, rfl, rfl, (by show (0 : Int) < 2; decide), c, _, _, _, rfl, rfl, SqL.of hc4, hat, ?_⟩
        have k04 := (k03.trans (.of s3)).trans k4
        have hb4 := SqL.kpA hb (far_strs _) dr k04
        refine ⟨_, rfl, _, rfl, _, rfl, d, l, rfl, dr4, fun z5 H5 _ _ dr5 k5 => ?_⟩
        obtain ⟨x, hx, hax⟩ := atI_str (as := pool) z5 p0
        have hb5 := SqL.kpA hb4 (far_strs _) dr4 k5
        refine ⟨_, rfl, b, _, rfl, .inl hb5, _, _, rfl, rfl, (by rw [List.length_map]; omega), b, _, _, _, rfl, rfl, hb5, hax, ?_⟩
        refine ⟨_, rfl, _, rfl, d, l, rfl, dr5, fun z6 H6 _ _ dr6 k6 => ?_⟩
        obtain ⟨y, hy, hay⟩ := atI_str (as := pool) z6 p0
        have hb6 := SqL.kpA hb5 (far_strs _) dr5 k6
        refine ⟨_, rfl, b, _, rfl, .inl hb6, _, _, rfl, rfl, (by rw [List.length_map]; omega), b, _, _, _, rfl, rfl, hb6, hay, ?_⟩
        refine ⟨(by show 3 ≤ sizeLine; decide), fun r nr => ?_⟩
        have s8 := same_upd (o := .tup [.str wd, .str x, .str y]) nr
        have k06 := (k04.trans k5).trans k6
        rcases List.mem_cons.mp hw with rfl | hw
        · refine q _ _ (.mk (.eq x y) []) (dr6.same s8) (k06.trans (.of s8)) ?_ (.cmp (.inl ⟨x, y, rfl, ⟨po.nm x hx, hx⟩, po.nm y hy, hy⟩))
          rw [Fm.data_mk]
          exact .tup (.inl (.inl upd_same)) (.cons (.str _) (.cons (.str _) (.cons (.str _) .nil)))
        · rw [List.mem_singleton.mp hw] at s8 ⊢
          refine q _ _ (.mk (.less x y) []) (dr6.same s8) (k06.trans (.of s8)) ?_ (.cmp (.inr ⟨x, y, rfl, ⟨po.nm x hx, hx⟩, po.nm y hy, hy⟩))
          rw [Fm.data_mk]
          exact .tup (.inl (.inl upd_same)) (.cons (.str _) (.cons (.str _) (.cons (.str _) .nil)))
end
/-! ### the law's formulas are made -/
def kindsL : List Str := ["some", "all", "lfp", "pfp", "tc", "guess"]
/-- the list of kinds: some of the six -/
def Dk (K : PySem.W.Frag) (H : Hp) (v : V) (ks : List Str) : Prop := ∃ kl : List Str, 0 < kl.length ∧ (∀ x, x ∈ kl → x ∈ kindsL ∧ x ∈ ks) ∧ Dp K H v (.list (kl.map PyData.str))
theorem Dk.kpA {K : PySem.W.Frag} {H H' : Hp} {d l : Addr} {v : V} {ks : List Str} (h : Dk K H v ks) (r : DrA H d l) (k : Kp d H H') : Dk K H' v ks := by
  obtain ⟨kl, a, b, c⟩ := h
  exact ⟨kl, a, b, Dp.kpA c r (good_strl _) k⟩
structure GA (K : PySem.W.Frag) (H : Hp) (d l : Addr) (vp vn vk : V) (ks pool : List Str) (ns : List NE) (Γ : ArE) (n : Nat) : Prop where
  dr : DrA H d l
  dp : Dp K H vp (.list (pool.map PyData.str))
  dn : Dp K H vn (nsD ns)
  dk : Dk K H vk ks
  ok : NOk ns Γ
  po : Pool pool
  few : ns.length + n ≤ 60
theorem GA.kp {K : PySem.W.Frag} {H H' : Hp} {d l : Addr} {vp vn vk : V} {ks pool : List Str} {ns : List NE} {Γ : ArE} {n : Nat} (g : GA K H d l vp vn vk ks pool ns Γ n) (k : Kp d H H') (dr : DrA H' d l) : GA K H' d l vp vn vk ks pool ns Γ n :=
  ⟨dr, Dp.kpA g.dp g.dr (good_strl _) k, Dp.kpA g.dn g.dr (good_nsD _) k, g.dk.kpA g.dr k, g.ok, g.po, g.few⟩
theorem GA.same {K : PySem.W.Frag} {H H' : Hp} {d l : Addr} {vp vn vk : V} {ks pool : List Str} {ns : List NE} {Γ : ArE} {n : Nat} (g : GA K H d l vp vn vk ks pool ns Γ n) (k : Same H H') : GA K H' d l vp vn vk ks pool ns Γ n := g.kp (.of k) (g.dr.same k)
theorem strsR {K : PySem.W.Frag} {H : Hp} {a : Addr} {as : List Str} (h : Dp K H (.ref a) (.list (as.map PyData.str))) : SqL K H a (as.map V.str) := by
  obtain ⟨b, e, h⟩ := strsL h
  cases e
  exact h
def spForm (K : PySem.W.Frag) (n : Nat) : Sp := fun vs H Q _ => ∃ (d l : Addr) (k : Int) (vp vn vk : V) (ks pool : List Str) (ns : List NE) (Γ : ArE) (m : Nat), vs = [.ref d, .int k, vp, vn, vk] ∧ k = (m : Nat) ∧ (1 ≤ m ∧ m ≤ n) ∧ GA K H d l vp vn vk ks pool ns Γ m ∧
  ∀ (H' : Hp) (r : V) (f : Fm), DrA H' d l → Kp d H H' → Dp K H' r f.data → Gen ks pool ns Γ f m → Q r H'
def spBound (K : PySem.W.Frag) (n : Nat) : Sp := fun vs H Q _ => ∃ (d l : Addr) (k : Int) (vp vn vk : V) (ks pool : List Str) (ns : List NE) (Γ : ArE) (m : Nat), vs = [.ref d, .int k, vp, vn, vk] ∧ k = (m : Nat) ∧ (2 ≤ m ∧ m ≤ n) ∧ GA K H d l vp vn vk ks pool ns Γ m ∧
  ∀ (H' : Hp) (r : V) (f : Fm), DrA H' d l → Kp d H H' → Dp K H' r f.data → Gen ks pool ns Γ f m → Q r H'
theorem within_len (ns : List NE) (p : NE) : (within ns p).length ≤ ns.length + 1 := by
  unfold within
  rw [List.length_append]
  have := List.length_filter_le (fun q : NE => !decide (q.1 = p.1)) ns
  show _ + 1 ≤ _
  omega
theorem barred_len (ns : List NE) : (barred ns).length = ns.length := List.length_map ..
theorem turned_len (ns : List NE) : (turned ns).length = ns.length := List.length_map ..
def nmB (z : Str) : Bool := decide (1 ≤ z.length) && decide (z.length ≤ 12) && (z.cps.toList[0]?).all (fun c => decide (c ∈ lets.cps.toList)) && !inV (.str z) resv && z.cps.toList.all (fun c => decide (c ∈ both.cps.toList))
theorem nm_of {z : Str} (h : nmB z = true) : Nm z := by
  unfold nmB at h
  simp only [Bool.and_eq_true, decide_eq_true_eq, Bool.not_eq_true', List.all_eq_true] at h
  obtain ⟨⟨⟨⟨h1, h2⟩, h3⟩, h4⟩, h5⟩ := h
  refine ⟨h1, h2, fun c hc => ?_, h4, h5⟩
  rw [hc] at h3
  simpa using h3
section
variable {P : Program} {w : World} {K : PySem.W.Frag} {mg : Str → Option Value} {base : Heap}
theorem sc_bound : FnScope ["draws", "deep", "pool", "names", "kinds", "pick", "args", "given", "name", "inner_v", "arity", "x"] ["draws", "deep", "pool", "names", "kinds"] (defScope (top 77)) := ⟨rfl, rfl, rfl, by decide +kernel, rfl, by decide +kernel, by decide +kernel⟩
theorem has_bound {n : Nat} (D : Def K mg "_law_bound" ["draws", "deep", "pool", "names", "kinds"] (top 77)) (T : Txt mg) (C1 : Has P w K mg base 2 "_law_draw" ["draws"] spDraw) (C2 : Has P w K mg base 3 "_law_some_of" ["draws", "pool", "many"] (spSomeOf K))
    (C3 : Has P w K mg base 1 "_law_within" ["names", "name", "arity", "mode"] (spWithin K)) (C4 : Has P w K mg base 1 "_law_barred" ["names"] (spMode K barred)) (C5 : Has P w K mg base (4 + 2 * n) "_law_formula" ["draws", "deep", "pool", "names", "kinds"] (spForm K n)) :
    Has P w K mg base (4 + 2 * n + 1) "_law_bound" ["draws", "deep", "pool", "names", "kinds"] (spBound K (n + 1)) := D.has fun f fd F => by
  obtain ⟨f1, fd1, G_law_draw, g_law_draw, k_law_draw, b_law_draw⟩ := C1
  obtain ⟨f2, fd2, G_law_some_of, g_law_some_of, k_law_some_of, b_law_some_of⟩ := C2
  obtain ⟨f3, fd3, G_law_within, g_law_within, k_law_within, b_law_within⟩ := C3
  obtain ⟨f4, fd4, G_law_barred, g_law_barred, k_law_barred, b_law_barred⟩ := C4
  obtain ⟨f5, fd5, G_law_formula, g_law_formula, k_law_formula, b_law_formula⟩ := C5
  refine F.ok sc_bound (fun vs H Q E h => ?_) (fun cdv A outer s H vs Q E hr h => ?_)
  · obtain ⟨d, l, k, vp, vn, vk, ks, pool, ns, Γ, m, rfl, _⟩ := h; rfl
  · obtain ⟨d, l, k, vp, vn, vk, ks, pool, ns, Γ, m0, rfl, hk, h2, ga, q⟩ := h
    obtain ⟨m, rfl⟩ : ∃ m, m0 = m + 1 := ⟨m0 - 1, by omega⟩
    have R_law_draw : Room 2 _ := hr.mono (Nat.le_trans (by decide) (Nat.le_add_right 4 (2 * n)))
    have R_law_some_of : Room 3 _ := hr.mono (Nat.le_trans (by decide) (Nat.le_add_right 4 (2 * n)))
    have R_law_within : Room 1 _ := hr.mono (Nat.le_trans (by decide) (Nat.le_add_right 4 (2 * n)))
    have R_law_barred : Room 1 _ := hr.mono (Nat.le_trans (by decide) (Nat.le_add_right 4 (2 * n)))
    have R_law_formula : Room (4 + 2 * n) _ := hr
    refine ⟨_, PSs.nox (pss_cons (ps_set (i := 5) sc_bound.nd rfl (Or.inl rfl) (pe_ix ix_list (pv 4) (pe_op op_mod (pe_call G_law_draw R_law_draw (by rfl) g_law_draw k_law_draw b_law_draw .nil pass0 (pa_cons (pv 0) pa_nil)) (pe_callB call_len_seq (by rfl) T.n_len PySem.boot_len (pa_cons (pv 4) pa_nil))) (fun _ _ => rfl))) (pss_cons (ps_if (PW.pt (pw_and (pt_cmpR op_eq (pe_callB call_len_seq (by rfl) T.n_len PySem.boot_len (pa_cons (pv 2) pa_nil)) pe_int (nomark _)) (pw_and1 (pt_cmpR op_eq (pv 5) pe_str (nomark _))))) pss_never pss_nil) (pss_cons (ps_set (i := 6) sc_bound.nd rfl (Or.inl rfl) (pe_call G_law_some_of R_law_some_of (by rfl) g_law_some_of k_law_some_of b_law_some_of .nil pass0 (pa_cons (pv 0) (pa_cons (pv 2) (pa_cons (pe_callB (call_min2 rfl) (by rfl) T.n_min (by decide +kernel) (pa_cons (pe_callB call_len_seq (by rfl) T.n_len PySem.boot_len (pa_cons (pv 2) pa_nil)) (pa_cons (pe_ix ix_list (pe_lst (pa_cons pe_int (pa_cons pe_int (pa_cons pe_int (pa_cons pe_int (pa_cons pe_int (pa_cons pe_int pa_nil))))))) (pe_op op_mod (pe_call G_law_draw R_law_draw (by rfl) g_law_draw k_law_draw b_law_draw .nil pass0 (pa_cons (pv 0) pa_nil)) pe_int) (fun _ _ => rfl)) pa_nil))) pa_nil))))) (pss_cons (ps_set (i := 7) sc_bound.nd rfl (Or.inl rfl) (pe_callTy call_tuple_of (by rfl) T.n_tuple (by decide +kernel) (pa_cons (pe_lc (own := [("x", 11)]) rfl sc_bound.nd (pi_list (pv 6)) (blkOk_by (N := ["draws", "deep", "pool", "names", "kinds", "pick", "args", "given", "name", "inner_v", "arity", "x"]) (sc := defScope (top 77)) (by decide +kernel)) (fun _ _ _ _ _ => (pg_name (i := 11) sc_bound.nd rfl (Or.inl rfl))) (fun _ _ _ _ _ => pts_nil) (fun _ _ _ _ _ => (pe_ix (ix_listK (K := K) rfl) (pv 2) (pe_op op_mod (pe_call G_law_draw R_law_draw (by rfl) g_law_draw k_law_draw b_law_draw .nil pass0 (pa_cons (pv 0) pa_nil)) (pe_callB (call_len_seqK (K := K) rfl) (by rfl) T.n_len PySem.boot_len (pa_cons (pv 2) pa_nil))) (fun _ _ => rfl)))) pa_nil))) (pss_cons (ps_set (i := 8) sc_bound.nd rfl (Or.inl rfl) (pe_ix ix_list (pe_lst (pa_cons pe_str (pa_cons pe_str (pa_cons pe_str pa_nil)))) (pe_op op_mod (pe_call G_law_draw R_law_draw (by rfl) g_law_draw k_law_draw b_law_draw .nil pass0 (pa_cons (pv 0) pa_nil)) pe_int) (fun _ _ => rfl))) (pss_cons (ps_if (PW.pt (pw_or (pt_cmpR op_eq (pv 5) pe_str (nomark _)) (pw_or1 (pt_cmpR op_eq (pv 5) pe_str (nomark _))))) (pss_one (ps_ret (pe_tup (pa_cons (pv 5) (pa_cons (pe_callTy call_tuple_of (by rfl) T.n_tuple (by decide +kernel) (pa_cons (pv 6) pa_nil)) (pa_cons (pe_call G_law_formula R_law_formula (by rfl) g_law_formula k_law_formula b_law_formula .nil pass0 (pa_cons (pv 0) (pa_cons (pe_op op_sub (pv 1) pe_int) (pa_cons (pv 2) (pa_cons (pv 3) (pa_cons (pv 4) pa_nil)))))) pa_nil)))))) pss_nil) (pss_cons (ps_if (pt_cmpR op_eq (pv 5) pe_str (nomark _)) (pss_cons (ps_set (i := 9) sc_bound.nd rfl (Or.inl rfl) (pe_call G_law_within R_law_within (by rfl) g_law_within k_law_within b_law_within .nil pass0 (pa_cons (pv 3) (pa_cons (pv 8) (pa_cons (pe_callB call_len_seq (by rfl) T.n_len PySem.boot_len (pa_cons (pv 6) pa_nil)) (pa_cons pe_int pa_nil)))))) (pss_one (ps_ret (pe_tup (pa_cons pe_str (pa_cons (pv 8) (pa_cons (pe_callTy call_tuple_of (by rfl) T.n_tuple (by decide +kernel) (pa_cons (pv 6) pa_nil)) (pa_cons (pe_call G_law_formula R_law_formula (by rfl) g_law_formula k_law_formula b_law_formula .nil pass0 (pa_cons (pv 0) (pa_cons (pe_op op_sub (pv 1) pe_int) (pa_cons (pv 2) (pa_cons (pv 9) (pa_cons (pv 4) pa_nil)))))) (pa_cons (pv 7) pa_nil))))))))) pss_nil) (pss_cons (ps_if (pt_cmpR op_eq (pv 5) pe_str (nomark _)) (pss_cons (ps_set (i := 9) sc_bound.nd rfl (Or.inl rfl) (pe_call G_law_within R_law_within (by rfl) g_law_within k_law_within b_law_within .nil pass0 (pa_cons (pe_call G_law_barred R_law_barred (by rfl) g_law_barred k_law_barred b_law_barred .nil pass0 (pa_cons (pv 3) pa_nil)) (pa_cons (pv 8) (pa_cons (pe_callB call_len_seq (by rfl) T.n_len PySem.boot_len (pa_cons (pv 6) pa_nil)) (pa_cons pe_int pa_nil)))))) (pss_one (ps_ret (pe_tup (pa_cons pe_str (pa_cons (pv 8) (pa_cons (pe_callTy call_tuple_of (by rfl) T.n_tuple (by decide +kernel) (pa_cons (pv 6) pa_nil)) (pa_cons (pe_call G_law_formula R_law_formula (by rfl) g_law_formula k_law_formula b_law_formula .nil pass0 (pa_cons (pv 0) (pa_cons (pe_op op_sub (pv 1) pe_int) (pa_cons (pv 2) (pa_cons (pv 9) (pa_cons (pv 4) pa_nil)))))) (pa_cons (pv 7) pa_nil))))))))) pss_nil) (pss_cons (ps_if (pt_cmpR op_eq (pv 5) pe_str (nomark _)) (pss_cons (ps_set (i := 6) sc_bound.nd rfl (Or.inl rfl) (pe_call G_law_some_of R_law_some_of (by rfl) g_law_some_of k_law_some_of b_law_some_of .nil pass0 (pa_cons (pv 0) (pa_cons (pv 2) (pa_cons pe_int pa_nil))))) (pss_cons (ps_set (i := 7) sc_bound.nd rfl (Or.inl rfl) (pe_tup (pa_cons (pe_ix ix_list (pv 2) (pe_op op_mod (pe_call G_law_draw R_law_draw (by rfl) g_law_draw k_law_draw b_law_draw .nil pass0 (pa_cons (pv 0) pa_nil)) (pe_callB call_len_seq (by rfl) T.n_len PySem.boot_len (pa_cons (pv 2) pa_nil))) (fun _ _ => rfl)) (pa_cons (pe_ix ix_list (pv 2) (pe_op op_mod (pe_call G_law_draw R_law_draw (by rfl) g_law_draw k_law_draw b_law_draw .nil pass0 (pa_cons (pv 0) pa_nil)) (pe_callB call_len_seq (by rfl) T.n_len PySem.boot_len (pa_cons (pv 2) pa_nil))) (fun _ _ => rfl)) pa_nil)))) (pss_one (ps_ret (pe_tup (pa_cons pe_str (pa_cons (pe_callTy call_tuple_of (by rfl) T.n_tuple (by decide +kernel) (pa_cons (pv 6) pa_nil)) (pa_cons (pe_call G_law_formula R_law_formula (by rfl) g_law_formula k_law_formula b_law_formula .nil pass0 (pa_cons (pv 0) (pa_cons (pe_op op_sub (pv 1) pe_int) (pa_cons (pv 2) (pa_cons (pv 3) (pa_cons (pv 4) pa_nil)))))) (pa_cons (pv 7) pa_nil))))))))) pss_nil) (pss_cons (ps_set (i := 10) sc_bound.nd rfl (Or.inl rfl) (pe_op op_mod (pe_call G_law_draw R_law_draw (by rfl) g_law_draw k_law_draw b_law_draw .nil pass0 (pa_cons (pv 0) pa_nil)) pe_int)) (pss_cons (ps_set (i := 9) sc_bound.nd rfl (Or.inl rfl) (pe_call G_law_within R_law_within (by rfl) g_law_within k_law_within b_law_within .nil pass0 (pa_cons (pv 3) (pa_cons (pv 8) (pa_cons (pv 10) (pa_cons pe_int pa_nil)))))) (pss_one (ps_ret (pe_tup (pa_cons pe_str (pa_cons (pv 8) (pa_cons (pv 10) (pa_cons (pe_call G_law_formula R_law_formula (by rfl) g_law_formula k_law_formula b_law_formula .nil pass0 (pa_cons (pv 0) (pa_cons (pe_op op_sub (pv 1) pe_int) (pa_cons (pv 2) (pa_cons (pv 9) (pa_cons (pv 4) pa_nil)))))) pa_nil)))))))))))))))))), ?_⟩
    obtain ⟨bp, rfl, _⟩ := strsL ga.dp
    obtain ⟨kl, kl0, klS, dk0⟩ := ga.dk
    obtain ⟨bk, rfl, hbk⟩ := strsL dk0
    have p2 := ga.po.two
    have p20 := ga.po.few
    have lp : (pool.map V.str).length = pool.length := List.length_map ..
    -- pick
    refine ⟨_, rfl, _, rfl, d, l, rfl, ga.dr, fun z1 H1 _ _ dr1 k1 => ?_⟩
    have ga1 := ga.kp k1 dr1
    obtain ⟨pick, hpick0, hat⟩ := atI_str (as := kl) z1 kl0
    obtain ⟨hpick, hks⟩ := klS pick hpick0
    have hbk1 := SqL.kpA hbk (far_strs _) ga.dr k1
    refine ⟨_, rfl, bk, _, rfl, .inl hbk1, _, _, rfl, rfl, (by rw [List.length_map]; omega), bk, _, _, _, rfl, rfl, hbk1, hat, ?_⟩
    refine ⟨_, rfl, bp, _, rfl, .inl (strsR ga1.dp), rfl, _, rfl, ?_⟩
    refine cF (k := decide (V.int ((pool.map V.str).length : Nat) = V.int 1)) (decide_eq_false fun z => by have := V.int.inj z; omega) (iteF ?_)
    -- args
    refine ⟨_, rfl, _, rfl, _, rfl, bp, _, rfl, .inl (strsR ga1.dp), ?_⟩
    refine ⟨(by show 6 ≤ sizeLine; decide), fun c nc => ?_⟩
    have ga2 := ga1.same (same_upd (o := .lst [.int 1, .int 1, .int 1, .int 2, .int 2, .int 3]) nc)
    have ncd := (dr1.ne nc).1
    refine ⟨_, rfl, d, l, rfl, ga2.dr, fun z2 H2 _ _ dr2 k2 => ?_⟩
    have ga3 := ga2.kp k2 dr2
    have kk3 : Kp d H H2 := (k1.trans (.of (same_upd nc))).trans k2
    obtain ⟨v6, hv6, hat6⟩ := atI_mod (xs := [.int 1, .int 1, .int 1, .int 2, .int 2, .int 3]) z2 (by decide)
    obtain ⟨j, rfl, j1, j3⟩ : ∃ j : Nat, v6 = .int (j : Int) ∧ 1 ≤ j ∧ j ≤ 3 := by
      simp only [List.mem_cons, List.not_mem_nil, or_false] at hv6
      rcases hv6 with rfl | rfl | rfl | rfl | rfl | rfl
      · exact ⟨1, rfl, by decide, by decide⟩
      · exact ⟨1, rfl, by decide, by decide⟩
      · exact ⟨1, rfl, by decide, by decide⟩
      · exact ⟨2, rfl, by decide, by decide⟩
      · exact ⟨2, rfl, by decide, by decide⟩
      · exact ⟨3, rfl, by decide, by decide⟩
    refine ⟨_, _, rfl, rfl, (by show (0 : Int) < 6; decide), c, _, _, _, rfl, rfl, SqL.of (k2 _ _ upd_same ncd), hat6, ?_⟩
    have em : (if (j : Int) < ((pool.map V.str).length : Int) then (j : Int) else ((pool.map V.str).length : Int)) = ((min j pool.length : Nat) : Int) := by
      rw [lp]
      split <;> omega
    refine ⟨_, _, rfl, ?_⟩
    refine ⟨d, l, .ref bp, pool, min j pool.length, by rw [em]; rfl, dr2, Dp.wod dr2 ga3.dp (good_strl _), Nat.min_le_right _ _, p20, fun H3 ra ch dr3 k3 dch lch sub nd => ?_⟩
    have ga4 := ga3.kp k3 dr3
    have kk4 := kk3.trans k3
    have hra : SqL K H3 ra (ch.map V.str) := strsR (Dp.same wo_sub dch)
    have own : OwnOk ch := ⟨by omega, by omega, fun x hx => ga.po.nm x (sub x hx), nd ga.po.nd⟩
    have lc : (ch.map V.str).length = ch.length := List.length_map ..
    -- given
    refine ⟨_, rfl, ra, rfl, ⟨_, hra⟩, fun M nM => ?_⟩
    obtain ⟨nMd, nMl⟩ := dr3.ne nM
    refine lc_it (walk_list (K := K) (a := ra) (xs := ch.map V.str)) (fun i H5 => ∃ as : List Str, DrA H5 d l ∧ Kp d H3 H5 ∧ H5 M = some (.lst (as.map V.str)) ∧ as.length = i ∧ ∀ x, x ∈ as → x ∈ pool) ⟨[], dr3.same (same_upd nM), .of (same_upd nM), upd_same, rfl, fun x hx => nomatch hx⟩ (fun i H5 _ ⟨_, _, k5, _⟩ => SqL.kpA hra (far_strs _) dr3 k5) ?_ ?_
    · rintro i y H5 H6 hi ⟨as, dr5, k5, hM, len, hs⟩ ⟨rfl, _⟩
      refine ⟨rfl, _, rfl, _, rfl, d, l, rfl, dr5, fun z6 H7 _ _ dr7 k7 => ?_⟩
      have ga7 := ga4.kp (k5.trans k7) dr7
      obtain ⟨x, hx, hax⟩ := atI_str (as := pool) z6 (by omega)
      have hM7 := k7 _ _ hM nMd
      refine ⟨_, rfl, bp, _, rfl, .inl (strsR ga7.dp), _, _, rfl, rfl, (by omega), bp, _, _, _, rfl, rfl, strsR ga7.dp, hax, _, hM7, ?_, as ++ [x], dr7.kp Kp.upd ⟨nMd, nMl⟩, kp_own (k5.trans k7) nM, ?_, ?_, ?_⟩
      · rw [List.length_map]
        exact small1000 (by omega)
      · rw [upd_same, List.map_append]; rfl
      · rw [List.length_append, len]; rfl
      · intro y hy
        rcases List.mem_append.mp hy with hy | hy
        · exact hs y hy
        · rw [List.mem_singleton.mp hy]; exact hx
    · rintro H5 ⟨as, dr5, k5, hM, len, hva⟩
      have nas : Names as := fun x hx => ga.po.nm x (hva x hx)
      rw [lc] at len
      refine ⟨M, _, rfl, .inl ⟨SqL.of hM, fun u nu => ?_⟩⟩
      have su := same_upd (o := .tup (as.map V.str)) nu
      -- name
      refine ⟨(by show 3 ≤ sizeLine; decide), fun c2 nc2 => ?_⟩
      have sc2 := same_upd (o := .lst ((["r", "s", "e"] : List Str).map V.str)) nc2
      have dr6 := (dr5.same su).same sc2
      have nc2d := ((dr5.same su).ne nc2).1
      refine ⟨_, rfl, d, l, rfl, dr6, fun z3 H7 _ _ dr7 k7 => ?_⟩
      obtain ⟨nm, hnm, hatn⟩ := atI_str (as := ["r", "s", "e"]) z3 (by decide)
      have nmN : Nm nm := by
        simp only [List.mem_cons, List.not_mem_nil, or_false] at hnm
        rcases hnm with rfl | rfl | rfl <;> exact nm_of (by decide +kernel)
      have nm5 : nm ∈ five := by
        simp only [List.mem_cons, List.not_mem_nil, or_false] at hnm
        rcases hnm with rfl | rfl | rfl <;> decide +kernel
      refine ⟨_, _, rfl, rfl, (by show (0 : Int) < 3; decide), c2, _, _, _, rfl, rfl, SqL.of (k7 _ _ upd_same nc2d), hatn, ?_⟩
      have k37 : Kp d H3 H7 := ((k5.trans (.of su)).trans (.of sc2)).trans k7
      have kk7 := kk4.trans k37
      have ga7 := ga4.kp k37 dr7
      have hra7 : SqL K H7 ra (ch.map V.str) := SqL.kpA hra (far_strs _) dr3 k37
      have hu7 : SqT K H7 u (as.map V.str) := SqT.kl (.dr k7 dr6) (Same.sqt sc2 (.inl (.inl upd_same)))
      clear hatn hat6 hat hra hM
      have n1 : 1 ≤ m ∧ m ≤ n := by omega
      have f60 := ga.few
      simp only [kindsL, List.mem_cons, List.not_mem_nil, or_false] at hpick
      rcases hpick with rfl | rfl | rfl | rfl | rfl | rfl
      · refine ⟨_, rfl, rfl, _, rfl, cT (k := decide (V.str "some" = V.str "some")) (by decide +kernel) (iteT ?_)⟩
        refine ⟨_, rfl, _, rfl, ra, _, rfl, .inl ⟨hra7, fun u2 nu2 => ?_⟩⟩
        have su2 := same_upd (o := .tup (ch.map V.str)) nu2
        have ga8 := ga7.same su2
        refine ⟨_, rfl, _, rfl, _, _, rfl, rfl, _, rfl, _, rfl, _, rfl, d, l, _, .ref bp, vn, .ref bk, ks, pool, ns, Γ, m, rfl, by omega, n1, ⟨ga8.dr, ga8.dp, ga8.dn, ga8.dk, ga8.ok, ga8.po, by omega⟩, fun H8 rf g dr8 k8 dg hg => ?_⟩
        refine ⟨(by show 3 ≤ sizeLine; decide), fun rr nr => ?_⟩
        have s8 := same_upd (o := .tup [.str "some", .ref u2, rf]) nr
        refine q _ _ (.mk (.ex ch) [g]) (dr8.same s8) (((kk7.trans (.of su2)).trans k8).trans (.of s8)) ?_ (.quant (.inl rfl) hks own sub hg)
        rw [Fm.data_mk]
        exact .tup (.inl (.inl upd_same)) (.cons (.str _) (.cons (tS_of (Same.sqt s8 (SqT.kl (.dr k8 ga8.dr) (.inl (.inl upd_same))))) (.cons (Dp.same s8 dg) .nil)))
      · refine ⟨_, rfl, rfl, _, rfl, cF (k := decide (V.str "all" = V.str "some")) (by decide +kernel) ⟨_, rfl, rfl, _, rfl, cT (k := decide (V.str "all" = V.str "all")) (by decide +kernel) ?_⟩⟩
        refine ⟨_, rfl, _, rfl, ra, _, rfl, .inl ⟨hra7, fun u2 nu2 => ?_⟩⟩
        have su2 := same_upd (o := .tup (ch.map V.str)) nu2
        have ga8 := ga7.same su2
        refine ⟨_, rfl, _, rfl, _, _, rfl, rfl, _, rfl, _, rfl, _, rfl, d, l, _, .ref bp, vn, .ref bk, ks, pool, ns, Γ, m, rfl, by omega, n1, ⟨ga8.dr, ga8.dp, ga8.dn, ga8.dk, ga8.ok, ga8.po, by omega⟩, fun H8 rf g dr8 k8 dg hg => ?_⟩
        refine ⟨(by show 3 ≤ sizeLine; decide), fun rr nr => ?_⟩
        have s8 := same_upd (o := .tup [.str "all", .ref u2, rf]) nr
        refine q _ _ (.mk (.al ch) [g]) (dr8.same s8) (((kk7.trans (.of su2)).trans k8).trans (.of s8)) ?_ (.quant (.inr rfl) hks own sub hg)
        rw [Fm.data_mk]
        exact .tup (.inl (.inl upd_same)) (.cons (.str _) (.cons (tS_of (Same.sqt s8 (SqT.kl (.dr k8 ga8.dr) (.inl (.inl upd_same))))) (.cons (Dp.same s8 dg) .nil)))
      · refine ⟨_, rfl, rfl, _, rfl, cF (k := decide (V.str "lfp" = V.str "some")) (by decide +kernel) ⟨_, rfl, rfl, _, rfl, cF (k := decide (V.str "lfp" = V.str "all")) (by decide +kernel) ?_⟩⟩
        refine ⟨_, rfl, rfl, _, rfl, cT (k := decide (V.str "lfp" = V.str "lfp")) (by decide +kernel) ?_⟩
        refine ⟨_, rfl, _, rfl, _, rfl, ra, _, rfl, .inl hra7, ?_⟩
        refine ⟨vn, nm, (ch.map V.str).length, 1, ns, rfl, ga7.dn, by omega, fun H8 ri s8 di => ?_⟩
        rw [lc] at di
        have ga8 := ga7.same s8
        have wl := within_len ns (nm, ch.length, 1)
        refine ⟨_, rfl, _, rfl, ra, _, rfl, .inl ⟨s8.seq hra7, fun u2 nu2 => ?_⟩⟩
        have su2 := same_upd (o := .tup (ch.map V.str)) nu2
        have ga9 := ga8.same su2
        refine ⟨_, rfl, _, rfl, _, _, rfl, rfl, _, rfl, _, rfl, _, rfl, d, l, _, .ref bp, ri, .ref bk, ks, pool, within ns (nm, ch.length, 1), Hd.env (.lfp nm ch as) Γ, m, rfl, by omega, n1, ⟨ga9.dr, ga9.dp, Dp.same su2 di, ga9.dk, ga9.ok.within nmN nm5 (by show ch.length ≤ 3; omega) (by show 1 ≤ 3; decide) (fun x => rfl), ga9.po, by omega⟩, fun H9 rf g dr9 k9 dg hg => ?_⟩
        refine ⟨_, rfl, (by show 5 ≤ sizeLine; decide), fun rr nr => ?_⟩
        have s9 := same_upd (o := .tup [.str "lfp", .str nm, .ref u2, rf, .ref u]) nr
        refine q _ _ (.mk (.lfp nm ch as) [g]) (dr9.same s9) ((((kk7.trans (.of s8)).trans (.of su2)).trans k9).trans (.of s9)) ?_ (.lfp hks nmN own len nas sub hva hg)
        rw [Fm.data_mk]
        exact .tup (.inl (.inl upd_same)) (.cons (.str _) (.cons (.str _) (.cons (tS_of (Same.sqt s9 (SqT.kl (.dr k9 ga9.dr) (.inl (.inl upd_same))))) (.cons (Dp.same s9 dg) (.cons (tS_of (Same.sqt s9 (SqT.kl (.dr k9 ga9.dr) (Same.sqt su2 (Same.sqt s8 hu7))))) .nil)))))
      · refine ⟨_, rfl, rfl, _, rfl, cF (k := decide (V.str "pfp" = V.str "some")) (by decide +kernel) ⟨_, rfl, rfl, _, rfl, cF (k := decide (V.str "pfp" = V.str "all")) (by decide +kernel) ?_⟩⟩
        refine ⟨_, rfl, rfl, _, rfl, cF (k := decide (V.str "pfp" = V.str "lfp")) (by decide +kernel) ?_⟩
        refine ⟨_, rfl, rfl, _, rfl, cT (k := decide (V.str "pfp" = V.str "pfp")) (by decide +kernel) ?_⟩
        refine ⟨_, rfl, vn, ns, rfl, ga7.dn, by omega, ga7.ok.md, fun H7b rb s7b db => ?_⟩
        refine ⟨_, rfl, _, rfl, ra, _, rfl, .inl (s7b.seq hra7), ?_⟩
        have bl := barred_len ns
        refine ⟨rb, nm, (ch.map V.str).length, 0, barred ns, rfl, db, by omega, fun H8 ri s8b di => ?_⟩
        have s8 := s7b.trans s8b
        rw [lc] at di
        have ga8 := ga7.same s8
        have wl := within_len (barred ns) (nm, ch.length, 0)
        refine ⟨_, rfl, _, rfl, ra, _, rfl, .inl ⟨s8.seq hra7, fun u2 nu2 => ?_⟩⟩
        have su2 := same_upd (o := .tup (ch.map V.str)) nu2
        have ga9 := ga8.same su2
        refine ⟨_, rfl, _, rfl, _, _, rfl, rfl, _, rfl, _, rfl, _, rfl, d, l, _, .ref bp, ri, .ref bk, ks, pool, within (barred ns) (nm, ch.length, 0), Hd.env (.pfp nm ch as) Γ, m, rfl, by omega, n1, ⟨ga9.dr, ga9.dp, Dp.same su2 di, ga9.dk, ga9.ok.barred.within nmN nm5 (by show ch.length ≤ 3; omega) (by show 0 ≤ 3; decide) (fun x => rfl), ga9.po, by omega⟩, fun H9 rf g dr9 k9 dg hg => ?_⟩
        refine ⟨_, rfl, (by show 5 ≤ sizeLine; decide), fun rr nr => ?_⟩
        have s9 := same_upd (o := .tup [.str "pfp", .str nm, .ref u2, rf, .ref u]) nr
        refine q _ _ (.mk (.pfp nm ch as) [g]) (dr9.same s9) ((((kk7.trans (.of s8)).trans (.of su2)).trans k9).trans (.of s9)) ?_ (.pfp hks nmN own len nas sub hva hg)
        rw [Fm.data_mk]
        exact .tup (.inl (.inl upd_same)) (.cons (.str _) (.cons (.str _) (.cons (tS_of (Same.sqt s9 (SqT.kl (.dr k9 ga9.dr) (.inl (.inl upd_same))))) (.cons (Dp.same s9 dg) (.cons (tS_of (Same.sqt s9 (SqT.kl (.dr k9 ga9.dr) (Same.sqt su2 (Same.sqt s8 hu7))))) .nil)))))
      · refine ⟨_, rfl, rfl, _, rfl, cF (k := decide (V.str "tc" = V.str "some")) (by decide +kernel) ⟨_, rfl, rfl, _, rfl, cF (k := decide (V.str "tc" = V.str "all")) (by decide +kernel) ?_⟩⟩
        refine ⟨_, rfl, rfl, _, rfl, cF (k := decide (V.str "tc" = V.str "lfp")) (by decide +kernel) ?_⟩
        refine ⟨_, rfl, rfl, _, rfl, cF (k := decide (V.str "tc" = V.str "pfp")) (by decide +kernel) ?_⟩
        refine ⟨_, rfl, rfl, _, rfl, cT (k := decide (V.str "tc" = V.str "tc")) (by decide +kernel) ?_⟩
        refine ⟨_, rfl, _, rfl, d, l, .ref bp, pool, 2, rfl, ga7.dr, Dp.wod ga7.dr ga7.dp (good_strl _), p2, p20, fun H8 ra2 ch2 dr8 k8 dch2 lch2 sub2 nd2 => ?_⟩
        have ga8 := ga7.kp k8 dr8
        have hra8 : SqL K H8 ra2 (ch2.map V.str) := strsR (Dp.same wo_sub dch2)
        refine ⟨_, rfl, _, rfl, d, l, rfl, dr8, fun z5 H9 _ _ dr9 k9 => ?_⟩
        have ga9 := ga8.kp k9 dr9
        obtain ⟨x, hx, hax⟩ := atI_str (as := pool) z5 (by omega)
        refine ⟨_, rfl, bp, _, rfl, .inl (strsR ga9.dp), _, _, rfl, rfl, (by omega), bp, _, _, _, rfl, rfl, strsR ga9.dp, hax, ?_⟩
        refine ⟨_, rfl, _, rfl, d, l, rfl, dr9, fun z6 H10 _ _ dr10 k10 => ?_⟩
        have ga10 := ga9.kp k10 dr10
        obtain ⟨y, hy, hay⟩ := atI_str (as := pool) z6 (by omega)
        refine ⟨_, rfl, bp, _, rfl, .inl (strsR ga10.dp), _, _, rfl, rfl, (by omega), bp, _, _, _, rfl, rfl, strsR ga10.dp, hay, ?_⟩
        refine ⟨(by show 2 ≤ sizeLine; decide), fun ug nug => ?_⟩
        have sg := same_upd (o := .tup [.str x, .str y]) nug
        have ga11 := ga10.same sg
        have k8_11 : Kp d H8 _ := (k9.trans k10).trans (.of sg)
        refine ⟨_, rfl, ra2, _, rfl, .inl ⟨SqL.kpA hra8 (far_strs _) dr8 k8_11, fun u2 nu2 => ?_⟩⟩
        have su2 := same_upd (o := .tup (ch2.map V.str)) nu2
        have ga12 := ga11.same su2
        refine ⟨_, rfl, _, rfl, _, _, rfl, rfl, _, rfl, _, rfl, _, rfl, d, l, _, .ref bp, vn, .ref bk, ks, pool, ns, Γ, m, rfl, by omega, n1, ⟨ga12.dr, ga12.dp, ga12.dn, ga12.dk, ga12.ok, ga12.po, by omega⟩, fun H13 rf g dr13 k13 dg hg => ?_⟩
        refine ⟨_, rfl, (by show 4 ≤ sizeLine; decide), fun rr nr => ?_⟩
        have s9 := same_upd (o := .tup [.str "tc", .ref u2, rf, .ref ug]) nr
        have xy : ∀ z, z ∈ [x, y] → z ∈ pool := fun z hz => by
          rcases List.mem_cons.mp hz with rfl | hz
          · exact hx
          · rw [List.mem_singleton.mp hz]; exact hy
        refine q _ _ (.mk (.tc ch2 [x, y]) [g]) (dr13.same s9) (((((kk7.trans k8).trans k8_11).trans (.of su2)).trans k13).trans (.of s9)) ?_ (.tc hks lch2 (fun z hz => ga.po.nm z (sub2 z hz)) (nd2 ga.po.nd) rfl (fun z hz => ga.po.nm z (xy z hz)) sub2 xy hg)
        rw [Fm.data_mk]
        exact .tup (.inl (.inl upd_same)) (.cons (.str _) (.cons (tS_of (Same.sqt s9 (SqT.kl (.dr k13 ga12.dr) (.inl (.inl upd_same))))) (.cons (Dp.same s9 dg) (.cons (tS_of (as := [x, y]) (Same.sqt s9 (SqT.kl (.dr k13 ga12.dr) (Same.sqt su2 (.inl (.inl upd_same)))))) .nil))))
      · refine ⟨_, rfl, rfl, _, rfl, cF (k := decide (V.str "guess" = V.str "some")) (by decide +kernel) ⟨_, rfl, rfl, _, rfl, cF (k := decide (V.str "guess" = V.str "all")) (by decide +kernel) ?_⟩⟩
        refine ⟨_, rfl, rfl, _, rfl, cF (k := decide (V.str "guess" = V.str "lfp")) (by decide +kernel) ?_⟩
        refine ⟨_, rfl, rfl, _, rfl, cF (k := decide (V.str "guess" = V.str "pfp")) (by decide +kernel) ?_⟩
        refine ⟨_, rfl, rfl, _, rfl, cF (k := decide (V.str "guess" = V.str "tc")) (by decide +kernel) ?_⟩
        refine ⟨_, rfl, d, l, rfl, ga7.dr, fun z4 H8 _ _ dr8 k8 => ?_⟩
        have ga8 := ga7.kp k8 dr8
        refine ⟨_, _, rfl, rfl, (by show (0 : Int) < 2; decide), ?_⟩
        obtain ⟨ka, hka, ka1⟩ : ∃ k : Nat, z4 % 2 = (k : Int) ∧ k ≤ 1 := ⟨(z4 % 2).toNat, by omega, by omega⟩
        show gName 10 (V.int (z4 % 2)) _ _ _
        rw [hka]
        refine ⟨_, rfl, _, rfl, _, rfl, ?_⟩
        refine ⟨vn, nm, ka, 0, ns, rfl, ga8.dn, by omega, fun H9 ri s9 di => ?_⟩
        have ga9 := ga8.same s9
        have wl := within_len ns (nm, ka, 0)
        refine ⟨_, rfl, _, rfl, ?_⟩
        refine ⟨_, rfl, _, rfl, _, _, rfl, rfl, _, rfl, _, rfl, _, rfl, d, l, _, .ref bp, ri, .ref bk, ks, pool, within ns (nm, ka, 0), Hd.env (.gs nm ka) Γ, m, rfl, by omega, n1, ⟨ga9.dr, ga9.dp, di, ga9.dk, ga9.ok.within nmN nm5 (by show ka ≤ 3; omega) (by show 0 ≤ 3; decide) (fun x => rfl), ga9.po, by omega⟩, fun H10 rf g dr10 k10 dg hg => ?_⟩
        refine ⟨(by show 4 ≤ sizeLine; decide), fun rr nr => ?_⟩
        have s10 := same_upd (o := .tup [.str "guess", .str nm, .int (ka : Nat), rf]) nr
        refine q _ _ (.mk (.gs nm ka) [g]) (dr10.same s10) ((((kk7.trans k8).trans (.of s9)).trans k10).trans (.of s10)) ?_ (.gs hks nmN (by omega) hg)
        rw [Fm.data_mk]
        exact .tup (.inl (.inl upd_same)) (.cons (.str _) (.cons (.str _) (.cons (.int _) (.cons (Dp.same s10 dg) .nil))))
end
def namesL : List NE := [(("e" : Str), 2, 0), (("p" : Str), 1, 0), (("q" : Str), 0, 0)]
def spNamesL (K : PySem.W.Frag) : Sp := fun vs H Q _ => ∃ (d l : Addr), vs = [.ref d] ∧ DrA H d l ∧ ∀ (H' : Hp) (r : V) (ns : List NE) (Γ : ArE), DrA H' d l → Kp d H H' → Dp K H' r (nsD ns) → NOk ns Γ → ns.length ≤ 3 → (∀ q, q ∈ ns → q ∈ namesL) → Q r H'
def envL : ArE := fun x => if x = "e" then some 2 else if x = "p" then some 1 else some 0
theorem namesL_ok : NOk namesL envL := by
  have c : ∀ p, p ∈ namesL → p = (("e" : Str), 2, 0) ∨ p = (("p" : Str), 1, 0) ∨ p = (("q" : Str), 0, 0) := fun p hp => by simpa [namesL] using hp
  refine ⟨fun p hp => ?_, fun p hp => ?_, fun p hp => ?_, fun p hp => ?_, fun p q hp hq e => ?_, fun p hp => ?_⟩
  · rcases c p hp with rfl | rfl | rfl <;> exact nm_of (by decide +kernel)
  · rcases c p hp with rfl | rfl | rfl <;> decide
  · rcases c p hp with rfl | rfl | rfl <;> decide
  · rcases c p hp with rfl | rfl | rfl <;> decide +kernel
  · rcases c p hp with rfl | rfl | rfl <;> rcases c q hq with rfl | rfl | rfl <;> first | rfl | exact absurd e (by decide +kernel)
  · rcases c p hp with rfl | rfl | rfl <;> decide +kernel
theorem NOk.sub {ns ms : List NE} {Γ : ArE} (k : NOk ns Γ) (h : ∀ p, p ∈ ms → p ∈ ns) : NOk ms Γ :=
  ⟨fun p hp => k.nm p (h p hp), fun p hp => k.ar p (h p hp), fun p hp => k.md p (h p hp), fun p hp => k.fit p (h p hp), fun p q hp hq e => k.uni p q (h p hp) (h q hq) e, fun p hp => k.fv p (h p hp)⟩
theorem cut_map {xs : List V} {j : Nat} (h : xs.length < 1000) (k : j ≤ xs.length) : cutV xs none (some ((j : Nat) : Int)) = xs.take j := by
  unfold cutV
  have e1 : HT.sIx xs.length 0 none = 0 := rfl
  have e2 : HT.sIx xs.length xs.length (some ((j : Nat) : Int)) = j := by
    simp only [HT.sIx]
    split <;> omega
  rw [e1, e2]
  rfl
section
variable {P : Program} {w : World} {K : PySem.W.Frag} {mg : Str → Option Value} {base : Heap}
theorem DpAll.takeN {H : Hp} : ∀ {vs : List V} {ts : List PyData} (j : Nat), DpAll K H vs ts → DpAll K H (vs.take j) (ts.take j)
  | _, _, 0, _ => by rw [List.take_zero, List.take_zero]; exact .nil
  | _, _, j + 1, .nil => .nil
  | _, _, j + 1, .cons a t => .cons a (DpAll.takeN j t)
theorem sc_names : FnScope ["draws"] ["draws"] (defScope (top 79)) := ⟨rfl, rfl, rfl, by decide +kernel, rfl, by decide +kernel, by decide +kernel⟩
theorem has_names (D : Def K mg "_law_names" ["draws"] (top 79)) (T : Txt mg) (C1 : Has P w K mg base 2 "_law_draw" ["draws"] spDraw) : Has P w K mg base 3 "_law_names" ["draws"] (spNamesL K) := D.has fun f fd F => by
  obtain ⟨f1, fd1, G_law_draw, g_law_draw, k_law_draw, b_law_draw⟩ := C1
  refine F.ok sc_names (fun vs H Q E h => ?_) (fun cdv A outer s H vs Q E hr h => ?_)
  · obtain ⟨d, l, rfl, _⟩ := h; rfl
  · obtain ⟨d, l, rfl, dr, q⟩ := h
    have R_law_draw : Room 2 _ := hr
    refine ⟨_, PSs.nox (pss_one (ps_ret (pe_slice sl_list (pe_lst (pa_cons (pe_tup (pa_cons pe_str (pa_cons pe_int (pa_cons pe_int pa_nil)))) (pa_cons (pe_tup (pa_cons pe_str (pa_cons pe_int (pa_cons pe_int pa_nil)))) (pa_cons (pe_tup (pa_cons pe_str (pa_cons pe_int (pa_cons pe_int pa_nil)))) pa_nil)))) po_none (po_some (pe_op op_add pe_int (pe_op op_mod (pe_call G_law_draw R_law_draw (by rfl) g_law_draw k_law_draw b_law_draw .nil pass0 (pa_cons (pv 0) pa_nil)) pe_int)))))), ?_⟩
    refine ⟨(by show 3 ≤ sizeLine; decide), fun t1 n1 => ⟨(by show 3 ≤ sizeLine; decide), fun t2 n2 => ⟨(by show 3 ≤ sizeLine; decide), fun t3 n3 => ?_⟩⟩⟩
    have s1 := same_upd (o := .tup [.str "e", .int 2, .int 0]) n1
    have s2 := same_upd (o := .tup [.str "p", .int 1, .int 0]) n2
    have s3 := same_upd (o := .tup [.str "q", .int 0, .int 0]) n3
    refine ⟨(by show 3 ≤ sizeLine; decide), fun c nc => ?_⟩
    have s4 := same_upd (o := .lst [.ref t1, .ref t2, .ref t3]) nc
    have s14 := ((s1.trans s2).trans s3).trans s4
    have dr4 := dr.same s14
    have nd := ((dr.same ((s1.trans s2).trans s3)).ne nc).1
    have dall : DpAll K _ [.ref t1, .ref t2, .ref t3] (namesL.map nD) := .cons (nD_of (p := ("e", 2, 0)) (Same.sqt (s2.trans s3) (.inl (.inl upd_same)))) (.cons (nD_of (p := ("p", 1, 0)) (Same.sqt s3 (.inl (.inl upd_same)))) (.cons (nD_of (p := ("q", 0, 0)) (.inl (.inl upd_same))) .nil))
    refine ⟨_, rfl, d, l, rfl, dr4, fun z H5 _ _ dr5 k5 => ?_⟩
    refine ⟨_, _, rfl, rfl, (by show (0 : Int) < 3; decide), ?_⟩
    obtain ⟨j, hj, j2⟩ : ∃ k : Nat, z % 3 = (k : Int) ∧ k ≤ 2 := ⟨(z % 3).toNat, by omega, by omega⟩
    refine ⟨_, _, rfl, rfl, ?_⟩
    refine ⟨((1 + j : Nat) : Int), congrArg V.int (by omega), c, _, rfl, SqL.of (k5 _ _ upd_same nd), fun r nr => ?_⟩
    have s6 := same_upd (o := .lst (cutV [.ref t1, .ref t2, .ref t3] none (some ((1 + j : Nat) : Int)))) nr
    refine q _ (.ref r) (namesL.take (1 + j)) envL (dr5.same s6) (((Kp.of s14).trans k5).trans (.of s6)) (.lst (.inl (.inl upd_same)) ?_) (namesL_ok.sub fun p hp => List.mem_of_mem_take hp) (List.length_take_le' _ _) (fun q hq => List.mem_of_mem_take hq)
    have ec := cut_map (xs := [.ref t1, .ref t2, .ref t3]) (j := 1 + j) (by show 3 < 1000; decide) (by show 1 + j ≤ 3; omega)
    revert s6
    rw [ec, List.map_take]
    intro s6
    exact DpAll.takeN _ (DpAll.same s6 (DpAll.kl (.dr k5 dr4) (DpAll.same s4 dall) (ns_noL _)))
theorem sc_formula : FnScope ["draws", "deep", "pool", "names", "kinds", "pick", "word", "many", "k"] ["draws", "deep", "pool", "names", "kinds"] (defScope (top 78)) := ⟨rfl, rfl, rfl, by decide +kernel, rfl, by decide +kernel, by decide +kernel⟩
theorem has_formula (D : Def K mg "_law_formula" ["draws", "deep", "pool", "names", "kinds"] (top 78)) (T : Txt mg) (C1 : Has P w K mg base 2 "_law_draw" ["draws"] spDraw) (C2 : Has P w K mg base 3 "_law_atom" ["draws", "pool", "names"] (spAtom K))
    (C3 : Has P w K mg base 1 "_law_turned" ["names"] (spMode K turned)) (C4 : ∀ n, Has P w K mg base (4 + 2 * n) "_law_formula" ["draws", "deep", "pool", "names", "kinds"] (spForm K n) → Has P w K mg base (4 + 2 * n + 1) "_law_bound" ["draws", "deep", "pool", "names", "kinds"] (spBound K (n + 1))) :
    ∀ n : Nat, Has P w K mg base (4 + 2 * n) "_law_formula" ["draws", "deep", "pool", "names", "kinds"] (spForm K n) := by
  obtain ⟨f1, fd1, G_law_draw, g_law_draw, k_law_draw, b_law_draw⟩ := C1
  obtain ⟨f2, fd2, G_law_atom, g_law_atom, k_law_atom, b_law_atom⟩ := C2
  obtain ⟨f3, fd3, G_law_turned, g_law_turned, k_law_turned, b_law_turned⟩ := C3
  intro n
  induction n with
  | zero =>
    refine D.has fun f fd F => F.ok sc_formula (fun vs H Q E h => ?_) (fun cdv A outer s H vs Q E hr h => ?_)
    · obtain ⟨d, l, k, vp, vn, vk, ks, pool, ns, Γ, m, rfl, _⟩ := h; rfl
    · obtain ⟨d, l, k, vp, vn, vk, ks, pool, ns, Γ, m, rfl, _, h0, _⟩ := h
      omega
  | succ n ih =>
    obtain ⟨f5, fd5, G_law_bound, g_law_bound, k_law_bound, b_law_bound⟩ := C4 n ih
    obtain ⟨f4, fd4, G_law_formula, g_law_formula, k_law_formula, b_law_formula⟩ := ih
    show Has P w K mg base (4 + 2 * n + 1 + 1) "_law_formula" ["draws", "deep", "pool", "names", "kinds"] (spForm K (n + 1))
    refine D.has fun f fd F => F.ok sc_formula (fun vs H Q E h => ?_) (fun cdv A outer s H vs Q E hr h => ?_)
    · obtain ⟨d, l, k, vp, vn, vk, ks, pool, ns, Γ, m, rfl, _⟩ := h; rfl
    · obtain ⟨d, l, k, vp, vn, vk, ks, pool, ns, Γ, m0, rfl, hk, h1, ga, q⟩ := h
      obtain ⟨m, rfl⟩ : ∃ m, m0 = m + 1 := ⟨m0 - 1, by omega⟩
      have R_law_draw : Room 2 _ := hr.mono (Nat.le_trans (Nat.le_trans (by decide) (Nat.le_add_right 4 (2 * n))) (Nat.le_add_right _ 1))
      have R_law_atom : Room 3 _ := hr.mono (Nat.le_trans (Nat.le_trans (by decide) (Nat.le_add_right 4 (2 * n))) (Nat.le_add_right _ 1))
      have R_law_turned : Room 1 _ := hr.mono (Nat.le_trans (Nat.le_trans (by decide) (Nat.le_add_right 4 (2 * n))) (Nat.le_add_right _ 1))
      have R_law_formula : Room (4 + 2 * n) _ := hr.mono (Nat.le_add_right _ 1)
      have R_law_bound : Room (4 + 2 * n + 1) _ := hr
      refine ⟨_, PSs.nox (pss_cons (ps_set (i := 5) sc_formula.nd rfl (Or.inl rfl) (pe_op op_mod (pe_call G_law_draw R_law_draw (by rfl) g_law_draw k_law_draw b_law_draw .nil pass0 (pa_cons (pv 0) pa_nil)) pe_int)) (pss_cons (ps_if (PW.pt (pw_or (pt_cmpR op_le (pv 1) pe_int (nomark _)) (pw_or1 (pt_cmpR op_eq (pv 5) pe_int (nomark _))))) (pss_one (ps_ret (pe_call G_law_atom R_law_atom (by rfl) g_law_atom k_law_atom b_law_atom .nil pass0 (pa_cons (pv 0) (pa_cons (pv 2) (pa_cons (pv 3) pa_nil)))))) pss_nil) (pss_cons (ps_if (pt_cmpR op_eq (pv 5) pe_int (nomark _)) (pss_one (ps_ret (pe_tup (pa_cons pe_str (pa_cons (pe_call G_law_formula R_law_formula (by rfl) g_law_formula k_law_formula b_law_formula .nil pass0 (pa_cons (pv 0) (pa_cons (pe_op op_sub (pv 1) pe_int) (pa_cons (pv 2) (pa_cons (pe_call G_law_turned R_law_turned (by rfl) g_law_turned k_law_turned b_law_turned .nil pass0 (pa_cons (pv 3) pa_nil)) (pa_cons (pv 4) pa_nil)))))) pa_nil))))) pss_nil) (pss_cons (ps_if (pt_cmpR op_lt (pv 5) pe_int (nomark _)) (pss_cons (ps_set (i := 6) sc_formula.nd rfl (Or.inl rfl) (pe_ix ix_list (pe_lst (pa_cons pe_str (pa_cons pe_str pa_nil))) (pe_op op_mod (pe_call G_law_draw R_law_draw (by rfl) g_law_draw k_law_draw b_law_draw .nil pass0 (pa_cons (pv 0) pa_nil)) pe_int) (fun _ _ => rfl))) (pss_cons (ps_set (i := 7) sc_formula.nd rfl (Or.inl rfl) (pe_ix ix_list (pe_lst (pa_cons pe_int (pa_cons pe_int (pa_cons pe_int (pa_cons pe_int (pa_cons pe_int (pa_cons pe_int pa_nil))))))) (pe_op op_mod (pe_call G_law_draw R_law_draw (by rfl) g_law_draw k_law_draw b_law_draw .nil pass0 (pa_cons (pv 0) pa_nil)) pe_int) (fun _ _ => rfl))) (pss_one (ps_ret (pe_tup (pa_cons (pv 6) (pa_cons (pe_callTy call_tuple_of (by rfl) T.n_tuple (by decide +kernel) (pa_cons (pe_lc (own := [("k", 8)]) rfl sc_formula.nd (pi_range1 (by rfl) T.n_range (pa_cons (pv 7) pa_nil)) (blkOk_by (N := ["draws", "deep", "pool", "names", "kinds", "pick", "word", "many", "k"]) (sc := defScope (top 78)) (by decide +kernel)) (fun _ _ _ _ _ => (pg_name (i := 8) sc_formula.nd rfl (Or.inl rfl))) (fun _ _ _ _ _ => pts_nil) (fun _ _ _ _ _ => (pe_call G_law_formula R_law_formula (by rfl) g_law_formula k_law_formula b_law_formula .nil pass0 (pa_cons (pv 0) (pa_cons (pe_op op_sub (pv 1) pe_int) (pa_cons (pv 2) (pa_cons (pv 3) (pa_cons (pv 4) pa_nil)))))))) pa_nil)) pa_nil))))))) pss_nil) (pss_one (ps_ret (pe_call G_law_bound R_law_bound (by rfl) g_law_bound k_law_bound b_law_bound .nil pass0 (pa_cons (pv 0) (pa_cons (pv 1) (pa_cons (pv 2) (pa_cons (pv 3) (pa_cons (pv 4) pa_nil)))))))))))), ?_⟩
      have f60 := ga.few
      refine ⟨_, rfl, d, l, rfl, ga.dr, fun z1 H1 _ _ dr1 k1 => ?_⟩
      have ga1 := ga.kp k1 dr1
      refine ⟨_, _, rfl, rfl, (by show (0 : Int) < 6; decide), ?_⟩
      by_cases ha : m = 0 ∨ z1 % 6 = 0
      · -- an atom
        have atom : tCall (spAtom K) [] E0 (tCons (tVar 0) (tCons (tVar 2) (tCons (tVar 3) tNil))) [some (.ref d), some (.int k), some vp, some vn, some vk, some (.int (z1 % 6)), none, none, none] H1 Q := by
          refine ⟨_, rfl, _, rfl, _, rfl, d, l, vp, vn, pool, ns, Γ, rfl, dr1, ga1.dp, ga1.dn, ga1.ok, ga1.po, by omega, fun H2 r f dr2 k2 df gf => ?_⟩
          exact q H2 r f dr2 (k1.trans k2) df ((gf.mono (by omega)).kinds fun x hx => nomatch hx)
        by_cases hn : m = 0
        · refine ⟨_, rfl, _, _, rfl, rfl, _, rfl, cT (k := decide (k ≤ 1)) (decide_eq_true (by omega)) (iteT atom)⟩
        · have hz : z1 % 6 = 0 := ha.resolve_left hn
          refine ⟨_, rfl, _, _, rfl, rfl, _, rfl, cF (k := decide (k ≤ 1)) (decide_eq_false (by omega)) ⟨_, rfl, rfl, _, rfl, cT (k := decide (V.int (z1 % 6) = V.int 0)) (decide_eq_true (by rw [hz])) atom⟩⟩
      · have hn : m ≠ 0 := fun z => ha (.inl z)
        have hz : z1 % 6 ≠ 0 := fun z => ha (.inr z)
        refine ⟨_, rfl, _, _, rfl, rfl, _, rfl, cF (k := decide (k ≤ 1)) (decide_eq_false (by omega)) ⟨_, rfl, rfl, _, rfl, cF (k := decide (V.int (z1 % 6) = V.int 0)) (decide_eq_false fun z => hz (V.int.inj z)) ?_⟩⟩
        refine ⟨_, rfl, rfl, _, rfl, ?_⟩
        by_cases h1z : z1 % 6 = 1
        · refine cT (k := decide (V.int (z1 % 6) = V.int 1)) (decide_eq_true (by rw [h1z])) ?_
          refine ⟨_, rfl, _, rfl, _, _, rfl, rfl, _, rfl, _, rfl, vn, ns, rfl, ga1.dn, by omega, ga1.ok.md, fun H2 rt s2 dt => ?_⟩
          have ga2 := ga1.same s2
          have tl := turned_len ns
          refine ⟨_, rfl, d, l, _, vp, rt, vk, ks, pool, turned ns, Γ, m, rfl, by omega, by omega, ⟨ga2.dr, ga2.dp, dt, ga2.dk, ga2.ok.turned, ga2.po, by omega⟩, fun H3 rf g dr3 k3 dg hg => ?_⟩
          refine ⟨(by show 2 ≤ sizeLine; decide), fun rr nr => ?_⟩
          have s4 := same_upd (o := .tup [.str "not", rf]) nr
          refine q _ _ (.mk .no [g]) (dr3.same s4) (((k1.trans (.of s2)).trans k3).trans (.of s4)) ?_ (.no hg)
          rw [Fm.data_mk]
          exact .tup (.inl (.inl upd_same)) (.cons (.str _) (.cons (Dp.same s4 dg) .nil))
        · refine cF (k := decide (V.int (z1 % 6) = V.int 1)) (decide_eq_false fun z => h1z (V.int.inj z)) ?_
          refine ⟨_, rfl, _, _, rfl, rfl, _, rfl, ?_⟩
          by_cases h4 : z1 % 6 < 4
          · refine cT (k := decide (z1 % 6 < 4)) (decide_eq_true h4) ?_
            -- word
            refine ⟨(by show 2 ≤ sizeLine; decide), fun c nc => ?_⟩
            have s2 := same_upd (o := .lst ((["and", "or"] : List Str).map V.str)) nc
            have ncd := (dr1.ne nc).1
            refine ⟨_, rfl, d, l, rfl, dr1.same s2, fun z2 H3 _ _ dr3 k3 => ?_⟩
            obtain ⟨wd, hw, hat⟩ := atI_str (as := ["and", "or"]) z2 (by decide)
            refine ⟨_, _, rfl, rfl, (by show (0 : Int) < 2; decide), c, _, _, _, rfl, rfl, SqL.of (k3 _ _ upd_same ncd), hat, ?_⟩
            -- many
            refine ⟨(by show 6 ≤ sizeLine; decide), fun c2 nc2 => ?_⟩
            have s4 := same_upd (o := .lst [.int 0, .int 1, .int 2, .int 2, .int 2, .int 3]) nc2
            have nc2d := (dr3.ne nc2).1
            refine ⟨_, rfl, d, l, rfl, dr3.same s4, fun z3 H5 _ _ dr5 k5 => ?_⟩
            obtain ⟨v6, hv6, hat6⟩ := atI_mod (xs := [.int 0, .int 1, .int 2, .int 2, .int 2, .int 3]) z3 (by decide)
            obtain ⟨j, rfl, j3⟩ : ∃ j : Nat, v6 = .int (j : Int) ∧ j ≤ 3 := by
              simp only [List.mem_cons, List.not_mem_nil, or_false] at hv6
              rcases hv6 with rfl | rfl | rfl | rfl | rfl | rfl
              · exact ⟨0, rfl, by decide⟩
              · exact ⟨1, rfl, by decide⟩
              · exact ⟨2, rfl, by decide⟩
              · exact ⟨2, rfl, by decide⟩
              · exact ⟨2, rfl, by decide⟩
              · exact ⟨3, rfl, by decide⟩
            refine ⟨_, _, rfl, rfl, (by show (0 : Int) < 6; decide), c2, _, _, _, rfl, rfl, SqL.of (k5 _ _ upd_same nc2d), hat6, ?_⟩
            have k15 : Kp d H1 H5 := (((Kp.of s2).trans k3).trans (.of s4)).trans k5
            have ga5 := ga1.kp k15 dr5
            -- the parts
            refine ⟨_, rfl, _, rfl, j, rfl, by omega, by omega, fun M nM => ?_⟩
            obtain ⟨nMd, nMl⟩ := dr5.ne nM
            refine lc_it walk_range (fun i H6 => ∃ (vs : List V) (gs : List Fm), DrA H6 d l ∧ Kp d H5 H6 ∧ H6 M = some (.lst vs) ∧ DpAll K H6 vs (gs.map Fm.data) ∧ gs.length = i ∧ ∀ g, g ∈ gs → Gen ks pool ns Γ g m) ⟨[], [], dr5.same (same_upd nM), .of (same_upd nM), upd_same, .nil, rfl, fun x hx => nomatch hx⟩ (fun _ _ _ _ => trivial) ?_ ?_
            · rintro i y H6 H7 hi ⟨vs, gs, dr6, k6, hM, hvs, len, hs⟩ ⟨rfl, rfl⟩
              have ga6 := ga5.kp k6 dr6
              refine ⟨rfl, _, rfl, _, rfl, _, _, rfl, rfl, _, rfl, _, rfl, _, rfl, d, l, _, vp, vn, vk, ks, pool, ns, Γ, m, rfl, by omega, by omega, ⟨ga6.dr, ga6.dp, ga6.dn, ga6.dk, ga6.ok, ga6.po, by omega⟩, fun H8 rf g dr8 k8 dg hg => ?_⟩
              have hM8 := k8 _ _ hM nMd
              have lv := DpAll.length hvs
              rw [List.length_map] at lv
              refine ⟨_, hM8, small1000 (by omega), vs ++ [rf], gs ++ [g], dr8.kp Kp.upd ⟨nMd, nMl⟩, kp_own (k6.trans k8) nM, upd_same, ?_, by rw [List.length_append, len]; rfl, fun x hx => ?_⟩
              · rw [List.map_append]
                exact DpAll.kl (Kl.upd hM8) (DpAll.snoc (DpAll.kl (.dr k8 dr6) hvs (fms_noL _)) dg) (by rw [noLs_append, fms_noL, fms_noL]; rfl)
              · rcases List.mem_append.mp hx with hx | hx
                · exact hs x hx
                · rw [List.mem_singleton.mp hx]; exact hg
            · rintro H6 ⟨vs, gs, dr6, k6, hM, hvs, len, hs⟩
              refine ⟨M, _, rfl, .inl ⟨SqL.of hM, fun u nu => ?_⟩⟩
              refine ⟨(by show 2 ≤ sizeLine; decide), fun r nr => ?_⟩
              have s7 := same_upd (o := .tup vs) nu
              have s8 := same_upd (o := .tup [.str wd, .ref u]) nr
              have kk : Kp d H _ := ((k1.trans k15).trans k6).trans (.of (s7.trans s8))
              have dd : DpAll K (upd (upd H6 u (.tup vs)) r (.tup [.str wd, .ref u])) vs (gs.map Fm.data) := DpAll.same (s7.trans s8) hvs
              rcases List.mem_cons.mp hw with rfl | hw
              · refine q _ _ (.mk .con gs) (dr6.same (s7.trans s8)) kk ?_ (.con (.inl rfl) hs (by omega))
                rw [Fm.data_mk]
                exact .tup (.inl (.inl upd_same)) (.cons (.str _) (.cons (.tup (Same.sqt s8 (.inl (.inl upd_same))) dd) .nil))
              · have ew := List.mem_singleton.mp hw
                subst ew
                refine q _ _ (.mk .dis gs) (dr6.same (s7.trans s8)) kk ?_ (.con (.inr rfl) hs (by omega))
                rw [Fm.data_mk]
                exact .tup (.inl (.inl upd_same)) (.cons (.str _) (.cons (.tup (Same.sqt s8 (.inl (.inl upd_same))) dd) .nil))
          · refine cF (k := decide (z1 % 6 < 4)) (decide_eq_false h4) ?_
            refine ⟨_, rfl, _, rfl, _, rfl, _, rfl, _, rfl, d, l, _, vp, vn, vk, ks, pool, ns, Γ, m + 1, rfl, hk, by omega, ga1, fun H3 rf g dr3 k3 dg hg => ?_⟩
            exact q H3 rf g dr3 (k1.trans k3) dg hg
end
theorem one_of {ps : List Fm} (h : ps.length = 1) : ∃ g, ps = [g] := by
  match ps, h with
  | [g], _ => exact ⟨g, rfl⟩
theorem Same.none {H H' : Hp} {r : Addr} (s : Same H H') (e : H' r = Option.none) : H r = Option.none := by
  cases q : H r with
  | none => rfl
  | some o => rw [s _ _ q] at e; cases e
theorem none_of {ps : List Fm} (h : ps.length = 0) : ps = [] := List.length_eq_zero_iff.mp h
/-- a look at a formula -/
def spLook (K : PySem.W.Frag) (R : Fm → PyData) : Sp := fun vs H Q _ => ∃ (v : V) (f : Fm), vs = [v] ∧ Dp K H v f.data ∧ f.Ok ∧ ∀ (H' : Hp) (r : V), Same H H' → Dp K H' r (R f) → Q r H'
def spParts (K : PySem.W.Frag) : Sp := fun vs H Q _ => ∃ (v : V) (f : Fm), vs = [v] ∧ Dp K H v f.data ∧ f.Ok ∧ ∀ (H' : Hp) (r : Addr) (ys : List V), Same H H' → H r = none → H' r = some (.lst ys) → DpAll K H' ys (f.parts.map Fm.data) → Q (.ref r) H'
section
variable {P : Program} {w : World} {K : PySem.W.Frag} {mg : Str → Option Value} {base : Heap}
theorem sc_law_parts : FnScope ["f"] ["f"] (defScope (top 80)) := ⟨rfl, rfl, rfl, by decide +kernel, rfl, by decide +kernel, by decide +kernel⟩
theorem has_law_parts (D : Def K mg "_law_parts" ["f"] (top 80)) (T : Txt mg) : Has P w K mg base 1 "_law_parts" ["f"] (spParts K) := D.has fun f fd F => by
  refine F.ok sc_law_parts (fun vs H Q E h => ?_) (fun cdv A outer s H vs Q E hr h => ?_)
  · obtain ⟨v, f, rfl, _⟩ := h; rfl
  · obtain ⟨v, f, rfl, dp, ok, q⟩ := h
    refine ⟨_, PSs.nox (pss_cons (ps_if (pt_cmpR op_eq (pe_ix ix_tup (pv 0) pe_int (fun _ _ => rfl)) pe_str (nomark _)) (pss_one (ps_ret (pe_lst (pa_cons (pe_ix ix_tup (pv 0) pe_int (fun _ _ => rfl)) pa_nil)))) pss_nil) (pss_cons (ps_if (PW.pt (pw_or (pt_cmpR op_eq (pe_ix ix_tup (pv 0) pe_int (fun _ _ => rfl)) pe_str (nomark _)) (pw_or1 (pt_cmpR op_eq (pe_ix ix_tup (pv 0) pe_int (fun _ _ => rfl)) pe_str (nomark _))))) (pss_one (ps_ret (pe_callTy call_list_of (by rfl) T.n_list (by decide +kernel) (pa_cons (pe_ix ix_tup (pv 0) pe_int (fun _ _ => rfl)) pa_nil)))) pss_nil) (pss_cons (ps_if (pt_cmpR op_in_seq (pe_ix ix_tup (pv 0) pe_int (fun _ _ => rfl)) (pe_lst (pa_cons pe_str (pa_cons pe_str (pa_cons pe_str pa_nil)))) (by rfl)) (pss_one (ps_ret (pe_lst (pa_cons (pe_ix ix_tup (pv 0) pe_int (fun _ _ => rfl)) pa_nil)))) pss_nil) (pss_cons (ps_if (pt_cmpR op_in_seq (pe_ix ix_tup (pv 0) pe_int (fun _ _ => rfl)) (pe_lst (pa_cons pe_str (pa_cons pe_str (pa_cons pe_str pa_nil)))) (by rfl)) (pss_one (ps_ret (pe_lst (pa_cons (pe_ix ix_tup (pv 0) pe_int (fun _ _ => rfl)) pa_nil)))) pss_nil) (pss_one (ps_ret (pe_lst pa_nil))))))), ?_⟩
    obtain ⟨h, ps⟩ := f
    rw [Fm.data_mk] at dp
    have fit := ok.hd_
    obtain ⟨a, xs, rfl, hT, hx⟩ := hd_inv dp
    clear dp
    cases h with
    | rel n as =>
      obtain rfl := none_of fit.2.2.2
      obtain ⟨v1, w1, rfl, e1, hx⟩ := DpAll.cons_inv hx
      obtain ⟨v2, w2, rfl, e2, hx⟩ := DpAll.cons_inv hx
      obtain rfl := DpAll.nil_inv hx
      refine ⟨_, rfl, a, _, _, _, rfl, rfl, hT, atI_nat (j := 0) rfl, rfl, _, rfl, cF (k := decide (V.str "rel" = V.str "not")) (by decide +kernel) ?_⟩
      refine ⟨_, rfl, a, _, _, _, rfl, rfl, hT, atI_nat (j := 0) rfl, rfl, _, rfl, cF (k := decide (V.str "rel" = V.str "and")) (by decide +kernel) ⟨_, rfl, a, _, _, _, rfl, rfl, hT, atI_nat (j := 0) rfl, rfl, _, rfl, cF (k := decide (V.str "rel" = V.str "or")) (by decide +kernel) ?_⟩⟩
      refine ⟨_, rfl, a, _, _, _, rfl, rfl, hT, atI_nat (j := 0) rfl, (by show 3 ≤ sizeLine; decide), fun p1 np1 => ⟨_, _, rfl, .inl (SqL.of upd_same), rfl, rfl, _, rfl, cF (k := inV (.str "rel") [.str "some", .str "all", .str "tc"]) (by decide +kernel) ?_⟩⟩
      have t1 := same_upd (o := .lst [V.str "some", .str "all", .str "tc"]) np1
      refine ⟨_, rfl, a, _, _, _, rfl, rfl, (Same.sqt t1 hT), atI_nat (j := 0) rfl, (by show 3 ≤ sizeLine; decide), fun p2 np2 => ⟨_, _, rfl, .inl (SqL.of upd_same), rfl, rfl, _, rfl, cF (k := inV (.str "rel") [.str "lfp", .str "pfp", .str "guess"]) (by decide +kernel) ?_⟩⟩
      have t2 := same_upd (o := .lst [V.str "lfp", .str "pfp", .str "guess"]) np2
      have u2 := t1.trans t2
      refine ⟨(by show 0 ≤ sizeLine; decide), fun r nr => ?_⟩
      have sr := same_upd (o := .lst []) nr
      exact q _ r _ (Same.trans (u2) sr) (Same.none (u2) nr) upd_same .nil
    | eq x y =>
      obtain rfl := none_of fit.2.2
      obtain ⟨v1, w1, rfl, e1, hx⟩ := DpAll.cons_inv hx
      obtain ⟨v2, w2, rfl, e2, hx⟩ := DpAll.cons_inv hx
      obtain rfl := DpAll.nil_inv hx
      refine ⟨_, rfl, a, _, _, _, rfl, rfl, hT, atI_nat (j := 0) rfl, rfl, _, rfl, cF (k := decide (V.str "eq" = V.str "not")) (by decide +kernel) ?_⟩
      refine ⟨_, rfl, a, _, _, _, rfl, rfl, hT, atI_nat (j := 0) rfl, rfl, _, rfl, cF (k := decide (V.str "eq" = V.str "and")) (by decide +kernel) ⟨_, rfl, a, _, _, _, rfl, rfl, hT, atI_nat (j := 0) rfl, rfl, _, rfl, cF (k := decide (V.str "eq" = V.str "or")) (by decide +kernel) ?_⟩⟩
      refine ⟨_, rfl, a, _, _, _, rfl, rfl, hT, atI_nat (j := 0) rfl, (by show 3 ≤ sizeLine; decide), fun p1 np1 => ⟨_, _, rfl, .inl (SqL.of upd_same), rfl, rfl, _, rfl, cF (k := inV (.str "eq") [.str "some", .str "all", .str "tc"]) (by decide +kernel) ?_⟩⟩
      have t1 := same_upd (o := .lst [V.str "some", .str "all", .str "tc"]) np1
      refine ⟨_, rfl, a, _, _, _, rfl, rfl, (Same.sqt t1 hT), atI_nat (j := 0) rfl, (by show 3 ≤ sizeLine; decide), fun p2 np2 => ⟨_, _, rfl, .inl (SqL.of upd_same), rfl, rfl, _, rfl, cF (k := inV (.str "eq") [.str "lfp", .str "pfp", .str "guess"]) (by decide +kernel) ?_⟩⟩
      have t2 := same_upd (o := .lst [V.str "lfp", .str "pfp", .str "guess"]) np2
      have u2 := t1.trans t2
      refine ⟨(by show 0 ≤ sizeLine; decide), fun r nr => ?_⟩
      have sr := same_upd (o := .lst []) nr
      exact q _ r _ (Same.trans (u2) sr) (Same.none (u2) nr) upd_same .nil
    | less x y =>
      obtain rfl := none_of fit.2.2
      obtain ⟨v1, w1, rfl, e1, hx⟩ := DpAll.cons_inv hx
      obtain ⟨v2, w2, rfl, e2, hx⟩ := DpAll.cons_inv hx
      obtain rfl := DpAll.nil_inv hx
      refine ⟨_, rfl, a, _, _, _, rfl, rfl, hT, atI_nat (j := 0) rfl, rfl, _, rfl, cF (k := decide (V.str "less" = V.str "not")) (by decide +kernel) ?_⟩
      refine ⟨_, rfl, a, _, _, _, rfl, rfl, hT, atI_nat (j := 0) rfl, rfl, _, rfl, cF (k := decide (V.str "less" = V.str "and")) (by decide +kernel) ⟨_, rfl, a, _, _, _, rfl, rfl, hT, atI_nat (j := 0) rfl, rfl, _, rfl, cF (k := decide (V.str "less" = V.str "or")) (by decide +kernel) ?_⟩⟩
      refine ⟨_, rfl, a, _, _, _, rfl, rfl, hT, atI_nat (j := 0) rfl, (by show 3 ≤ sizeLine; decide), fun p1 np1 => ⟨_, _, rfl, .inl (SqL.of upd_same), rfl, rfl, _, rfl, cF (k := inV (.str "less") [.str "some", .str "all", .str "tc"]) (by decide +kernel) ?_⟩⟩
      have t1 := same_upd (o := .lst [V.str "some", .str "all", .str "tc"]) np1
      refine ⟨_, rfl, a, _, _, _, rfl, rfl, (Same.sqt t1 hT), atI_nat (j := 0) rfl, (by show 3 ≤ sizeLine; decide), fun p2 np2 => ⟨_, _, rfl, .inl (SqL.of upd_same), rfl, rfl, _, rfl, cF (k := inV (.str "less") [.str "lfp", .str "pfp", .str "guess"]) (by decide +kernel) ?_⟩⟩
      have t2 := same_upd (o := .lst [V.str "lfp", .str "pfp", .str "guess"]) np2
      have u2 := t1.trans t2
      refine ⟨(by show 0 ≤ sizeLine; decide), fun r nr => ?_⟩
      have sr := same_upd (o := .lst []) nr
      exact q _ r _ (Same.trans (u2) sr) (Same.none (u2) nr) upd_same .nil
    | no =>
      obtain ⟨g, rfl⟩ := one_of fit
      obtain ⟨v1, w1, rfl, e1, hx⟩ := DpAll.cons_inv hx
      obtain rfl := DpAll.nil_inv hx
      refine ⟨_, rfl, a, _, _, _, rfl, rfl, hT, atI_nat (j := 0) rfl, rfl, _, rfl, cT (k := decide (V.str "not" = V.str "not")) (by decide +kernel) ?_⟩
      refine ⟨_, rfl, a, _, _, _, rfl, rfl, hT, atI_nat (j := 1) rfl, (by show 1 ≤ sizeLine; decide), fun r nr => ?_⟩
      have sr := same_upd (o := .lst [v1]) nr
      exact q _ r _ (Same.trans (Same.refl H) sr) (Same.none (Same.refl H) nr) upd_same (.cons (Dp.same (Same.trans (Same.refl H) sr) e1) .nil)
    | con =>
      obtain ⟨v1, w1, rfl, e1, hx⟩ := DpAll.cons_inv hx
      obtain rfl := DpAll.nil_inv hx
      refine ⟨_, rfl, a, _, _, _, rfl, rfl, hT, atI_nat (j := 0) rfl, rfl, _, rfl, cF (k := decide (V.str "and" = V.str "not")) (by decide +kernel) ?_⟩
      refine ⟨_, rfl, a, _, _, _, rfl, rfl, hT, atI_nat (j := 0) rfl, rfl, _, rfl, cT (k := decide (V.str "and" = V.str "and")) (by decide +kernel) (iteT ?_)⟩
      obtain ⟨b, ys, rfl, hb, hy⟩ := Dp.tup_inv e1
      refine ⟨_, rfl, a, _, _, _, rfl, rfl, hT, atI_nat (j := 1) rfl, b, _, rfl, .inr hb, fun r nr => ?_⟩
      have sr := same_upd (o := .lst ys) nr
      exact q _ r _ (Same.trans (Same.refl H) sr) (Same.none (Same.refl H) nr) upd_same (DpAll.same (Same.trans (Same.refl H) sr) hy)
    | dis =>
      obtain ⟨v1, w1, rfl, e1, hx⟩ := DpAll.cons_inv hx
      obtain rfl := DpAll.nil_inv hx
      refine ⟨_, rfl, a, _, _, _, rfl, rfl, hT, atI_nat (j := 0) rfl, rfl, _, rfl, cF (k := decide (V.str "or" = V.str "not")) (by decide +kernel) ?_⟩
      refine ⟨_, rfl, a, _, _, _, rfl, rfl, hT, atI_nat (j := 0) rfl, rfl, _, rfl, cF (k := decide (V.str "or" = V.str "and")) (by decide +kernel) ⟨_, rfl, a, _, _, _, rfl, rfl, hT, atI_nat (j := 0) rfl, rfl, _, rfl, cT (k := decide (V.str "or" = V.str "or")) (by decide +kernel) ?_⟩⟩
      obtain ⟨b, ys, rfl, hb, hy⟩ := Dp.tup_inv e1
      refine ⟨_, rfl, a, _, _, _, rfl, rfl, hT, atI_nat (j := 1) rfl, b, _, rfl, .inr hb, fun r nr => ?_⟩
      have sr := same_upd (o := .lst ys) nr
      exact q _ r _ (Same.trans (Same.refl H) sr) (Same.none (Same.refl H) nr) upd_same (DpAll.same (Same.trans (Same.refl H) sr) hy)
    | ex us =>
      obtain ⟨g, rfl⟩ := one_of fit.2
      obtain ⟨v1, w1, rfl, e1, hx⟩ := DpAll.cons_inv hx
      obtain ⟨v2, w2, rfl, e2, hx⟩ := DpAll.cons_inv hx
      obtain rfl := DpAll.nil_inv hx
      refine ⟨_, rfl, a, _, _, _, rfl, rfl, hT, atI_nat (j := 0) rfl, rfl, _, rfl, cF (k := decide (V.str "some" = V.str "not")) (by decide +kernel) ?_⟩
      refine ⟨_, rfl, a, _, _, _, rfl, rfl, hT, atI_nat (j := 0) rfl, rfl, _, rfl, cF (k := decide (V.str "some" = V.str "and")) (by decide +kernel) ⟨_, rfl, a, _, _, _, rfl, rfl, hT, atI_nat (j := 0) rfl, rfl, _, rfl, cF (k := decide (V.str "some" = V.str "or")) (by decide +kernel) ?_⟩⟩
      refine ⟨_, rfl, a, _, _, _, rfl, rfl, hT, atI_nat (j := 0) rfl, (by show 3 ≤ sizeLine; decide), fun p1 np1 => ⟨_, _, rfl, .inl (SqL.of upd_same), rfl, rfl, _, rfl, cT (k := inV (.str "some") [.str "some", .str "all", .str "tc"]) (by decide +kernel) ?_⟩⟩
      have t1 := same_upd (o := .lst [V.str "some", .str "all", .str "tc"]) np1
      refine ⟨_, rfl, a, _, _, _, rfl, rfl, (Same.sqt t1 hT), atI_nat (j := 2) rfl, (by show 1 ≤ sizeLine; decide), fun r nr => ?_⟩
      have sr := same_upd (o := .lst [v2]) nr
      exact q _ r _ (Same.trans (t1) sr) (Same.none (t1) nr) upd_same (.cons (Dp.same (Same.trans (t1) sr) e2) .nil)
    | al us =>
      obtain ⟨g, rfl⟩ := one_of fit.2
      obtain ⟨v1, w1, rfl, e1, hx⟩ := DpAll.cons_inv hx
      obtain ⟨v2, w2, rfl, e2, hx⟩ := DpAll.cons_inv hx
      obtain rfl := DpAll.nil_inv hx
      refine ⟨_, rfl, a, _, _, _, rfl, rfl, hT, atI_nat (j := 0) rfl, rfl, _, rfl, cF (k := decide (V.str "all" = V.str "not")) (by decide +kernel) ?_⟩
      refine ⟨_, rfl, a, _, _, _, rfl, rfl, hT, atI_nat (j := 0) rfl, rfl, _, rfl, cF (k := decide (V.str "all" = V.str "and")) (by decide +kernel) ⟨_, rfl, a, _, _, _, rfl, rfl, hT, atI_nat (j := 0) rfl, rfl, _, rfl, cF (k := decide (V.str "all" = V.str "or")) (by decide +kernel) ?_⟩⟩
      refine ⟨_, rfl, a, _, _, _, rfl, rfl, hT, atI_nat (j := 0) rfl, (by show 3 ≤ sizeLine; decide), fun p1 np1 => ⟨_, _, rfl, .inl (SqL.of upd_same), rfl, rfl, _, rfl, cT (k := inV (.str "all") [.str "some", .str "all", .str "tc"]) (by decide +kernel) ?_⟩⟩
      have t1 := same_upd (o := .lst [V.str "some", .str "all", .str "tc"]) np1
      refine ⟨_, rfl, a, _, _, _, rfl, rfl, (Same.sqt t1 hT), atI_nat (j := 2) rfl, (by show 1 ≤ sizeLine; decide), fun r nr => ?_⟩
      have sr := same_upd (o := .lst [v2]) nr
      exact q _ r _ (Same.trans (t1) sr) (Same.none (t1) nr) upd_same (.cons (Dp.same (Same.trans (t1) sr) e2) .nil)
    | lfp n us as =>
      obtain ⟨g, rfl⟩ := one_of fit.2.2.2.2
      obtain ⟨v1, w1, rfl, e1, hx⟩ := DpAll.cons_inv hx
      obtain ⟨v2, w2, rfl, e2, hx⟩ := DpAll.cons_inv hx
      obtain ⟨v3, w3, rfl, e3, hx⟩ := DpAll.cons_inv hx
      obtain ⟨v4, w4, rfl, e4, hx⟩ := DpAll.cons_inv hx
      obtain rfl := DpAll.nil_inv hx
      refine ⟨_, rfl, a, _, _, _, rfl, rfl, hT, atI_nat (j := 0) rfl, rfl, _, rfl, cF (k := decide (V.str "lfp" = V.str "not")) (by decide +kernel) ?_⟩
      refine ⟨_, rfl, a, _, _, _, rfl, rfl, hT, atI_nat (j := 0) rfl, rfl, _, rfl, cF (k := decide (V.str "lfp" = V.str "and")) (by decide +kernel) ⟨_, rfl, a, _, _, _, rfl, rfl, hT, atI_nat (j := 0) rfl, rfl, _, rfl, cF (k := decide (V.str "lfp" = V.str "or")) (by decide +kernel) ?_⟩⟩
      refine ⟨_, rfl, a, _, _, _, rfl, rfl, hT, atI_nat (j := 0) rfl, (by show 3 ≤ sizeLine; decide), fun p1 np1 => ⟨_, _, rfl, .inl (SqL.of upd_same), rfl, rfl, _, rfl, cF (k := inV (.str "lfp") [.str "some", .str "all", .str "tc"]) (by decide +kernel) ?_⟩⟩
      have t1 := same_upd (o := .lst [V.str "some", .str "all", .str "tc"]) np1
      refine ⟨_, rfl, a, _, _, _, rfl, rfl, (Same.sqt t1 hT), atI_nat (j := 0) rfl, (by show 3 ≤ sizeLine; decide), fun p2 np2 => ⟨_, _, rfl, .inl (SqL.of upd_same), rfl, rfl, _, rfl, cT (k := inV (.str "lfp") [.str "lfp", .str "pfp", .str "guess"]) (by decide +kernel) ?_⟩⟩
      have t2 := same_upd (o := .lst [V.str "lfp", .str "pfp", .str "guess"]) np2
      have u2 := t1.trans t2
      refine ⟨_, rfl, a, _, _, _, rfl, rfl, (Same.sqt u2 hT), atI_nat (j := 3) rfl, (by show 1 ≤ sizeLine; decide), fun r nr => ?_⟩
      have sr := same_upd (o := .lst [v3]) nr
      exact q _ r _ (Same.trans (u2) sr) (Same.none (u2) nr) upd_same (.cons (Dp.same (Same.trans (u2) sr) e3) .nil)
    | pfp n us as =>
      obtain ⟨g, rfl⟩ := one_of fit.2.2.2.2
      obtain ⟨v1, w1, rfl, e1, hx⟩ := DpAll.cons_inv hx
      obtain ⟨v2, w2, rfl, e2, hx⟩ := DpAll.cons_inv hx
      obtain ⟨v3, w3, rfl, e3, hx⟩ := DpAll.cons_inv hx
      obtain ⟨v4, w4, rfl, e4, hx⟩ := DpAll.cons_inv hx
      obtain rfl := DpAll.nil_inv hx
      refine ⟨_, rfl, a, _, _, _, rfl, rfl, hT, atI_nat (j := 0) rfl, rfl, _, rfl, cF (k := decide (V.str "pfp" = V.str "not")) (by decide +kernel) ?_⟩
      refine ⟨_, rfl, a, _, _, _, rfl, rfl, hT, atI_nat (j := 0) rfl, rfl, _, rfl, cF (k := decide (V.str "pfp" = V.str "and")) (by decide +kernel) ⟨_, rfl, a, _, _, _, rfl, rfl, hT, atI_nat (j := 0) rfl, rfl, _, rfl, cF (k := decide (V.str "pfp" = V.str "or")) (by decide +kernel) ?_⟩⟩
      refine ⟨_, rfl, a, _, _, _, rfl, rfl, hT, atI_nat (j := 0) rfl, (by show 3 ≤ sizeLine; decide), fun p1 np1 => ⟨_, _, rfl, .inl (SqL.of upd_same), rfl, rfl, _, rfl, cF (k := inV (.str "pfp") [.str "some", .str "all", .str "tc"]) (by decide +kernel) ?_⟩⟩
      have t1 := same_upd (o := .lst [V.str "some", .str "all", .str "tc"]) np1
      refine ⟨_, rfl, a, _, _, _, rfl, rfl, (Same.sqt t1 hT), atI_nat (j := 0) rfl, (by show 3 ≤ sizeLine; decide), fun p2 np2 => ⟨_, _, rfl, .inl (SqL.of upd_same), rfl, rfl, _, rfl, cT (k := inV (.str "pfp") [.str "lfp", .str "pfp", .str "guess"]) (by decide +kernel) ?_⟩⟩
      have t2 := same_upd (o := .lst [V.str "lfp", .str "pfp", .str "guess"]) np2
      have u2 := t1.trans t2
      refine ⟨_, rfl, a, _, _, _, rfl, rfl, (Same.sqt u2 hT), atI_nat (j := 3) rfl, (by show 1 ≤ sizeLine; decide), fun r nr => ?_⟩
      have sr := same_upd (o := .lst [v3]) nr
      exact q _ r _ (Same.trans (u2) sr) (Same.none (u2) nr) upd_same (.cons (Dp.same (Same.trans (u2) sr) e3) .nil)
    | tc us as =>
      obtain ⟨g, rfl⟩ := one_of fit.2.2.2.2.2
      obtain ⟨v1, w1, rfl, e1, hx⟩ := DpAll.cons_inv hx
      obtain ⟨v2, w2, rfl, e2, hx⟩ := DpAll.cons_inv hx
      obtain ⟨v3, w3, rfl, e3, hx⟩ := DpAll.cons_inv hx
      obtain rfl := DpAll.nil_inv hx
      refine ⟨_, rfl, a, _, _, _, rfl, rfl, hT, atI_nat (j := 0) rfl, rfl, _, rfl, cF (k := decide (V.str "tc" = V.str "not")) (by decide +kernel) ?_⟩
      refine ⟨_, rfl, a, _, _, _, rfl, rfl, hT, atI_nat (j := 0) rfl, rfl, _, rfl, cF (k := decide (V.str "tc" = V.str "and")) (by decide +kernel) ⟨_, rfl, a, _, _, _, rfl, rfl, hT, atI_nat (j := 0) rfl, rfl, _, rfl, cF (k := decide (V.str "tc" = V.str "or")) (by decide +kernel) ?_⟩⟩
      refine ⟨_, rfl, a, _, _, _, rfl, rfl, hT, atI_nat (j := 0) rfl, (by show 3 ≤ sizeLine; decide), fun p1 np1 => ⟨_, _, rfl, .inl (SqL.of upd_same), rfl, rfl, _, rfl, cT (k := inV (.str "tc") [.str "some", .str "all", .str "tc"]) (by decide +kernel) ?_⟩⟩
      have t1 := same_upd (o := .lst [V.str "some", .str "all", .str "tc"]) np1
      refine ⟨_, rfl, a, _, _, _, rfl, rfl, (Same.sqt t1 hT), atI_nat (j := 2) rfl, (by show 1 ≤ sizeLine; decide), fun r nr => ?_⟩
      have sr := same_upd (o := .lst [v2]) nr
      exact q _ r _ (Same.trans (t1) sr) (Same.none (t1) nr) upd_same (.cons (Dp.same (Same.trans (t1) sr) e2) .nil)
    | gs n k =>
      obtain ⟨g, rfl⟩ := one_of fit.2.2
      obtain ⟨v1, w1, rfl, e1, hx⟩ := DpAll.cons_inv hx
      obtain ⟨v2, w2, rfl, e2, hx⟩ := DpAll.cons_inv hx
      obtain ⟨v3, w3, rfl, e3, hx⟩ := DpAll.cons_inv hx
      obtain rfl := DpAll.nil_inv hx
      refine ⟨_, rfl, a, _, _, _, rfl, rfl, hT, atI_nat (j := 0) rfl, rfl, _, rfl, cF (k := decide (V.str "guess" = V.str "not")) (by decide +kernel) ?_⟩
      refine ⟨_, rfl, a, _, _, _, rfl, rfl, hT, atI_nat (j := 0) rfl, rfl, _, rfl, cF (k := decide (V.str "guess" = V.str "and")) (by decide +kernel) ⟨_, rfl, a, _, _, _, rfl, rfl, hT, atI_nat (j := 0) rfl, rfl, _, rfl, cF (k := decide (V.str "guess" = V.str "or")) (by decide +kernel) ?_⟩⟩
      refine ⟨_, rfl, a, _, _, _, rfl, rfl, hT, atI_nat (j := 0) rfl, (by show 3 ≤ sizeLine; decide), fun p1 np1 => ⟨_, _, rfl, .inl (SqL.of upd_same), rfl, rfl, _, rfl, cF (k := inV (.str "guess") [.str "some", .str "all", .str "tc"]) (by decide +kernel) ?_⟩⟩
      have t1 := same_upd (o := .lst [V.str "some", .str "all", .str "tc"]) np1
      refine ⟨_, rfl, a, _, _, _, rfl, rfl, (Same.sqt t1 hT), atI_nat (j := 0) rfl, (by show 3 ≤ sizeLine; decide), fun p2 np2 => ⟨_, _, rfl, .inl (SqL.of upd_same), rfl, rfl, _, rfl, cT (k := inV (.str "guess") [.str "lfp", .str "pfp", .str "guess"]) (by decide +kernel) ?_⟩⟩
      have t2 := same_upd (o := .lst [V.str "lfp", .str "pfp", .str "guess"]) np2
      have u2 := t1.trans t2
      refine ⟨_, rfl, a, _, _, _, rfl, rfl, (Same.sqt u2 hT), atI_nat (j := 3) rfl, (by show 1 ≤ sizeLine; decide), fun r nr => ?_⟩
      have sr := same_upd (o := .lst [v3]) nr
      exact q _ r _ (Same.trans (u2) sr) (Same.none (u2) nr) upd_same (.cons (Dp.same (Same.trans (u2) sr) e3) .nil)
theorem sc_law_bound_here : FnScope ["f"] ["f"] (defScope (top 81)) := ⟨rfl, rfl, rfl, by decide +kernel, rfl, by decide +kernel, by decide +kernel⟩
theorem has_law_bound_here (D : Def K mg "_law_bound_here" ["f"] (top 81)) (T : Txt mg) : Has P w K mg base 1 "_law_bound_here" ["f"] (spLook K fun f => tS f.hd.own) := D.has fun f fd F => by
  refine F.ok sc_law_bound_here (fun vs H Q E h => ?_) (fun cdv A outer s H vs Q E hr h => ?_)
  · obtain ⟨v, f, rfl, _⟩ := h; rfl
  · obtain ⟨v, f, rfl, dp, ok, q⟩ := h
    refine ⟨_, PSs.nox (pss_cons (ps_if (pt_cmpR op_in_seq (pe_ix ix_tup (pv 0) pe_int (fun _ _ => rfl)) (pe_lst (pa_cons pe_str (pa_cons pe_str (pa_cons pe_str pa_nil)))) (by rfl)) (pss_one (ps_ret (pe_ix ix_tup (pv 0) pe_int (fun _ _ => rfl)))) pss_nil) (pss_cons (ps_if (pt_cmpR op_in_seq (pe_ix ix_tup (pv 0) pe_int (fun _ _ => rfl)) (pe_lst (pa_cons pe_str (pa_cons pe_str pa_nil))) (by rfl)) (pss_one (ps_ret (pe_ix ix_tup (pv 0) pe_int (fun _ _ => rfl)))) pss_nil) (pss_one (ps_ret (pe_tup pa_nil))))), ?_⟩
    obtain ⟨h, ps⟩ := f
    rw [Fm.data_mk] at dp
    have fit := ok.hd_
    obtain ⟨a, xs, rfl, hT, hx⟩ := hd_inv dp
    clear dp
    cases h with
    | rel n as =>
      obtain rfl := none_of fit.2.2.2
      obtain ⟨v1, w1, rfl, e1, hx⟩ := DpAll.cons_inv hx
      obtain ⟨v2, w2, rfl, e2, hx⟩ := DpAll.cons_inv hx
      obtain rfl := DpAll.nil_inv hx
      refine ⟨_, rfl, a, _, _, _, rfl, rfl, hT, atI_nat (j := 0) rfl, (by show 3 ≤ sizeLine; decide), fun p1 np1 => ⟨_, _, rfl, .inl (SqL.of upd_same), rfl, rfl, _, rfl, cF (k := inV (.str "rel") [.str "some", .str "all", .str "tc"]) (by decide +kernel) ?_⟩⟩
      have t1 := same_upd (o := .lst [V.str "some", .str "all", .str "tc"]) np1
      refine ⟨_, rfl, a, _, _, _, rfl, rfl, (Same.sqt t1 hT), atI_nat (j := 0) rfl, (by show 2 ≤ sizeLine; decide), fun p2 np2 => ⟨_, _, rfl, .inl (SqL.of upd_same), rfl, rfl, _, rfl, cF (k := inV (.str "rel") [.str "lfp", .str "pfp"]) (by decide +kernel) ?_⟩⟩
      have t2 := same_upd (o := .lst [V.str "lfp", .str "pfp"]) np2
      have u2 := t1.trans t2
      refine ⟨(by show 0 ≤ sizeLine; decide), fun r nr => ?_⟩
      have sr := same_upd (o := .tup []) nr
      exact q _ _ (Same.trans (u2) sr) (tS_of (as := []) (.inl (.inl upd_same)))
    | eq x y =>
      obtain rfl := none_of fit.2.2
      obtain ⟨v1, w1, rfl, e1, hx⟩ := DpAll.cons_inv hx
      obtain ⟨v2, w2, rfl, e2, hx⟩ := DpAll.cons_inv hx
      obtain rfl := DpAll.nil_inv hx
      refine ⟨_, rfl, a, _, _, _, rfl, rfl, hT, atI_nat (j := 0) rfl, (by show 3 ≤ sizeLine; decide), fun p1 np1 => ⟨_, _, rfl, .inl (SqL.of upd_same), rfl, rfl, _, rfl, cF (k := inV (.str "eq") [.str "some", .str "all", .str "tc"]) (by decide +kernel) ?_⟩⟩
      have t1 := same_upd (o := .lst [V.str "some", .str "all", .str "tc"]) np1
      refine ⟨_, rfl, a, _, _, _, rfl, rfl, (Same.sqt t1 hT), atI_nat (j := 0) rfl, (by show 2 ≤ sizeLine; decide), fun p2 np2 => ⟨_, _, rfl, .inl (SqL.of upd_same), rfl, rfl, _, rfl, cF (k := inV (.str "eq") [.str "lfp", .str "pfp"]) (by decide +kernel) ?_⟩⟩
      have t2 := same_upd (o := .lst [V.str "lfp", .str "pfp"]) np2
      have u2 := t1.trans t2
      refine ⟨(by show 0 ≤ sizeLine; decide), fun r nr => ?_⟩
      have sr := same_upd (o := .tup []) nr
      exact q _ _ (Same.trans (u2) sr) (tS_of (as := []) (.inl (.inl upd_same)))
    | less x y =>
      obtain rfl := none_of fit.2.2
      obtain ⟨v1, w1, rfl, e1, hx⟩ := DpAll.cons_inv hx
      obtain ⟨v2, w2, rfl, e2, hx⟩ := DpAll.cons_inv hx
      obtain rfl := DpAll.nil_inv hx
      refine ⟨_, rfl, a, _, _, _, rfl, rfl, hT, atI_nat (j := 0) rfl, (by show 3 ≤ sizeLine; decide), fun p1 np1 => ⟨_, _, rfl, .inl (SqL.of upd_same), rfl, rfl, _, rfl, cF (k := inV (.str "less") [.str "some", .str "all", .str "tc"]) (by decide +kernel) ?_⟩⟩
      have t1 := same_upd (o := .lst [V.str "some", .str "all", .str "tc"]) np1
      refine ⟨_, rfl, a, _, _, _, rfl, rfl, (Same.sqt t1 hT), atI_nat (j := 0) rfl, (by show 2 ≤ sizeLine; decide), fun p2 np2 => ⟨_, _, rfl, .inl (SqL.of upd_same), rfl, rfl, _, rfl, cF (k := inV (.str "less") [.str "lfp", .str "pfp"]) (by decide +kernel) ?_⟩⟩
      have t2 := same_upd (o := .lst [V.str "lfp", .str "pfp"]) np2
      have u2 := t1.trans t2
      refine ⟨(by show 0 ≤ sizeLine; decide), fun r nr => ?_⟩
      have sr := same_upd (o := .tup []) nr
      exact q _ _ (Same.trans (u2) sr) (tS_of (as := []) (.inl (.inl upd_same)))
    | no =>
      obtain ⟨g, rfl⟩ := one_of fit
      obtain ⟨v1, w1, rfl, e1, hx⟩ := DpAll.cons_inv hx
      obtain rfl := DpAll.nil_inv hx
      refine ⟨_, rfl, a, _, _, _, rfl, rfl, hT, atI_nat (j := 0) rfl, (by show 3 ≤ sizeLine; decide), fun p1 np1 => ⟨_, _, rfl, .inl (SqL.of upd_same), rfl, rfl, _, rfl, cF (k := inV (.str "not") [.str "some", .str "all", .str "tc"]) (by decide +kernel) ?_⟩⟩
      have t1 := same_upd (o := .lst [V.str "some", .str "all", .str "tc"]) np1
      refine ⟨_, rfl, a, _, _, _, rfl, rfl, (Same.sqt t1 hT), atI_nat (j := 0) rfl, (by show 2 ≤ sizeLine; decide), fun p2 np2 => ⟨_, _, rfl, .inl (SqL.of upd_same), rfl, rfl, _, rfl, cF (k := inV (.str "not") [.str "lfp", .str "pfp"]) (by decide +kernel) ?_⟩⟩
      have t2 := same_upd (o := .lst [V.str "lfp", .str "pfp"]) np2
      have u2 := t1.trans t2
      refine ⟨(by show 0 ≤ sizeLine; decide), fun r nr => ?_⟩
      have sr := same_upd (o := .tup []) nr
      exact q _ _ (Same.trans (u2) sr) (tS_of (as := []) (.inl (.inl upd_same)))
    | con =>
      obtain ⟨v1, w1, rfl, e1, hx⟩ := DpAll.cons_inv hx
      obtain rfl := DpAll.nil_inv hx
      refine ⟨_, rfl, a, _, _, _, rfl, rfl, hT, atI_nat (j := 0) rfl, (by show 3 ≤ sizeLine; decide), fun p1 np1 => ⟨_, _, rfl, .inl (SqL.of upd_same), rfl, rfl, _, rfl, cF (k := inV (.str "and") [.str "some", .str "all", .str "tc"]) (by decide +kernel) ?_⟩⟩
      have t1 := same_upd (o := .lst [V.str "some", .str "all", .str "tc"]) np1
      refine ⟨_, rfl, a, _, _, _, rfl, rfl, (Same.sqt t1 hT), atI_nat (j := 0) rfl, (by show 2 ≤ sizeLine; decide), fun p2 np2 => ⟨_, _, rfl, .inl (SqL.of upd_same), rfl, rfl, _, rfl, cF (k := inV (.str "and") [.str "lfp", .str "pfp"]) (by decide +kernel) ?_⟩⟩
      have t2 := same_upd (o := .lst [V.str "lfp", .str "pfp"]) np2
      have u2 := t1.trans t2
      refine ⟨(by show 0 ≤ sizeLine; decide), fun r nr => ?_⟩
      have sr := same_upd (o := .tup []) nr
      exact q _ _ (Same.trans (u2) sr) (tS_of (as := []) (.inl (.inl upd_same)))
    | dis =>
      obtain ⟨v1, w1, rfl, e1, hx⟩ := DpAll.cons_inv hx
      obtain rfl := DpAll.nil_inv hx
      refine ⟨_, rfl, a, _, _, _, rfl, rfl, hT, atI_nat (j := 0) rfl, (by show 3 ≤ sizeLine; decide), fun p1 np1 => ⟨_, _, rfl, .inl (SqL.of upd_same), rfl, rfl, _, rfl, cF (k := inV (.str "or") [.str "some", .str "all", .str "tc"]) (by decide +kernel) ?_⟩⟩
      have t1 := same_upd (o := .lst [V.str "some", .str "all", .str "tc"]) np1
      refine ⟨_, rfl, a, _, _, _, rfl, rfl, (Same.sqt t1 hT), atI_nat (j := 0) rfl, (by show 2 ≤ sizeLine; decide), fun p2 np2 => ⟨_, _, rfl, .inl (SqL.of upd_same), rfl, rfl, _, rfl, cF (k := inV (.str "or") [.str "lfp", .str "pfp"]) (by decide +kernel) ?_⟩⟩
      have t2 := same_upd (o := .lst [V.str "lfp", .str "pfp"]) np2
      have u2 := t1.trans t2
      refine ⟨(by show 0 ≤ sizeLine; decide), fun r nr => ?_⟩
      have sr := same_upd (o := .tup []) nr
      exact q _ _ (Same.trans (u2) sr) (tS_of (as := []) (.inl (.inl upd_same)))
    | ex us =>
      obtain ⟨g, rfl⟩ := one_of fit.2
      obtain ⟨v1, w1, rfl, e1, hx⟩ := DpAll.cons_inv hx
      obtain ⟨v2, w2, rfl, e2, hx⟩ := DpAll.cons_inv hx
      obtain rfl := DpAll.nil_inv hx
      refine ⟨_, rfl, a, _, _, _, rfl, rfl, hT, atI_nat (j := 0) rfl, (by show 3 ≤ sizeLine; decide), fun p1 np1 => ⟨_, _, rfl, .inl (SqL.of upd_same), rfl, rfl, _, rfl, cT (k := inV (.str "some") [.str "some", .str "all", .str "tc"]) (by decide +kernel) ?_⟩⟩
      have t1 := same_upd (o := .lst [V.str "some", .str "all", .str "tc"]) np1
      refine ⟨_, rfl, a, _, _, _, rfl, rfl, (Same.sqt t1 hT), atI_nat (j := 1) rfl, ?_⟩
      exact q _ _ (t1) (Dp.same t1 e1)
    | al us =>
      obtain ⟨g, rfl⟩ := one_of fit.2
      obtain ⟨v1, w1, rfl, e1, hx⟩ := DpAll.cons_inv hx
      obtain ⟨v2, w2, rfl, e2, hx⟩ := DpAll.cons_inv hx
      obtain rfl := DpAll.nil_inv hx
      refine ⟨_, rfl, a, _, _, _, rfl, rfl, hT, atI_nat (j := 0) rfl, (by show 3 ≤ sizeLine; decide), fun p1 np1 => ⟨_, _, rfl, .inl (SqL.of upd_same), rfl, rfl, _, rfl, cT (k := inV (.str "all") [.str "some", .str "all", .str "tc"]) (by decide +kernel) ?_⟩⟩
      have t1 := same_upd (o := .lst [V.str "some", .str "all", .str "tc"]) np1
      refine ⟨_, rfl, a, _, _, _, rfl, rfl, (Same.sqt t1 hT), atI_nat (j := 1) rfl, ?_⟩
      exact q _ _ (t1) (Dp.same t1 e1)
    | lfp n us as =>
      obtain ⟨g, rfl⟩ := one_of fit.2.2.2.2
      obtain ⟨v1, w1, rfl, e1, hx⟩ := DpAll.cons_inv hx
      obtain ⟨v2, w2, rfl, e2, hx⟩ := DpAll.cons_inv hx
      obtain ⟨v3, w3, rfl, e3, hx⟩ := DpAll.cons_inv hx
      obtain ⟨v4, w4, rfl, e4, hx⟩ := DpAll.cons_inv hx
      obtain rfl := DpAll.nil_inv hx
      refine ⟨_, rfl, a, _, _, _, rfl, rfl, hT, atI_nat (j := 0) rfl, (by show 3 ≤ sizeLine; decide), fun p1 np1 => ⟨_, _, rfl, .inl (SqL.of upd_same), rfl, rfl, _, rfl, cF (k := inV (.str "lfp") [.str "some", .str "all", .str "tc"]) (by decide +kernel) ?_⟩⟩
      have t1 := same_upd (o := .lst [V.str "some", .str "all", .str "tc"]) np1
      refine ⟨_, rfl, a, _, _, _, rfl, rfl, (Same.sqt t1 hT), atI_nat (j := 0) rfl, (by show 2 ≤ sizeLine; decide), fun p2 np2 => ⟨_, _, rfl, .inl (SqL.of upd_same), rfl, rfl, _, rfl, cT (k := inV (.str "lfp") [.str "lfp", .str "pfp"]) (by decide +kernel) ?_⟩⟩
      have t2 := same_upd (o := .lst [V.str "lfp", .str "pfp"]) np2
      have u2 := t1.trans t2
      refine ⟨_, rfl, a, _, _, _, rfl, rfl, (Same.sqt u2 hT), atI_nat (j := 2) rfl, ?_⟩
      exact q _ _ (u2) (Dp.same u2 e2)
    | pfp n us as =>
      obtain ⟨g, rfl⟩ := one_of fit.2.2.2.2
      obtain ⟨v1, w1, rfl, e1, hx⟩ := DpAll.cons_inv hx
      obtain ⟨v2, w2, rfl, e2, hx⟩ := DpAll.cons_inv hx
      obtain ⟨v3, w3, rfl, e3, hx⟩ := DpAll.cons_inv hx
      obtain ⟨v4, w4, rfl, e4, hx⟩ := DpAll.cons_inv hx
      obtain rfl := DpAll.nil_inv hx
      refine ⟨_, rfl, a, _, _, _, rfl, rfl, hT, atI_nat (j := 0) rfl, (by show 3 ≤ sizeLine; decide), fun p1 np1 => ⟨_, _, rfl, .inl (SqL.of upd_same), rfl, rfl, _, rfl, cF (k := inV (.str "pfp") [.str "some", .str "all", .str "tc"]) (by decide +kernel) ?_⟩⟩
      have t1 := same_upd (o := .lst [V.str "some", .str "all", .str "tc"]) np1
      refine ⟨_, rfl, a, _, _, _, rfl, rfl, (Same.sqt t1 hT), atI_nat (j := 0) rfl, (by show 2 ≤ sizeLine; decide), fun p2 np2 => ⟨_, _, rfl, .inl (SqL.of upd_same), rfl, rfl, _, rfl, cT (k := inV (.str "pfp") [.str "lfp", .str "pfp"]) (by decide +kernel) ?_⟩⟩
      have t2 := same_upd (o := .lst [V.str "lfp", .str "pfp"]) np2
      have u2 := t1.trans t2
      refine ⟨_, rfl, a, _, _, _, rfl, rfl, (Same.sqt u2 hT), atI_nat (j := 2) rfl, ?_⟩
      exact q _ _ (u2) (Dp.same u2 e2)
    | tc us as =>
      obtain ⟨g, rfl⟩ := one_of fit.2.2.2.2.2
      obtain ⟨v1, w1, rfl, e1, hx⟩ := DpAll.cons_inv hx
      obtain ⟨v2, w2, rfl, e2, hx⟩ := DpAll.cons_inv hx
      obtain ⟨v3, w3, rfl, e3, hx⟩ := DpAll.cons_inv hx
      obtain rfl := DpAll.nil_inv hx
      refine ⟨_, rfl, a, _, _, _, rfl, rfl, hT, atI_nat (j := 0) rfl, (by show 3 ≤ sizeLine; decide), fun p1 np1 => ⟨_, _, rfl, .inl (SqL.of upd_same), rfl, rfl, _, rfl, cT (k := inV (.str "tc") [.str "some", .str "all", .str "tc"]) (by decide +kernel) ?_⟩⟩
      have t1 := same_upd (o := .lst [V.str "some", .str "all", .str "tc"]) np1
      refine ⟨_, rfl, a, _, _, _, rfl, rfl, (Same.sqt t1 hT), atI_nat (j := 1) rfl, ?_⟩
      exact q _ _ (t1) (Dp.same t1 e1)
    | gs n k =>
      obtain ⟨g, rfl⟩ := one_of fit.2.2
      obtain ⟨v1, w1, rfl, e1, hx⟩ := DpAll.cons_inv hx
      obtain ⟨v2, w2, rfl, e2, hx⟩ := DpAll.cons_inv hx
      obtain ⟨v3, w3, rfl, e3, hx⟩ := DpAll.cons_inv hx
      obtain rfl := DpAll.nil_inv hx
      refine ⟨_, rfl, a, _, _, _, rfl, rfl, hT, atI_nat (j := 0) rfl, (by show 3 ≤ sizeLine; decide), fun p1 np1 => ⟨_, _, rfl, .inl (SqL.of upd_same), rfl, rfl, _, rfl, cF (k := inV (.str "guess") [.str "some", .str "all", .str "tc"]) (by decide +kernel) ?_⟩⟩
      have t1 := same_upd (o := .lst [V.str "some", .str "all", .str "tc"]) np1
      refine ⟨_, rfl, a, _, _, _, rfl, rfl, (Same.sqt t1 hT), atI_nat (j := 0) rfl, (by show 2 ≤ sizeLine; decide), fun p2 np2 => ⟨_, _, rfl, .inl (SqL.of upd_same), rfl, rfl, _, rfl, cF (k := inV (.str "guess") [.str "lfp", .str "pfp"]) (by decide +kernel) ?_⟩⟩
      have t2 := same_upd (o := .lst [V.str "lfp", .str "pfp"]) np2
      have u2 := t1.trans t2
      refine ⟨(by show 0 ≤ sizeLine; decide), fun r nr => ?_⟩
      have sr := same_upd (o := .tup []) nr
      exact q _ _ (Same.trans (u2) sr) (tS_of (as := []) (.inl (.inl upd_same)))
theorem sc_law_own : FnScope ["f"] ["f"] (defScope (top 82)) := ⟨rfl, rfl, rfl, by decide +kernel, rfl, by decide +kernel, by decide +kernel⟩
theorem has_law_own (D : Def K mg "_law_own" ["f"] (top 82)) (T : Txt mg) : Has P w K mg base 1 "_law_own" ["f"] (spLook K fun f => tS f.hd.args) := D.has fun f fd F => by
  refine F.ok sc_law_own (fun vs H Q E h => ?_) (fun cdv A outer s H vs Q E hr h => ?_)
  · obtain ⟨v, f, rfl, _⟩ := h; rfl
  · obtain ⟨v, f, rfl, dp, ok, q⟩ := h
    refine ⟨_, PSs.nox (pss_cons (ps_if (pt_cmpR op_eq (pe_ix ix_tup (pv 0) pe_int (fun _ _ => rfl)) pe_str (nomark _)) (pss_one (ps_ret (pe_ix ix_tup (pv 0) pe_int (fun _ _ => rfl)))) pss_nil) (pss_cons (ps_if (PW.pt (pw_or (pt_cmpR op_eq (pe_ix ix_tup (pv 0) pe_int (fun _ _ => rfl)) pe_str (nomark _)) (pw_or1 (pt_cmpR op_eq (pe_ix ix_tup (pv 0) pe_int (fun _ _ => rfl)) pe_str (nomark _))))) (pss_one (ps_ret (pe_tup (pa_cons (pe_ix ix_tup (pv 0) pe_int (fun _ _ => rfl)) (pa_cons (pe_ix ix_tup (pv 0) pe_int (fun _ _ => rfl)) pa_nil))))) pss_nil) (pss_cons (ps_if (pt_cmpR op_eq (pe_ix ix_tup (pv 0) pe_int (fun _ _ => rfl)) pe_str (nomark _)) (pss_one (ps_ret (pe_ix ix_tup (pv 0) pe_int (fun _ _ => rfl)))) pss_nil) (pss_cons (ps_if (pt_cmpR op_in_seq (pe_ix ix_tup (pv 0) pe_int (fun _ _ => rfl)) (pe_lst (pa_cons pe_str (pa_cons pe_str pa_nil))) (by rfl)) (pss_one (ps_ret (pe_ix ix_tup (pv 0) pe_int (fun _ _ => rfl)))) pss_nil) (pss_one (ps_ret (pe_tup pa_nil))))))), ?_⟩
    obtain ⟨h, ps⟩ := f
    rw [Fm.data_mk] at dp
    have fit := ok.hd_
    obtain ⟨a, xs, rfl, hT, hx⟩ := hd_inv dp
    clear dp
    cases h with
    | rel n as =>
      obtain rfl := none_of fit.2.2.2
      obtain ⟨v1, w1, rfl, e1, hx⟩ := DpAll.cons_inv hx
      obtain ⟨v2, w2, rfl, e2, hx⟩ := DpAll.cons_inv hx
      obtain rfl := DpAll.nil_inv hx
      refine ⟨_, rfl, a, _, _, _, rfl, rfl, hT, atI_nat (j := 0) rfl, rfl, _, rfl, cT (k := decide (V.str "rel" = V.str "rel")) (by decide +kernel) ?_⟩
      refine ⟨_, rfl, a, _, _, _, rfl, rfl, hT, atI_nat (j := 2) rfl, ?_⟩
      exact q _ _ (Same.refl H) e2
    | eq x y =>
      obtain rfl := none_of fit.2.2
      obtain ⟨v1, w1, rfl, e1, hx⟩ := DpAll.cons_inv hx
      obtain ⟨v2, w2, rfl, e2, hx⟩ := DpAll.cons_inv hx
      obtain rfl := DpAll.nil_inv hx
      refine ⟨_, rfl, a, _, _, _, rfl, rfl, hT, atI_nat (j := 0) rfl, rfl, _, rfl, cF (k := decide (V.str "eq" = V.str "rel")) (by decide +kernel) ?_⟩
      refine ⟨_, rfl, a, _, _, _, rfl, rfl, hT, atI_nat (j := 0) rfl, rfl, _, rfl, cT (k := decide (V.str "eq" = V.str "eq")) (by decide +kernel) (iteT ?_)⟩
      obtain rfl := Dp.str_inv e1
      obtain rfl := Dp.str_inv e2
      refine ⟨_, rfl, a, _, _, _, rfl, rfl, hT, atI_nat (j := 1) rfl, ?_⟩
      refine ⟨_, rfl, a, _, _, _, rfl, rfl, hT, atI_nat (j := 2) rfl, (by show 2 ≤ sizeLine; decide), fun r nr => ?_⟩
      have sr := same_upd (o := .tup [.str x, .str y]) nr
      exact q _ _ (Same.trans (Same.refl H) sr) (tS_of (as := [x, y]) (.inl (.inl upd_same)))
    | less x y =>
      obtain rfl := none_of fit.2.2
      obtain ⟨v1, w1, rfl, e1, hx⟩ := DpAll.cons_inv hx
      obtain ⟨v2, w2, rfl, e2, hx⟩ := DpAll.cons_inv hx
      obtain rfl := DpAll.nil_inv hx
      refine ⟨_, rfl, a, _, _, _, rfl, rfl, hT, atI_nat (j := 0) rfl, rfl, _, rfl, cF (k := decide (V.str "less" = V.str "rel")) (by decide +kernel) ?_⟩
      refine ⟨_, rfl, a, _, _, _, rfl, rfl, hT, atI_nat (j := 0) rfl, rfl, _, rfl, cF (k := decide (V.str "less" = V.str "eq")) (by decide +kernel) ⟨_, rfl, a, _, _, _, rfl, rfl, hT, atI_nat (j := 0) rfl, rfl, _, rfl, cT (k := decide (V.str "less" = V.str "less")) (by decide +kernel) ?_⟩⟩
      obtain rfl := Dp.str_inv e1
      obtain rfl := Dp.str_inv e2
      refine ⟨_, rfl, a, _, _, _, rfl, rfl, hT, atI_nat (j := 1) rfl, ?_⟩
      refine ⟨_, rfl, a, _, _, _, rfl, rfl, hT, atI_nat (j := 2) rfl, (by show 2 ≤ sizeLine; decide), fun r nr => ?_⟩
      have sr := same_upd (o := .tup [.str x, .str y]) nr
      exact q _ _ (Same.trans (Same.refl H) sr) (tS_of (as := [x, y]) (.inl (.inl upd_same)))
    | no =>
      obtain ⟨g, rfl⟩ := one_of fit
      obtain ⟨v1, w1, rfl, e1, hx⟩ := DpAll.cons_inv hx
      obtain rfl := DpAll.nil_inv hx
      refine ⟨_, rfl, a, _, _, _, rfl, rfl, hT, atI_nat (j := 0) rfl, rfl, _, rfl, cF (k := decide (V.str "not" = V.str "rel")) (by decide +kernel) ?_⟩
      refine ⟨_, rfl, a, _, _, _, rfl, rfl, hT, atI_nat (j := 0) rfl, rfl, _, rfl, cF (k := decide (V.str "not" = V.str "eq")) (by decide +kernel) ⟨_, rfl, a, _, _, _, rfl, rfl, hT, atI_nat (j := 0) rfl, rfl, _, rfl, cF (k := decide (V.str "not" = V.str "less")) (by decide +kernel) ?_⟩⟩
      refine ⟨_, rfl, a, _, _, _, rfl, rfl, hT, atI_nat (j := 0) rfl, rfl, _, rfl, cF (k := decide (V.str "not" = V.str "tc")) (by decide +kernel) ?_⟩
      refine ⟨_, rfl, a, _, _, _, rfl, rfl, hT, atI_nat (j := 0) rfl, (by show 2 ≤ sizeLine; decide), fun p1 np1 => ⟨_, _, rfl, .inl (SqL.of upd_same), rfl, rfl, _, rfl, cF (k := inV (.str "not") [.str "lfp", .str "pfp"]) (by decide +kernel) ?_⟩⟩
      have t1 := same_upd (o := .lst [V.str "lfp", .str "pfp"]) np1
      refine ⟨(by show 0 ≤ sizeLine; decide), fun r nr => ?_⟩
      have sr := same_upd (o := .tup []) nr
      exact q _ _ (Same.trans (t1) sr) (tS_of (as := []) (.inl (.inl upd_same)))
    | con =>
      obtain ⟨v1, w1, rfl, e1, hx⟩ := DpAll.cons_inv hx
      obtain rfl := DpAll.nil_inv hx
      refine ⟨_, rfl, a, _, _, _, rfl, rfl, hT, atI_nat (j := 0) rfl, rfl, _, rfl, cF (k := decide (V.str "and" = V.str "rel")) (by decide +kernel) ?_⟩
      refine ⟨_, rfl, a, _, _, _, rfl, rfl, hT, atI_nat (j := 0) rfl, rfl, _, rfl, cF (k := decide (V.str "and" = V.str "eq")) (by decide +kernel) ⟨_, rfl, a, _, _, _, rfl, rfl, hT, atI_nat (j := 0) rfl, rfl, _, rfl, cF (k := decide (V.str "and" = V.str "less")) (by decide +kernel) ?_⟩⟩
      refine ⟨_, rfl, a, _, _, _, rfl, rfl, hT, atI_nat (j := 0) rfl, rfl, _, rfl, cF (k := decide (V.str "and" = V.str "tc")) (by decide +kernel) ?_⟩
      refine ⟨_, rfl, a, _, _, _, rfl, rfl, hT, atI_nat (j := 0) rfl, (by show 2 ≤ sizeLine; decide), fun p1 np1 => ⟨_, _, rfl, .inl (SqL.of upd_same), rfl, rfl, _, rfl, cF (k := inV (.str "and") [.str "lfp", .str "pfp"]) (by decide +kernel) ?_⟩⟩
      have t1 := same_upd (o := .lst [V.str "lfp", .str "pfp"]) np1
      refine ⟨(by show 0 ≤ sizeLine; decide), fun r nr => ?_⟩
      have sr := same_upd (o := .tup []) nr
      exact q _ _ (Same.trans (t1) sr) (tS_of (as := []) (.inl (.inl upd_same)))
    | dis =>
      obtain ⟨v1, w1, rfl, e1, hx⟩ := DpAll.cons_inv hx
      obtain rfl := DpAll.nil_inv hx
      refine ⟨_, rfl, a, _, _, _, rfl, rfl, hT, atI_nat (j := 0) rfl, rfl, _, rfl, cF (k := decide (V.str "or" = V.str "rel")) (by decide +kernel) ?_⟩
      refine ⟨_, rfl, a, _, _, _, rfl, rfl, hT, atI_nat (j := 0) rfl, rfl, _, rfl, cF (k := decide (V.str "or" = V.str "eq")) (by decide +kernel) ⟨_, rfl, a, _, _, _, rfl, rfl, hT, atI_nat (j := 0) rfl, rfl, _, rfl, cF (k := decide (V.str "or" = V.str "less")) (by decide +kernel) ?_⟩⟩
      refine ⟨_, rfl, a, _, _, _, rfl, rfl, hT, atI_nat (j := 0) rfl, rfl, _, rfl, cF (k := decide (V.str "or" = V.str "tc")) (by decide +kernel) ?_⟩
      refine ⟨_, rfl, a, _, _, _, rfl, rfl, hT, atI_nat (j := 0) rfl, (by show 2 ≤ sizeLine; decide), fun p1 np1 => ⟨_, _, rfl, .inl (SqL.of upd_same), rfl, rfl, _, rfl, cF (k := inV (.str "or") [.str "lfp", .str "pfp"]) (by decide +kernel) ?_⟩⟩
      have t1 := same_upd (o := .lst [V.str "lfp", .str "pfp"]) np1
      refine ⟨(by show 0 ≤ sizeLine; decide), fun r nr => ?_⟩
      have sr := same_upd (o := .tup []) nr
      exact q _ _ (Same.trans (t1) sr) (tS_of (as := []) (.inl (.inl upd_same)))
    | ex us =>
      obtain ⟨g, rfl⟩ := one_of fit.2
      obtain ⟨v1, w1, rfl, e1, hx⟩ := DpAll.cons_inv hx
      obtain ⟨v2, w2, rfl, e2, hx⟩ := DpAll.cons_inv hx
      obtain rfl := DpAll.nil_inv hx
      refine ⟨_, rfl, a, _, _, _, rfl, rfl, hT, atI_nat (j := 0) rfl, rfl, _, rfl, cF (k := decide (V.str "some" = V.str "rel")) (by decide +kernel) ?_⟩
      refine ⟨_, rfl, a, _, _, _, rfl, rfl, hT, atI_nat (j := 0) rfl, rfl, _, rfl, cF (k := decide (V.str "some" = V.str "eq")) (by decide +kernel) ⟨_, rfl, a, _, _, _, rfl, rfl, hT, atI_nat (j := 0) rfl, rfl, _, rfl, cF (k := decide (V.str "some" = V.str "less")) (by decide +kernel) ?_⟩⟩
      refine ⟨_, rfl, a, _, _, _, rfl, rfl, hT, atI_nat (j := 0) rfl, rfl, _, rfl, cF (k := decide (V.str "some" = V.str "tc")) (by decide +kernel) ?_⟩
      refine ⟨_, rfl, a, _, _, _, rfl, rfl, hT, atI_nat (j := 0) rfl, (by show 2 ≤ sizeLine; decide), fun p1 np1 => ⟨_, _, rfl, .inl (SqL.of upd_same), rfl, rfl, _, rfl, cF (k := inV (.str "some") [.str "lfp", .str "pfp"]) (by decide +kernel) ?_⟩⟩
      have t1 := same_upd (o := .lst [V.str "lfp", .str "pfp"]) np1
      refine ⟨(by show 0 ≤ sizeLine; decide), fun r nr => ?_⟩
      have sr := same_upd (o := .tup []) nr
      exact q _ _ (Same.trans (t1) sr) (tS_of (as := []) (.inl (.inl upd_same)))
    | al us =>
      obtain ⟨g, rfl⟩ := one_of fit.2
      obtain ⟨v1, w1, rfl, e1, hx⟩ := DpAll.cons_inv hx
      obtain ⟨v2, w2, rfl, e2, hx⟩ := DpAll.cons_inv hx
      obtain rfl := DpAll.nil_inv hx
      refine ⟨_, rfl, a, _, _, _, rfl, rfl, hT, atI_nat (j := 0) rfl, rfl, _, rfl, cF (k := decide (V.str "all" = V.str "rel")) (by decide +kernel) ?_⟩
      refine ⟨_, rfl, a, _, _, _, rfl, rfl, hT, atI_nat (j := 0) rfl, rfl, _, rfl, cF (k := decide (V.str "all" = V.str "eq")) (by decide +kernel) ⟨_, rfl, a, _, _, _, rfl, rfl, hT, atI_nat (j := 0) rfl, rfl, _, rfl, cF (k := decide (V.str "all" = V.str "less")) (by decide +kernel) ?_⟩⟩
      refine ⟨_, rfl, a, _, _, _, rfl, rfl, hT, atI_nat (j := 0) rfl, rfl, _, rfl, cF (k := decide (V.str "all" = V.str "tc")) (by decide +kernel) ?_⟩
      refine ⟨_, rfl, a, _, _, _, rfl, rfl, hT, atI_nat (j := 0) rfl, (by show 2 ≤ sizeLine; decide), fun p1 np1 => ⟨_, _, rfl, .inl (SqL.of upd_same), rfl, rfl, _, rfl, cF (k := inV (.str "all") [.str "lfp", .str "pfp"]) (by decide +kernel) ?_⟩⟩
      have t1 := same_upd (o := .lst [V.str "lfp", .str "pfp"]) np1
      refine ⟨(by show 0 ≤ sizeLine; decide), fun r nr => ?_⟩
      have sr := same_upd (o := .tup []) nr
      exact q _ _ (Same.trans (t1) sr) (tS_of (as := []) (.inl (.inl upd_same)))
    | lfp n us as =>
      obtain ⟨g, rfl⟩ := one_of fit.2.2.2.2
      obtain ⟨v1, w1, rfl, e1, hx⟩ := DpAll.cons_inv hx
      obtain ⟨v2, w2, rfl, e2, hx⟩ := DpAll.cons_inv hx
      obtain ⟨v3, w3, rfl, e3, hx⟩ := DpAll.cons_inv hx
      obtain ⟨v4, w4, rfl, e4, hx⟩ := DpAll.cons_inv hx
      obtain rfl := DpAll.nil_inv hx
      refine ⟨_, rfl, a, _, _, _, rfl, rfl, hT, atI_nat (j := 0) rfl, rfl, _, rfl, cF (k := decide (V.str "lfp" = V.str "rel")) (by decide +kernel) ?_⟩
      refine ⟨_, rfl, a, _, _, _, rfl, rfl, hT, atI_nat (j := 0) rfl, rfl, _, rfl, cF (k := decide (V.str "lfp" = V.str "eq")) (by decide +kernel) ⟨_, rfl, a, _, _, _, rfl, rfl, hT, atI_nat (j := 0) rfl, rfl, _, rfl, cF (k := decide (V.str "lfp" = V.str "less")) (by decide +kernel) ?_⟩⟩
      refine ⟨_, rfl, a, _, _, _, rfl, rfl, hT, atI_nat (j := 0) rfl, rfl, _, rfl, cF (k := decide (V.str "lfp" = V.str "tc")) (by decide +kernel) ?_⟩
      refine ⟨_, rfl, a, _, _, _, rfl, rfl, hT, atI_nat (j := 0) rfl, (by show 2 ≤ sizeLine; decide), fun p1 np1 => ⟨_, _, rfl, .inl (SqL.of upd_same), rfl, rfl, _, rfl, cT (k := inV (.str "lfp") [.str "lfp", .str "pfp"]) (by decide +kernel) ?_⟩⟩
      have t1 := same_upd (o := .lst [V.str "lfp", .str "pfp"]) np1
      refine ⟨_, rfl, a, _, _, _, rfl, rfl, (Same.sqt t1 hT), atI_nat (j := 4) rfl, ?_⟩
      exact q _ _ (t1) (Dp.same t1 e4)
    | pfp n us as =>
      obtain ⟨g, rfl⟩ := one_of fit.2.2.2.2
      obtain ⟨v1, w1, rfl, e1, hx⟩ := DpAll.cons_inv hx
      obtain ⟨v2, w2, rfl, e2, hx⟩ := DpAll.cons_inv hx
      obtain ⟨v3, w3, rfl, e3, hx⟩ := DpAll.cons_inv hx
      obtain ⟨v4, w4, rfl, e4, hx⟩ := DpAll.cons_inv hx
      obtain rfl := DpAll.nil_inv hx
      refine ⟨_, rfl, a, _, _, _, rfl, rfl, hT, atI_nat (j := 0) rfl, rfl, _, rfl, cF (k := decide (V.str "pfp" = V.str "rel")) (by decide +kernel) ?_⟩
      refine ⟨_, rfl, a, _, _, _, rfl, rfl, hT, atI_nat (j := 0) rfl, rfl, _, rfl, cF (k := decide (V.str "pfp" = V.str "eq")) (by decide +kernel) ⟨_, rfl, a, _, _, _, rfl, rfl, hT, atI_nat (j := 0) rfl, rfl, _, rfl, cF (k := decide (V.str "pfp" = V.str "less")) (by decide +kernel) ?_⟩⟩
      refine ⟨_, rfl, a, _, _, _, rfl, rfl, hT, atI_nat (j := 0) rfl, rfl, _, rfl, cF (k := decide (V.str "pfp" = V.str "tc")) (by decide +kernel) ?_⟩
      refine ⟨_, rfl, a, _, _, _, rfl, rfl, hT, atI_nat (j := 0) rfl, (by show 2 ≤ sizeLine; decide), fun p1 np1 => ⟨_, _, rfl, .inl (SqL.of upd_same), rfl, rfl, _, rfl, cT (k := inV (.str "pfp") [.str "lfp", .str "pfp"]) (by decide +kernel) ?_⟩⟩
      have t1 := same_upd (o := .lst [V.str "lfp", .str "pfp"]) np1
      refine ⟨_, rfl, a, _, _, _, rfl, rfl, (Same.sqt t1 hT), atI_nat (j := 4) rfl, ?_⟩
      exact q _ _ (t1) (Dp.same t1 e4)
    | tc us as =>
      obtain ⟨g, rfl⟩ := one_of fit.2.2.2.2.2
      obtain ⟨v1, w1, rfl, e1, hx⟩ := DpAll.cons_inv hx
      obtain ⟨v2, w2, rfl, e2, hx⟩ := DpAll.cons_inv hx
      obtain ⟨v3, w3, rfl, e3, hx⟩ := DpAll.cons_inv hx
      obtain rfl := DpAll.nil_inv hx
      refine ⟨_, rfl, a, _, _, _, rfl, rfl, hT, atI_nat (j := 0) rfl, rfl, _, rfl, cF (k := decide (V.str "tc" = V.str "rel")) (by decide +kernel) ?_⟩
      refine ⟨_, rfl, a, _, _, _, rfl, rfl, hT, atI_nat (j := 0) rfl, rfl, _, rfl, cF (k := decide (V.str "tc" = V.str "eq")) (by decide +kernel) ⟨_, rfl, a, _, _, _, rfl, rfl, hT, atI_nat (j := 0) rfl, rfl, _, rfl, cF (k := decide (V.str "tc" = V.str "less")) (by decide +kernel) ?_⟩⟩
      refine ⟨_, rfl, a, _, _, _, rfl, rfl, hT, atI_nat (j := 0) rfl, rfl, _, rfl, cT (k := decide (V.str "tc" = V.str "tc")) (by decide +kernel) ?_⟩
      refine ⟨_, rfl, a, _, _, _, rfl, rfl, hT, atI_nat (j := 3) rfl, ?_⟩
      exact q _ _ (Same.refl H) e3
    | gs n k =>
      obtain ⟨g, rfl⟩ := one_of fit.2.2
      obtain ⟨v1, w1, rfl, e1, hx⟩ := DpAll.cons_inv hx
      obtain ⟨v2, w2, rfl, e2, hx⟩ := DpAll.cons_inv hx
      obtain ⟨v3, w3, rfl, e3, hx⟩ := DpAll.cons_inv hx
      obtain rfl := DpAll.nil_inv hx
      refine ⟨_, rfl, a, _, _, _, rfl, rfl, hT, atI_nat (j := 0) rfl, rfl, _, rfl, cF (k := decide (V.str "guess" = V.str "rel")) (by decide +kernel) ?_⟩
      refine ⟨_, rfl, a, _, _, _, rfl, rfl, hT, atI_nat (j := 0) rfl, rfl, _, rfl, cF (k := decide (V.str "guess" = V.str "eq")) (by decide +kernel) ⟨_, rfl, a, _, _, _, rfl, rfl, hT, atI_nat (j := 0) rfl, rfl, _, rfl, cF (k := decide (V.str "guess" = V.str "less")) (by decide +kernel) ?_⟩⟩
      refine ⟨_, rfl, a, _, _, _, rfl, rfl, hT, atI_nat (j := 0) rfl, rfl, _, rfl, cF (k := decide (V.str "guess" = V.str "tc")) (by decide +kernel) ?_⟩
      refine ⟨_, rfl, a, _, _, _, rfl, rfl, hT, atI_nat (j := 0) rfl, (by show 2 ≤ sizeLine; decide), fun p1 np1 => ⟨_, _, rfl, .inl (SqL.of upd_same), rfl, rfl, _, rfl, cF (k := inV (.str "guess") [.str "lfp", .str "pfp"]) (by decide +kernel) ?_⟩⟩
      have t1 := same_upd (o := .lst [V.str "lfp", .str "pfp"]) np1
      refine ⟨(by show 0 ≤ sizeLine; decide), fun r nr => ?_⟩
      have sr := same_upd (o := .tup []) nr
      exact q _ _ (Same.trans (t1) sr) (tS_of (as := []) (.inl (.inl upd_same)))
end
/-! ### free variables -/
def frStep (h : Hd) (xs : List (List Str)) : List Str := (xs.flatten.filter fun x => !decide (x ∈ h.own)) ++ h.args
def Fm.frees : Fm → List Str := Fm.fold frStep
theorem Fm.frees_mem {h : Hd} {ps : List Fm} {x : Str} : x ∈ (Fm.mk h ps).frees ↔ (∃ g, g ∈ ps ∧ x ∈ g.frees ∧ x ∉ h.own) ∨ x ∈ h.args := by
  have e : (Fm.mk h ps).frees = frStep h (ps.map Fm.frees) := Fm.fold_mk frStep h ps
  rw [e]
  unfold frStep
  rw [List.mem_append, List.mem_filter, List.mem_flatten]
  constructor
  · rintro (⟨⟨l, hl, hx⟩, ho⟩ | ha)
    · obtain ⟨g, hg, rfl⟩ := List.mem_map.mp hl
      exact .inl ⟨g, hg, hx, by simpa using ho⟩
    · exact .inr ha
  · rintro (⟨g, hg, hx, ho⟩ | ha)
    · exact .inl ⟨⟨_, List.mem_map.mpr ⟨g, hg, rfl⟩, hx⟩, by simpa using ho⟩
    · exact .inr ha
theorem frees_vars : ∀ (f : Fm), ∀ x, x ∈ f.frees → x ∈ f.vars := Fm.ind fun h ps ih x hx => by
  rw [Fm.vars_mk]
  rcases Fm.frees_mem.mp hx with ⟨g, hg, hx, _⟩ | ha
  · exact List.mem_append_right _ (List.mem_flatten.mpr ⟨_, List.mem_map.mpr ⟨g, hg, rfl⟩, ih g hg x hx⟩)
  · exact List.mem_append_left _ (List.mem_append_right _ ha)
/-- few are free, also in each formula in it -/
inductive Fr20 : Fm → Prop
  | mk {h : Hd} {ps : List Fm} (a : ∃ l : List Str, l.length ≤ 40 ∧ ∀ x, x ∈ (Fm.mk h ps).frees → x ∈ l) (b : ∀ p, p ∈ ps → Fr20 p) : Fr20 (.mk h ps)
theorem Fr20.here {f : Fm} (k : Fr20 f) : ∃ l : List Str, l.length ≤ 40 ∧ ∀ x, x ∈ f.frees → x ∈ l := by cases k with | mk a _ => exact a
theorem Fr20.part {h : Hd} {ps : List Fm} (k : Fr20 (.mk h ps)) {p : Fm} (hp : p ∈ ps) : Fr20 p := by cases k with | mk _ b => exact b p hp
theorem Occ.fr : ∀ (f : Fm) {pool : List Str}, Occ pool f → pool.length ≤ 40 → Fr20 f := Fm.ind (P := fun f => ∀ {pool : List Str}, Occ pool f → pool.length ≤ 40 → Fr20 f) fun h ps ih pool o l =>
  .mk ⟨pool, l, fun x hx => o.vs x (frees_vars _ x hx)⟩ fun p hp => ih p hp (o.part hp) l
/-! texts in order -/
def leS (a b : Str) : Prop := a.cps.toList ≤ b.cps.toList
theorem leS_of {a b : Str} (h : ltCps b.cps.toList a.cps.toList = false) : leS a b := by
  rw [ltCps_eq] at h
  exact List.not_lt.mp (of_decide_eq_false h)
theorem leS_trans {a b c : Str} (h1 : leS a b) (h2 : leS b c) : leS a c := List.le_trans h1 h2
theorem leS_anti {a b : Str} (h1 : leS a b) (h2 : leS b a) : a = b := by
  have e : a.cps.toList = b.cps.toList := List.le_antisymm h1 h2
  obtain ⟨x⟩ := a
  obtain ⟨y⟩ := b
  have e2 : x = y := Array.toList_inj.mp e
  rw [e2]
theorem rising_pw : ∀ (p : Str) (l : List Str), risingS p l = true → (∀ x, x ∈ l → leS p x) ∧ l.Pairwise leS
  | p, [], _ => ⟨(fun x hx => by cases hx), List.Pairwise.nil⟩
  | p, x :: r, h => by
    have h2 : (!ltCps x.cps.toList p.cps.toList && risingS x r) = true := h
    obtain ⟨a, b⟩ := Bool.and_eq_true_iff.mp h2
    have px : leS p x := leS_of (by simpa using a)
    obtain ⟨c, d⟩ := rising_pw x r b
    refine ⟨fun y hy => ?_, List.pairwise_cons.mpr ⟨c, d⟩⟩
    rcases List.mem_cons.mp hy with rfl | hy
    · exact px
    · exact leS_trans px (c y hy)
theorem sorted_pw {l : List Str} (h : sortedS l = true) : l.Pairwise leS := by
  cases l with
  | nil => exact .nil
  | cons p r =>
    obtain ⟨a, b⟩ := rising_pw p r h
    exact List.pairwise_cons.mpr ⟨a, b⟩
theorem pw_uniq : ∀ (l m : List Str), l.Pairwise leS → m.Pairwise leS → l.Perm m → l = m
  | [], m, _, _, p => (List.nil_perm.mp p).symm
  | x :: l, [], _, _, p => by have := p.length_eq; cases this
  | x :: l, y :: m, hl, hm, p => by
    obtain ⟨a, b⟩ := List.pairwise_cons.mp hl
    obtain ⟨c, d⟩ := List.pairwise_cons.mp hm
    have e : x = y := by
      rcases List.mem_cons.mp (p.mem_iff.mp (List.mem_cons_self ..)) with e | hx
      · exact e
      · rcases List.mem_cons.mp (p.mem_iff.mpr (List.mem_cons_self ..)) with e | hy
        · exact e.symm
        · exact leS_anti (a y hy) (c x hx)
    subst e
    rw [pw_uniq l m b d p.cons_inv]
/-- ss: the different ones of xs in order -/
structure SetOf (ss xs : List Str) : Prop where
  nd : ss.Nodup
  so : sortedS ss = true
  mem : ∀ x, x ∈ ss ↔ x ∈ xs
theorem SetOf.uniq {ss tt xs : List Str} (a : SetOf ss xs) (b : SetOf tt xs) : ss = tt :=
  pw_uniq ss tt (sorted_pw a.so) (sorted_pw b.so) ((List.perm_ext_iff_of_nodup a.nd b.nd).mpr fun x => (a.mem x).trans (b.mem x).symm)
theorem inV_str {z : Str} : ∀ {ns : List Str}, inV (.str z) (ns.map V.str) = decide (z ∈ ns)
  | [] => by simp [inV]
  | n :: ns => by
    have ih := inV_str (z := z) (ns := ns)
    unfold inV at ih ⊢
    rw [List.map_cons, List.any_cons, ih]
    show ((n == z) || _) = _
    by_cases e : n = z
    · subst e; simp
    · have e2 : z ≠ n := fun z => e z.symm
      simp [e, e2]
def spFrees (K : PySem.W.Frag) (n : Nat) : Sp := fun vs H Q _ => ∃ (v : V) (f : Fm), vs = [v] ∧ Dp K H v f.data ∧ f.Ok ∧ Fr20 f ∧ f.dep ≤ n ∧
  ∀ (H' : Hp) (r : Addr) (ss : List Str), Same H H' → H r = none → H' r = some (.lst (ss.map V.str)) → SetOf ss f.frees → Q (.ref r) H'
theorem args_len {h : Hd} {n : Nat} (k : h.Ok n) : h.args.length ≤ 8 := by
  cases h with
  | rel n as => exact Nat.le_trans k.2.1 (by decide)
  | eq x y => show 2 ≤ 8; decide
  | less x y => show 2 ≤ 8; decide
  | lfp n us as => show as.length ≤ 8; have h1 := k.2.2.1; have h2 := k.2.1.2.1; omega
  | pfp n us as => show as.length ≤ 8; have h1 := k.2.2.1; have h2 := k.2.1.2.1; omega
  | tc us as => show as.length ≤ 8; have h1 := k.2.2.2.1; have h2 := k.1; omega
  | _ => exact Nat.zero_le _
section
variable {P : Program} {w : World} {K : PySem.W.Frag} {mg : Str → Option Value} {base : Heap}
theorem sc_law_free : FnScope ["f", "loose", "part", "x", "k"] ["f"] (defScope (top 83)) := ⟨rfl, rfl, rfl, by decide +kernel, rfl, by decide +kernel, by decide +kernel⟩
theorem has_law_free (D : Def K mg "_law_free" ["f"] (top 83)) (T : Txt mg) (C1 : Has P w K mg base 1 "_law_parts" ["f"] (spParts K)) (C2 : Has P w K mg base 1 "_law_bound_here" ["f"] (spLook K fun f => tS f.hd.own)) (C3 : Has P w K mg base 1 "_law_own" ["f"] (spLook K fun f => tS f.hd.args)) :
    ∀ n : Nat, Has P w K mg base (2 + n) "_law_free" ["f"] (spFrees K n) := by
  obtain ⟨f1, fd1, G_law_parts, g_law_parts, k_law_parts, b_law_parts⟩ := C1
  obtain ⟨f2, fd2, G_law_bound_here, g_law_bound_here, k_law_bound_here, b_law_bound_here⟩ := C2
  obtain ⟨f3, fd3, G_law_own, g_law_own, k_law_own, b_law_own⟩ := C3
  intro n
  induction n with
  | zero =>
    refine D.has fun f fd F => F.ok sc_law_free (fun vs H Q E h => ?_) (fun cdv A outer s H vs Q E hr h => ?_)
    · obtain ⟨v, f, rfl, _⟩ := h; rfl
    · obtain ⟨v, f, rfl, _, _, _, h0, _⟩ := h
      have := dep_pos f
      omega
  | succ n ih =>
    obtain ⟨f4, fd4, G_law_free, g_law_free, k_law_free, b_law_free⟩ := ih
    refine D.has fun f fd F => F.ok sc_law_free (fun vs H Q E h => ?_) (fun cdv A outer s H vs Q E hr h => ?_)
    · obtain ⟨v, f, rfl, _⟩ := h; rfl
    · obtain ⟨v, f, rfl, dp, ok, oc, hn, q⟩ := h
      have R_law_parts : Room 1 _ := hr.mono (Nat.le_trans (by decide) (Nat.le_add_right 2 n))
      have R_law_bound_here : Room 1 _ := hr.mono (Nat.le_trans (by decide) (Nat.le_add_right 2 n))
      have R_law_own : Room 1 _ := hr.mono (Nat.le_trans (by decide) (Nat.le_add_right 2 n))
      have R_law_free : Room (2 + n) _ := hr
      refine ⟨_, PSs.nox (pss_cons (ps_set (i := 1) sc_law_free.nd rfl (Or.inr rfl) (pe_lst pa_nil)) (pss_cons (ps_for PassesOwn.never rfl (pi_list (pe_call G_law_parts R_law_parts (by rfl) g_law_parts k_law_parts b_law_parts .nil pass0 (pa_cons (pv 0) pa_nil))) (pg_name (i := 2) sc_law_free.nd rfl (Or.inl rfl)) (pss_one (ps_expr (pe_bm PySem.F.plainAttrs_list PySem.F.slot_list_extend PySem.F.type_list_extend mt_extend (pv 1) (pa_cons (pe_lc (own := [("x", 3)]) rfl sc_law_free.nd (pi_list (pe_call G_law_free R_law_free (by rfl) g_law_free k_law_free b_law_free .nil pass0 (pa_cons (pv 2) pa_nil))) (blkOk_by (N := ["f", "loose", "part", "x", "k"]) (sc := defScope (top 83)) (by decide +kernel)) (fun _ _ _ _ _ => (pg_name (i := 3) sc_law_free.nd rfl (Or.inl rfl))) (fun _ _ _ _ _ => (pts_one (PW.pt (pw_and (pt_cmpR (op_notIn_seqK (K := K) rfl) (pv 3) (pv 1) (by rfl)) (pw_and1 (pt_cmpR (op_notIn_seqK (K := K) rfl) (pv 3) (pe_call G_law_bound_here R_law_bound_here (by rfl) g_law_bound_here k_law_bound_here b_law_bound_here .nil pass0 (pa_cons (pv 0) pa_nil)) (by rfl))))))) (fun _ _ _ _ _ => (pv 3))) pa_nil))))) (pss_cons (ps_expr (pe_bm PySem.F.plainAttrs_list PySem.F.slot_list_extend PySem.F.type_list_extend mt_extend (pv 1) (pa_cons (pe_lc (own := [("x", 3)]) rfl sc_law_free.nd (pi_tup (pe_call G_law_own R_law_own (by rfl) g_law_own k_law_own b_law_own .nil pass0 (pa_cons (pv 0) pa_nil))) (blkOk_by (N := ["f", "loose", "part", "x", "k"]) (sc := defScope (top 83)) (by decide +kernel)) (fun _ _ _ _ _ => (pg_name (i := 3) sc_law_free.nd rfl (Or.inl rfl))) (fun _ _ _ _ _ => (pts_one (pt_cmpR (op_notIn_seqK (K := K) rfl) (pv 3) (pv 1) (by rfl)))) (fun _ _ _ _ _ => (pv 3))) pa_nil))) (pss_one (ps_ret (pe_callB cr_sortedS (by rfl) T.n_sorted (by decide +kernel) (pa_cons (pe_lc (own := [("k", 4)]) rfl sc_law_free.nd (pi_range1 (by rfl) T.n_range (pa_cons (pe_callB call_len_seq (by rfl) T.n_len PySem.boot_len (pa_cons (pv 1) pa_nil)) pa_nil)) (blkOk_by (N := ["f", "loose", "part", "x", "k"]) (sc := defScope (top 83)) (by decide +kernel)) (fun _ _ _ _ _ => (pg_name (i := 4) sc_law_free.nd rfl (Or.inl rfl))) (fun _ _ _ _ _ => (pts_one (pt_cmpR (op_notIn_seqK (K := K) rfl) (pe_ix (ix_listK (K := K) rfl) (pv 1) (pv 4) (fun _ _ => rfl)) (pe_slice (sl_listK (K := K) rfl) (pv 1) po_none (po_some (pv 4))) (by rfl)))) (fun _ _ _ _ _ => (pe_ix (ix_listK (K := K) rfl) (pv 1) (pv 4) (fun _ _ => rfl)))) pa_nil))))))), ?_⟩
      obtain ⟨h, ps⟩ := f
      have hdv : (Fm.mk h ps).hd = h := rfl
      obtain ⟨pool, hp20, subp⟩ := oc.here
      have hsz : ∀ m : Nat, m ≤ 900 → m ≤ sizeLine := fun m hm => Nat.le_of_lt (small1000 (by omega))
      -- loose = []
      refine ⟨Nat.zero_le _, fun c nc => ?_⟩
      have s0 := same_upd (o := .lst []) nc
      refine ⟨_, rfl, v, _, rfl, Dp.same s0 dp, ok, fun H1 r1 ys s1 nr1 hr1 d1 => ?_⟩
      have hc1 : H1 c = some (.lst (([] : List Str).map V.str)) := s1 _ _ upd_same
      have ncr1 : r1 ≠ c := fun z => by rw [z, upd_same] at nr1; cases nr1
      have s01 : Same H H1 := s0.trans s1
      have keepS : ∀ {H3 : Hp}, Kp c H1 H3 → Same H H3 := fun k b o e => k b o (s01 b o e) (ne_of_none e nc)
      refine ⟨r1, rfl, ⟨_, SqL.of hr1⟩, for_list (K := K) (a := r1) (xs := ys) (fun i σ H3 => ∃ (y2 : Option V) (lo : List Str), σ = [some v, some (.ref c), y2, none, none] ∧ Kp c H1 H3 ∧ H3 c = some (.lst (lo.map V.str)) ∧ lo.Nodup ∧ ∀ x, x ∈ lo ↔ ∃ g, g ∈ ps.take i ∧ x ∈ g.frees ∧ x ∉ h.own)
        ⟨none, [], rfl, .refl _ _, hc1, List.nodup_nil, fun x => by simp⟩ (fun i σ H3 _ ⟨_, _, _, k3, _⟩ => SqL.of (k3 _ _ hr1 ncr1)) ?_ ?_⟩
      · rintro i y σ H3 hi ⟨y2, lo, rfl, k3, hc3, ndl, ml⟩
        obtain ⟨dd, hd, dpy⟩ := DpAll.get' d1 hi
        obtain ⟨g, hg, rfl⟩ := get_map hd
        have mem := List.mem_of_getElem? hg
        have dl : g.dep < (Fm.mk h ps).dep := dep_part mem
        have lol : lo.length ≤ 40 := Nat.le_trans (sub_len lo pool ndl fun x hx => by
          obtain ⟨g2, hg2, hx2, ho2⟩ := (ml x).mp hx
          exact subp x (Fm.frees_mem.mpr (.inl ⟨g2, List.mem_of_mem_take hg2, hx2, ho2⟩))) hp20
        refine ⟨_, rfl, .inl ⟨rfl, _, SqL.of hc3⟩, _, rfl, y, g, rfl, Dp.kl (.kp k3 hc1) dpy g.noL, ok.part mem, oc.part mem, by omega, fun H5 r2 rr s5 nr2 hr2 so => ?_⟩
        have hc5 := s5 _ _ hc3
        have rrl : rr.length ≤ 40 := by
          obtain ⟨pool2, hp2, sub2⟩ := (oc.part mem).here
          exact Nat.le_trans (sub_len rr pool2 so.nd fun x hx => sub2 x ((so.mem x).mp hx)) hp2
        refine ⟨r2, rfl, ⟨_, SqL.of hr2⟩, fun L nL => ?_⟩
        refine lc_it (walk_list (K := K) (a := r2) (xs := rr.map V.str)) (fun j H6 => Same H5 H6 ∧ H6 L = some (.lst (((rr.take j).filter fun x => !decide (x ∈ lo) && !decide (x ∈ h.own)).map V.str))) ⟨same_upd nL, upd_same⟩ (fun j H6 _ ⟨s6, _⟩ => SqL.of (s6 _ _ hr2)) ?_ ?_
        · rintro j z H6 H6' hj ⟨s6, hL⟩ ⟨rfl, hz⟩
          obtain ⟨x, hx, rfl⟩ := get_map hz
          refine ⟨rfl, _, rfl, _, rfl, c, _, rfl, .inl (SqL.of (s6 _ _ hc5)), rfl, flat_strs _, _, rfl, ?_⟩
          have ein : inV (.str x) (lo.map V.str) = decide (x ∈ lo) := inV_str
          have ef := filter_snoc (p := fun x => !decide (x ∈ lo) && !decide (x ∈ h.own)) hx
          by_cases h1 : x ∈ lo
          · refine cF (k := !inV (.str x) (lo.map V.str)) (by rw [ein, decide_eq_true h1]; rfl) (iteF ⟨s6, ?_⟩)
            rw [show (if (!decide (x ∈ lo) && !decide (x ∈ h.own)) = true then [x] else []) = [] by simp [h1], List.append_nil] at ef
            rw [ef]; exact hL
          · refine cT (k := !inV (.str x) (lo.map V.str)) (by rw [ein, decide_eq_false h1]; rfl) ?_
            refine ⟨_, rfl, _, rfl, v, _, rfl, Dp.same ((keepS k3).trans (s5.trans s6)) dp, ok, fun H7 t7 s7 d7 => ?_⟩
            obtain ⟨t, rfl, ht⟩ := tS_inv d7
            refine ⟨t, _, rfl, .inr ht, rfl, flat_strs _, _, rfl, ?_⟩
            have eio : inV (.str x) ((Fm.mk h ps).hd.own.map V.str) = decide (x ∈ h.own) := inV_str
            by_cases h2 : x ∈ h.own
            · refine cF (k := !inV (.str x) ((Fm.mk h ps).hd.own.map V.str)) (by rw [eio, decide_eq_true h2]; rfl) ⟨s6.trans s7, ?_⟩
              rw [show (if (!decide (x ∈ lo) && !decide (x ∈ h.own)) = true then [x] else []) = [] by simp [h2], List.append_nil] at ef
              rw [ef]; exact s7 _ _ hL
            · refine cT (k := !inV (.str x) ((Fm.mk h ps).hd.own.map V.str)) (by rw [eio, decide_eq_false h2]; rfl) ⟨_, rfl, _, s7 _ _ hL, ?_, fun b o eb => ?_, ?_⟩
              · rw [List.length_map]
                have e2 := List.length_filter_le (fun x => !decide (x ∈ lo) && !decide (x ∈ h.own)) (rr.take j)
                have e3 := List.length_take_le' j rr
                exact small1000 (by omega)
              · rw [upd_ne (ne_of_none eb nL)]
                exact s7 _ _ (s6 _ _ eb)
              · rw [show (if (!decide (x ∈ lo) && !decide (x ∈ h.own)) = true then [x] else []) = [x] by simp [h1, h2]] at ef
                rw [ef, upd_same, List.map_append]
                rfl
        · rintro H6 ⟨s6, hL⟩
          rw [List.length_map, List.take_length] at hL
          have hc6 := s6 _ _ hc5
          refine ⟨c, L, _, _, rfl, rfl, hc6, hL, ?_, ?_⟩
          · rw [List.length_map, List.length_map]
            have e2 := List.length_filter_le (fun x => !decide (x ∈ lo) && !decide (x ∈ h.own)) rr
            exact hsz _ (by omega)
          · refine ⟨_, lo ++ rr.filter fun x => !decide (x ∈ lo) && !decide (x ∈ h.own), rfl, fun b o eb nb => ?_, ?_, ?_, fun x => ?_⟩
            · rw [upd_ne nb]
              exact s6 _ _ (s5 _ _ (k3 b o eb nb))
            · rw [upd_same, List.map_append]
            · refine List.nodup_append.mpr ⟨ndl, so.nd.filter _, fun a ha b hb e => ?_⟩
              subst e
              have := (List.mem_filter.mp hb).2
              simp [ha] at this
            · have hg : ps[i]? = some g := hg
              rw [List.take_add_one, hg, List.mem_append, ml x, List.mem_filter, so.mem]
              constructor
              · rintro (⟨g2, hg2, a, b⟩ | ⟨a, b⟩)
                · exact ⟨g2, List.mem_append_left _ hg2, a, b⟩
                · exact ⟨g, List.mem_append_right _ (List.mem_singleton.mpr rfl), a, by simpa using (Bool.and_eq_true_iff.mp b).2⟩
              · rintro ⟨g2, hg2, a, b⟩
                rcases List.mem_append.mp hg2 with hg2 | hg2
                · exact .inl ⟨g2, hg2, a, b⟩
                · have e2 : g2 = g := List.mem_singleton.mp hg2
                  subst e2
                  by_cases hl : x ∈ lo
                  · exact .inl ((ml x).mp hl)
                  · exact .inr ⟨a, by simp [hl, b]⟩
      · rintro σ H3 ⟨y2, lo, rfl, k3, hc3, ndl, ml⟩
        have eyl : ys.length = ps.length := by rw [DpAll.length d1, List.length_map]; rfl
        rw [List.take_of_length_le (show ps.length ≤ ys.length by omega)] at ml
        have lol : lo.length ≤ 40 := Nat.le_trans (sub_len lo pool ndl fun x hx => by
          obtain ⟨g2, hg2, hx2, ho2⟩ := (ml x).mp hx
          exact subp x (Fm.frees_mem.mpr (.inl ⟨g2, hg2, hx2, ho2⟩))) hp20
        have al : h.args.length ≤ 8 := args_len ok.hd_
        refine ⟨_, rfl, .inl ⟨rfl, _, SqL.of hc3⟩, _, rfl, v, _, rfl, Dp.same (keepS k3) dp, ok, fun H5 t5 s5 d5 => ?_⟩
        obtain ⟨t, rfl, ht⟩ := tS_inv d5
        have ht : SqT K H5 t (h.args.map V.str) := ht
        have hc5 := s5 _ _ hc3
        refine ⟨t, rfl, ⟨_, ht⟩, fun L nL => ?_⟩
        refine lc_it (walk_tup (K := K) (a := t) (xs := h.args.map V.str)) (fun j H6 => Same H5 H6 ∧ H6 L = some (.lst (((h.args.take j).filter fun x => !decide (x ∈ lo)).map V.str))) ⟨same_upd nL, upd_same⟩ (fun j H6 _ ⟨s6, _⟩ => Same.sqt s6 ht) ?_ ?_
        · rintro j z H6 H6' hj ⟨s6, hL⟩ ⟨rfl, hz⟩
          obtain ⟨x, hx, rfl⟩ := get_map hz
          refine ⟨rfl, _, rfl, _, rfl, c, _, rfl, .inl (SqL.of (s6 _ _ hc5)), rfl, flat_strs _, _, rfl, ?_⟩
          have ein : inV (.str x) (lo.map V.str) = decide (x ∈ lo) := inV_str
          have ef := filter_snoc (p := fun x => !decide (x ∈ lo)) hx
          by_cases h1 : x ∈ lo
          · refine cF (k := !inV (.str x) (lo.map V.str)) (by rw [ein, decide_eq_true h1]; rfl) ⟨s6, ?_⟩
            rw [show (if (!decide (x ∈ lo)) = true then [x] else []) = [] by simp [h1], List.append_nil] at ef
            rw [ef]; exact hL
          · refine cT (k := !inV (.str x) (lo.map V.str)) (by rw [ein, decide_eq_false h1]; rfl) ⟨_, rfl, _, hL, ?_, fun b o eb => ?_, ?_⟩
            · rw [List.length_map]
              have e2 := List.length_filter_le (fun x => !decide (x ∈ lo)) (h.args.take j)
              have e3 := List.length_take_le' j h.args
              exact small1000 (by omega)
            · rw [upd_ne (ne_of_none eb nL)]
              exact s6 _ _ eb
            · rw [show (if (!decide (x ∈ lo)) = true then [x] else []) = [x] by simp [h1]] at ef
              rw [ef, upd_same, List.map_append]
              rfl
        · rintro H6 ⟨s6, hL⟩
          rw [List.length_map, List.take_length] at hL
          have hc6 := s6 _ _ hc5
          have fl := List.length_filter_le (fun x => !decide (x ∈ lo)) h.args
          refine ⟨c, L, _, _, rfl, rfl, hc6, hL, ?_, ?_⟩
          · rw [List.length_map, List.length_map]
            exact hsz _ (by omega)
          · generalize hlo : lo ++ h.args.filter (fun x => !decide (x ∈ lo)) = lo2
            have l2 : lo2.length ≤ 50 := by rw [← hlo, List.length_append]; omega
            have m2 : ∀ x, x ∈ lo2 ↔ x ∈ (Fm.mk h ps).frees := fun x => by
              rw [← hlo, List.mem_append, List.mem_filter, Fm.frees_mem]
              constructor
              · rintro (a | ⟨a, _⟩)
                · exact .inl ((ml x).mp a)
                · exact .inr a
              · rintro (a | a)
                · exact .inl ((ml x).mpr a)
                · by_cases hl : x ∈ lo
                  · exact .inl hl
                  · exact .inr ⟨a, by simp [hl]⟩
            have em : lo.map V.str ++ (h.args.filter fun x => !decide (x ∈ lo)).map V.str = lo2.map V.str := by rw [← List.map_append, hlo]
            rw [em]
            have k36 : Kp c H1 (upd H6 c (.lst (lo2.map V.str))) := fun b o eb nb => by
              rw [upd_ne nb]
              exact s6 _ _ (s5 _ _ (k3 b o eb nb))
            have hc7 : (upd H6 c (.lst (lo2.map V.str))) c = some (.lst (lo2.map V.str)) := upd_same
            have sH7 := keepS k36
            revert hc7 sH7
            generalize upd H6 c (.lst (lo2.map V.str)) = H7
            intro hc7 sH7
            refine ⟨_, rfl, c, _, rfl, .inl (SqL.of hc7), (lo2.map V.str).length, rfl, by rw [List.length_map]; omega, by rw [List.length_map]; omega, fun M nM => ?_⟩
            refine lc_it walk_range (fun j H8 => Same H7 H8 ∧ ∃ acc : List Str, H8 M = some (.lst (acc.map V.str)) ∧ acc.Nodup ∧ (∀ x, x ∈ acc ↔ x ∈ lo2.take j) ∧ acc.length ≤ j) ⟨same_upd nM, [], upd_same, List.nodup_nil, fun x => by simp, Nat.le_refl _⟩ (fun _ _ _ _ => trivial) ?_ ?_
            · rintro j z H8 H8' hj ⟨s8, acc, hM, nda, ma, la⟩ ⟨rfl, ez⟩
              have ez : z = .int (j : Nat) := by rw [ez]; exact congrArg V.int (Int.zero_add _)
              subst ez
              rw [List.length_map] at hj
              obtain ⟨x, hx⟩ : ∃ x, lo2[j]? = some x := ⟨_, List.getElem?_eq_getElem hj⟩
              have hxv : (lo2.map V.str)[j]? = some (.str x) := by rw [List.getElem?_map, hx]; rfl
              have hc8 := s8 _ _ hc7
              refine ⟨rfl, _, rfl, _, rfl, c, _, _, _, rfl, rfl, SqL.of hc8, atI_nat hxv, ?_⟩
              refine ⟨_, rfl, _, rfl, _, rfl, c, _, rfl, SqL.of hc8, fun p np => ?_⟩
              have ecut : cutV (lo2.map V.str) none (some ((j : Nat) : Int)) = (lo2.take j).map V.str := by
                rw [cut_map (by rw [List.length_map]; omega) (by rw [List.length_map]; omega), List.map_take]
              rw [ecut]
              have sp := same_upd (o := .lst ((lo2.take j).map V.str)) np
              refine ⟨p, _, rfl, .inl (SqL.of upd_same), rfl, flat_strs _, _, rfl, ?_⟩
              have ein : inV (.str x) ((lo2.take j).map V.str) = decide (x ∈ lo2.take j) := inV_str
              have et : lo2.take (j + 1) = lo2.take j ++ [x] := by rw [List.take_add_one, hx]; rfl
              by_cases h1 : x ∈ lo2.take j
              · refine cF (k := !inV (.str x) ((lo2.take j).map V.str)) (by rw [ein, decide_eq_true h1]; rfl) ⟨s8.trans sp, acc, sp _ _ hM, nda, fun y => ?_, by omega⟩
                rw [ma, et, List.mem_append]
                exact ⟨.inl, fun o => o.elim id fun o => by rw [List.mem_singleton.mp o]; exact h1⟩
              · refine cT (k := !inV (.str x) ((lo2.take j).map V.str)) (by rw [ein, decide_eq_false h1]; rfl) ⟨_, rfl, _, rfl, c, _, _, _, rfl, rfl, SqL.of (sp _ _ hc8), atI_nat hxv, _, sp _ _ hM, ?_, fun b o eb => ?_, acc ++ [x], ?_, ?_, fun y => ?_, ?_⟩
                · rw [List.length_map]
                  exact small1000 (by omega)
                · rw [upd_ne (ne_of_none eb nM)]
                  exact sp _ _ (s8 _ _ eb)
                · rw [upd_same, List.map_append]; rfl
                · refine List.nodup_append.mpr ⟨nda, by simp, fun a ha b hb e => h1 ?_⟩
                  rw [← List.mem_singleton.mp hb, ← e]
                  exact (ma a).mp ha
                · rw [List.mem_append, ma, et, List.mem_append]
                · rw [List.length_append]
                  show acc.length + 1 ≤ j + 1
                  omega
            · rintro H8 ⟨s8, acc, hM, nda, ma, la⟩
              rw [List.length_map] at ma
              have ma : ∀ x, x ∈ acc ↔ x ∈ lo2 := fun x => by
                have e := ma x
                rw [show lo2.take ((lo2.length : Nat) : Int).toNat = lo2 from List.take_length] at e
                exact e
              refine ⟨M, acc, rfl, SqL.of hM, ?_, fun zz p perm so np => ?_⟩
              · rw [List.length_map] at la
                omega
              · have s9 := same_upd (o := .lst (zz.map V.str)) np
                exact q _ p zz ((sH7.trans s8).trans s9) (Same.none (sH7.trans s8) np) upd_same ⟨perm.nodup_iff.mpr nda, so, fun x => by rw [perm.mem_iff, ma, m2]⟩
end
/-! ### a dict that a call returned is locked for good, before one goes through it -/
def tFrz (t : TE) : TE := fun σ H Q =>
  t σ H fun x H1 => ∃ d u, H1 d = some u ∧ Mut (some u) ∧ ∀ od, Q x (upd H1 d (.frz od u))
theorem pe_frz {X : Cx} {e : Expr} {t : TE} (h : PE X e t) : PE X e (tFrz t) := ⟨fun pins s σ H Q I hw =>
  thn (h.run pins s σ H _ I hw) fun v s1 ⟨x, H1, I1, r, d, u, hd, mu, q⟩ => by
    obtain ⟨od, I2⟩ := I1.lock hd mu
    exact ⟨x, _, I2, r, q od⟩⟩
theorem sw_trueD {kx vx : Expr} {gs : List Comprehension} {scope : Scope} {pos py : Pos} {y : Str} {l : Nat} {env : Env} (a1 : env.scope.kind = .function) (a2 : env.scope.names.lookup y = some .local)
    (a3 : (py.line == pos.line) = true) (a4 : (scope.names.any fun (n, k) => n == y && (k == .local || k == .cell)) = false) : swapsWith (.DictComp kx vx gs scope pos) (some (.Name y py)) l env = pure true := by
  have b1 : env.kindOf y = some .local := a2
  have b2 : env.blockKind = .function := by
    unfold Env.blockKind
    rw [a1]
    rfl
  unfold swapsWith
  simp only [b1, b2, a4, Expr.pos, a3]
  rfl
section
variable {X : Cx}
theorem ps_setDc {i : Nat} {y : Str} {py : Pos} {kx vx tg iter : Expr} {ifs : List Expr} {scope : Scope} {own : List (Str × Nat)} {pos spos : Pos} {wi : TI} {g : TG} {tt : TT} {tk tv : TE}
    (hc : X.calm = true) (hN : X.N.Nodup) (hy : X.N[i]? = some y) (hyl : X.env.scope.names.lookup y = some .local)
    (hsw : swapsWith (.DictComp kx vx [⟨tg, iter, ifs, 0⟩] scope pos) (some (.Name y py)) spos.line X.env = pure true)
    (hi : PI X tg iter wi) (ok : BlkOk X.N X.env.scope scope own)
    (hg : ∀ (s : Shared) (H : Hp) (C : Addr) (cl : List (Str × Addr)) (fp : List Addr),
      PG (X.blk s H scope (compEnvC scope cl C X.env) fp) tg g)
    (ht : ∀ (s : Shared) (H : Hp) (C : Addr) (cl : List (Str × Addr)) (fp : List Addr),
      PTs (X.blk s H scope (compEnvC scope cl C X.env) fp) ifs tt)
    (hk : ∀ (s : Shared) (H : Hp) (C : Addr) (cl : List (Str × Addr)) (fp : List Addr),
      PE (X.blk s H scope (compEnvC scope cl C X.env) fp) kx tk)
    (he : ∀ (s : Shared) (H : Hp) (C : Addr) (cl : List (Str × Addr)) (fp : List Addr),
      PE (X.blk s H scope (compEnvC scope cl C X.env) fp) vx tv)
    (hs : ∀ x, foldedSetIterable iter X.env x = pure x := by intro _; rfl) :
    PS X (.Assign [.Name y py] (.DictComp kx vx [⟨tg, iter, ifs, 0⟩] scope pos) spos) (tAsg (tDc wi g tt tk tv (own.map (·.2))) (gName i)) := by
  refine ⟨fun pins s σ H D I hw => ?_⟩
  rw [exec_Assign_Name_used _ _ _ _ hsw]
  refine wpAny_bind (wpAny_standAt (wpAny_bind ?_))
  show wpAny _ X.A (do
    let _ ← comprehension (.DictComp kx vx [⟨tg, iter, ifs, 0⟩] scope pos) scope X.env (firstIterPos [⟨tg, iter, ifs, 0⟩] pos) newDict false (eval iter X.env) (some (assign (.Name y py) X.env))) _ _ s
  have hw : tDc wi g tt tk tv (own.map (·.2)) σ H (fun x H1 => gName i x σ H1 D.nx) := hw
  refine wpAny_bind (thn (dc_core (Qf := fun _ s' => SP X pins D .next s') hc hN I hi ok hg ht hk he hs hw fun L C s' m H' I' q hn f => ?_) fun _ s' z => wpAny_pure (wpAny_pure z))
  show wpAny _ _ (assign (.Name y py) X.env (.ref L)) _ _ _
  refine wpAny_assign_Name (store_ok2 (v := V.ref L) I' hN hy (.inl hyl) rfl (fun s2 I2 ⟨a, sb, ha⟩ => ?_) (.inr hyl))
  obtain ⟨g0, g1, g2, g3, g4, g5⟩ := f
  have cna : C ≠ a := by
    rcases ha with z | z
    · rw [z]
      exact g1
    · exact fun e => g4 y a z e.symm
  exact ⟨m, hn.sameBut sb cna, fun h3 sb3 => ⟨_, H', I2.turned (t' := s2.toks) (fun b o hb e => (sb3.2 b hb).trans e) g0 g1 g3 g4 g5, q⟩⟩
end
/-! ### the program's free variables -/
def encT (x : Str) : Key × V := (Sum.inr x, .bl true)
theorem keys_encT (l : List Str) : (l.map encT).map (·.1) = l.map Sum.inr := by rw [List.map_map]; rfl
theorem val_encT : ∀ {l : List Str} {x : Str}, valV (l.map encT) (Sum.inr x) = if x ∈ l then some (.bl true) else none
  | [], x => by simp [valV]
  | p :: l, x => by
    by_cases e : p = x
    · rw [List.map_cons, valV_pos (by show Sum.inr p = Sum.inr x; rw [e]), if_pos (by rw [e]; exact List.mem_cons_self ..)]
      rfl
    · rw [List.map_cons, valV_neg (by intro z; exact e (Sum.inr.inj z)), val_encT]
      have e2 : ¬ x = p := fun z => e z.symm
      simp [e2]
theorem put_encT {l : List Str} {x : Str} : ∃ m : List Str, putK (l.map encT) (Sum.inr x) (.bl true) = m.map encT ∧ (l.Nodup → m.Nodup) ∧ (∀ y, y ∈ m ↔ y ∈ l ∨ y = x) ∧ m.length ≤ l.length + 1 := by
  by_cases h : x ∈ l
  · refine ⟨l, ?_, id, fun y => ⟨.inl, fun o => o.elim id fun e => by rw [e]; exact h⟩, Nat.le_succ _⟩
    unfold putK
    rw [if_pos, List.map_map]
    · refine List.map_congr_left fun y _ => ?_
      show (if (encT y).1 = Sum.inr x then ((encT y).1, V.bl true) else encT y) = encT y
      split <;> rfl
    · rw [List.any_map]
      exact List.any_eq_true.mpr ⟨x, h, decide_eq_true rfl⟩
  · refine ⟨l ++ [x], ?_, fun nd => ?_, fun y => by simp, by rw [List.length_append]; exact Nat.le_refl _⟩
    · rw [putK_new _ (by rw [val_encT, if_neg h]), List.map_append]
      rfl
    · exact List.nodup_append.mpr ⟨nd, by simp, fun a ha b hb e => h (by rw [← List.mem_singleton.mp hb, ← e]; exact ha)⟩
def spFreeD (K : PySem.W.Frag) (n : Nat) : Sp := fun vs H Q _ => ∃ (v : V) (f : Fm), vs = [v] ∧ Dp K H v f.data ∧ f.Ok ∧ Fr20 f ∧ f.dep ≤ n ∧
  ∀ (H' : Hp) (r : Addr) (l : List Str), Same H H' → H r = none → H' r = some (.dK (l.map encT)) → l.Nodup → (∀ x, x ∈ l ↔ x ∈ f.frees) → Q (.ref r) H'
section
variable {P : Program} {w : World} {K : PySem.W.Frag} {mg : Str → Option Value} {base : Heap}
theorem sc_pfree : FnScope ["formula", "found", "part", "variable"] ["formula"] (defScope (top 54)) := ⟨rfl, rfl, rfl, by decide +kernel, rfl, by decide +kernel, by decide +kernel⟩
theorem has_pfree (D : Def K mg "_free" ["formula"] (top 54)) (T : Txt mg) (C1 : Has P w K mg base 1 "inner" ["formula"] (spInner K)) (C2 : Has P w K mg base 1 "own" ["formula"] (spOwn K)) (C3 : Has P w K mg base 1 "arguments" ["formula"] (spArgs K)) :
    ∀ n : Nat, Has P w K mg base (2 + n) "_free" ["formula"] (spFreeD K n) := by
  obtain ⟨f1, fd1, G_inner, g_inner, k_inner, b_inner⟩ := C1
  obtain ⟨f2, fd2, G_own, g_own, k_own, b_own⟩ := C2
  obtain ⟨f3, fd3, G_arguments, g_arguments, k_arguments, b_arguments⟩ := C3
  intro n
  induction n with
  | zero =>
    refine D.has fun f fd F => F.ok sc_pfree (fun vs H Q E h => ?_) (fun cdv A outer s H vs Q E hr h => ?_)
    · obtain ⟨v, f, rfl, _⟩ := h; rfl
    · obtain ⟨v, f, rfl, _, _, _, h0, _⟩ := h
      have := dep_pos f
      omega
  | succ n ih =>
    obtain ⟨f4, fd4, G_free, g_free, k_free, b_free⟩ := ih
    refine D.has fun f fd F => F.ok sc_pfree (fun vs H Q E h => ?_) (fun cdv A outer s H vs Q E hr h => ?_)
    · obtain ⟨v, f, rfl, _⟩ := h; rfl
    · obtain ⟨v, f, rfl, dp, ok, oc, hn, q⟩ := h
      have R_inner : Room 1 _ := hr.mono (Nat.le_trans (by decide) (Nat.le_add_right 2 n))
      have R_own : Room 1 _ := hr.mono (Nat.le_trans (by decide) (Nat.le_add_right 2 n))
      have R_arguments : Room 1 _ := hr.mono (Nat.le_trans (by decide) (Nat.le_add_right 2 n))
      have R_free : Room (2 + n) _ := hr
      refine ⟨_, PSs.nox (pss_cons (ps_setDc (i := 1) (own := [("variable", 3)]) rfl sc_pfree.nd rfl rfl (sw_trueD rfl rfl rfl (by decide +kernel)) (pi_tup (pe_call G_arguments R_arguments (by rfl) g_arguments k_arguments b_arguments .nil pass0 (pa_cons (pv 0) pa_nil))) (blkOk_by (N := ["formula", "found", "part", "variable"]) (sc := defScope (top 54)) (by decide +kernel)) (fun _ _ _ _ _ => (pg_name (i := 3) sc_pfree.nd rfl (Or.inl rfl))) (fun _ _ _ _ _ => pts_nil) (fun _ _ _ _ _ => (pv 3)) (fun _ _ _ _ _ => pe_bl)) (pss_cons (ps_for PassesOwn.never rfl (pi_tup (pe_call G_inner R_inner (by rfl) g_inner k_inner b_inner .nil pass0 (pa_cons (pv 0) pa_nil))) (pg_name (i := 2) sc_pfree.nd rfl (Or.inl rfl)) (pss_one (ps_for PassesOwn.never rfl (pi_keys (pe_frz (pe_call G_free R_free (by rfl) g_free k_free b_free .nil pass0 (pa_cons (pv 2) pa_nil)))) (pg_name (i := 3) sc_pfree.nd rfl (Or.inl rfl)) (pss_one (ps_if (pt_cmpR op_notIn_seq (pv 3) (pe_call G_own R_own (by rfl) g_own k_own b_own .nil pass0 (pa_cons (pv 0) pa_nil)) (by rfl)) (pss_one (ps_dput (hu_of hr) (pv 1) (pv 3) pe_bl rfl)) pss_nil))))) (pss_one (ps_ret (pv 1))))), ?_⟩
      obtain ⟨h, ps⟩ := f
      obtain ⟨pool, hp20, subp⟩ := oc.here
      have fit : h.Ok (ps.map Fm.data).length := by rw [List.length_map]; exact ok.hd_
      rw [Fm.data_mk] at dp
      have al : h.args.length ≤ 8 := args_len ok.hd_
      -- found
      refine ⟨_, rfl, v, h, _, rfl, dp, fit.fits, fun H1 t1 s1 d1 => ?_⟩
      obtain ⟨t, rfl, ht⟩ := tS_inv d1
      refine ⟨t, rfl, ⟨_, ht⟩, fun c nc => ?_⟩
      have nc0 : H c = none := Same.none s1 nc
      refine dc_tup (K := K) (a := t) (xs := h.args.map V.str) (fun i H2 => Same H1 H2 ∧ ∃ l : List Str, H2 c = some (.dK (l.map encT)) ∧ l.Nodup ∧ (∀ x, x ∈ l ↔ x ∈ h.args.take i) ∧ l.length ≤ i) ⟨same_upd nc, [], upd_same, List.nodup_nil, fun x => by simp, Nat.le_refl _⟩ (fun i H2 _ ⟨s2, _⟩ => Same.sqt s2 ht) ?_ ?_
      · rintro i z H2 hz ⟨s2, l, hc2, nd, ml, ll⟩
        obtain ⟨x, hx, rfl⟩ := get_map hz
        have hi : i < h.args.length := (List.getElem?_eq_some_iff.mp hx).1
        obtain ⟨m, em, ndm, mm, lm⟩ := put_encT (l := l) (x := x)
        refine ⟨rfl, _, rfl, _, Sum.inr x, rfl, hc2, ?_, fun b o eb => ?_, m, ?_, ndm nd, fun y => ?_, by omega⟩
        · rw [List.length_map]
          exact small1000 (by omega)
        · rw [upd_ne (ne_of_none eb nc)]
          exact s2 _ _ eb
        · rw [upd_same, em]
        · rw [mm, ml, List.take_add_one, hx, List.mem_append]
          simp
      · rintro H2 ⟨s2, l0, hc2, nd0, ml0, ll0⟩
        rw [List.length_map] at ll0 ml0
        rw [List.take_length] at ml0
        have s02 : Same H H2 := s1.trans s2
        have keepS : ∀ {H3 H4 : Hp}, Same H2 H3 → Kp c H3 H4 → Same H H4 := fun s k b o e => k b o (s b o (s02 b o e)) (ne_of_none e nc0)
        refine ⟨_, rfl, v, h, _, rfl, Dp.same s02 dp, fit.fits, fun H3 r s3 hr3 => ?_⟩
        obtain ⟨b, ys, rfl, hb, hy⟩ := Dp.tup_inv hr3
        have hc3 := s3 _ _ hc2
        have nq : NotSeq H3 c := ⟨_, hc3⟩
        refine ⟨b, rfl, ⟨_, hb⟩, for_tup (K := K) (a := b) (xs := ys) (fun i σ H4 => ∃ (y2 y3 : Option V) (l : List Str), σ = [some v, some (.ref c), y2, y3] ∧ Kp c H3 H4 ∧ H4 c = some (.dK (l.map encT)) ∧ l.Nodup ∧ ∀ x, x ∈ l ↔ (∃ g, g ∈ ps.take i ∧ x ∈ g.frees ∧ x ∉ h.own) ∨ x ∈ h.args)
          ⟨none, none, l0, rfl, .refl _ _, hc3, nd0, fun x => by rw [ml0]; simp⟩ (fun i σ H4 _ ⟨_, _, _, _, k4, _⟩ => k4.sqt' nq hb) ?_ ?_⟩
        · rintro i y σ H4 hi ⟨y2, y3, l, rfl, k4, hc4, nd, ml⟩
          obtain ⟨dd, hd, dpy⟩ := DpAll.get' hy hi
          obtain ⟨g, hg, rfl⟩ := get_map hd
          have mem := List.mem_of_getElem? hg
          have dl : g.dep < (Fm.mk h ps).dep := dep_part mem
          have sH4 : Same H H4 := keepS s3 k4
          refine ⟨_, rfl, y, g, rfl, Dp.kpD k4 nq dpy, ok.part mem, oc.part mem, by omega, fun H5 e l2 s5 ne he nd2 m2 => ?_⟩
          have nec : e ≠ c := fun z => by rw [z, hc4] at ne; cases ne
          refine ⟨e, .dK (l2.map encT), he, trivial, fun od => ?_⟩
          refine ⟨e, od, rfl, .inl ⟨_, upd_same, for_it walk_keys (fun j σ H6 => ∃ (y3 : Option V) (l' : List Str), σ = [some v, some (.ref c), some y, y3] ∧ H6 e = some (.frz od (.dK (l2.map encT))) ∧ (∀ b o, H4 b = some o → b ≠ c → H6 b = some o) ∧ H6 c = some (.dK (l'.map encT)) ∧ l'.Nodup ∧ ∀ x, x ∈ l' ↔ x ∈ l ∨ (x ∈ l2.take j ∧ x ∉ h.own))
            ⟨y3, l, rfl, upd_same, fun b o eb nb => by rw [upd_ne (ne_of_none eb ne)]; exact s5 _ _ eb, by rw [upd_ne nec.symm]; exact s5 _ _ hc4, nd, fun x => by simp⟩ (fun j σ H6 _ ⟨_, _, _, q1, _⟩ => q1) ?_ ?_⟩⟩
          · rintro j x σ H6 H7 hj ⟨y3, l', rfl, he6, k6, hc6, nd', ml'⟩ ⟨rfl, kk, vv, hkv, rfl⟩
            obtain ⟨p, hp, ep⟩ := get_map hkv
            have ek : kk = Sum.inr p := congrArg Prod.fst ep
            subst ek
            have tk : l2.take (j + 1) = l2.take j ++ [p] := by rw [List.take_add_one, hp]; rfl
            have l'20 : l'.length ≤ 40 := Nat.le_trans (sub_len l' pool nd' fun x hx => subp x (Fm.frees_mem.mpr (by
              rcases (ml' x).mp hx with z | ⟨z, zo⟩
              · rcases (ml x).mp z with ⟨g2, hg2, a, b⟩ | a
                · exact .inl ⟨g2, List.mem_of_mem_take hg2, a, b⟩
                · exact .inr a
              · exact .inl ⟨g, mem, (m2 x).mp (List.mem_of_mem_take z), zo⟩))) hp20
            have sH7 : Same H H7 := fun b o eb => k6 b o (sH4 b o eb) (ne_of_none eb nc0)
            refine ⟨_, rfl, _, rfl, v, h, _, rfl, Dp.same sH7 dp, fit.fits, fun H8 r8 s8 d8 => ?_⟩
            obtain ⟨t8, rfl, ht8⟩ := tS_inv d8
            refine ⟨t8, _, rfl, .inr ht8, rfl, flat_strs _, _, rfl, ?_⟩
            have eio : inV (.str p) (h.own.map V.str) = decide (p ∈ h.own) := inV_str
            by_cases ho : p ∈ h.own
            · refine cF (k := !inV (.str p) (h.own.map V.str)) (by rw [eio, decide_eq_true ho]; rfl) ⟨_, l', rfl, s8 _ _ he6, fun b o eb nb => s8 _ _ (k6 b o eb nb), s8 _ _ hc6, nd', fun x => ?_⟩
              rw [ml', tk, List.mem_append]
              constructor
              · rintro (a | ⟨a, b⟩)
                · exact .inl a
                · exact .inr ⟨.inl a, b⟩
              · rintro (a | ⟨a | a, b⟩)
                · exact .inl a
                · exact .inr ⟨a, b⟩
                · rw [List.mem_singleton.mp a] at b
                  exact absurd ho b
            · refine cT (k := !inV (.str p) (h.own.map V.str)) (by rw [eio, decide_eq_false ho]; rfl) ?_
              obtain ⟨m, em, ndm, mm, lm⟩ := put_encT (l := l') (x := p)
              refine ⟨_, rfl, _, rfl, c, _, rfl, DPut.k (k := Sum.inr p) (s8 _ _ hc6) (by rw [List.length_map]; exact small1000 (by omega)), ?_⟩
              rw [em]
              refine ⟨_, m, rfl, by rw [upd_ne nec]; exact s8 _ _ he6, fun b o eb nb => by rw [upd_ne nb]; exact s8 _ _ (k6 b o eb nb), upd_same, ndm nd', fun x => ?_⟩
              rw [mm, ml', tk, List.mem_append]
              constructor
              · rintro ((a | ⟨a, b⟩) | a)
                · exact .inl a
                · exact .inr ⟨.inl a, b⟩
                · rw [a]; exact .inr ⟨.inr (List.mem_singleton.mpr rfl), ho⟩
              · rintro (a | ⟨a | a, b⟩)
                · exact .inl (.inl a)
                · exact .inl (.inr ⟨a, b⟩)
                · exact .inr (List.mem_singleton.mp a)
          · rintro σ H6 ⟨y3, l', rfl, he6, k6, hc6, nd', ml'⟩
            refine ⟨_, _, l', rfl, fun b o eb nb => k6 b o (k4 b o eb nb) nb, hc6, nd', fun x => ?_⟩
            have hg : ps[i]? = some g := hg
            rw [ml', ml, List.take_of_length_le (show l2.length ≤ (l2.map encT).length by rw [List.length_map]; exact Nat.le_refl _), m2, List.take_add_one, hg]
            constructor
            · rintro ((⟨g2, hg2, a, b⟩ | a) | ⟨a, b⟩)
              · exact .inl ⟨g2, List.mem_append_left _ hg2, a, b⟩
              · exact .inr a
              · exact .inl ⟨g, List.mem_append_right _ (List.mem_singleton.mpr rfl), a, b⟩
            · rintro (⟨g2, hg2, a, b⟩ | a)
              · rcases List.mem_append.mp hg2 with hg2 | hg2
                · exact .inl (.inl ⟨g2, hg2, a, b⟩)
                · rw [List.mem_singleton.mp hg2] at a
                  exact .inr ⟨a, b⟩
              · exact .inl (.inr a)
        · rintro σ H4 ⟨y2, y3, l, rfl, k4, hc4, nd, ml⟩
          have eyl : ys.length = ps.length := by rw [DpAll.length hy, List.length_map]
          rw [List.take_of_length_le (show ps.length ≤ ys.length by omega)] at ml
          exact ⟨_, rfl, q H4 c l (keepS s3 k4) nc0 hc4 nd fun x => by rw [ml, Fm.frees_mem]⟩
end
/-! ### free, symbols -/
def spFreeL (K : PySem.W.Frag) : Sp := fun vs H Q _ => ∃ (v : V) (f : Fm), vs = [v] ∧ Dp K H v f.data ∧ f.Wf ∧ Fr20 f ∧
  ∀ (H' : Hp) (r : Addr) (ss : List Str), Same H H' → H' r = some (.lst (ss.map V.str)) → SetOf ss f.frees → Q (.ref r) H'
section
variable {P : Program} {w : World} {K : PySem.W.Frag} {mg : Str → Option Value} {base : Heap}
theorem sc_free1 : FnScope ["formula"] ["formula"] (defScope (top 55)) := ⟨rfl, rfl, rfl, by decide +kernel, rfl, by decide +kernel, by decide +kernel⟩
theorem has_free1 (D : Def K mg "free" ["formula"] (top 55)) (T : Txt mg) (C1 : Has P w K mg base 47 "check_formula" ["formula"] (spCheck K)) (C2 : ∀ n, Has P w K mg base (2 + n) "_free" ["formula"] (spFreeD K n)) : Has P w K mg base 48 "free" ["formula"] (spFreeL K) := D.has fun f fd F => by
  obtain ⟨f1, fd1, G_check_formula, g_check_formula, k_check_formula, b_check_formula⟩ := C1
  obtain ⟨f2, fd2, G_free, g_free, k_free, b_free⟩ := C2 40
  refine F.ok sc_free1 (fun vs H Q E h => ?_) (fun cdv A outer s H vs Q E hr h => ?_)
  · obtain ⟨v, f, rfl, _⟩ := h; rfl
  · obtain ⟨v, f, rfl, dp, wf, oc, q⟩ := h
    have R_check_formula : Room 47 _ := hr
    have R_free : Room (2 + 40) _ := hr.mono (by decide)
    refine ⟨_, PSs.nox (pss_cons (ps_expr (pe_call G_check_formula R_check_formula (by rfl) g_check_formula k_check_formula b_check_formula .nil pass0 (pa_cons (pv 0) pa_nil))) (pss_one (ps_ret (pe_callB (call_sortedD rfl) (by rfl) T.n_sorted (by decide +kernel) (pa_cons (pe_call G_free R_free (by rfl) g_free k_free b_free .nil pass0 (pa_cons (pv 0) pa_nil)) pa_nil))))), ?_⟩
    refine ⟨_, rfl, v, f, rfl, dp, wf, fun H1 r1 s1 _ => ?_⟩
    refine ⟨_, rfl, v, f, rfl, Dp.same s1 dp, wf.ok, oc, wf.dep, fun H2 d l s2 nd hd ndl ml => ?_⟩
    have l20 : l.length ≤ 40 := by
      obtain ⟨pool, hp, subp⟩ := oc.here
      exact Nat.le_trans (sub_len l pool ndl fun x hx => subp x ((ml x).mp hx)) hp
    refine ⟨d, l.map encT, l, rfl, Rd.of hd, keys_encT l, by omega, fun ys p pm so np => ?_⟩
    exact q _ p ys ((s1.trans s2).trans (same_upd np)) upd_same ⟨pm.nodup_iff.mpr ndl, so, fun x => by rw [pm.mem_iff, ml]⟩
end
/-! ### sorted of pairs of a text and an int -/
def IsTI (h : Heap) (v : Value) (x : Str) (y : Int) : Prop :=
  ∃ a o t u n, v = .ref a ∧ h.get? a = some o ∧ o.cls = .type "tuple" ∧ o.data = .seq #[.str x t, .int y u] n
theorem IsTI.keeps {h h' : Heap} {v : Value} {x : Str} {y : Int} (p : IsTI h v x y)
    (k : ∀ b o, h.get? b = some o → o.cls = .type "tuple" → h'.get? b = some o) : IsTI h' v x y := by
  obtain ⟨a, o, t, u, n, e, h1, h2, h3⟩ := p
  exact ⟨a, o, t, u, n, e, k _ _ h1 h2, h2, h3⟩
/-- ρ tells the order of these texts -/
def Rk (ρ : Str → Int) (xs : List Str) : Prop :=
  ∀ x y, x ∈ xs → y ∈ xs → decide (x.cps.toList < y.cps.toList) = decide (ρ x < ρ y) ∧ (ρ x = ρ y → x = y)
section
open Srt
variable {prog : Program} {w : World} {A : Around} {s : Shared} {vs : List Value} {k : Value → Str × Int} {ρ : Str → Int}
theorem ti_cmp (hp : ∀ v ∈ vs, IsTI s.heap v (k v).1 (k v).2) (hr : Rk ρ (vs.map fun v => (k v).1)) :
    SrtO.Cmp prog w A s (tuples' true) (fun p => p.1 ∈ vs) (SrtO.lt2 fun v u => SrtO.lexB (ρ (k v).1, (k v).2) (ρ (k u).1, (k u).2)) := by
  intro p q m1 m2
  have a1 := hp _ m1
  have a2 := hp _ m2
  have r1 := hr (k p.1).1 (k q.1).1 (List.mem_map.mpr ⟨_, m1, rfl⟩) (List.mem_map.mpr ⟨_, m2, rfl⟩)
  show wpAny (model prog w) A (keyLt' (tuples' true) p.1 q.1) (fun r s' => s' = s ∧ r = SrtO.lexB (ρ (k p.1).1, (k p.1).2) (ρ (k q.1).1, (k q.1).2)) (fun _ _ => False) s
  generalize (k p.1).1 = x at a1 r1 ⊢
  generalize (k p.1).2 = y at a1 ⊢
  generalize (k q.1).1 = x2 at a2 r1 ⊢
  generalize (k q.1).2 = y2 at a2 ⊢
  obtain ⟨rl, ri⟩ := r1
  obtain ⟨a, o, t, u, n, e, ho, hc, hd⟩ := a1
  obtain ⟨b, o2, t2, u2, n2, e2, ho2, hc2, hd2⟩ := a2
  rw [e, e2]
  refine PySem.W.kat_lt ho hd ho2 hd2 ?_
  show PySem.W.KatLex prog w A true (decide (2 < 2)) _ [(.str x t, .str x2 t2), (.int y u, .int y2 u2)] 0 s
  refine PySem.W.kat_cons (SeqAt.EqAt.str_str x t x2 t2 prog w _ _ ?_)
  refine PySem.W.kat_go (fun z1 => ?_) (fun z1 => ?_)
  · have ex : x = x2 := by simpa using z1
    refine PySem.W.kat_yes (PySem.W.kat_cons (SeqAt.EqAt.int_int y u y2 u2 prog w _ _ ?_))
    refine PySem.W.kat_go (fun z2 => ?_) (fun z2 => ?_)
    · have ey : y = y2 := by simpa using z2
      refine PySem.W.kat_yes (PySem.W.kat_nil ⟨rfl, Eq.symm ?_⟩)
      exact SrtO.lexB_no.mpr (by rw [ex, ey]; omega)
    · refine PySem.W.kat_no (PySem.W.kat_one _ _ (PyProof.Rows.lt_int ?_))
      have e3 : SrtO.lexB (ρ x, y) (ρ x2, y2) = decide (y < y2) := by
        unfold SrtO.lexB
        exact if_pos (by rw [ex])
      exact (show s = s ∧ decide (y < y2) = _ from ⟨rfl, e3.symm⟩)
  · have ex : ¬ x = x2 := by simpa using z1
    have e3 : SrtO.lexB (ρ x, y) (ρ x2, y2) = decide (x.cps.toList < x2.cps.toList) := by
      rw [rl]
      unfold SrtO.lexB
      exact if_neg fun z => ex (ri z)
    exact PySem.W.kat_no (PyProof.Rows.oneLt_str ⟨rfl, e3.symm⟩)
theorem ti_firsts {h : Heap} : ∀ {vs : List Value}, (∀ v ∈ vs, IsTI h v (k v).1 (k v).2) →
    ∃ fs : List Value, PySem.W.KatTups h vs fs ∧ fs.length = vs.length ∧ ∀ f ∈ fs, ∃ x t, f = Value.str x t
  | [], _ => ⟨[], PySem.W.KatTups.nil, rfl, fun _ z => by simp at z⟩
  | v :: vs, hp => by
    obtain ⟨fs, c1, c2, c3⟩ := ti_firsts (vs := vs) fun v2 z => hp v2 (List.mem_cons_of_mem _ z)
    obtain ⟨a, o, t, u, n, e, ho, hc, hd⟩ := hp v (List.mem_cons_self ..)
    subst e
    refine ⟨.str (k (.ref a)).1 t :: fs, PySem.W.KatTups.cons ho hc hd rfl c1, by simp [c2], fun f hf => ?_⟩
    rcases List.mem_cons.mp hf with rfl | hf
    · exact ⟨_, t, rfl⟩
    · exact c3 f hf
theorem ti_swo : SrtO.Swo fun v u : Value => SrtO.lexB (ρ (k v).1, (k v).2) (ρ (k u).1, (k u).2) := SrtO.swo_lex fun v => (ρ (k v).1, (k v).2)
theorem ti_sortable {a : Addr} (h0 : 0 < vs.length) (hp : ∀ v ∈ vs, IsTI s.heap v (k v).1 (k v).2) (hr : Rk ρ (vs.map fun v => (k v).1))
    (ha : ∀ o, s.heap.get? a = some o → o.cls ≠ .type "tuple") : SrtO.SortableO prog w A s a vs fun v u => SrtO.lexB (ρ (k v).1, (k v).2) (ρ (k u).1, (k u).2) := by
  intro h2 keep
  have hp2 : ∀ v ∈ vs, IsTI h2 v (k v).1 (k v).2 := fun v hv => (hp v hv).keeps fun b o e c => keep b o (fun z => by subst z; exact ha o e c) e
  obtain ⟨fs, c1, c2, c3⟩ := ti_firsts hp2
  refine ⟨tuples' true, fun Q E hq => ?_, ti_cmp hp2 hr⟩
  refine PySem.W.kat_kind (T := .type "str") c1 (by omega) (fun f hf => ?_) (by rfl) ?_
  · obtain ⟨x, t, rfl⟩ := c3 f hf
    exact PySem.W.Looks.now
  · have e : (Value.type "str" != Value.type "tuple") = true := by first | decide +kernel | rfl | decide
    rw [e]
    exact hq
end
/-- sorted(xs), xs a list of pairs of a text and an int -/
def ltTI (ρ : Str → Int) (k : V → Str × Int) (x y : V) : Bool := SrtO.lexB (ρ (k x).1, (k x).2) (ρ (k y).1, (k y).2)
theorem ltTI_swo (ρ : Str → Int) (k : V → Str × Int) : SrtO.Swo (ltTI ρ k) := ltP_swo fun x => (ρ (k x).1, (k x).2)
def rSortTI (K : PySem.W.Frag) : List V → Hp → VK → Prop := fun vs H Q => ∃ (a : Addr) (xs : List V) (k : V → Str × Int) (ρ : Str → Int), vs = [V.ref a] ∧ SqL K H a xs ∧ (∀ x ∈ xs, ∃ t, x = V.ref t ∧ H t = some (.tup [.str (k x).1, .int (k x).2])) ∧ Rk ρ (xs.map fun x => (k x).1) ∧
  ∀ ys p, SrtO.Srtd (ltTI ρ k) ys → SrtO.Stb (ltTI ρ k) ys xs → H p = none → Q (.ref p) (upd H p (.lst ys))
section
variable {X : Cx}
theorem cr_sortTI : CallR X (.builtin "sorted") (rSortTI X.K) := by
  intro pins s σ H vs us Q I r h
  obtain ⟨a, xs, k, ρ, rfl, hs, hx, hr, q⟩ := h
  obtain ⟨its, rv, hl, hz⟩ := I.list hs
  obtain ⟨u, rfl, ru⟩ := vals1 r
  obtain rfl : u = Value.ref a := ru
  obtain ⟨e1, e2⟩ := refs_back rv fun x m => by
    obtain ⟨t, e, _⟩ := hx x m
    exact ⟨t, e⟩
  have hp : ∀ v ∈ its, IsTI s.heap v (k (backV v)).1 (k (backV v)).2 := fun v hv => by
    obtain ⟨t, rfl⟩ := e2 v hv
    have hm : V.ref t ∈ xs := by rw [e1]; exact List.mem_map.mpr ⟨_, hv, rfl⟩
    obtain ⟨t2, e, ht⟩ := hx _ hm
    cases e
    obtain ⟨_, l2, r2, o, ho, hc, n, hd⟩ := I.hok _ _ ht
    obtain ⟨u1, u2, rfl, ri, rj⟩ := vals2 r2
    obtain ⟨t1, rfl⟩ := ri
    obtain ⟨t3, rfl⟩ := rj
    exact ⟨t, o, t1, t3, n, rfl, ho, hc, hd⟩
  have hr2 : Rk ρ (its.map fun v => (k (backV v)).1) := by
    have e : (its.map fun v => (k (backV v)).1) = xs.map fun x => (k x).1 := by
      rw [e1, List.map_map]
      rfl
    rw [e]
    exact hr
  refine SrtO.sorted_ord (ti_swo (k := fun u => k (backV u)) (ρ := ρ)) hl.isList (by rw [← rv.length]; exact hz) (fun n2 h1 a1 ha kk => ?_) fun out hs1 hb => ?_
  · refine ti_sortable (k := fun u => k (backV u)) (s := { s with heap := h1 }) (by omega) (fun v hv => (hp v hv).keeps fun b o e _ => (kk b o e).2) hr2 fun o e => ?_
    have e3 : some o = some (PyProof.Rows.seqObj "list" its.toArray 0) := e.symm.trans ha
    cases e3
    intro c
    exact absurd (Value.type.inj c) (by decide)
  · have h3 : ∀ u ∈ out, ∃ a, u = Value.ref a := fun u hu => e2 u (hb.perm.mem_iff.mp hu)
    obtain ⟨n, hn⟩ := PyProof.Rows.sortedAll_at s.heap its out.toArray
    have hbb : SrtO.Stb (ltTI ρ k) (out.map backV) xs := by
      rw [e1]
      exact SrtO.Stb.map (ltTI_swo ρ k) backV hb
    have fr := I.hok.fresh (Nat.le_succ s.heap.objs.size)
    refine ⟨.ref _, upd H (s.heap.objs.size + 1) (.lst (out.map backV)), I.laid (t' := s.toks) (fun _ _ => PyProof.Rows.sortedAll_old) (Nat.le_succ _) ⟨?_, out, n, vals_back h3, hn⟩, rfl, q _ _ (SrtO.srtd_map hs1) hbb fr⟩
    rw [hbb.len]
    exact hz
end
/-! ### lists of pairs of a name and an arity -/
def sD (p : Str × Nat) : PyData := .tuple [.str p.1, .int p.2]
inductive TIs (H : Hp) : List V → List (Str × Nat) → Prop
  | nil : TIs H [] []
  | cons {t : Addr} {p : Str × Nat} {xs : List V} {l : List (Str × Nat)} : H t = some (.tup [.str p.1, .int (p.2 : Nat)]) → TIs H xs l → TIs H (.ref t :: xs) (p :: l)
theorem TIs.kl {H H' : Hp} (k : Kl H H') : ∀ {xs : List V} {l : List (Str × Nat)}, TIs H xs l → TIs H' xs l
  | _, _, .nil => .nil
  | _, _, .cons e t => .cons (k _ _ e fun zs z => nomatch z) (TIs.kl k t)
theorem TIs.snoc {H : Hp} {t : Addr} {p : Str × Nat} (e : H t = some (.tup [.str p.1, .int (p.2 : Nat)])) : ∀ {xs : List V} {l : List (Str × Nat)}, TIs H xs l → TIs H (xs ++ [.ref t]) (l ++ [p])
  | _, _, .nil => .cons e .nil
  | _, _, .cons a r => .cons a (TIs.snoc e r)
theorem TIs.len {H : Hp} : ∀ {xs : List V} {l : List (Str × Nat)}, TIs H xs l → xs.length = l.length
  | _, _, .nil => rfl
  | _, _, .cons _ r => congrArg Nat.succ (TIs.len r)
theorem TIs.dp {K : PySem.W.Frag} {H : Hp} : ∀ {xs : List V} {l : List (Str × Nat)}, TIs H xs l → DpAll K H xs (l.map sD)
  | _, _, .nil => .nil
  | _, _, .cons e r => .cons (.tup (.inl (.inl e)) (.cons (.str _) (.cons (.int _) .nil))) (TIs.dp r)
theorem TIs.get {H : Hp} : ∀ {xs : List V} {l : List (Str × Nat)} {i : Nat} {x : V}, TIs H xs l → xs[i]? = some x → ∃ t p, x = .ref t ∧ l[i]? = some p ∧ H t = some (.tup [.str p.1, .int (p.2 : Nat)])
  | _, _, i, x, .nil, h => by simp at h
  | _, _, 0, x, .cons e r, h => by
    have z := Option.some.inj h
    exact ⟨_, _, z.symm, rfl, e⟩
  | _, _, i + 1, x, .cons e r, h => TIs.get (i := i) r h
theorem TIs.perm {H : Hp} {xs ys : List V} (p : ys.Perm xs) : ∀ {l : List (Str × Nat)}, TIs H xs l → ∃ m, TIs H ys m ∧ m.Perm l := by
  induction p with
  | nil => intro l h; cases h; exact ⟨[], .nil, List.Perm.refl _⟩
  | cons x p ih =>
    intro l h
    cases h with
    | cons e r =>
      obtain ⟨m, h1, h2⟩ := ih r
      exact ⟨_ :: m, .cons e h1, h2.cons _⟩
  | swap x y l0 =>
    intro l h
    cases h with
    | cons e1 r1 =>
      cases r1 with
      | cons e2 r2 => exact ⟨_, .cons e2 (.cons e1 r2), List.Perm.swap ..⟩
  | trans p q ih1 ih2 =>
    intro l h
    obtain ⟨m, h1, h2⟩ := ih2 h
    obtain ⟨k, h3, h4⟩ := ih1 h1
    exact ⟨k, h3, h4.trans h2⟩
def kvH (H : Hp) (x : V) : Str × Int := match x with
  | .ref t => (match H t with
    | some (.tup [.str n, .int k]) => (n, k)
    | _ => ("", 0))
  | _ => ("", 0)
theorem TIs.kv {H : Hp} : ∀ {xs : List V} {l : List (Str × Nat)}, TIs H xs l → xs.map (kvH H) = l.map fun p => (p.1, (p.2 : Int))
  | _, _, .nil => rfl
  | _, _, .cons e r => by
    rw [List.map_cons, List.map_cons, TIs.kv r]
    congr 1
    simp only [kvH, e]
def rho5 (x : Str) : Int := if x = "e" then 0 else if x = "p" then 1 else if x = "q" then 2 else if x = "r" then 3 else 4
def rk5B : Bool := five.all fun x => five.all fun y => decide (decide (x.cps.toList < y.cps.toList) = decide (rho5 x < rho5 y)) && (!decide (rho5 x = rho5 y) || decide (x = y))
theorem rk5 {xs : List Str} (h : ∀ x, x ∈ xs → x ∈ five) : Rk rho5 xs := by
  have b : rk5B = true := by decide +kernel
  intro x y hx hy
  have b1 := List.all_eq_true.mp (List.all_eq_true.mp b x (h x hx)) y (h y hy)
  obtain ⟨b2, b3⟩ := Bool.and_eq_true_iff.mp b1
  refine ⟨of_decide_eq_true b2, fun e => ?_⟩
  rw [decide_eq_true e] at b3
  simpa using b3
/-- ss: the pairs of xs in order -/
structure SymOf (ss xs : List (Str × Nat)) : Prop where
  nd : (ss.map (·.1)).Nodup
  so : ss.Pairwise fun p q => rho5 p.1 ≤ rho5 q.1
  mem : ∀ p, p ∈ ss ↔ p ∈ xs
  fv : ∀ p, p ∈ ss → p.1 ∈ five
theorem sym_uniq : ∀ (l m : List (Str × Nat)), (∀ p, p ∈ l → p.1 ∈ five) → (l.map (·.1)).Nodup → l.Pairwise (fun p q => rho5 p.1 ≤ rho5 q.1) → m.Pairwise (fun p q => rho5 p.1 ≤ rho5 q.1) → l.Perm m → l = m
  | [], m, _, _, _, _, p => (List.nil_perm.mp p).symm
  | x :: l, [], _, _, _, _, p => by have := p.length_eq; cases this
  | x :: l, y :: m, f5, nd, hl, hm, p => by
    obtain ⟨a, b⟩ := List.pairwise_cons.mp hl
    obtain ⟨c, d⟩ := List.pairwise_cons.mp hm
    rw [List.map_cons] at nd
    obtain ⟨nd1, nd2⟩ := List.nodup_cons.mp nd
    have e : x = y := by
      rcases List.mem_cons.mp (p.mem_iff.mp (List.mem_cons_self ..)) with e | hx
      · exact e
      · rcases List.mem_cons.mp (p.mem_iff.mpr (List.mem_cons_self ..)) with e | hy
        · exact e.symm
        · have h1 := a y hy
          have h2 := c x hx
          have e2 := (rk5 (xs := five) (fun _ z => z) x.1 y.1 (f5 x (List.mem_cons_self ..)) (f5 y (List.mem_cons_of_mem _ hy))).2 (by omega)
          exact absurd (List.mem_map.mpr ⟨y, hy, e2.symm⟩) nd1
    subst e
    rw [sym_uniq l m (fun q hq => f5 q (List.mem_cons_of_mem _ hq)) nd2 b d p.cons_inv]
theorem nodup_fst {l : List (Str × Nat)} (h : (l.map (·.1)).Nodup) : l.Nodup := List.Pairwise.of_map (·.1) (fun a b hne e => hne (by rw [e])) h
theorem SymOf.uniq {ss tt xs : List (Str × Nat)} (a : SymOf ss xs) (b : SymOf tt xs) : ss = tt :=
  sym_uniq ss tt a.fv a.nd a.so b.so ((List.perm_ext_iff_of_nodup (nodup_fst a.nd) (nodup_fst b.nd)).mpr fun x => (a.mem x).trans (b.mem x).symm)
theorem SymOf.len {ss xs : List (Str × Nat)} (a : SymOf ss xs) : ss.length ≤ 5 := by
  have := sub_len (ss.map (·.1)) five a.nd fun x hx => by
    obtain ⟨p, hp, rfl⟩ := List.mem_map.mp hx
    exact a.fv p hp
  rw [List.length_map] at this
  exact this
/-- sorted of such a list -/
theorem sortTI_q {K : PySem.W.Frag} {H : Hp} {c : Addr} {vs : List V} {l : List (Str × Nat)} {Q : VK} (hc : H c = some (.lst vs)) (hv : TIs H vs l) (nd : (l.map (·.1)).Nodup) (h5 : ∀ p, p ∈ l → p.1 ∈ five)
    (q : ∀ (p : Addr) (ys : List V) (ss : List (Str × Nat)), H p = none → TIs (upd H p (.lst ys)) ys ss → SymOf ss l → Q (.ref p) (upd H p (.lst ys))) : rSortTI K [.ref c] H Q := by
  have hkv := hv.kv
  refine ⟨c, vs, kvH H, rho5, rfl, SqL.of hc, fun x hx => ?_, rk5 fun x hx => ?_, fun ys p so st np => ?_⟩
  · obtain ⟨i, hi⟩ := List.mem_iff_getElem?.mp hx
    obtain ⟨t, pp, rfl, _, ht⟩ := hv.get hi
    refine ⟨t, rfl, ?_⟩
    have e : kvH H (.ref t) = (pp.1, (pp.2 : Int)) := by simp only [kvH, ht]
    rw [e]
    exact ht
  · have e : (vs.map fun x => (kvH H x).1) = l.map (·.1) := by
      have := congrArg (List.map Prod.fst) hkv
      rw [List.map_map, List.map_map] at this
      exact this
    rw [e] at hx
    obtain ⟨pp, hp, rfl⟩ := List.mem_map.mp hx
    exact h5 pp hp
  · obtain ⟨ss, ht, pm⟩ := hv.perm st.perm
    refine q p ys ss np (ht.kl (.of (same_upd np))) ⟨(pm.map (·.1)).nodup_iff.mpr nd, ?_, fun p => pm.mem_iff, fun p hp => h5 p (pm.mem_iff.mp hp)⟩
    have e := ht.kv
    have s2 : (ys.map (kvH H)).Pairwise fun a b => SrtO.lexB (rho5 b.1, b.2) (rho5 a.1, a.2) = false := List.pairwise_map.mpr so
    rw [e, List.pairwise_map] at s2
    refine s2.imp fun {a b} z => ?_
    have z2 : ¬ (rho5 b.1 < rho5 a.1 ∨ (rho5 b.1 = rho5 a.1 ∧ ((b.2 : Nat) : Int) < (a.2 : Nat))) := SrtO.lexB_no.mp z
    omega
theorem hu65 {k : Nat} {A : Around} (r : Room k A) : A.units + 65 < cLine := by have := r.un; omega
theorem eqv_sD (p q : Str × Nat) : PyData.eqv (sD p) (sD q) = decide (p = q) := by
  obtain ⟨a, m⟩ := p
  obtain ⟨b, n⟩ := q
  simp only [sD, PyData.eqv, PyData.eqvAll, Bool.and_true]
  by_cases h : a = b
  · subst h
    by_cases h2 : m = n
    · subst h2; simp
    · have : ¬ (m : Int) = n := fun z => h2 (by omega)
      simp [h2, this]
  · simp [h]
theorem any_sD (l : List (Str × Nat)) (p : Str × Nat) : ((l.map sD).any fun z => PyData.eqv z (sD p)) = decide (p ∈ l) := by
  rw [List.any_map]
  by_cases h : p ∈ l
  · rw [decide_eq_true h]
    exact List.any_eq_true.mpr ⟨p, h, by rw [Function.comp, eqv_sD]; exact decide_eq_true rfl⟩
  · rw [decide_eq_false h]
    refine List.any_eq_false.mpr fun q hq z => h ?_
    rw [Function.comp, eqv_sD] at z
    rw [← of_decide_eq_true z]
    exact hq
theorem five_ok {x : Str} (h : x ∈ five) : PyData.canLay0 (.str x) = true := by
  have b : (five.all fun x => PyData.canLay0 (.str x)) = true := by decide +kernel
  exact List.all_eq_true.mp b x h
theorem lay_sD {p : Str × Nat} (h : p.1 ∈ five) : PyData.canLay0 (sD p) = true := by
  simp only [sD, PyData.canLay0, PyData.canLayAll0, Bool.and_true]
  exact five_ok h
theorem dep_sD (p : Str × Nat) : (sD p).depth = 1 := by
  simp only [sD, PyData.depth, PyData.depthAll]
  rfl
theorem shaped_sD {p : Str × Nat} (h : p.1 ∈ five) : SeqAt.shaped (sD p) = true := by
  unfold SeqAt.shaped
  rw [lay_sD h, dep_sD]
  rfl
theorem lays_sD : ∀ {l : List (Str × Nat)}, (∀ p, p ∈ l → p.1 ∈ five) → PyData.canLayAll0 (l.map sD) = true
  | [], _ => by rw [List.map_nil, PyData.canLayAll0]
  | p :: l, h => by
    rw [List.map_cons, PyData.canLayAll0, lay_sD (h p (List.mem_cons_self ..)), lays_sD fun q hq => h q (List.mem_cons_of_mem _ hq)]
    rfl
theorem deps_sD : ∀ (l : List (Str × Nat)), PyData.depthAll (l.map sD) ≤ 1
  | [] => by rw [List.map_nil, PyData.depthAll]; decide
  | p :: l => by
    rw [List.map_cons, PyData.depthAll, dep_sD]
    have := deps_sD l
    omega
theorem shapeds_sD {l : List (Str × Nat)} (h : ∀ p, p ∈ l → p.1 ∈ five) : SeqAt.shaped (.list (l.map sD)) = true := by
  unfold SeqAt.shaped
  rw [PyData.canLay0, lays_sD h, PyData.depth]
  have := deps_sD l
  exact decide_eq_true (by omega)
theorem syms_rns : ∀ (f : Fm), ∀ p, p ∈ f.syms → p.1 ∈ f.rns := Fm.ind fun h ps ih p hp => by
  rw [Fm.rns_mk]
  by_cases kr : h.kd = .rel
  · cases h with
    | rel n as =>
      rw [Fm.syms_rel] at hp
      rw [List.mem_singleton.mp hp]
      exact List.mem_append_left _ (List.mem_singleton.mpr rfl)
    | _ => cases kr
  · obtain ⟨_, g, hg, hx⟩ := (Fm.syms_mem kr).mp hp
    exact List.mem_append_right _ (List.mem_flatten.mpr ⟨_, List.mem_map.mpr ⟨g, hg, rfl⟩, ih g hg p hx⟩)
def spLS (K : PySem.W.Frag) (n : Nat) : Sp := fun vs H Q _ => ∃ (v : V) (f : Fm) (pool : List Str) (Γ : ArE), vs = [v] ∧ Dp K H v f.data ∧ f.Ok ∧ f.Typed Γ ∧ Occ pool f ∧ f.dep ≤ n ∧
  ∀ (H' : Hp) (r : Addr) (xs : List V) (ss : List (Str × Nat)), Same H H' → H r = none → H' r = some (.lst xs) → TIs H' xs ss → SymOf ss f.syms → Q (.ref r) H'
section
variable {P : Program} {w : World} {K : PySem.W.Frag} {mg : Str → Option Value} {base : Heap}
theorem sc_law_symbols : FnScope ["f", "found", "part", "one"] ["f"] (defScope (top 84)) := ⟨rfl, rfl, rfl, by decide +kernel, rfl, by decide +kernel, by decide +kernel⟩
theorem has_law_symbols (D : Def K mg "_law_symbols" ["f"] (top 84)) (T : Txt mg) (C1 : Has P w K mg base 1 "_law_parts" ["f"] (spParts K)) :
    ∀ n : Nat, Has P w K mg base (2 + n) "_law_symbols" ["f"] (spLS K n) := by
  obtain ⟨f1, fd1, G_law_parts, g_law_parts, k_law_parts, b_law_parts⟩ := C1
  intro n
  induction n with
  | zero =>
    refine D.has fun f fd F => F.ok sc_law_symbols (fun vs H Q E h => ?_) (fun cdv A outer s H vs Q E hr h => ?_)
    · obtain ⟨v, f, pool, Γ, rfl, _⟩ := h; rfl
    · obtain ⟨v, f, pool, Γ, rfl, _, _, _, _, h0, _⟩ := h
      have := dep_pos f
      omega
  | succ n ih =>
    obtain ⟨f4, fd4, G_law_symbols, g_law_symbols, k_law_symbols, b_law_symbols⟩ := ih
    refine D.has fun f fd F => F.ok sc_law_symbols (fun vs H Q E h => ?_) (fun cdv A outer s H vs Q E hr h => ?_)
    · obtain ⟨v, f, pool, Γ, rfl, _⟩ := h; rfl
    · obtain ⟨v, f, pool, Γ, rfl, dp, ok, ty, oc, hn, q⟩ := h
      have R_law_parts : Room 1 _ := hr.mono (Nat.le_trans (by decide) (Nat.le_add_right 2 n))
      have R_law_symbols : Room (2 + n) _ := hr
      refine ⟨_, PSs.nox (pss_cons (ps_set (i := 1) sc_law_symbols.nd rfl (Or.inl rfl) (pe_lst pa_nil)) (pss_cons (ps_if (pt_cmpR op_eq (pe_ix ix_tup (pv 0) pe_int (fun _ _ => rfl)) pe_str (nomark _)) (pss_one (ps_expr (pe_bm PySem.F.plainAttrs_list PySem.F.slot_list_append PySem.F.type_list_append mt_append (pv 1) (pa_cons (pe_tup (pa_cons (pe_ix ix_tup (pv 0) pe_int (fun _ _ => rfl)) (pa_cons (pe_callB call_len_seq (by rfl) T.n_len PySem.boot_len (pa_cons (pe_ix ix_tup (pv 0) pe_int (fun _ _ => rfl)) pa_nil)) pa_nil))) pa_nil)))) pss_nil) (pss_cons (ps_for PassesOwn.never rfl (pi_list (pe_call G_law_parts R_law_parts (by rfl) g_law_parts k_law_parts b_law_parts .nil pass0 (pa_cons (pv 0) pa_nil))) (pg_name (i := 2) sc_law_symbols.nd rfl (Or.inl rfl)) (pss_one (ps_for PassesOwn.never rfl (pi_list (pe_call G_law_symbols R_law_symbols (by rfl) g_law_symbols k_law_symbols b_law_symbols .nil pass0 (pa_cons (pv 2) pa_nil))) (pg_name (i := 3) sc_law_symbols.nd rfl (Or.inl rfl)) (pss_one (ps_if (PW.pt (pw_and (pt_cmpR (op_notInD (hu65 hr)) (pv 3) (pv 1) (by rfl)) (pw_and1 (pt_not (PW.pt (pw_and (pt_cmpR op_in_seq (pe_ix ix_tup (pv 0) pe_int (fun _ _ => rfl)) (pe_lst (pa_cons pe_str (pa_cons pe_str (pa_cons pe_str pa_nil)))) (by rfl)) (pw_and1 (pt_cmpR op_eq (pe_ix ix_tup (pv 3) pe_int (fun _ _ => rfl)) (pe_ix ix_tup (pv 0) pe_int (fun _ _ => rfl)) (nomark _))))))))) (pss_one (ps_expr (pe_bm PySem.F.plainAttrs_list PySem.F.slot_list_append PySem.F.type_list_append mt_append (pv 1) (pa_cons (pv 3) pa_nil)))) pss_nil))))) (pss_one (ps_ret (pe_callB cr_sortTI (by rfl) T.n_sorted (by decide +kernel) (pa_cons (pv 1) pa_nil))))))), ?_⟩
      have dp0 := dp
      obtain ⟨h, ps⟩ := f
      rw [Fm.data_mk] at dp
      obtain ⟨a, xs, rfl, hT, hx⟩ := hd_inv dp
      have f5 : ∀ p, p ∈ (Fm.mk h ps).syms → p.1 ∈ five := fun p hp => oc.rs _ (syms_rns _ p hp)
      refine ⟨Nat.zero_le _, fun c nc => ?_⟩
      have s0 := same_upd (o := .lst []) nc
      have hT0 := Same.sqt s0 hT
      refine ⟨_, rfl, a, _, _, _, rfl, rfl, hT0, atI_nat (j := 0) rfl, rfl, _, rfl, ?_⟩
      by_cases kr : h.kd = .rel
      · cases h with
        | rel n0 as =>
          have ps0 : ps = [] := none_of ok.hd_.2.2.2
          subst ps0
          obtain ⟨v1, w1, rfl, e1, hx⟩ := DpAll.cons_inv hx
          obtain ⟨v2, w2, rfl, e2, hx⟩ := DpAll.cons_inv hx
          obtain rfl := Dp.str_inv e1
          obtain ⟨t2, rfl, ht2⟩ := tS_inv e2
          refine cT (k := decide (V.str "rel" = V.str "rel")) (by decide +kernel) ?_
          refine ⟨_, rfl, .inl ⟨rfl, _, SqL.of upd_same⟩, ?_⟩
          refine ⟨_, rfl, a, _, _, _, rfl, rfl, hT0, atI_nat (j := 1) rfl, _, rfl, a, _, _, _, rfl, rfl, hT0, atI_nat (j := 2) rfl, t2, _, rfl, .inr (Same.sqt s0 ht2), (by show 2 ≤ sizeLine; decide), fun u nu => ?_⟩
          have nuc : c ≠ u := ne_of_none upd_same nu
          have lm : (as.map V.str).length = as.length := List.length_map ..
          rw [lm]
          refine ⟨c, [], _, rfl, rfl, by rw [upd_ne nuc]; exact upd_same, (by show 0 < sizeLine; decide), ?_⟩
          have sX : Same H (upd (upd (upd H c (.lst [])) u (.tup [.str n0, .int (as.length : Nat)])) c (.lst ([] ++ [.ref u]))) := fun b o eb => by
            rw [upd_ne (ne_of_none eb nc)]
            exact same_upd nu _ _ (s0 _ _ eb)
          have hcX : (upd (upd (upd H c (.lst [])) u (.tup [.str n0, .int (as.length : Nat)])) c (.lst ([] ++ [.ref u]))) c = some (.lst [.ref u]) := upd_same
          have hu : (upd (upd (upd H c (.lst [])) u (.tup [.str n0, .int (as.length : Nat)])) c (.lst ([] ++ [.ref u]))) u = some (.tup [.str n0, .int (as.length : Nat)]) := by rw [upd_ne nuc.symm]; exact upd_same
          revert sX hcX hu
          generalize upd (upd (upd H c (.lst [])) u (.tup [.str n0, .int (as.length : Nat)])) c (.lst ([] ++ [.ref u])) = HX
          intro sX hcX hu
          refine ⟨_, rfl, .ref a, _, rfl, Dp.same sX dp0, ok, fun H1 r1 ys s1 nr1 hr1 d1 => ?_⟩
          have ys0 : ys = [] := DpAll.nil_inv d1
          subst ys0
          refine ⟨r1, rfl, ⟨_, SqL.of hr1⟩, for_list (K := K) (a := r1) (xs := []) (fun i σ H3 => (∃ y2 y3, σ = [some (.ref a), some (.ref c), y2, y3]) ∧ H3 = H1) ⟨⟨_, _, rfl⟩, rfl⟩ (fun i σ H3 _ ⟨_, e⟩ => by rw [e]; exact SqL.of hr1) (fun i y σ H3 hi _ => by cases hi) ?_⟩
          rintro σ H3 ⟨⟨y2, y3, rfl⟩, rfl⟩
          refine ⟨_, rfl, sortTI_q (s1 _ _ hcX) (TIs.cons (p := (n0, as.length)) (s1 _ _ hu) .nil) (by simp) (fun p hp => f5 p (by rw [Fm.syms_rel]; exact hp)) fun p ys ss np ht so => ?_⟩
          exact q _ p ys ss ((sX.trans s1).trans (same_upd np)) (Same.none (sX.trans s1) np) upd_same ht (by rw [Fm.syms_rel]; exact so)
        | _ => cases kr
      · refine cF (k := decide (V.str h.word = V.str "rel")) (by rw [kw_rel, decide_eq_false kr]) ?_
        refine ⟨_, rfl, .ref a, _, rfl, Dp.same s0 dp0, ok, fun H1 r1 ys s1 nr1 hr1 d1 => ?_⟩
        have hc1 : H1 c = some (.lst []) := s1 _ _ upd_same
        have ncr1 : r1 ≠ c := fun z => by rw [z, upd_same] at nr1; cases nr1
        have s01 : Same H H1 := s0.trans s1
        have keepS : ∀ {H3 : Hp}, Kp c H1 H3 → Same H H3 := fun k b o e => k b o (s01 b o e) (ne_of_none e nc)
        refine ⟨r1, rfl, ⟨_, SqL.of hr1⟩, for_list (K := K) (a := r1) (xs := ys) (fun i σ H3 => ∃ (y2 y3 : Option V) (vs : List V) (l : List (Str × Nat)), σ = [some (.ref a), some (.ref c), y2, y3] ∧ Kp c H1 H3 ∧ H3 c = some (.lst vs) ∧ TIs H3 vs l ∧ (l.map (·.1)).Nodup ∧ ∀ p, p ∈ l ↔ ∃ g, g ∈ ps.take i ∧ p ∈ g.syms ∧ h.bname ≠ some p.1)
          ⟨none, none, [], [], rfl, .refl _ _, hc1, .nil, List.nodup_nil, fun x => by simp⟩ (fun i σ H3 _ ⟨_, _, _, _, _, k3, _⟩ => SqL.of (k3 _ _ hr1 ncr1)) ?_ ?_⟩
        · rintro i y σ H3 hi ⟨y2, y3, vs, l, rfl, k3, hc3, tl, ndl, ml⟩
          obtain ⟨dd, hd, dpy⟩ := DpAll.get' d1 hi
          obtain ⟨g, hg, rfl⟩ := get_map hd
          have mem := List.mem_of_getElem? hg
          have dl : g.dep < (Fm.mk h ps).dep := dep_part mem
          have tg := ty.part kr mem
          refine ⟨_, rfl, y, g, pool, h.env Γ, rfl, Dp.kl (.kp k3 hc1) dpy g.noL, ok.part mem, tg, oc.part mem, by omega, fun H5 r2 xs2 ss2 s5 nr2 hr2 t2 so => ?_⟩
          have hc5 := s5 _ _ hc3
          have nr2c : r2 ≠ c := fun z => by rw [z, hc3] at nr2; cases nr2
          have len2 := t2.len
          refine ⟨r2, rfl, ⟨_, SqL.of hr2⟩, for_list (K := K) (a := r2) (xs := xs2) (fun j σ H6 => ∃ (y3 : Option V) (vs' : List V) (l' : List (Str × Nat)), σ = [some (.ref a), some (.ref c), some y, y3] ∧ Kp c H5 H6 ∧ H6 c = some (.lst vs') ∧ TIs H6 vs' l' ∧ (l'.map (·.1)).Nodup ∧ ∀ p, p ∈ l' ↔ p ∈ l ∨ (p ∈ ss2.take j ∧ h.bname ≠ some p.1))
            ⟨y3, vs, l, rfl, .refl _ _, hc5, tl.kl (.of s5), ndl, fun x => by simp⟩ (fun j σ H6 _ ⟨_, _, _, _, k6, _⟩ => SqL.of (k6 _ _ hr2 nr2c)) ?_ ?_⟩
          · rintro j z σ H6 hj ⟨y3', vs', l', rfl, k6, hc6, tl', nd', ml'⟩
            obtain ⟨t, p, rfl, hp, ht⟩ := t2.get hj
            have ht6 := k6 _ _ ht (fun z => by rw [z, hc5] at ht; cases ht)
            have inL : ∀ p', p' ∈ l' → p'.1 ∈ five ∧ (h.env Γ) p'.1 = some p'.2 := fun p' hp' => by
              rcases (ml' p').mp hp' with z | ⟨z, zb⟩
              · obtain ⟨g2, hg2, b1, b2⟩ := (ml p').mp z
                have m2 := List.mem_of_mem_take hg2
                exact ⟨f5 p' ((Fm.syms_mem kr).mpr ⟨b2, g2, m2, b1⟩), typed_sym g2 _ (ty.part kr m2) p' b1⟩
              · have b1 := (so.mem p').mp (List.mem_of_mem_take z)
                exact ⟨f5 p' ((Fm.syms_mem kr).mpr ⟨zb, g, mem, b1⟩), typed_sym g _ tg p' b1⟩
            have pin := List.mem_of_getElem? hp
            have psy := (so.mem p).mp pin
            have tk : ss2.take (j + 1) = ss2.take j ++ [p] := by rw [List.take_add_one, hp]; rfl
            have l5 : l'.length ≤ 5 := by
              have := sub_len (l'.map (·.1)) five nd' fun x hx => by
                obtain ⟨p', hp', rfl⟩ := List.mem_map.mp hx
                exact (inL p' hp').1
              rw [List.length_map] at this
              exact this
            have keep : h.bname = some p.1 ∨ p ∈ l' → ∀ p', p' ∈ l' ↔ p' ∈ l ∨ (p' ∈ ss2.take (j + 1) ∧ h.bname ≠ some p'.1) := fun c0 p' => by
              rw [ml', tk, List.mem_append]
              constructor
              · rintro (a1 | ⟨a1, a2⟩)
                · exact .inl a1
                · exact .inr ⟨.inl a1, a2⟩
              · rintro (a1 | ⟨a1 | a1, a2⟩)
                · exact .inl a1
                · exact .inr ⟨a1, a2⟩
                · have e3 := List.mem_singleton.mp a1
                  rw [e3] at a2 ⊢
                  rcases c0 with c0 | c0
                  · exact absurd c0 a2
                  · exact (ml' p).mp c0
            refine ⟨_, rfl, _, rfl, sD p, l'.map sD, .tup (.inl (.inl ht6)) (.cons (.str _) (.cons (.int _) .nil)), .lst (SqL.of hc6) tl'.dp, shaped_sD (so.fv p pin), shapeds_sD fun p' hp' => (inL p' hp').1, _, rfl, ?_⟩
            rw [any_sD]
            by_cases hin : p ∈ l'
            · refine cF (k := !decide (p ∈ l')) (by rw [decide_eq_true hin]; rfl) (iteF ⟨_, vs', l', rfl, k6, hc6, tl', nd', keep (.inr hin)⟩)
            · refine cT (k := !decide (p ∈ l')) (by rw [decide_eq_false hin]; rfl) ?_
              have hT6 : SqT K H6 a (.str h.word :: xs) := Same.sqt (fun b o e => k6 b o (s5 _ _ (keepS k3 b o e)) (ne_of_none e nc)) hT
              refine ⟨_, rfl, a, _, _, _, rfl, rfl, hT6, atI_nat (j := 0) rfl, (by show 3 ≤ sizeLine; decide), fun p1 np1 => ⟨_, _, rfl, .inl (SqL.of upd_same), rfl, rfl, _, rfl, ?_⟩⟩
              have s7 := same_upd (o := .lst [.str "lfp", .str "pfp", .str "guess"]) np1
              have hc7 := s7 _ _ hc6
              have nc7 : c ≠ p1 := ne_of_none hc6 np1
              -- one more is found
              have more : h.bname ≠ some p.1 → ∀ p', p' ∈ l' ++ [p] ↔ p' ∈ l ∨ (p' ∈ ss2.take (j + 1) ∧ h.bname ≠ some p'.1) := fun nb p' => by
                rw [List.mem_append, ml', tk, List.mem_append]
                constructor
                · rintro ((a1 | ⟨a1, a2⟩) | a1)
                  · exact .inl a1
                  · exact .inr ⟨.inl a1, a2⟩
                  · have e3 := List.mem_singleton.mp a1
                    rw [e3]
                    exact .inr ⟨.inr (List.mem_singleton.mpr rfl), nb⟩
                · rintro (a1 | ⟨a1 | a1, a2⟩)
                  · exact .inl (.inl a1)
                  · exact .inl (.inr ⟨a1, a2⟩)
                  · exact .inr a1
              have ndm : ((l' ++ [p]).map (·.1)).Nodup := by
                rw [List.map_append, List.nodup_append]
                refine ⟨nd', by simp, fun x hx y hy e => hin ?_⟩
                obtain ⟨p', hp', rfl⟩ := List.mem_map.mp hx
                have e3 : p'.1 = p.1 := by rw [e]; simpa using hy
                have e4 := (inL p' hp').2
                have e5 := typed_sym g _ tg p psy
                rw [e3, e5] at e4
                have e6 : p' = p := Prod.ext e3 (Option.some.inj e4).symm
                rw [← e6]; exact hp'
              have fin : h.bname ≠ some p.1 → ∃ y3'' vs'' l'', [some (.ref a), some (.ref c), some y, some (.ref t)] = [some (.ref a), some (.ref c), some y, y3''] ∧ Kp c H5 (upd (upd H6 p1 (.lst [.str "lfp", .str "pfp", .str "guess"])) c (.lst (vs' ++ [.ref t]))) ∧ (upd (upd H6 p1 (.lst [.str "lfp", .str "pfp", .str "guess"])) c (.lst (vs' ++ [.ref t]))) c = some (.lst vs'') ∧ TIs (upd (upd H6 p1 (.lst [.str "lfp", .str "pfp", .str "guess"])) c (.lst (vs' ++ [.ref t]))) vs'' l'' ∧ (l''.map (·.1)).Nodup ∧ ∀ p', p' ∈ l'' ↔ p' ∈ l ∨ (p' ∈ ss2.take (j + 1) ∧ h.bname ≠ some p'.1) := fun nb =>
                ⟨_, vs' ++ [.ref t], l' ++ [p], rfl, fun b o eb nb2 => by rw [upd_ne nb2]; exact s7 _ _ (k6 b o eb nb2), upd_same, ((tl'.kl (.of s7)).snoc (s7 _ _ ht6)).kl (Kl.upd hc7), ndm, more nb⟩
              have app : vs'.length < sizeLine := small1000 (by have := tl'.len; omega)
              by_cases hb : inV (.str h.word) [.str "lfp", .str "pfp", .str "guess"] = true
              · obtain ⟨n0, k0, bd⟩ := bound_kd (kd_isB _ hb)
                have r0 := rest_bound (ds := ps.map Fm.data) bd
                obtain ⟨v1, hv1, ev1⟩ := DpAll.get hx r0
                obtain rfl := Dp.str_inv ev1
                have hbn : h.bname = some n0 := by unfold Hd.bname; rw [bd]; rfl
                refine cT hb ?_
                have hT7 := Same.sqt s7 hT6
                have x1 : (V.str h.word :: xs)[1]? = some (.str n0) := hv1
                refine ⟨_, rfl, t, _, _, _, rfl, rfl, .inl (.inl (s7 _ _ ht6)), atI_nat (j := 0) rfl, _, rfl, a, _, _, _, rfl, rfl, hT7, atI_nat (j := 1) x1, rfl, _, rfl, ?_⟩
                have ed : decide (V.str p.1 = V.str n0) = decide (p.1 = n0) := decide_eq_decide.mpr ⟨fun y => V.str.inj y, fun y => congrArg V.str y⟩
                by_cases e0 : p.1 = n0
                · refine cF (k := !decide (V.str p.1 = V.str n0)) (by rw [ed, decide_eq_true e0]; rfl) ⟨_, vs', l', rfl, k6.trans (.of s7), hc7, tl'.kl (.of s7), nd', keep (.inl (by rw [hbn, e0]))⟩
                · refine cT (k := !decide (V.str p.1 = V.str n0)) (by rw [ed, decide_eq_false e0]; rfl) ⟨_, rfl, .inl ⟨rfl, _, SqL.of hc7⟩, _, rfl, c, _, _, rfl, rfl, hc7, app, fin (by rw [hbn]; exact fun z => e0 (Option.some.inj z).symm)⟩
              · have hb' : inV (.str h.word) [.str "lfp", .str "pfp", .str "guess"] = false := by simpa using hb
                have nk := kd_isB' _ hb'
                have hbn : h.bname = none := by
                  cases h with
                  | lfp n us as => exact absurd rfl nk.1
                  | pfp n us as => exact absurd rfl nk.2.1
                  | gs n k => exact absurd rfl nk.2.2
                  | _ => rfl
                refine cF hb' (cT (k := !false) rfl ⟨_, rfl, .inl ⟨rfl, _, SqL.of hc7⟩, _, rfl, c, _, _, rfl, rfl, hc7, app, fin (by rw [hbn]; exact fun z => nomatch z)⟩)
          · rintro σ H6 ⟨y3', vs', l', rfl, k6, hc6, tl', nd', ml'⟩
            refine ⟨_, _, vs', l', rfl, fun b o eb nb => k6 b o (s5 _ _ (k3 b o eb nb)) nb, hc6, tl', nd', fun p => ?_⟩
            have hg : ps[i]? = some g := hg
            rw [ml', ml, List.take_of_length_le (show ss2.length ≤ xs2.length by omega), so.mem, List.take_add_one, hg]
            constructor
            · rintro (⟨g2, hg2, a1, b1⟩ | ⟨a1, b1⟩)
              · exact ⟨g2, List.mem_append_left _ hg2, a1, b1⟩
              · exact ⟨g, List.mem_append_right _ (List.mem_singleton.mpr rfl), a1, b1⟩
            · rintro ⟨g2, hg2, a1, b1⟩
              rcases List.mem_append.mp hg2 with hg2 | hg2
              · exact .inl ⟨g2, hg2, a1, b1⟩
              · rw [List.mem_singleton.mp hg2] at a1
                exact .inr ⟨a1, b1⟩
        · rintro σ H3 ⟨y2, y3, vs, l, rfl, k3, hc3, tl, ndl, ml⟩
          have eyl : ys.length = ps.length := by rw [DpAll.length d1, List.length_map]; rfl
          rw [List.take_of_length_le (show ps.length ≤ ys.length by omega)] at ml
          have m2 : ∀ p, p ∈ l ↔ p ∈ (Fm.mk h ps).syms := fun p => by
            rw [ml, Fm.syms_mem kr]
            exact ⟨fun ⟨g, a1, a2, a3⟩ => ⟨a3, g, a1, a2⟩, fun ⟨a3, g, a1, a2⟩ => ⟨g, a1, a2, a3⟩⟩
          refine ⟨_, rfl, sortTI_q hc3 tl ndl (fun p hp => f5 p ((m2 p).mp hp)) fun p ys ss np ht so => ?_⟩
          exact q _ p ys ss ((keepS k3).trans (same_upd np)) (Same.none (keepS k3) np) upd_same ht ⟨so.nd, so.so, fun x => by rw [so.mem, m2], so.fv⟩
end
/-! ### how many -/
theorem parts_len {h : Hd} {n : Nat} (k : h.Ok n) : n ≤ 40 := by
  cases h with
  | rel m as => have := k.2.2.2; omega
  | eq x y => have := k.2.2; omega
  | less x y => have := k.2.2; omega
  | no => have : n = 1 := k; omega
  | con => exact k
  | dis => exact k
  | ex vs => have := k.2; omega
  | al vs => have := k.2; omega
  | lfp m vs as => have := k.2.2.2.2; omega
  | pfp m vs as => have := k.2.2.2.2; omega
  | tc vs as => have := k.2.2.2.2.2; omega
  | gs m j => have := k.2.2; omega
theorem own_le {h : Hd} {n : Nat} (k : h.Ok n) : h.own.length ≤ 8 := by
  cases h with
  | rel m as => exact Nat.zero_le _
  | eq x y => exact Nat.zero_le _
  | less x y => exact Nat.zero_le _
  | no => exact Nat.zero_le _
  | con => exact Nat.zero_le _
  | dis => exact Nat.zero_le _
  | ex vs => have := k.1.2.1; exact Nat.le_trans this (by decide)
  | al vs => have := k.1.2.1; exact Nat.le_trans this (by decide)
  | lfp m vs as => have := k.2.1.2.1; exact Nat.le_trans this (by decide)
  | pfp m vs as => have := k.2.1.2.1; exact Nat.le_trans this (by decide)
  | tc vs as => show vs.length ≤ 8; have := k.1; omega
  | gs m j => exact Nat.zero_le _
/-! ### bound variables renamed: heads -/
def Hd.withOwn (h : Hd) (us : List Str) : Hd := match h with
  | .ex _ => .ex us
  | .al _ => .al us
  | .lfp n _ as => .lfp n us as
  | .pfp n _ as => .pfp n us as
  | .tc _ as => .tc us as
  | h => h
def two (as : List Str) (f : Str → Str → Hd) (h : Hd) : Hd := match as with
  | [a, b] => f a b
  | _ => h
def Hd.withArgs (h : Hd) (as : List Str) : Hd := match h with
  | .rel n _ => .rel n as
  | .eq x y => two as Hd.eq (.eq x y)
  | .less x y => two as Hd.less (.less x y)
  | .lfp n us _ => .lfp n us as
  | .pfp n us _ => .pfp n us as
  | .tc us _ => .tc us as
  | h => h
theorem two_of {as : List Str} (l : as.length = 2) : ∃ a b, as = [a, b] := by
  match as, l with
  | [a, b], _ => exact ⟨a, b, rfl⟩
theorem own_withOwn {h : Hd} {us : List Str} (l : us.length = h.own.length) : (h.withOwn us).own = us := by
  cases h <;> first | rfl | exact (List.length_eq_zero_iff.mp l).symm
theorem args_withArgs {h : Hd} {as : List Str} (l : as.length = h.args.length) : (h.withArgs as).args = as := by
  cases h with
  | eq x y => obtain ⟨a, b, rfl⟩ := two_of l; rfl
  | less x y => obtain ⟨a, b, rfl⟩ := two_of l; rfl
  | no => exact (List.length_eq_zero_iff.mp l).symm
  | con => exact (List.length_eq_zero_iff.mp l).symm
  | dis => exact (List.length_eq_zero_iff.mp l).symm
  | ex vs => exact (List.length_eq_zero_iff.mp l).symm
  | al vs => exact (List.length_eq_zero_iff.mp l).symm
  | gs n k => exact (List.length_eq_zero_iff.mp l).symm
  | _ => rfl
theorem own_withArgs {h : Hd} {as : List Str} (l : as.length = h.args.length) : (h.withArgs as).own = h.own := by
  cases h with
  | eq x y => obtain ⟨a, b, rfl⟩ := two_of l; rfl
  | less x y => obtain ⟨a, b, rfl⟩ := two_of l; rfl
  | _ => rfl
theorem args_withOwn {h : Hd} {us : List Str} : (h.withOwn us).args = h.args := by cases h <;> rfl
/-- a head with other variables -/
def Hd.re (h : Hd) (as us : List Str) : Hd := (h.withArgs as).withOwn us
structure ReOk (h : Hd) (as us : List Str) : Prop where
  la : as.length = h.args.length
  lu : us.length = h.own.length
  na : Names as
  nu : Names us
  nd : us.Nodup
theorem re_own {h : Hd} {as us : List Str} (r : ReOk h as us) : (h.re as us).own = us := own_withOwn (by rw [own_withArgs r.la]; exact r.lu)
theorem re_args {h : Hd} {as us : List Str} (r : ReOk h as us) : (h.re as us).args = as := by
  unfold Hd.re
  rw [args_withOwn, args_withArgs r.la]
theorem re_kd {h : Hd} {as us : List Str} (r : ReOk h as us) : (h.re as us).kd = h.kd := by
  cases h with
  | eq x y => obtain ⟨a, b, rfl⟩ := two_of r.la; rfl
  | less x y => obtain ⟨a, b, rfl⟩ := two_of r.la; rfl
  | _ => rfl
theorem re_bound {h : Hd} {as us : List Str} (r : ReOk h as us) : (h.re as us).bound = h.bound := by
  cases h with
  | eq x y => obtain ⟨a, b, rfl⟩ := two_of r.la; rfl
  | less x y => obtain ⟨a, b, rfl⟩ := two_of r.la; rfl
  | lfp n vs bs => show some (n, us.length) = some (n, vs.length); rw [show us.length = vs.length from r.lu]
  | pfp n vs bs => show some (n, us.length) = some (n, vs.length); rw [show us.length = vs.length from r.lu]
  | _ => rfl
theorem re_sgn {h : Hd} {as us : List Str} (r : ReOk h as us) (s : Int) : (h.re as us).sgn s = h.sgn s := by
  cases h with
  | eq x y => obtain ⟨a, b, rfl⟩ := two_of r.la; rfl
  | less x y => obtain ⟨a, b, rfl⟩ := two_of r.la; rfl
  | _ => rfl
theorem re_env {h : Hd} {as us : List Str} (r : ReOk h as us) (Γ : ArE) : (h.re as us).env Γ = h.env Γ := by
  unfold Hd.env
  rw [re_bound r]
theorem re_ok {h : Hd} {as us : List Str} (r : ReOk h as us) {n : Nat} (k : h.Ok n) : (h.re as us).Ok n := by
  have la := r.la
  have lu := r.lu
  cases h with
  | rel m bs => exact ⟨k.1, by rw [show as.length = bs.length from la]; exact k.2.1, r.na, k.2.2.2⟩
  | eq x y => obtain ⟨a, b, rfl⟩ := two_of la; exact ⟨r.na a (List.mem_cons_self ..), r.na b (List.mem_cons_of_mem _ (List.mem_cons_self ..)), k.2.2⟩
  | less x y => obtain ⟨a, b, rfl⟩ := two_of la; exact ⟨r.na a (List.mem_cons_self ..), r.na b (List.mem_cons_of_mem _ (List.mem_cons_self ..)), k.2.2⟩
  | no => exact k
  | con => exact k
  | dis => exact k
  | ex vs => exact ⟨⟨by rw [show us.length = vs.length from lu]; exact k.1.1, by rw [show us.length = vs.length from lu]; exact k.1.2.1, r.nu, r.nd⟩, k.2⟩
  | al vs => exact ⟨⟨by rw [show us.length = vs.length from lu]; exact k.1.1, by rw [show us.length = vs.length from lu]; exact k.1.2.1, r.nu, r.nd⟩, k.2⟩
  | lfp m vs bs => exact ⟨k.1, ⟨by rw [show us.length = vs.length from lu]; exact k.2.1.1, by rw [show us.length = vs.length from lu]; exact k.2.1.2.1, r.nu, r.nd⟩, by rw [show as.length = bs.length from la, show us.length = vs.length from lu]; exact k.2.2.1, r.na, k.2.2.2.2⟩
  | pfp m vs bs => exact ⟨k.1, ⟨by rw [show us.length = vs.length from lu]; exact k.2.1.1, by rw [show us.length = vs.length from lu]; exact k.2.1.2.1, r.nu, r.nd⟩, by rw [show as.length = bs.length from la, show us.length = vs.length from lu]; exact k.2.2.1, r.na, k.2.2.2.2⟩
  | tc vs bs => exact ⟨by rw [show us.length = vs.length from lu]; exact k.1, r.nu, r.nd, by rw [show as.length = bs.length from la, show us.length = vs.length from lu]; exact k.2.2.2.1, r.na, k.2.2.2.2.2⟩
  | gs m j => exact k
theorem re_rel {h : Hd} {as us : List Str} {n : Str} {bs : List Str} (r : ReOk h as us) (e : h = .rel n bs) : h.re as us = .rel n as := by subst e; rfl
theorem re_lfp {h : Hd} {as us : List Str} {n : Str} {vs bs : List Str} (r : ReOk h as us) (e : h.re as us = .lfp n vs bs) : ∃ vs' bs', h = .lfp n vs' bs' := by
  cases h with
  | lfp m xs ys => injection e with e1; subst e1; exact ⟨_, _, rfl⟩
  | eq x y => obtain ⟨a, b, rfl⟩ := two_of r.la; cases e
  | less x y => obtain ⟨a, b, rfl⟩ := two_of r.la; cases e
  | _ => cases e
/-! ### changes -/
def updC (c : Str → Str) : List Str → List Str → Str → Str
  | o :: os, u :: us => updC (fun x => if x = o then u else c x) os us
  | _, _ => c
theorem updC_out {x : Str} : ∀ {os us : List Str} {c : Str → Str}, x ∉ os → updC c os us x = c x
  | [], us, c, _ => by cases us <;> rfl
  | o :: os, [], c, _ => rfl
  | o :: os, u :: us, c, h => by
    show updC (fun x => if x = o then u else c x) os us x = c x
    rw [updC_out fun z => h (List.mem_cons_of_mem _ z)]
    show (if x = o then u else c x) = c x
    rw [if_neg fun e => h (by rw [e]; exact List.mem_cons_self ..)]
theorem updC_in {x : Str} : ∀ {os us : List Str} {c : Str → Str}, us.length = os.length → x ∈ os → updC c os us x ∈ us
  | [], us, c, _, h => nomatch h
  | o :: os, [], c, l, h => by cases l
  | o :: os, u :: us, c, l, h => by
    show updC (fun x => if x = o then u else c x) os us x ∈ u :: us
    by_cases m : x ∈ os
    · exact List.mem_cons_of_mem _ (updC_in (Nat.succ.inj l) m)
    · rw [updC_out m]
      have e : x = o := (List.mem_cons.mp h).resolve_right m
      show (if x = o then u else c x) ∈ u :: us
      rw [if_pos e]
      exact List.mem_cons_self ..
theorem updC_snoc {c : Str → Str} {o u : Str} : ∀ {os us : List Str}, us.length = os.length → updC c (os ++ [o]) (us ++ [u]) = fun x => if x = o then u else updC c os us x
  | [], us, l => by rw [List.length_eq_zero_iff.mp l]; rfl
  | a :: os, [], l => by cases l
  | a :: os, b :: us, l => by
    show updC (fun x => if x = a then b else c x) (os ++ [o]) (us ++ [u]) = _
    rw [updC_snoc (Nat.succ.inj l)]
    rfl
/-- g is f with other bound variables and, for its free ones, what c says -/
inductive Sm : (Str → Str) → Fm → Fm → Prop
  | mk {c : Str → Str} {h : Hd} {ps qs : List Fm} {us : List Str} (r : ReOk h (h.args.map c) us) (fr : ∀ x, x ∈ (Fm.mk h ps).frees → c x ∉ us) (l : qs.length = ps.length)
      (p : ∀ (i : Nat) (a b : Fm), ps[i]? = some a → qs[i]? = some b → Sm (updC c h.own us) a b) : Sm c (.mk h ps) (.mk (h.re (h.args.map c) us) qs)
theorem map_two {α β : Type} {F : α → β} {ps qs : List α} (l : qs.length = ps.length) (h : ∀ (i : Nat) (a b : α), ps[i]? = some a → qs[i]? = some b → F b = F a) : qs.map F = ps.map F := by
  apply List.ext_getElem?
  intro i
  rw [List.getElem?_map, List.getElem?_map]
  by_cases hi : i < ps.length
  · rw [List.getElem?_eq_getElem hi, List.getElem?_eq_getElem (show i < qs.length by omega)]
    exact congrArg some (h i _ _ (List.getElem?_eq_getElem hi) (List.getElem?_eq_getElem (by omega)))
  · rw [List.getElem?_eq_none (by omega), List.getElem?_eq_none (by omega)]
theorem other {α : Type} {ps qs : List α} (l : qs.length = ps.length) {q : α} (hq : q ∈ qs) : ∃ (i : Nat) (p : α), ps[i]? = some p ∧ qs[i]? = some q ∧ p ∈ ps := by
  obtain ⟨i, hi, e⟩ := List.mem_iff_getElem.mp hq
  exact ⟨i, ps[i], List.getElem?_eq_getElem (by omega), by rw [← e]; exact List.getElem?_eq_getElem hi, List.getElem_mem _⟩
theorem other' {α : Type} {ps qs : List α} (l : qs.length = ps.length) {p : α} (hp : p ∈ ps) : ∃ (i : Nat) (q : α), ps[i]? = some p ∧ qs[i]? = some q ∧ q ∈ qs := by
  obtain ⟨i, hi, e⟩ := List.mem_iff_getElem.mp hp
  exact ⟨i, qs[i], by rw [← e]; exact List.getElem?_eq_getElem hi, List.getElem?_eq_getElem (by omega), List.getElem_mem _⟩
theorem Sm.sizes {c : Str → Str} {f g : Fm} (s : Sm c f g) : g.dep = f.dep ∧ g.cnt = f.cnt := by
  induction s with
  | mk r fr l p ih =>
    rw [Fm.dep_mk, Fm.dep_mk, Fm.cnt_mk, Fm.cnt_mk, map_two l fun i a b ha hb => (ih i a b ha hb).1, map_two l fun i a b ha hb => (ih i a b ha hb).2]
    exact ⟨rfl, rfl⟩
theorem Sm.ok {c : Str → Str} {f g : Fm} (s : Sm c f g) : f.Ok → g.Ok := by
  induction s with
  | mk r fr l p ih =>
    intro k
    refine .mk (by rw [l]; exact re_ok r k.hd_) fun q hq => ?_
    obtain ⟨i, a, ha, hb, m⟩ := other l hq
    exact ih i a q ha hb (k.part m)
theorem Sm.typed {c : Str → Str} {f g : Fm} (s : Sm c f g) : ∀ Γ, f.Typed Γ → g.Typed Γ := by
  induction s with
  | @mk c h ps qs us r fr l p ih =>
    intro Γ t
    by_cases nr : h.kd = .rel
    · cases h with
      | rel n bs =>
        have z := re_rel r rfl
        rw [z]
        cases t with
        | rel e => exact .rel (by rw [List.length_map]; exact e)
        | other n _ => exact absurd rfl n
      | _ => cases nr
    · refine .other (by rw [re_kd r]; exact nr) fun q hq => ?_
      obtain ⟨i, a, ha, hb, m⟩ := other l hq
      rw [re_env r]
      exact ih i a q ha hb _ (t.part nr m)
theorem Sm.pos {c : Str → Str} {f g : Fm} (s : Sm c f g) : ∀ x t, g.pos x t = f.pos x t := by
  induction s with
  | @mk c h ps qs us r fr l p ih =>
    intro x t
    by_cases nr : h.kd = .rel
    · cases h with
      | rel n bs => rw [re_rel r rfl, Fm.pos_rel, Fm.pos_rel]
      | _ => cases nr
    · have eb : (h.re (h.args.map c) us).bname = h.bname := by unfold Hd.bname; rw [re_bound r]
      rw [Fm.pos_other (by rw [re_kd r]; exact nr), Fm.pos_other nr, eb, re_sgn r]
      have e : (qs.map fun q => q.pos x (h.sgn t)) = ps.map fun q => q.pos x (h.sgn t) := map_two l fun i a b ha hb => ih i a b ha hb _ _
      have a1 : (qs.all fun q => q.pos x (h.sgn t)) = (ps.all fun q => q.pos x (h.sgn t)) := by
        have := congrArg (fun z : List Bool => z.all id) e
        simpa [List.all_map] using this
      rw [a1]
theorem Sm.posok {c : Str → Str} {f g : Fm} (s : Sm c f g) : f.PosOk → g.PosOk := by
  induction s with
  | @mk c h ps qs us r fr l p ih =>
    intro k
    refine .mk (fun n vs bs e q hq => ?_) fun q hq => ?_
    · obtain ⟨i, a, ha, hb, m⟩ := other l hq
      obtain ⟨vs', bs', rfl⟩ := re_lfp r e
      rw [(p i a q ha hb).pos]
      exact k.here m
    · obtain ⟨i, a, ha, hb, m⟩ := other l hq
      exact ih i a q ha hb (k.part m)
theorem Sm.wf {c : Str → Str} {f g : Fm} (s : Sm c f g) (w : f.Wf) : g.Wf := by
  obtain ⟨Γ, t⟩ := w.ty
  exact ⟨s.ok w.ok, by rw [s.sizes.1]; exact w.dep, by rw [s.sizes.2]; exact w.cnt, s.posok w.pos, Γ, s.typed Γ t⟩
theorem Sm.frees {c : Str → Str} {f g : Fm} (s : Sm c f g) : ∀ y, y ∈ g.frees ↔ ∃ x, x ∈ f.frees ∧ y = c x := by
  induction s with
  | @mk c h ps qs us r fr l p ih =>
    intro y
    rw [Fm.frees_mem, re_own r, re_args r]
    constructor
    · rintro (⟨q, hq, hy, hu⟩ | ha)
      · obtain ⟨i, a, ha, hb, m⟩ := other l hq
        obtain ⟨x, hx, rfl⟩ := (ih i a q ha hb y).mp hy
        by_cases o : x ∈ h.own
        · exact absurd (updC_in r.lu o) hu
        · rw [updC_out o]
          exact ⟨x, Fm.frees_mem.mpr (.inl ⟨a, m, hx, o⟩), rfl⟩
      · obtain ⟨x, hx, rfl⟩ := List.mem_map.mp ha
        exact ⟨x, Fm.frees_mem.mpr (.inr hx), rfl⟩
    · rintro ⟨x, hx, rfl⟩
      have nu := fr x hx
      rcases Fm.frees_mem.mp hx with ⟨a, m, hx2, o⟩ | hx2
      · obtain ⟨i, q, ha, hb, mq⟩ := other' l m
        exact .inl ⟨q, mq, (ih i a q ha hb (c x)).mpr ⟨x, hx2, (updC_out o).symm⟩, nu⟩
      · exact .inr (List.mem_map.mpr ⟨x, hx2, rfl⟩)
/-- all bound variables, as they stand -/
def Fm.allB : Fm → List Str := Fm.fold fun h xs => h.own ++ xs.flatten
theorem Fm.allB_mk (h : Hd) (ps : List Fm) : (Fm.mk h ps).allB = h.own ++ (ps.map Fm.allB).flatten := Fm.fold_mk _ h ps
/-! ### names that are made -/
def vN (k : Nat) : Str := "v" ++ (toString ((k : Nat) : Int) : Str)
theorem vN_cps (k : Nat) : (vN k).cps.toList = 118 :: (Nat.toDigits 10 k).map Char.toNat := by
  have e : (vN k).cps.toList = ("v" : Str).cps.toList ++ (PySem.Str.ofString (toString ((k : Nat) : Int))).cps.toList := Array.toList_append
  rw [e, PySem.W.KIN.signs_num]
  rfl
theorem vN_inj {k m : Nat} (e : vN k = vN m) : k = m := by
  have z := congrArg (fun s : Str => s.cps.toList) e
  simp only [vN_cps] at z
  injection z with _ z
  have y := congrArg PySem.NumText.digitsVal z
  rw [PySem.W.KIN.val_back, PySem.W.KIN.val_back] at y
  exact y
/-! ### made names are names -/
theorem vN_nm {k : Nat} (h : k < 10 ^ 11) : Nm (vN k) := by
  have len : (vN k).length = 1 + (Nat.toDigits 10 k).length := by
    have e : (vN k).length = (vN k).cps.toList.length := Array.length_toList.symm
    rw [e, vN_cps, List.length_cons, List.length_map]
    omega
  have dl := PyProof.Rows.digits10_le (k := 11) (n := k) (by decide) h
  refine ⟨by omega, by omega, fun c hc => ?_, ?_, fun c hc => ?_⟩
  · rw [vN_cps] at hc
    cases hc
    decide +kernel
  · have b : (resv.all fun v => match v with | .str z => !decide (z.cps.toList[0]? = some 118) | _ => true) = true := by decide +kernel
    cases hv : inV (.str (vN k)) resv with
    | false => rfl
    | true =>
      unfold inV at hv
      obtain ⟨v, hm, he⟩ := List.any_eq_true.mp hv
      have z := List.all_eq_true.mp b v hm
      cases v with
      | str y =>
        have e : y = vN k := by
          first
            | exact eq_of_beq he
            | exact (of_decide_eq_true he)
            | (have := he; simp at this; first | exact this | exact this.symm)
        subst e
        have z2 : (!decide ((vN k).cps.toList[0]? = some 118)) = true := z
        rw [vN_cps] at z2
        simp at z2
      | _ => first | cases he | (simp at he)
  · rw [vN_cps] at hc
    rcases List.mem_cons.mp hc with rfl | hc
    · decide +kernel
    · obtain ⟨ch, hch, rfl⟩ := List.mem_map.mp hc
      have r := PyProof.Rows.digit_range (Nat.isDigit_of_mem_toDigits (by decide) (by decide) hch)
      have all : ∀ d : Nat, 48 ≤ d → d ≤ 57 → d ∈ both.cps.toList := by
        intro d h1 h2
        have b : ((List.range 10).all fun i => decide ((48 + i) ∈ both.cps.toList)) = true := by decide +kernel
        have z := List.all_eq_true.mp b (d - 48) (List.mem_range.mpr (by omega))
        have e : 48 + (d - 48) = d := by omega
        rw [e] at z
        exact of_decide_eq_true z
      exact all _ r.1 r.2
theorem least_of (p : Nat → Prop) : ∀ (n made : Nat), (∃ j, made < j ∧ j ≤ made + n ∧ p j) → ∃ j, made < j ∧ j ≤ made + n ∧ p j ∧ ∀ i, made < i → i < j → ¬ p i
  | 0, made, ⟨j, a, b, _⟩ => absurd b (by omega)
  | n + 1, made, ⟨j, a, b, c⟩ => by
    by_cases h : p (made + 1)
    · exact ⟨made + 1, by omega, by omega, h, fun i a b => absurd b (by omega)⟩
    · have ne : j ≠ made + 1 := fun e => h (e ▸ c)
      obtain ⟨k, k1, k2, k3, k4⟩ := least_of p n (made + 1) ⟨j, by omega, by omega, c⟩
      refine ⟨k, by omega, by omega, k3, fun i i1 i2 => ?_⟩
      by_cases e : i = made + 1
      · rw [e]; exact h
      · exact k4 i (by omega) i2
/-- the next name that is made: j, and none before it -/
theorem next_made (used known : List Str) (made : Nat) : ∃ j, made < j ∧ j ≤ made + (used.length + known.length + 1) ∧ (vN j ∉ used ∧ vN j ∉ known) ∧ ∀ i, made < i → i < j → ¬ (vN i ∉ used ∧ vN i ∉ known) := by
  refine least_of (fun j => vN j ∉ used ∧ vN j ∉ known) _ made ?_
  by_cases h : ∃ j, made < j ∧ j ≤ made + (used.length + known.length + 1) ∧ vN j ∉ used ∧ vN j ∉ known
  · exact h
  · have all : ∀ i, i < used.length + known.length + 1 → vN (made + 1 + i) ∈ used ++ known := fun i hi => by
      by_cases c : vN (made + 1 + i) ∈ used
      · exact List.mem_append_left _ c
      · by_cases c2 : vN (made + 1 + i) ∈ known
        · exact List.mem_append_right _ c2
        · exact absurd ⟨made + 1 + i, by omega, by omega, c, c2⟩ h
    have nd : ((List.range (used.length + known.length + 1)).map fun i => vN (made + 1 + i)).Nodup :=
      List.pairwise_map.mpr (List.Pairwise.imp (fun {a b} (hab : a < b) e => by have := vN_inj e; omega) List.pairwise_lt_range)
    have z := sub_len _ (used ++ known) nd fun x hx => by
      obtain ⟨i, hi, rfl⟩ := List.mem_map.mp hx
      exact all i (List.mem_range.mp hi)
    rw [List.length_map, List.length_range, List.length_append] at z
    omega
/-! ### a source of names -/
structure Src where
  used : List Str
  known : List Str
  made : Nat
def Src.Tk (S : Src) (z : Str) : Prop := z ∈ S.used ∨ ∃ k, 1 ≤ k ∧ k ≤ S.made ∧ z = vN k ∧ z ∉ S.known
structure Src.Bd (S : Src) (t : Nat) : Prop where
  nd : S.used.Nodup
  lu : S.used.length ≤ t
  lk : S.known.length ≤ 20000
  lm : S.made ≤ 50000 * t
/-- what is given out instead of a known name -/
structure Gv (S : Src) (u : Str) (S' : Src) : Prop where
  nm : Nm u
  new : ¬ S.Tk u
  tk : ∀ z, S'.Tk z ↔ S.Tk z ∨ z = u
  kn : S'.known = S.known
  bd : ∀ t, S.Bd t → t < 20000 → S'.Bd (t + 1)
theorem gv_same {S : Src} {u : Str} {m : List Str} (hu : u ∉ S.used) (hk : u ∈ S.known) (nm : Nm u) (nd : S.used.Nodup → m.Nodup) (mm : ∀ y, y ∈ m ↔ y ∈ S.used ∨ y = u) (lm : m.length ≤ S.used.length + 1) : Gv S u ⟨m, S.known, S.made⟩ := by
  refine ⟨nm, fun t => ?_, fun z => ?_, rfl, fun t b _ => ⟨nd b.nd, by have := b.lu; show m.length ≤ t + 1; omega, b.lk, by have := b.lm; show S.made ≤ _; omega⟩⟩
  · rcases t with h | ⟨k, _, _, _, h⟩
    · exact hu h
    · exact h hk
  · show (z ∈ m ∨ _) ↔ (z ∈ S.used ∨ _) ∨ _
    rw [mm]
    constructor
    · rintro ((h | h) | h)
      · exact .inl (.inl h)
      · exact .inr h
      · exact .inl (.inr h)
    · rintro ((h | h) | h)
      · exact .inl (.inl h)
      · exact .inr h
      · exact .inl (.inr h)
theorem gv_made {S : Src} {j : Nat} {b : Nat} (h1 : S.made < j) (h2 : j ≤ S.made + (S.used.length + S.known.length + 1)) (hu : vN j ∉ S.used) (hk : vN j ∉ S.known) (mid : ∀ i, S.made < i → i < j → ¬ (vN i ∉ S.used ∧ vN i ∉ S.known)) (sub : ∀ i, vN i ∈ S.used → vN i ∉ S.known → False)
    (bd : S.Bd b) (hb : b ≤ 20000) : Gv S (vN j) ⟨S.used, S.known, j⟩ := by
  have lu := bd.lu
  have lk := bd.lk
  have lm := bd.lm
  refine ⟨vN_nm (by omega), fun t => ?_, fun z => ?_, rfl, fun t b _ => ⟨b.nd, by have := b.lu; show S.used.length ≤ t + 1; omega, b.lk, by have := b.lm; have := b.lu; have := b.lk; show j ≤ _; omega⟩⟩
  · rcases t with h | ⟨k, _, k2, e, _⟩
    · exact hu h
    · have := vN_inj e
      omega
  · show (z ∈ S.used ∨ ∃ k, 1 ≤ k ∧ k ≤ j ∧ z = vN k ∧ z ∉ S.known) ↔ (z ∈ S.used ∨ _) ∨ _
    constructor
    · rintro (h | ⟨k, a, c, e, n⟩)
      · exact .inl (.inl h)
      · by_cases e1 : k ≤ S.made
        · exact .inl (.inr ⟨k, a, e1, e, n⟩)
        · by_cases e2 : k = j
          · rw [e2] at e; exact .inr e
          · exfalso
            have nu : vN k ∉ S.used := fun hm => sub k hm (e ▸ n)
            exact mid k (by omega) (by omega) ⟨nu, e ▸ n⟩
    · rintro ((h | ⟨k, a, c, e, n⟩) | e)
      · exact .inl h
      · exact .inr ⟨k, a, by omega, e, n⟩
      · exact .inr ⟨j, by omega, Nat.le_refl _, e, e ▸ hk⟩
/-! ### the class Names -/
theorem dc_it {J : It} {n : Nat} {G : Hp → Prop} {Y : Nat → Hp → V → Hp → Prop} (wk : Walk J n G Y) {g : TG} {tt : TT} {tk tv : TE}
    {vs : List Nat} {σ : L2.St} {H1 : Hp} {D : Addr} {Qd : Hp → Prop}
    (Pv : Nat → Hp → Prop) (h0 : Pv 0 (upd H1 D (.dK []))) (hG : ∀ i H, i ≤ n → Pv i H → G H)
    (hs : ∀ i x H H', i < n → Pv i H → Y i H x H' → g x (wipe σ vs) H' fun a A => wipe a vs = wipe σ vs ∧ tt a A fun b B =>
      if b = true then tk a B fun y C => tv a C fun z F => ∃ kvs k, y = kV k ∧ F D = some (.dK kvs) ∧ kvs.length < sizeLine ∧ Pv (i + 1) (upd F D (.dK (putK kvs k z)))
      else Pv (i + 1) B)
    (hd : ∀ H, Pv n H → Qd H) :
    ∃ U : Nat → Nat → Hp → Prop, (∃ m, U 0 m (upd H1 D (.dK []))) ∧ ∀ i m H, U i m H → (J.stop i H ∧ Qd H) ∨
      (J.go i H ∧ ∃ Nx : Hp → Prop, (∀ H', Nx H' → ∃ m', m' < m ∧ U (i + 1) m' H') ∧
        ∀ x H', J.yld i H x H' → g x (wipe σ vs) H' fun a A => wipe a vs = wipe σ vs ∧ tt a A fun b B =>
          if b = true then tk a B fun y C => tv a C fun z F => ∃ kvs k, y = kV k ∧ F D = some (.dK kvs) ∧ kvs.length < sizeLine ∧ Nx (upd F D (.dK (putK kvs k z)))
          else Nx B) := by
  refine ⟨fun i m H => m = n - i ∧ i ≤ n ∧ Pv i H, ⟨n, by simp, Nat.zero_le _, h0⟩, ?_⟩
  rintro i m H ⟨rfl, hi, p⟩
  have q := hG i H hi p
  by_cases lt : i < n
  · exact .inr ⟨wk.goes i H lt q, Pv (i + 1), fun H' p' => ⟨n - (i + 1), by omega, rfl, lt, p'⟩, fun x H' y => hs i x H H' lt p (wk.yields i H x H' lt q y)⟩
  · have e : i = n := by omega
    subst e
    exact .inl ⟨wk.stops H q, hd H p⟩
/-- a method as the top leaves it -/
def DefM (K : PySem.W.Frag) (c m q : Str) (ps : List Str) (st : Stmt) : Prop := ∃ f fd, FunD K m q (defArgs st) (defBody st) (defScope st) [] [] f fd ∧ Meth K (He.ga K c) m f ∧ Binds K fd ps []
def HasM (P : Program) (w : World) (K : PySem.W.Frag) (mg : Str → Option Value) (base : Heap) (k : Nat) (c m : Str) (ps : List Str) (sp : Sp) : Prop :=
  ∃ f fd, FnOk P w K mg base CX0 k f fd ps sp ∧ Meth K (He.ga K c) m f ∧ Binds K fd ps []
theorem DefM.has {P : Program} {w : World} {K : PySem.W.Frag} {mg : Str → Option Value} {base : Heap} {c m q : Str} {ps : List Str} {st : Stmt} {k : Nat} {sp : Sp} (D : DefM K c m q ps st)
    (h : ∀ f fd, FunD K m q (defArgs st) (defBody st) (defScope st) [] [] f fd → FnOk P w K mg base CX0 k f fd ps sp) : HasM P w K mg base k c m ps sp := by
  obtain ⟨f, fd, F, g, b⟩ := D
  exact ⟨f, fd, h f fd F, g, b⟩
structure NdC (K : PySem.W.Frag) : Prop where
  cls : Cls K (He.ga K "Names")
  nu : NoAttr K (He.ga K "Names") "used"
  nk : NoAttr K (He.ga K "Names") "known"
  nm : NoAttr K (He.ga K "Names") "made"
def srF (du dk : Addr) (j : Int) : List (Str × V) := [("used", .ref du), ("known", .ref dk), ("made", .int j)]
/-- a source at s, its two dicts at du and dk -/
structure SrR (K : PySem.W.Frag) (H : Hp) (s du dk : Addr) (S : Src) : Prop where
  obj : ∃ dx, H s = some (.ins (He.ga K "Names") dx (srF du dk (S.made : Nat)))
  used : H du = some (.dK (S.used.map encT))
  known : H dk = some (.dK (S.known.map encT))
  ne : du ≠ dk
/-- all but the source and its dict stays -/
def Ks (s du : Addr) (H H' : Hp) : Prop := ∀ b o, H b = some o → b ≠ s → b ≠ du → H' b = some o
theorem Ks.refl (s du : Addr) (H : Hp) : Ks s du H H := fun _ _ e _ _ => e
theorem Ks.of {s du : Addr} {H H' : Hp} (k : Same H H') : Ks s du H H' := fun b o e _ _ => k b o e
theorem Ks.trans {s du : Addr} {H H1 H2 : Hp} (a : Ks s du H H1) (b : Ks s du H1 H2) : Ks s du H H2 := fun c o e n m => b c o (a c o e n m) n m
/-- all but instances and dicts stays -/
def Kj (H H' : Hp) : Prop := ∀ b o, H b = some o → (∀ C dx fs, o ≠ .ins C dx fs) → (∀ kvs, o ≠ .dK kvs) → H' b = some o
section
variable {K : PySem.W.Frag} {H H' : Hp}
theorem SrR.kj {s du dk : Addr} {S : Src} (r : SrR K H s du dk S) (k : Ks s du H H') : Kj H H' := fun b o e n m => by
  obtain ⟨dx, h1⟩ := r.obj
  exact k b o e (fun z => by rw [z, h1] at e; cases e; exact n _ _ _ rfl) fun z => by rw [z, r.used] at e; cases e; exact m _ rfl
theorem SrR.same {s du dk : Addr} {S : Src} (r : SrR K H s du dk S) (k : Same H H') : SrR K H' s du dk S := by
  obtain ⟨dx, h1⟩ := r.obj
  exact ⟨⟨dx, k _ _ h1⟩, k _ _ r.used, k _ _ r.known, r.ne⟩
theorem SqT.kj {a : Addr} {xs : List V} (k : Kj H H') (h : SqT K H a xs) : SqT K H' a xs := by
  rcases h with (h | ⟨o, h⟩) | h
  · exact .inl (.inl (k _ _ h (fun _ _ _ z => nomatch z) (fun _ z => nomatch z)))
  · exact .inl (.inr ⟨o, k _ _ h (fun _ _ _ z => nomatch z) (fun _ z => nomatch z)⟩)
  · exact .inr h
theorem SqL.kj {a : Addr} {xs : List V} (k : Kj H H') (h : SqL K H a xs) : SqL K H' a xs := by
  rcases h with (h | ⟨o, h⟩) | h
  · exact .inl (.inl (k _ _ h (fun _ _ _ z => nomatch z) (fun _ z => nomatch z)))
  · exact .inl (.inr ⟨o, k _ _ h (fun _ _ _ z => nomatch z) (fun _ z => nomatch z)⟩)
  · exact .inr h
mutual
theorem Dp.kj (k : Kj H H') : ∀ {v : V} {t : PyData}, Dp K H v t → Dp K H' v t
  | _, _, .non => .non
  | _, _, .bl b => .bl b
  | _, _, .int i => .int i
  | _, _, .str x => .str x
  | _, _, .lst h t => .lst (SqL.kj k h) (DpAll.kj k t)
  | _, _, .tup h t => .tup (SqT.kj k h) (DpAll.kj k t)
theorem DpAll.kj (k : Kj H H') : ∀ {vs : List V} {ts : List PyData}, DpAll K H vs ts → DpAll K H' vs ts
  | _, _, .nil => .nil
  | _, _, .cons h t => .cons (Dp.kj k h) (DpAll.kj k t)
end
end
/-- what the source does with one known name -/
def spInstead (K : PySem.W.Frag) : Sp := fun vs H Q _ => ∃ (s du dk : Addr) (S : Src) (u : Str) (t : Nat), vs = [.ref s, .str u] ∧ SrR K H s du dk S ∧ S.Bd t ∧ t < 20000 ∧ Nm u ∧ u ∈ S.known ∧ (∀ x, x ∈ S.used → x ∈ S.known) ∧
  ∀ (H' : Hp) (S' : Src) (r : Str), SrR K H' s du dk S' → Ks s du H H' → Gv S r S' → (∀ x, x ∈ S'.used → x ∈ S'.known) → Q (.str r) H'
def spFresh (K : PySem.W.Frag) : Sp := fun vs H Q _ => ∃ (s du dk : Addr) (S : Src) (t : Nat), vs = [.ref s] ∧ SrR K H s du dk S ∧ S.Bd t ∧ t < 20000 ∧ (∀ x, x ∈ S.used → x ∈ S.known) ∧
  ∀ (H' : Hp) (S' : Src) (r : Str), SrR K H' s du dk S' → Ks s du H H' → Gv S r S' → (∀ x, x ∈ S'.used → x ∈ S'.known) → Q (.str r) H'
def spSrcInit (K : PySem.W.Frag) : Sp := fun vs H Q _ => ∃ (s dx a e : Addr) (bs ks : List Str), vs = [.ref s, .ref a, .ref e] ∧ H s = some (.ins (He.ga K "Names") dx []) ∧ SqL K H a (bs.map V.str) ∧ H e = some (.dK (ks.map encT)) ∧ bs.Nodup ∧ ks.Nodup ∧ bs.length ≤ 20000 ∧ ks.length ≤ 20000 ∧
  ∀ (H' : Hp) (du dk : Addr) (S : Src), SrR K H' s du dk S → (∀ b o, H b = some o → b ≠ s → b ≠ e → H' b = some o) → H du = none → S.used.Nodup → S.used.length ≤ bs.length → (∀ x, x ∈ S.used ↔ x ∈ bs) → S.known.length ≤ ks.length → (∀ x, x ∈ S.known ↔ x ∈ ks) → S.made = 0 → Q .non H'
theorem small20 {n : Nat} (h : n ≤ 20000) : n < sizeLine := Nat.lt_of_le_of_lt h (by show 20000 < sizeLine; decide)
section
variable {P : Program} {w : World} {K : PySem.W.Frag} {mg : Str → Option Value} {base : Heap}
theorem sc_n_init : FnScope ["self", "barred", "known", "name"] ["self", "barred", "known"] (defScope (inClass (top 60) 0)) := ⟨rfl, rfl, rfl, by decide +kernel, rfl, by decide +kernel, by decide +kernel⟩
theorem has_n_init (D : DefM K "Names" "__init__" "Names.__init__" ["self", "barred", "known"] (inClass (top 60) 0)) (ND : NdC K) : HasM P w K mg base 1 "Names" "__init__" ["self", "barred", "known"] (spSrcInit K) := D.has fun f fd F => by
  refine F.ok sc_n_init (fun vs H Q E h => ?_) (fun cdv A outer s H vs Q E hr h => ?_)
  · obtain ⟨s, dx, a, e, bs, ks, rfl, _⟩ := h; rfl
  · obtain ⟨s, dx, a, e, bs, ks, rfl, h1, hA, hE, ndb, ndk, lb, lk, q⟩ := h
    refine ⟨_, PSs.nox (pss_cons (ps_fld (pv 0) (pe_dc rfl sc_n_init.nd (pi_list (pv 1)) (own := [("name", 3)]) (blkOk_by (N := ["self", "barred", "known", "name"]) (sc := defScope (inClass (top 60) 0)) (by decide +kernel)) (fun _ _ _ _ _ => (pg_name (i := 3) sc_n_init.nd rfl (Or.inl rfl))) (fun _ _ _ _ _ => pts_nil) (fun _ _ _ _ _ => (pv 3)) (fun _ _ _ _ _ => pe_bl)) rfl) (pss_cons (ps_fld (pv 0) (pe_dc rfl sc_n_init.nd (pi_keys (pe_frz (pv 2))) (own := [("name", 3)]) (blkOk_by (N := ["self", "barred", "known", "name"]) (sc := defScope (inClass (top 60) 0)) (by decide +kernel)) (fun _ _ _ _ _ => (pg_name (i := 3) sc_n_init.nd rfl (Or.inl rfl))) (fun _ _ _ _ _ => pts_nil) (fun _ _ _ _ _ => (pv 3)) (fun _ _ _ _ _ => pe_bl)) rfl) (pss_one (ps_fld (pv 0) pe_int rfl)))), ?_⟩
    refine ⟨_, rfl, a, rfl, ⟨_, hA⟩, fun c nc => ?_⟩
    have nes : e ≠ s := fun z => by rw [z, h1] at hE; cases hE
    refine dc_it (walk_list (K := K) (a := a) (xs := bs.map V.str)) (fun i H2 => Same H H2 ∧ ∃ l : List Str, H2 c = some (.dK (l.map encT)) ∧ l.Nodup ∧ (∀ x, x ∈ l ↔ x ∈ bs.take i) ∧ l.length ≤ i) ⟨same_upd nc, [], upd_same, List.nodup_nil, fun x => by simp, Nat.le_refl _⟩ (fun i H2 _ ⟨s2, _⟩ => s2.seq hA) ?_ ?_
    · rintro i z H2 H3 hi ⟨s2, l, hc2, nd, ml, ll⟩ ⟨rfl, hz⟩
      obtain ⟨x, hx, rfl⟩ := get_map hz
      rw [List.length_map] at hi
      obtain ⟨m, em, ndm, mm, lm⟩ := put_encT (l := l) (x := x)
      refine ⟨rfl, _, rfl, _, Sum.inr x, rfl, hc2, by rw [List.length_map]; exact small20 (by omega), fun b o eb => ?_, m, by rw [upd_same, em], ndm nd, fun y => ?_, by omega⟩
      · rw [upd_ne (ne_of_none eb nc)]
        exact s2 _ _ eb
      · rw [mm, ml, List.take_add_one, hx, List.mem_append]
        simp
    · rintro H2 ⟨s2, us, hc2, nd2, ml2, ll2⟩
      rw [List.length_map] at ll2 ml2
      rw [List.take_length] at ml2
      have ncs : c ≠ s := fun z => by rw [z, h1] at nc; cases nc
      have nce : c ≠ e := fun z => by rw [z, hE] at nc; cases nc
      refine ⟨_, rfl, s, _, dx, _, rfl, s2 _ _ h1, ND.cls, ND.nu, (by show 0 < 1000; decide), ?_⟩
      refine ⟨_, rfl, e, .dK (ks.map encT), (by rw [upd_ne nes]; exact s2 _ _ hE), trivial, fun od => ?_⟩
      obtain ⟨H4, e4⟩ : ∃ H4, H4 = upd (upd H2 s (.ins (He.ga K "Names") dx (putF "used" (.ref c) []))) e (.frz od (.dK (ks.map encT))) := ⟨_, rfl⟩
      have hs4 : H4 s = some (.ins (He.ga K "Names") dx [("used", .ref c)]) := by rw [e4, upd_ne nes.symm, upd_same]; rfl
      have hc4 : H4 c = some (.dK (us.map encT)) := by rw [e4, upd_ne nce, upd_ne ncs]; exact hc2
      have he4 : H4 e = some (.frz od (.dK (ks.map encT))) := by rw [e4, upd_same]
      have keep4 : ∀ b o, H b = some o → b ≠ s → b ≠ e → H4 b = some o := fun b o eb n1 n2 => by rw [e4, upd_ne n2, upd_ne n1]; exact s2 _ _ eb
      rw [← e4]
      clear e4 s2 hc2
      refine ⟨e, od, rfl, .inl ⟨_, he4, fun c2 nc2 => ?_⟩⟩
      have n2s : c2 ≠ s := fun z => by rw [z, hs4] at nc2; cases nc2
      have n2c : c2 ≠ c := fun z => by rw [z, hc4] at nc2; cases nc2
      refine dc_it walk_keys (fun i H5 => Same H4 H5 ∧ ∃ l : List Str, H5 c2 = some (.dK (l.map encT)) ∧ l.Nodup ∧ (∀ x, x ∈ l ↔ x ∈ ks.take i) ∧ l.length ≤ i) ⟨same_upd nc2, [], upd_same, List.nodup_nil, fun x => by simp, Nat.le_refl _⟩ (fun i H5 _ ⟨s5, _⟩ => s5 _ _ he4) ?_ ?_
      · rintro i z H5 H6 hi ⟨s5, l, hc5, nd, ml, ll⟩ ⟨rfl, kk, vv, hkv, rfl⟩
        obtain ⟨x, hx, ep⟩ := get_map hkv
        have ek : kk = Sum.inr x := congrArg Prod.fst ep
        subst ek
        rw [List.length_map] at hi
        obtain ⟨m, em, ndm, mm, lm⟩ := put_encT (l := l) (x := x)
        refine ⟨rfl, _, rfl, _, Sum.inr x, rfl, hc5, by rw [List.length_map]; exact small20 (by omega), fun b o eb => ?_, m, by rw [upd_same, em], ndm nd, fun y => ?_, by omega⟩
        · rw [upd_ne (ne_of_none eb nc2)]
          exact s5 _ _ eb
        · rw [mm, ml, List.take_add_one, hx, List.mem_append]
          simp
      · rintro H5 ⟨s5, kl, hc5, nd5, ml5, ll5⟩
        rw [List.length_map] at ll5 ml5
        rw [List.take_length] at ml5
        refine ⟨_, rfl, s, _, dx, _, rfl, s5 _ _ hs4, ND.cls, ND.nk, (by show 1 < 1000; decide), ?_⟩
        refine ⟨_, rfl, s, _, dx, _, rfl, upd_same, ND.cls, ND.nm, (by show 2 < 1000; decide), ?_⟩
        have fin : ∀ b o, b ≠ s → H5 b = some o → (upd (upd H5 s (.ins (He.ga K "Names") dx (putF "known" (.ref c2) [("used", .ref c)]))) s (.ins (He.ga K "Names") dx (putF "made" (.int 0) (putF "known" (.ref c2) [("used", .ref c)])))) b = some o := fun b o n e => by
          rw [upd_ne n, upd_ne n]
          exact e
        exact q _ c c2 ⟨us, kl, 0⟩ ⟨⟨dx, by rw [upd_same]; rfl⟩, fin _ _ ncs (s5 _ _ hc4), fin _ _ n2s hc5, n2c.symm⟩ (fun b o eb n1 n2 => fin _ _ n1 (s5 _ _ (keep4 b o eb n1 n2))) nc nd2 ll2 ml2 ll5 ml5 rfl
theorem upd_twice {H : Hp} {a : Addr} {o o' : HO} : upd (upd H a o) a o' = upd H a o' := by
  funext b
  by_cases e : b = a
  · rw [e, upd_same, upd_same]
  · rw [upd_ne e, upd_ne e, upd_ne e]
theorem sc_n_fresh : FnScope ["self", "name"] ["self"] (defScope (inClass (top 60) 1)) := ⟨rfl, rfl, rfl, by decide +kernel, rfl, by decide +kernel, by decide +kernel⟩
theorem has_n_fresh (D : DefM K "Names" "fresh" "Names.fresh" ["self"] (inClass (top 60) 1)) (ND : NdC K) : HasM P w K mg base 1 "Names" "fresh" ["self"] (spFresh K) := D.has fun f fd F => by
  refine F.ok sc_n_fresh (fun vs H Q E h => ?_) (fun cdv A outer s H vs Q E hr h => ?_)
  · obtain ⟨s, du, dk, S, t, rfl, _⟩ := h; rfl
  · obtain ⟨s, du, dk, S, t, rfl, r, bd, t2, sub, q⟩ := h
    refine ⟨_, PSs.nox (pss_one (ps_while PassesOwn.never (pt_val pe_bl) (pss_cons (ps_fldaug (pv 0) pe_int in_add) (pss_cons (ps_set (i := 1) sc_n_fresh.nd rfl (Or.inl rfl) (pe_joined (.cons pe_str (.cons (pe_fmt (pe_fld (pv 0) rfl)) .nil)))) (pss_one (ps_if (PW.pt (pw_and (pt_cmp (pc_dnotin (hu_of hr) (pv 1) (pe_fld (pv 0) rfl))) (pw_and1 (pt_cmp (pc_dnotin (hu_of hr) (pv 1) (pe_fld (pv 0) rfl)))))) (pss_one (ps_ret (pv 1))) pss_nil)))))), ?_⟩
    obtain ⟨⟨dx, hs⟩, hu, hk, ne⟩ := r
    obtain ⟨j, j1, j2, ⟨ju, jk⟩, mid⟩ := next_made S.used S.known S.made
    have nus : du ≠ s := fun z => by rw [z, hs] at hu; cases hu
    have nks : dk ≠ s := fun z => by rw [z, hs] at hk; cases hk
    have jb : j ≤ 50000 * (t + 1) := by
      have := bd.lm
      have := bd.lu
      have := bd.lk
      omega
    refine st_while (fun m σ H2 => ∃ (i : Nat) (y : Option V), m = j - i ∧ S.made ≤ i ∧ i < j ∧ σ = [some (.ref s), y] ∧ H2 s = some (.ins (He.ga K "Names") dx (srF du dk (i : Nat))) ∧ (∀ b o, H b = some o → b ≠ s → H2 b = some o)) (fun _ _ => False) (j - S.made) ⟨S.made, none, rfl, Nat.le_refl _, j1, rfl, hs, fun b o eb _ => eb⟩ (fun m σ H2 _ Q hq => ⟨true, rfl, hq⟩) (fun _ _ z => z.elim) ?_
    rintro N Bk m σ H2 ⟨i, y, rfl, i1, i2, rfl, hs2, keep⟩ hN hB
    refine ⟨_, rfl, s, _, dx, _, _, rfl, hs2, ND.cls, ND.nm, rfl, _, _, rfl, rfl, dx, _, hs2, (by show 3 < 1000; decide), ?_⟩
    obtain ⟨H3, e3⟩ : ∃ H3, H3 = upd H2 s (.ins (He.ga K "Names") dx (srF du dk ((i + 1 : Nat) : Int))) := ⟨_, rfl⟩
    have hs3 : H3 s = some (.ins (He.ga K "Names") dx (srF du dk ((i + 1 : Nat) : Int))) := by rw [e3, upd_same]
    have keep3 : ∀ b o, H b = some o → b ≠ s → H3 b = some o := fun b o eb n => by rw [e3, upd_ne n]; exact keep b o eb n
    have hu3 := keep3 _ _ hu nus
    have hk3 := keep3 _ _ hk nks
    have small : (i + 1) < 2 ^ 40 := by omega
    have lg : ((i : Int) + 1).natAbs.log2 < 1920 := by
      have e : ((i : Int) + 1).natAbs = i + 1 := by omega
      rw [e]
      exact Nat.lt_of_lt_of_le ((Nat.log2_lt (by omega)).mpr small) (by decide)
    have ln : (vN (i + 1)).length ≤ sizeLine := Nat.le_trans (vN_nm (k := i + 1) (by omega)).hi (by show 12 ≤ sizeLine; decide)
    have ej : (Str.empty ++ ("v" : Str)) ++ (toString ((i : Int) + 1) : Str) = vN (i + 1) := by
      rw [show ((i : Int) + 1) = ((i + 1 : Nat) : Int) by omega]
      rfl
    show _
    rw [show (upd H2 s (.ins (He.ga K "Names") dx (putF "made" (.int ((i : Int) + 1)) (srF du dk (i : Nat))))) = H3 from e3.symm]
    refine ⟨"v", rfl, (by show 1 ≤ sizeLine; decide), _, rfl, s, _, dx, _, _, rfl, hs3, ND.cls, ND.nm, rfl, .inr ⟨(i : Int) + 1, rfl, lg, _, rfl, (by rw [ej]; exact ln), ?_⟩⟩
    show (fun w : Str => _) ((Str.empty ++ ("v" : Str)) ++ (toString ((i : Int) + 1) : Str))
    rw [ej]
    refine ⟨_, rfl, _, rfl, s, _, dx, _, _, rfl, hs3, ND.cls, ND.nu, rfl, du, _, rfl, DGet.k (k := Sum.inr (vN (i + 1))) hu3, _, rfl, ?_⟩
    have keepS : Ks s du H H3 := fun b o eb n _ => keep3 b o eb n
    by_cases cu : vN (i + 1) ∈ S.used
    · have ne2 : i + 1 ≠ j := fun z => ju (z ▸ cu)
      refine cF (k := !(valV (S.used.map encT) (Sum.inr (vN (i + 1)))).isSome) (by rw [val_encT, if_pos cu]; rfl) ?_
      exact iteF (hN (j - (i + 1)) _ _ (by omega) ⟨i + 1, _, rfl, by omega, by omega, rfl, hs3, keep3⟩)
    · refine cT (k := !(valV (S.used.map encT) (Sum.inr (vN (i + 1)))).isSome) (by rw [val_encT, if_neg cu]; rfl) ?_
      refine ⟨_, rfl, _, rfl, s, _, dx, _, _, rfl, hs3, ND.cls, ND.nk, rfl, dk, _, rfl, DGet.k (k := Sum.inr (vN (i + 1))) hk3, _, rfl, ?_⟩
      by_cases ck : vN (i + 1) ∈ S.known
      · have ne2 : i + 1 ≠ j := fun z => jk (z ▸ ck)
        refine cF (k := !(valV (S.known.map encT) (Sum.inr (vN (i + 1)))).isSome) (by rw [val_encT, if_pos ck]; rfl) ?_
        exact hN (j - (i + 1)) _ _ (by omega) ⟨i + 1, _, rfl, by omega, by omega, rfl, hs3, keep3⟩
      · refine cT (k := !(valV (S.known.map encT) (Sum.inr (vN (i + 1)))).isSome) (by rw [val_encT, if_neg ck]; rfl) ?_
        have ej2 : i + 1 = j := by
          by_cases z : i + 1 = j
          · exact z
          · exact absurd ⟨cu, ck⟩ (mid (i + 1) (by omega) (by omega))
        subst ej2
        exact ⟨_, rfl, q H3 ⟨S.used, S.known, i + 1⟩ _ ⟨⟨dx, hs3⟩, hu3, hk3, ne⟩ keepS (gv_made j1 j2 ju jk mid (fun x a b => b (sub _ a)) bd (by omega)) sub⟩
theorem sc_n_instead : FnScope ["self", "name"] ["self", "name"] (defScope (inClass (top 60) 2)) := ⟨rfl, rfl, rfl, by decide +kernel, rfl, by decide +kernel, by decide +kernel⟩
theorem has_n_instead (D : DefM K "Names" "instead_of" "Names.instead_of" ["self", "name"] (inClass (top 60) 2)) (ND : NdC K) (C1 : HasM P w K mg base 1 "Names" "fresh" ["self"] (spFresh K)) : HasM P w K mg base 2 "Names" "instead_of" ["self", "name"] (spInstead K) := D.has fun f fd F => by
  obtain ⟨f1, fd1, M_fresh, hm_fresh, bm_fresh⟩ := C1
  refine F.ok sc_n_instead (fun vs H Q E h => ?_) (fun cdv A outer s H vs Q E hr h => ?_)
  · obtain ⟨s, du, dk, S, u, t, rfl, _⟩ := h; rfl
  · obtain ⟨s, du, dk, S, u, t, rfl, r, bd, t2, nm, hk, sub, q⟩ := h
    have RM_fresh : Room 1 _ := hr
    refine ⟨_, PSs.nox (pss_cons (ps_if (pt_cmp (pc_din (hu_of hr) (pv 1) (pe_fld (pv 0) rfl))) (pss_one (ps_ret (pe_meth0 (pv 0) ND.cls hm_fresh M_fresh RM_fresh bm_fresh .nil pass0))) pss_nil) (pss_cons (ps_dput (hu_of hr) (pe_fld (pv 0) rfl) (pv 1) pe_bl rfl) (pss_one (ps_ret (pv 1))))), ?_⟩
    obtain ⟨dx, hs⟩ := id r.obj
    refine ⟨_, rfl, _, rfl, s, _, dx, _, _, rfl, hs, ND.cls, ND.nu, rfl, du, _, rfl, DGet.k (k := Sum.inr u) r.used, _, rfl, ?_⟩
    by_cases cu : u ∈ S.used
    · refine cT (k := (valV (S.used.map encT) (Sum.inr u)).isSome) (by rw [val_encT, if_pos cu]; rfl) ?_
      exact ⟨_, rfl, s, dx, _, rfl, hs, rfl, s, du, dk, S, t, rfl, r, bd, t2, sub, fun H' S' x r' k' g s' => q H' S' x r' k' g s'⟩
    · refine cF (k := (valV (S.used.map encT) (Sum.inr u)).isSome) (by rw [val_encT, if_neg cu]; rfl) ?_
      obtain ⟨m, em, ndm, mm, lm⟩ := put_encT (l := S.used) (x := u)
      have nus : du ≠ s := fun z => by have e := r.used; rw [z, hs] at e; cases e
      refine ⟨_, rfl, s, _, dx, _, _, rfl, hs, ND.cls, ND.nu, rfl, _, rfl, du, _, rfl, DPut.k (k := Sum.inr u) r.used (by rw [List.length_map]; exact small20 (by have := bd.lu; omega)), ?_⟩
      refine ⟨_, rfl, q _ ⟨m, S.known, S.made⟩ u ⟨⟨dx, by rw [upd_ne nus.symm]; exact hs⟩, by rw [upd_same, em], by rw [upd_ne r.ne.symm]; exact r.known, r.ne⟩ (fun b o eb n1 n2 => by rw [upd_ne n2]; exact eb) (gv_same cu hk nm ndm mm lm) fun x hx => ?_⟩
      rcases (mm x).mp hx with z | z
      · exact sub x z
      · rw [z]; exact hk
end
/-! ### a formula with other formulas in it -/
theorem Dp.hd {K : PySem.W.Frag} {H : Hp} {a : Addr} {h : Hd} {xs : List V} {ds : List PyData} (e : SqT K H a (.str h.word :: xs)) (t : DpAll K H xs (h.rest ds)) : Dp K H (.ref a) (h.data ds) := .tup e (.cons (.str _) t)
theorem slA_take {K : PySem.W.Frag} {H : Hp} {a : Addr} {xs : List V} {j : Nat} {Q : VK} (hx : SqT K H a xs) (l : xs.length < 1000) (hj : j ≤ xs.length) (q : ∀ (H' : Hp) (r : Addr), Same H H' → SqT K H' r (xs.take j) → Q (.ref r) H') : rSlA K (.ref a) none (some ((j : Nat) : Int)) H Q := by
  refine ⟨a, xs, rfl, hx, fun e => ?_, fun _ p np => ?_⟩
  · have e2 := e.2
    rw [HT.sIx_nat] at e2
    have : j = xs.length := by omega
    refine q H a (.refl H) ?_
    rw [this, List.take_length]
    exact hx
  · refine q _ p (same_upd np) ?_
    rw [cut_map l hj]
    exact SqT.of upd_same
theorem cut_drop {xs : List V} {j : Nat} (hj : j ≤ xs.length) : cutV xs (some ((j : Nat) : Int)) none = xs.drop j := by
  unfold cutV
  rw [HT.sIx_nat, HT.sIx_none, Nat.min_eq_left hj]
  exact List.take_of_length_le (by rw [List.length_drop]; exact Nat.le_refl _)
theorem slA_drop {K : PySem.W.Frag} {H : Hp} {a : Addr} {xs : List V} {j : Nat} {Q : VK} (hx : SqT K H a xs) (hj : j ≤ xs.length) (q : ∀ (H' : Hp) (r : Addr), Same H H' → SqT K H' r (xs.drop j) → Q (.ref r) H') : rSlA K (.ref a) (some ((j : Nat) : Int)) none H Q := by
  refine ⟨a, xs, rfl, hx, fun e => ?_, fun _ p np => ?_⟩
  · have e1 := e.1
    rw [HT.sIx_nat] at e1
    refine q H a (.refl H) ?_
    by_cases h0 : j = 0
    · rw [h0]
      exact hx
    · have l0 : xs.length = 0 := by omega
      rw [List.eq_nil_of_length_eq_zero l0, List.drop_nil]
      rw [List.eq_nil_of_length_eq_zero l0] at hx
      exact hx
  · refine q _ p (same_upd np) ?_
    rw [cut_drop hj]
    exact SqT.of upd_same
theorem catA {K : PySem.W.Frag} {H : Hp} {a b : Addr} {xs ys : List V} {Q : VK} (ha : SqT K H a xs) (hb : SqT K H b ys) (l : xs.length + ys.length ≤ 1000) (q : ∀ (H' : Hp) (r : Addr), Same H H' → SqT K H' r (xs ++ ys) → Q (.ref r) H') : rCatA K (.ref a) (.ref b) H Q := by
  refine ⟨a, b, xs, ys, rfl, rfl, ha, hb, Nat.le_trans l (by show 1000 ≤ sizeLine; decide), fun e => ?_, fun _ e => ?_, fun _ _ p np => q _ p (same_upd np) (SqT.of upd_same)⟩
  · refine q H b (.refl H) ?_
    rw [e]
    exact hb
  · refine q H a (.refl H) ?_
    rw [e, List.append_nil]
    exact ha
theorem DpAll.dropN {K : PySem.W.Frag} {H : Hp} : ∀ {vs : List V} {ts : List PyData} (j : Nat), DpAll K H vs ts → DpAll K H (vs.drop j) (ts.drop j)
  | _, _, 0, h => h
  | _, _, j + 1, .nil => .nil
  | _, _, j + 1, .cons a t => DpAll.dropN j t
def put {α : Type} (l : List α) (i : Nat) (x : α) : List α := l.take i ++ [x] ++ l.drop (i + 1)
theorem DpAll.put {K : PySem.W.Frag} {H : Hp} {vs : List V} {ts : List PyData} {v : V} {t : PyData} (i : Nat) (h : DpAll K H vs ts) (e : Dp K H v t) : DpAll K H (put vs i v) (put ts i t) :=
  DpAll.append (DpAll.append (DpAll.takeN i h) (.cons e .nil)) (DpAll.dropN (i + 1) h)
theorem body_put {h : Hd} {i : Nat} (e : h.kd.bodyAt = some i) (d d' : PyData) : put (PyData.str h.word :: h.rest [d]) i d' = PyData.str h.word :: h.rest [d'] := by
  cases h <;> first | (cases e; rfl) | cases e
theorem body_at {h : Hd} {i : Nat} (e : h.kd.bodyAt = some i) (d : PyData) : (PyData.str h.word :: h.rest [d])[i]? = some d ∧ 1 ≤ i ∧ i + 1 ≤ (h.rest [d]).length + 1 ∧ (h.rest [d]).length ≤ 5 := by
  cases h <;> first | (cases e; exact ⟨rfl, by decide, by show _ ≤ List.length _ + 1; simp [Hd.rest], by simp [Hd.rest]⟩) | cases e
def spWithItem (K : PySem.W.Frag) : Sp := fun vs H Q _ => ∃ (a : Addr) (i : Nat) (x : V) (xs : List V), vs = [.ref a, .int (i : Nat), x] ∧ SqT K H a xs ∧ i + 1 ≤ xs.length ∧ xs.length ≤ 10 ∧ ∀ (H' : Hp) (r : Addr), Same H H' → SqT K H' r (put xs i x) → Q (.ref r) H'
def spWithInner (K : PySem.W.Frag) : Sp := fun vs H Q _ => ∃ (v : V) (h : Hd) (ds es : List PyData) (b : Addr) (ys : List V), vs = [v, .ref b] ∧ Dp K H v (h.data ds) ∧ h.fits ds.length ∧ SqL K H b ys ∧ DpAll K H ys es ∧ es.length = ds.length ∧ ∀ (H' : Hp) (r : V), Same H H' → Dp K H' r (h.data es) → Q r H'
section
variable {P : Program} {w : World} {K : PySem.W.Frag} {mg : Str → Option Value} {base : Heap}
theorem sc_with_item : FnScope ["formula", "at", "item"] ["formula", "at", "item"] (defScope (top 37)) := ⟨rfl, rfl, rfl, by decide +kernel, rfl, by decide +kernel, by decide +kernel⟩
theorem has_with_item (D : Def K mg "_with_item" ["formula", "at", "item"] (top 37)) : Has P w K mg base 1 "_with_item" ["formula", "at", "item"] (spWithItem K) := D.has fun f fd F => by
  refine F.ok sc_with_item (fun vs H Q E h => ?_) (fun cdv A outer s H vs Q E hr h => ?_)
  · obtain ⟨a, i, x, xs, rfl, _⟩ := h; rfl
  · obtain ⟨a, i, x, xs, rfl, hT, hi, hl, q⟩ := h
    refine ⟨_, PSs.nox (pss_one (ps_ret (pe_op op_catA (pe_op op_catA (pe_slice sl_tupA (pv 0) po_none (po_some (pv 1))) (pe_tup (pa_cons (pv 2) pa_nil))) (pe_slice sl_tupA (pv 0) (po_some (pe_op op_add (pv 1) pe_int)) po_none)))), ?_⟩
    refine ⟨_, rfl, _, rfl, _, rfl, slA_take hT (by omega) (by omega) fun H1 r1 s1 h1 => ?_⟩
    refine ⟨_, rfl, (by show 1 ≤ sizeLine; decide), fun p np => ?_⟩
    have sp := same_upd (o := .tup [x]) np
    refine catA (Same.sqt sp h1) (SqT.of upd_same) (by rw [List.length_take]; show min i xs.length + 1 ≤ 1000; omega) fun H2 r2 s2 h2 => ?_
    have s02 := (s1.trans sp).trans s2
    refine ⟨_, rfl, _, rfl, _, _, rfl, rfl, ((i + 1 : Nat) : Int), rfl, ?_⟩
    have z : rSlA K (.ref a) (some ((i + 1 : Nat) : Int)) none H2 (fun y H3 => rCatA K (.ref r2) y H3 Q) := slA_drop (j := i + 1) (Same.sqt s02 hT) hi fun H3 r3 s3 h3 =>
      catA (Same.sqt s3 h2) h3 (by rw [List.length_append, List.length_take, List.length_drop]; show min i xs.length + 1 + _ ≤ 1000; omega) fun H4 r4 s4 h4 => q H4 r4 ((s02.trans s3).trans s4) h4
    exact z
theorem sc_with_inner : FnScope ["formula", "changed"] ["formula", "changed"] (defScope (top 38)) := ⟨rfl, rfl, rfl, by decide +kernel, rfl, by decide +kernel, by decide +kernel⟩
theorem has_with_inner (D : Def K mg "with_inner" ["formula", "changed"] (top 38)) (T : Txt mg) (S : Shp K w mg) (C1 : Has P w K mg base 1 "_with_item" ["formula", "at", "item"] (spWithItem K)) : Has P w K mg base 2 "with_inner" ["formula", "changed"] (spWithInner K) := D.has fun f fd F => by
  obtain ⟨f1, fd1, G_with_item, g_with_item, k_with_item, b_with_item⟩ := C1
  have c_BODY_AT := S.body.g
  obtain ⟨es0, n, D_BODY_AT⟩ := S.body.d
  refine F.ok sc_with_inner (fun vs H Q E h => ?_) (fun cdv A outer s H vs Q E hr h => ?_)
  · obtain ⟨v, h, ds, es, b, ys, rfl, _⟩ := h; rfl
  · obtain ⟨v, h, ds, es, b, ys, rfl, dp, fit, hb, hy, el, q⟩ := h
    have R_with_item : Room 1 _ := hr
    refine ⟨_, PSs.nox (pss_cons (ps_if (pt_cmpR op_in_seq (pe_ix ix_tup (pv 0) pe_int (fun _ _ => rfl)) (pe_tup (pa_cons pe_str (pa_cons pe_str pa_nil))) (by rfl)) (pss_one (ps_ret (pe_tup (pa_cons (pe_ix ix_tup (pv 0) pe_int (fun _ _ => rfl)) (pa_cons (pe_callTy call_tuple_of (by rfl) T.n_tuple (by decide +kernel) (pa_cons (pv 1) pa_nil)) pa_nil))))) pss_nil) (pss_cons (ps_if (pt_cmpR (op_in_kd D_BODY_AT) (pe_ix ix_tup (pv 0) pe_int (fun _ _ => rfl)) (pe_glob (v := .ref (He.ga K "BODY_AT")) (by rfl) c_BODY_AT rfl) (by rfl)) (pss_one (ps_ret (pe_call G_with_item R_with_item (by rfl) g_with_item k_with_item b_with_item .nil pass0 (pa_cons (pv 0) (pa_cons (pe_ix ix_kdict (pe_glob (v := .ref (He.ga K "BODY_AT")) (by rfl) c_BODY_AT rfl) (pe_ix ix_tup (pv 0) pe_int (fun _ _ => rfl)) (fun _ _ => rfl)) (pa_cons (pe_ix ix_list (pv 1) pe_int (fun _ _ => rfl)) pa_nil)))))) pss_nil) (pss_one (ps_ret (pv 0))))), ?_⟩
    obtain ⟨a, xs, rfl, hT, hx⟩ := hd_inv dp
    refine ⟨_, rfl, a, _, _, _, rfl, rfl, hT, atI_nat (j := 0) rfl, (by show 2 ≤ sizeLine; decide), fun p np => ⟨p, _, rfl, .inr (SqT.of upd_same), rfl, rfl, _, rfl, ?_⟩⟩
    have sp : Same H (upd H p (.tup [.str "and", .str "or"])) := same_upd np
    have hT1 := Same.sqt sp hT
    have hb1 : SqL K (upd H p (.tup [.str "and", .str "or"])) b ys := sp.seq hb
    have dp1 : DpAll K (upd H p (.tup [.str "and", .str "or"])) xs (h.rest ds) := DpAll.same sp hx
    have hy1 : DpAll K (upd H p (.tup [.str "and", .str "or"])) ys es := DpAll.same sp hy
    clear hT hb hx hy
    revert sp hT1 hb1 dp1 hy1
    generalize upd H p (.tup [.str "and", .str "or"]) = H1
    intro sp hT1 hb1 dp1 hy1
    by_cases j : inV (.str h.word) [.str "and", .str "or"] = true
    · refine cT j ?_
      have e : h.rest es = [.tuple es] := by rcases isJ h j with e | e <;> rw [e] <;> rfl
      refine ⟨_, rfl, a, _, _, _, rfl, rfl, hT1, atI_nat (j := 0) rfl, _, rfl, b, _, rfl, .inl ⟨hb1, fun l nl => ⟨(by show 2 ≤ sizeLine; decide), fun r nr => ?_⟩⟩⟩
      have s2 := same_upd (o := .tup ys) nl
      have s3 := same_upd (o := .tup [.str h.word, .ref l]) nr
      refine q _ _ ((sp.trans s2).trans s3) (Dp.hd (SqT.of upd_same) ?_)
      rw [e]
      exact .cons (.tup (Same.sqt s3 (SqT.of upd_same)) (DpAll.same (s2.trans s3) hy1)) .nil
    · have j' : inV (.str h.word) [.str "and", .str "or"] = false := by simpa using j
      refine cF j' ?_
      have nj := isJ' h j'
      refine ⟨_, rfl, a, _, _, _, rfl, rfl, hT1, atI_nat (j := 0) rfl, ?_⟩
      cases hbd : h.kd.bodyAt with
      | some i =>
        have mem := body_mem _ _ hbd
        obtain ⟨u, n1, ru⟩ := S.body.there _ _ mem
        refine ⟨_, _, rfl, rfl, n1, _, rfl, cT (k := (some u).isSome) rfl ?_⟩
        have l1 : ds.length = 1 := fit 1 (by cases h <;> first | cases hbd; rfl | cases hbd)
        obtain ⟨d, rfl⟩ := List.length_eq_one_iff.mp l1
        obtain ⟨d', rfl⟩ := List.length_eq_one_iff.mp (el.trans l1)
        obtain ⟨y, ws, rfl, dy, hn⟩ := DpAll.cons_inv hy1
        obtain ⟨_, i1, i2, i3⟩ := body_at hbd d
        have lx := DpAll.length dp1
        refine ⟨_, rfl, _, rfl, a, _, _, _, rfl, rfl, hT1, atI_nat (j := 0) rfl, _, _, _, rfl, rfl, S.body.dct mem, _, rfl, b, _, _, _, rfl, rfl, hb1, atI_nat (j := 0) rfl, a, i, _, _, rfl, hT1, by rw [List.length_cons]; omega, by rw [List.length_cons]; omega, fun H2 r s2 hr2 => ?_⟩
        have dd := DpAll.put i (DpAll.same s2 (DpAll.cons (.str h.word) dp1)) (Dp.same s2 dy)
        rw [body_put hbd] at dd
        exact q H2 _ (sp.trans s2) (.tup hr2 dd)
      | none =>
        have mem := body_mis _ hbd
        refine ⟨_, _, rfl, rfl, S.bodyM _ mem, _, rfl, cF (k := (none : Option Value).isSome) rfl ?_⟩
        have l0 : ds.length = 0 := fit 0 (by cases h <;> first | rfl | exact absurd rfl nj.1 | exact absurd rfl nj.2 | cases hbd)
        obtain rfl := List.eq_nil_of_length_eq_zero l0
        obtain rfl := List.eq_nil_of_length_eq_zero (el.trans l0)
        exact ⟨_, rfl, q H1 _ sp (Dp.hd hT1 dp1)⟩
end
/-! ### other variables in a head -/
theorem own_put {h : Hd} {i : Nat} (e : h.kd.ownAt = some i) (us : List Str) (ds : List PyData) : put (PyData.str h.word :: h.rest ds) i (tS us) = PyData.str (h.withOwn us).word :: (h.withOwn us).rest ds ∧ i + 1 ≤ (PyData.str h.word :: h.rest ds).length := by
  cases h <;> first | (cases e; exact ⟨rfl, by simp [Hd.rest]⟩) | cases e
theorem own_none {h : Hd} (e : h.kd.ownAt = none) (us : List Str) : h.withOwn us = h := by cases h <;> first | rfl | cases e
theorem args_put {h : Hd} {i : Nat} (e : h.kd.argsAt = some i) (as : List Str) {ds : List PyData} (f : h.fits ds.length) : put (PyData.str h.word :: h.rest ds) i (tS as) = PyData.str (h.withArgs as).word :: (h.withArgs as).rest ds ∧ i + 1 ≤ (PyData.str h.word :: h.rest ds).length := by
  cases h with
  | rel n bs => cases e; exact ⟨rfl, by simp [Hd.rest]⟩
  | lfp n us bs =>
    cases e
    obtain ⟨d, rfl⟩ := List.length_eq_one_iff.mp (f 1 rfl)
    exact ⟨rfl, by simp [Hd.rest]⟩
  | pfp n us bs =>
    cases e
    obtain ⟨d, rfl⟩ := List.length_eq_one_iff.mp (f 1 rfl)
    exact ⟨rfl, by simp [Hd.rest]⟩
  | tc us bs =>
    cases e
    obtain ⟨d, rfl⟩ := List.length_eq_one_iff.mp (f 1 rfl)
    exact ⟨rfl, by simp [Hd.rest]⟩
  | _ => cases e
theorem args_none {h : Hd} (e : h.kd.argsAt = none) (n : ∀ x y, h ≠ .eq x y ∧ h ≠ .less x y) (as : List Str) : h.withArgs as = h := by
  cases h with
  | eq x y => exact absurd rfl (n x y).1
  | less x y => exact absurd rfl (n x y).2
  | rel _ _ => cases e
  | lfp _ _ _ => cases e
  | pfp _ _ _ => cases e
  | tc _ _ => cases e
  | _ => rfl
theorem one_withArgs {h : Hd} {as : List Str} (l : as.length = h.args.length) : (h.withArgs as).one = h.one := by
  cases h with
  | eq x y => obtain ⟨a, b, rfl⟩ := two_of l; rfl
  | less x y => obtain ⟨a, b, rfl⟩ := two_of l; rfl
  | _ => rfl
theorem one_withOwn {h : Hd} {us : List Str} : (h.withOwn us).one = h.one := by cases h <;> rfl
def spWithOwn (K : PySem.W.Frag) : Sp := fun vs H Q _ => ∃ (v u : V) (h : Hd) (ds : List PyData) (us : List Str), vs = [v, u] ∧ Dp K H v (h.data ds) ∧ Dp K H u (tS us) ∧ us.length = h.own.length ∧ h.fits ds.length ∧ ds.length ≤ 40 ∧ ∀ (H' : Hp) (r : V), Same H H' → Dp K H' r ((h.withOwn us).data ds) → Q r H'
def spWithArgs (K : PySem.W.Frag) : Sp := fun vs H Q _ => ∃ (v u : V) (h : Hd) (ds : List PyData) (us : List Str), vs = [v, u] ∧ Dp K H v (h.data ds) ∧ Dp K H u (tS us) ∧ us.length = h.args.length ∧ h.fits ds.length ∧ ds.length ≤ 40 ∧ ∀ (H' : Hp) (r : V), Same H H' → Dp K H' r ((h.withArgs us).data ds) → Q r H'
theorem rest_fit {h : Hd} {ds : List PyData} (f : h.fits ds.length) : (h.rest ds).length ≤ 5 := by
  cases h <;> simp only [Hd.rest, List.length_cons, List.length_nil, List.length_append] <;> first | omega | (have := f 1 rfl; omega) | (have := f 0 rfl; omega)
section
variable {P : Program} {w : World} {K : PySem.W.Frag} {mg : Str → Option Value} {base : Heap}
theorem sc_with_own : FnScope ["formula", "variables"] ["formula", "variables"] (defScope (top 40)) := ⟨rfl, rfl, rfl, by decide +kernel, rfl, by decide +kernel, by decide +kernel⟩
theorem has_with_own (D : Def K mg "with_own" ["formula", "variables"] (top 40)) (S : Shp K w mg) (C1 : Has P w K mg base 1 "_with_item" ["formula", "at", "item"] (spWithItem K)) : Has P w K mg base 2 "with_own" ["formula", "variables"] (spWithOwn K) := D.has fun f fd F => by
  obtain ⟨f1, fd1, G_with_item, g_with_item, k_with_item, b_with_item⟩ := C1
  have c_OWN_AT := S.own.g
  obtain ⟨es0, n, D_OWN_AT⟩ := S.own.d
  refine F.ok sc_with_own (fun vs H Q E h => ?_) (fun cdv A outer s H vs Q E hr h => ?_)
  · obtain ⟨v, u, h, ds, us, rfl, _⟩ := h; rfl
  · obtain ⟨v, u, h, ds, us, rfl, dp, du, lu, fit, ld, q⟩ := h
    have R_with_item : Room 1 _ := hr
    refine ⟨_, PSs.nox (pss_cons (ps_if (pt_cmpR (op_in_kd D_OWN_AT) (pe_ix ix_tup (pv 0) pe_int (fun _ _ => rfl)) (pe_glob (v := .ref (He.ga K "OWN_AT")) (by rfl) c_OWN_AT rfl) (by rfl)) (pss_one (ps_ret (pe_call G_with_item R_with_item (by rfl) g_with_item k_with_item b_with_item .nil pass0 (pa_cons (pv 0) (pa_cons (pe_ix ix_kdict (pe_glob (v := .ref (He.ga K "OWN_AT")) (by rfl) c_OWN_AT rfl) (pe_ix ix_tup (pv 0) pe_int (fun _ _ => rfl)) (fun _ _ => rfl)) (pa_cons (pv 1) pa_nil)))))) pss_nil) (pss_one (ps_ret (pv 0)))), ?_⟩
    obtain ⟨a, xs, rfl, hT, hx⟩ := hd_inv dp
    refine ⟨_, rfl, a, _, _, _, rfl, rfl, hT, atI_nat (j := 0) rfl, ?_⟩
    cases ho : h.kd.ownAt with
    | some i =>
      have mem := own_mem _ _ ho
      obtain ⟨w1, n1, ru⟩ := S.own.there _ _ mem
      refine ⟨_, _, rfl, rfl, n1, _, rfl, cT (k := (some w1).isSome) rfl ?_⟩
      have dd0 := DpAll.cons (K := K) (H := H) (.str h.word) hx
      have lx := DpAll.length dd0
      have lo := own_put ho us ds
      have l9 : (V.str h.word :: xs).length ≤ 10 := by
        rw [lx]
        have := rest_fit fit
        rw [List.length_cons]
        omega
      refine ⟨_, rfl, _, rfl, a, _, _, _, rfl, rfl, hT, atI_nat (j := 0) rfl, _, _, _, rfl, rfl, S.own.dct mem, _, rfl, a, i, u, _, rfl, hT, by rw [lx]; exact lo.2, by omega, fun H2 r s2 hr2 => ?_⟩
      have dd := DpAll.put i (DpAll.same s2 dd0) (Dp.same s2 du)
      rw [lo.1] at dd
      exact q H2 _ s2 (.tup hr2 dd)
    | none =>
      have mem := own_mis _ ho
      refine ⟨_, _, rfl, rfl, S.ownM _ mem, _, rfl, cF (k := (none : Option Value).isSome) rfl ?_⟩
      refine ⟨_, rfl, q H _ (.refl H) ?_⟩
      rw [own_none ho]
      exact dp
theorem sc_with_args : FnScope ["formula", "variables"] ["formula", "variables"] (defScope (top 42)) := ⟨rfl, rfl, rfl, by decide +kernel, rfl, by decide +kernel, by decide +kernel⟩
theorem has_with_args (D : Def K mg "with_arguments" ["formula", "variables"] (top 42)) (S : Shp K w mg) (C1 : Has P w K mg base 1 "_with_item" ["formula", "at", "item"] (spWithItem K)) : Has P w K mg base 2 "with_arguments" ["formula", "variables"] (spWithArgs K) := D.has fun f fd F => by
  obtain ⟨f1, fd1, G_with_item, g_with_item, k_with_item, b_with_item⟩ := C1
  have c_ARGUMENTS_AT := S.args.g
  obtain ⟨es0, n, D_ARGUMENTS_AT⟩ := S.args.d
  refine F.ok sc_with_args (fun vs H Q E h => ?_) (fun cdv A outer s H vs Q E hr h => ?_)
  · obtain ⟨v, u, h, ds, us, rfl, _⟩ := h; rfl
  · obtain ⟨v, u, h, ds, us, rfl, dp, du, lu, fit, ld, q⟩ := h
    have R_with_item : Room 1 _ := hr
    refine ⟨_, PSs.nox (pss_cons (ps_if (pt_cmpR op_in_seq (pe_ix ix_tup (pv 0) pe_int (fun _ _ => rfl)) (pe_tup (pa_cons pe_str (pa_cons pe_str pa_nil))) (by rfl)) (pss_one (ps_ret (pe_op op_catA (pe_tup (pa_cons (pe_ix ix_tup (pv 0) pe_int (fun _ _ => rfl)) pa_nil)) (pv 1)))) pss_nil) (pss_cons (ps_if (pt_cmpR (op_in_kd D_ARGUMENTS_AT) (pe_ix ix_tup (pv 0) pe_int (fun _ _ => rfl)) (pe_glob (v := .ref (He.ga K "ARGUMENTS_AT")) (by rfl) c_ARGUMENTS_AT rfl) (by rfl)) (pss_one (ps_ret (pe_call G_with_item R_with_item (by rfl) g_with_item k_with_item b_with_item .nil pass0 (pa_cons (pv 0) (pa_cons (pe_ix ix_kdict (pe_glob (v := .ref (He.ga K "ARGUMENTS_AT")) (by rfl) c_ARGUMENTS_AT rfl) (pe_ix ix_tup (pv 0) pe_int (fun _ _ => rfl)) (fun _ _ => rfl)) (pa_cons (pv 1) pa_nil)))))) pss_nil) (pss_one (ps_ret (pv 0))))), ?_⟩
    obtain ⟨a, xs, rfl, hT, hx⟩ := hd_inv dp
    refine ⟨_, rfl, a, _, _, _, rfl, rfl, hT, atI_nat (j := 0) rfl, (by show 2 ≤ sizeLine; decide), fun p np => ⟨p, _, rfl, .inr (SqT.of upd_same), rfl, rfl, _, rfl, ?_⟩⟩
    have sp : Same H (upd H p (.tup [.str "eq", .str "less"])) := same_upd np
    have hT1 := Same.sqt sp hT
    have hx1 := DpAll.same sp hx
    have du1 := Dp.same sp du
    clear hT hx du
    revert sp hT1 hx1 du1
    generalize upd H p (.tup [.str "eq", .str "less"]) = H1
    intro sp hT1 hx1 du1
    by_cases j : inV (.str h.word) [.str "eq", .str "less"] = true
    · refine cT j ?_
      obtain ⟨t, rfl, ht⟩ := tS_inv du1
      refine ⟨_, rfl, a, _, _, _, rfl, rfl, hT1, atI_nat (j := 0) rfl, (by show 1 ≤ sizeLine; decide), fun p2 np2 => ⟨_, rfl, ?_⟩⟩
      have s2 := same_upd (o := .tup [V.str h.word]) np2
      refine catA (SqT.of upd_same) (Same.sqt s2 ht) (by rw [List.length_map, lu]; show 1 + _ ≤ 1000; obtain ⟨x, y, e | e⟩ := isE h j <;> (rw [e]; show 1 + 2 ≤ 1000; decide)) fun H3 r s3 h3 => q H3 _ ((sp.trans s2).trans s3) ?_
      obtain ⟨x, y, e | e⟩ := isE h j
      · subst e
        obtain ⟨b, c, rfl⟩ := two_of lu
        exact .tup h3 (.cons (.str _) (.cons (.str _) (.cons (.str _) .nil)))
      · subst e
        obtain ⟨b, c, rfl⟩ := two_of lu
        exact .tup h3 (.cons (.str _) (.cons (.str _) (.cons (.str _) .nil)))
    · have j' : inV (.str h.word) [.str "eq", .str "less"] = false := by simpa using j
      refine cF j' ?_
      have nE := isE' h j'
      refine ⟨_, rfl, a, _, _, _, rfl, rfl, hT1, atI_nat (j := 0) rfl, ?_⟩
      cases ho : h.kd.argsAt with
      | some i =>
        have mem := args_mem _ _ ho
        obtain ⟨w1, n1, ru⟩ := S.args.there _ _ mem
        refine ⟨_, _, rfl, rfl, n1, _, rfl, cT (k := (some w1).isSome) rfl ?_⟩
        have dd0 := DpAll.cons (K := K) (H := H1) (.str h.word) hx1
        have lx := DpAll.length dd0
        have lo := args_put ho us fit
        have l9 := rest_fit fit
        refine ⟨_, rfl, _, rfl, a, _, _, _, rfl, rfl, hT1, atI_nat (j := 0) rfl, _, _, _, rfl, rfl, S.args.dct mem, _, rfl, a, i, u, _, rfl, hT1, by rw [lx]; exact lo.2, by rw [lx, List.length_cons]; omega, fun H2 r s2 hr2 => ?_⟩
        have dd := DpAll.put i (DpAll.same s2 dd0) (Dp.same s2 du1)
        rw [lo.1] at dd
        exact q H2 _ (sp.trans s2) (.tup hr2 dd)
      | none =>
        have mem := args_mis _ ho
        refine ⟨_, _, rfl, rfl, S.argsM _ mem, _, rfl, cF (k := (none : Option Value).isSome) rfl ?_⟩
        refine ⟨_, rfl, q H1 _ sp ?_⟩
        rw [args_none ho nE]
        exact .tup hT1 (.cons (.str _) hx1)
end
/-! ### renamed -/
theorem flat_take {α : Type} : ∀ (l : List (List α)) (i : Nat) (x : List α), l[i]? = some x → (l.take i).flatten.length + x.length ≤ l.flatten.length
  | [], i, x, h => by simp at h
  | a :: l, 0, x, h => by
    have e : a = x := Option.some.inj h
    rw [List.take_zero, e, List.flatten_cons, List.length_append]
    simp
  | a :: l, i + 1, x, h => by
    have := flat_take l i x h
    rw [List.take_succ_cons, List.flatten_cons, List.flatten_cons, List.length_append, List.length_append]
    omega
theorem flat_len {ps qs : List Fm} (l : qs.length = ps.length) (h : ∀ (i : Nat) (a b : Fm), ps[i]? = some a → qs[i]? = some b → b.allB.length = a.allB.length) : (qs.map Fm.allB).flatten.length = (ps.map Fm.allB).flatten.length := by
  have e : qs.map (fun q => q.allB.length) = ps.map (fun q => q.allB.length) := map_two (F := fun q : Fm => q.allB.length) l h
  rw [List.length_flatten, List.length_flatten, List.map_map, List.map_map]
  exact congrArg List.sum e
theorem Sm.lenB {c : Str → Str} {f g : Fm} (s : Sm c f g) : g.allB.length = f.allB.length := by
  induction s with
  | mk r fr l p ih =>
    rw [Fm.allB_mk, Fm.allB_mk, List.length_append, List.length_append, re_own r, r.lu, flat_len l ih]
/-- what is given out, one after another -/
structure Gvs (S : Src) (us : List Str) (S' : Src) : Prop where
  nm : Names us
  nd : us.Nodup
  new : ∀ u, u ∈ us → ¬ S.Tk u
  tk : ∀ z, S'.Tk z ↔ S.Tk z ∨ z ∈ us
  kn : S'.known = S.known
  bd : ∀ t, S.Bd t → t + us.length < 20000 → S'.Bd (t + us.length)
theorem Gvs.nil (S : Src) : Gvs S [] S := ⟨(fun v hv => nomatch hv), List.nodup_nil, (fun u hu => nomatch hu), (fun z => by simp), rfl, fun t b _ => b⟩
theorem Gv.one {S S' : Src} {u : Str} (g : Gv S u S') : Gvs S [u] S' :=
  ⟨fun v hv => by rw [List.mem_singleton.mp hv]; exact g.nm, by simp, fun v hv => by rw [List.mem_singleton.mp hv]; exact g.new, fun z => by rw [g.tk, List.mem_singleton], g.kn, fun t b h => g.bd t b (by have : t + 1 < 20000 := h; omega)⟩
theorem Gvs.app {S S1 S2 : Src} {us ws : List Str} (a : Gvs S us S1) (b : Gvs S1 ws S2) : Gvs S (us ++ ws) S2 := by
  refine ⟨fun v hv => ?_, ?_, fun u hu => ?_, fun z => ?_, b.kn.trans a.kn, fun t c h => ?_⟩
  · rcases List.mem_append.mp hv with h | h
    · exact a.nm v h
    · exact b.nm v h
  · refine List.nodup_append.mpr ⟨a.nd, b.nd, fun x hx y hy e => ?_⟩
    exact b.new y hy ((a.tk y).mpr (.inr (e ▸ hx)))
  · rcases List.mem_append.mp hu with h | h
    · exact a.new u h
    · exact fun t => b.new u h ((a.tk u).mpr (.inl t))
  · rw [b.tk, a.tk, List.mem_append]
    constructor
    · rintro ((h | h) | h)
      · exact .inl h
      · exact .inr (.inl h)
      · exact .inr (.inr h)
    · rintro (h | h | h)
      · exact .inl (.inl h)
      · exact .inl (.inr h)
      · exact .inr h
  · rw [List.length_append] at h ⊢
    have := b.bd (t + us.length) (a.bd t c (by omega)) (by omega)
    rw [Nat.add_assoc] at this
    exact this
/-- the dict at e says c -/
def Cg (H : Hp) (e : Addr) (c : Str → Str) (m : Nat) : Prop := ∃ kvs : List (Key × V), H e = some (.dK kvs) ∧ kvs.length ≤ m ∧ ∀ x, (valV kvs (Sum.inr x)).getD (.str x) = .str (c x)
theorem Cg.ks {H H' : Hp} {e s du dx : Addr} {C : Addr} {fs : List (Str × V)} {c : Str → Str} {m : Nat} (g : Cg H e c m) (k : Ks s du H H') (hs : H s = some (.ins C dx fs)) (n : e ≠ du) : Cg H' e c m := by
  obtain ⟨kvs, h, r⟩ := g
  exact ⟨kvs, k _ _ h (fun z => by rw [z, hs] at h; cases h) n, r⟩
theorem putK_len {kvs : List (Key × V)} {k : Key} {v : V} : (putK kvs k v).length ≤ kvs.length + 1 := by
  unfold putK
  split
  · rw [List.length_map]; omega
  · rw [List.length_append]; exact Nat.le_refl _
def spRen (K : PySem.W.Frag) (n : Nat) : Sp := fun vs H Q _ => ∃ (v : V) (e s du dk : Addr) (f : Fm) (c : Str → Str) (S : Src) (t m : Nat), vs = [v, .ref e, .ref s] ∧ Dp K H v f.data ∧ f.Ok ∧ f.dep ≤ n ∧ SrR K H s du dk S ∧ S.Bd t ∧ t + f.allB.length < 20000 ∧ (∀ x, x ∈ S.used → x ∈ S.known) ∧
  (∀ x, x ∈ f.allB → x ∈ S.known ∧ Nm x) ∧ Cg H e c m ∧ m + 10 * f.dep ≤ 1000 ∧ e ≠ du ∧ (∀ x, x ∈ f.frees → Nm (c x) ∧ S.Tk (c x)) ∧
  ∀ (H' : Hp) (r : V) (g : Fm) (S' : Src), SrR K H' s du dk S' → Ks s du H H' → Dp K H' r g.data → Sm c f g → Gvs S g.allB S' → (∀ x, x ∈ S'.used → x ∈ S'.known) → Q r H'
section
variable {P : Program} {w : World} {K : PySem.W.Frag} {mg : Str → Option Value} {base : Heap}
theorem sc_renamed : FnScope ["formula", "changes", "source", "passed", "bound", "within", "old", "new", "parts", "variable", "part"] ["formula", "changes", "source"] (defScope (top 61)) := ⟨rfl, rfl, rfl, by decide +kernel, rfl, by decide +kernel, by decide +kernel⟩
theorem has_renamed (D : Def K mg "renamed" ["formula", "changes", "source"] (top 61)) (T : Txt mg) (ND : NdC K) (C1 : Has P w K mg base 1 "inner" ["formula"] (spInner K)) (C2 : Has P w K mg base 1 "own" ["formula"] (spOwn K)) (C3 : Has P w K mg base 1 "arguments" ["formula"] (spArgs K))
    (C4 : Has P w K mg base 2 "with_inner" ["formula", "changed"] (spWithInner K)) (C5 : Has P w K mg base 2 "with_own" ["formula", "variables"] (spWithOwn K)) (C6 : Has P w K mg base 2 "with_arguments" ["formula", "variables"] (spWithArgs K)) (C7 : HasM P w K mg base 2 "Names" "instead_of" ["self", "name"] (spInstead K)) :
    ∀ n : Nat, Has P w K mg base (3 + n) "renamed" ["formula", "changes", "source"] (spRen K n) := by
  obtain ⟨f1, fd1, G_inner, g_inner, k_inner, b_inner⟩ := C1
  obtain ⟨f2, fd2, G_own, g_own, k_own, b_own⟩ := C2
  obtain ⟨f3, fd3, G_arguments, g_arguments, k_arguments, b_arguments⟩ := C3
  obtain ⟨f4, fd4, G_with_inner, g_with_inner, k_with_inner, b_with_inner⟩ := C4
  obtain ⟨f5, fd5, G_with_own, g_with_own, k_with_own, b_with_own⟩ := C5
  obtain ⟨f6, fd6, G_with_arguments, g_with_arguments, k_with_arguments, b_with_arguments⟩ := C6
  obtain ⟨f7, fd7, M_instead_of, hm_instead_of, bm_instead_of⟩ := C7
  intro n
  induction n with
  | zero =>
    refine D.has fun f fd F => F.ok sc_renamed (fun vs H Q E h => ?_) (fun cdv A outer s H vs Q E hr h => ?_)
    · obtain ⟨v, e, s, du, dk, f, c, S, t, m, rfl, _⟩ := h; rfl
    · obtain ⟨v, e, s, du, dk, f, c, S, t, m, rfl, _, _, h0, _⟩ := h
      have := dep_pos f
      omega
  | succ n ih =>
    obtain ⟨f8, fd8, G_renamed, g_renamed, k_renamed, b_renamed⟩ := ih
    refine D.has fun f fd F => F.ok sc_renamed (fun vs H Q E h => ?_) (fun cdv A outer s H vs Q E hr h => ?_)
    · obtain ⟨v, e, s, du, dk, f, c, S, t, m, rfl, _⟩ := h; rfl
    · obtain ⟨v, e, s, du, dk, f, c, S, t, m, rfl, dp, ok, hn, r, bd, bt, sub, kn, cg, md, neu, fr, q⟩ := h
      have R_inner : Room 1 _ := hr.mono (Nat.le_trans (by decide) (Nat.le_add_right 3 n))
      have R_own : Room 1 _ := hr.mono (Nat.le_trans (by decide) (Nat.le_add_right 3 n))
      have R_arguments : Room 1 _ := hr.mono (Nat.le_trans (by decide) (Nat.le_add_right 3 n))
      have R_with_inner : Room 2 _ := hr.mono (Nat.le_trans (by decide) (Nat.le_add_right 3 n))
      have R_with_own : Room 2 _ := hr.mono (Nat.le_trans (by decide) (Nat.le_add_right 3 n))
      have R_with_arguments : Room 2 _ := hr.mono (Nat.le_trans (by decide) (Nat.le_add_right 3 n))
      have RM_instead_of : Room 2 _ := hr.mono (Nat.le_trans (by decide) (Nat.le_add_right 3 n))
      have R_renamed : Room (3 + n) _ := hr
      refine ⟨_, PSs.nox (pss_cons (ps_set (i := 3) sc_renamed.nd rfl (Or.inl rfl) (pe_callTy call_tuple_of (by rfl) T.n_tuple (by decide +kernel) (pa_cons (pe_lc (own := [("variable", 9)]) rfl sc_renamed.nd (pi_tup (pe_call G_arguments R_arguments (by rfl) g_arguments k_arguments b_arguments .nil pass0 (pa_cons (pv 0) pa_nil))) (blkOk_by (N := ["formula", "changes", "source", "passed", "bound", "within", "old", "new", "parts", "variable", "part"]) (sc := defScope (top 61)) (by decide +kernel)) (fun _ _ _ _ _ => (pg_name (i := 9) sc_renamed.nd rfl (Or.inl rfl))) (fun _ _ _ _ _ => pts_nil) (fun _ _ _ _ _ => (pe_dget2 (hu_of hr) (pv 1) (pv 9) (pv 9) ⟨rfl, rfl, rfl, rfl⟩))) pa_nil))) (pss_cons (ps_set (i := 4) sc_renamed.nd rfl (Or.inl rfl) (pe_callTy call_tuple_of (by rfl) T.n_tuple (by decide +kernel) (pa_cons (pe_lc (own := [("variable", 9)]) rfl sc_renamed.nd (pi_tup (pe_call G_own R_own (by rfl) g_own k_own b_own .nil pass0 (pa_cons (pv 0) pa_nil))) (blkOk_by (N := ["formula", "changes", "source", "passed", "bound", "within", "old", "new", "parts", "variable", "part"]) (sc := defScope (top 61)) (by decide +kernel)) (fun _ _ _ _ _ => (pg_name (i := 9) sc_renamed.nd rfl (Or.inl rfl))) (fun _ _ _ _ _ => pts_nil) (fun _ _ _ _ _ => (pe_meth (pv 2) ND.cls hm_instead_of M_instead_of RM_instead_of bm_instead_of .nil pass0 (pa_cons (pv 9) pa_nil)))) pa_nil))) (pss_cons (ps_set (i := 5) sc_renamed.nd rfl (Or.inr rfl) (pe_callTy call_dictD (by rfl) T.n_dict (by decide +kernel) (pa_cons (pv 1) pa_nil))) (pss_cons (ps_for PassesOwn.never rfl (RZ.pi_zipA (by rfl) T.n_zip (pa_cons (pe_call G_own R_own (by rfl) g_own k_own b_own .nil pass0 (pa_cons (pv 0) pa_nil)) (pa_cons (pv 4) pa_nil))) (pg_tup rfl (pgs_cons (pg_name (i := 6) sc_renamed.nd rfl (Or.inl rfl)) (pgs_cons (pg_name (i := 7) sc_renamed.nd rfl (Or.inl rfl)) pgs_nil))) (pss_one (ps_dput (hu_of hr) (pv 5) (pv 6) (pv 7) rfl))) (pss_cons (ps_setLc (i := 8) (own := [("part", 10)]) rfl sc_renamed.nd rfl rfl (sw_true rfl rfl rfl (by decide +kernel)) (pi_tup (pe_call G_inner R_inner (by rfl) g_inner k_inner b_inner .nil pass0 (pa_cons (pv 0) pa_nil))) (blkOk_by (N := ["formula", "changes", "source", "passed", "bound", "within", "old", "new", "parts", "variable", "part"]) (sc := defScope (top 61)) (by decide +kernel)) (fun _ _ _ _ _ => (pg_name (i := 10) sc_renamed.nd rfl (Or.inl rfl))) (fun _ _ _ _ _ => pts_nil) (fun _ _ _ _ _ => (pe_call G_renamed R_renamed (by rfl) g_renamed k_renamed b_renamed .nil pass0 (pa_cons (pv 10) (pa_cons (pv 5) (pa_cons (pv 2) pa_nil)))))) (pss_one (ps_ret (pe_call G_with_inner R_with_inner (by rfl) g_with_inner k_with_inner b_with_inner .nil pass0 (pa_cons (pe_call G_with_own R_with_own (by rfl) g_with_own k_with_own b_with_own .nil pass0 (pa_cons (pe_call G_with_arguments R_with_arguments (by rfl) g_with_arguments k_with_arguments b_with_arguments .nil pass0 (pa_cons (pv 0) (pa_cons (pv 3) pa_nil))) (pa_cons (pv 4) pa_nil))) (pa_cons (pv 8) pa_nil)))))))))), ?_⟩
      obtain ⟨h, ps⟩ := f
      have fit : h.Ok (ps.map Fm.data).length := by rw [List.length_map]; exact ok.hd_
      have p40 : ps.length ≤ 40 := parts_len ok.hd_
      have al : h.args.length ≤ 8 := args_len ok.hd_
      have ol : h.own.length ≤ 8 := own_le ok.hd_
      rw [Fm.data_mk] at dp
      -- passed
      refine ⟨_, rfl, v, h, _, rfl, dp, fit.fits, fun H1 x1 s1 d1 => ?_⟩
      obtain ⟨t1, rfl, ht1⟩ := tS_inv d1
      refine ⟨t1, rfl, ⟨_, ht1⟩, fun L nL => ?_⟩
      refine lc_it (walk_tup (K := K) (a := t1) (xs := h.args.map V.str)) (fun i H2 => Same H1 H2 ∧ H2 L = some (.lst (((h.args.take i).map c).map V.str))) ⟨same_upd nL, upd_same⟩ (fun i H2 _ ⟨s2, _⟩ => Same.sqt s2 ht1) ?_ ?_
      · rintro i y H2 H3 hi ⟨s2, hL⟩ ⟨rfl, hy⟩
        obtain ⟨x, hx, rfl⟩ := get_map hy
        obtain ⟨kvs, hk, kl, kc⟩ := cg
        have hk2 := s2 _ _ (s1 _ _ hk)
        refine ⟨rfl, _, rfl, e, rfl, .inl ⟨_, .inl hk2⟩, _, rfl, _, rfl, _, DGet.k (k := Sum.inr x) hk2, ?_⟩
        rw [kc x]
        refine ⟨_, hL, ?_, fun b o eb => ?_, ?_⟩
        · rw [List.length_map, List.length_map]
          have := List.length_take_le' i h.args
          exact small1000 (by omega)
        · rw [upd_ne (ne_of_none eb nL)]
          exact s2 _ _ eb
        · rw [upd_same, List.take_add_one, hx, List.map_append, List.map_append]
          rfl
      · rintro H2 ⟨s2, hL⟩
        rw [List.length_map, List.take_length] at hL
        refine ⟨L, _, rfl, .inl ⟨SqL.of hL, fun t2 nt2 => ?_⟩⟩
        have s02 : Same H _ := (s1.trans s2).trans (same_upd (o := .tup ((h.args.map c).map V.str)) nt2)
        have ht2 : SqT K (upd H2 t2 (.tup ((h.args.map c).map V.str))) t2 ((h.args.map c).map V.str) := SqT.of upd_same
        clear hL s2 nL ht1 s1
        revert s02 ht2
        generalize upd H2 t2 (.tup ((h.args.map c).map V.str)) = H2
        intro s02 ht2
        -- bound
        refine ⟨_, rfl, v, h, _, rfl, Dp.same s02 dp, fit.fits, fun H3 x3 s3 d3 => ?_⟩
        obtain ⟨t3, rfl, ht3⟩ := tS_inv d3
        refine ⟨t3, rfl, ⟨_, ht3⟩, fun M nM => ?_⟩
        have r3 : SrR K H3 s du dk S := (r.same s02).same s3
        have ms : M ≠ s := fun z => by obtain ⟨dx, e1⟩ := r3.obj; rw [z, e1] at nM; cases nM
        have mu : M ≠ du := fun z => by rw [z, r3.used] at nM; cases nM
        have ownB : ∀ x, x ∈ h.own → x ∈ S.known ∧ Nm x := fun x hx => kn x (by rw [Fm.allB_mk]; exact List.mem_append_left _ hx)
        have lB : (Fm.mk h ps).allB.length = h.own.length + ((ps.map Fm.allB).flatten).length := by rw [Fm.allB_mk, List.length_append]
        refine lc_it (walk_tup (K := K) (a := t3) (xs := h.own.map V.str)) (fun i H4 => ∃ (us : List Str) (S' : Src), H4 M = some (.lst (us.map V.str)) ∧ us.length = i ∧ SrR K H4 s du dk S' ∧ Ks s du H3 H4 ∧ Gvs S us S' ∧ ∀ x, x ∈ S'.used → x ∈ S'.known)
          ⟨[], S, upd_same, rfl, r3.same (same_upd nM), .of (same_upd nM), .nil S, sub⟩ (fun i H4 _ ⟨_, _, _, _, _, k4, _⟩ => SqT.kj (r3.kj k4) ht3) ?_ ?_
        · rintro i y H4 H5 hi ⟨us, S', hM, lu, r4, k4, gv, sub'⟩ ⟨rfl, hy⟩
          obtain ⟨x, hx, rfl⟩ := get_map hy
          have xo := List.mem_of_getElem? hx
          have io : i < h.own.length := (List.getElem?_eq_some_iff.mp hx).1
          obtain ⟨dx, e4⟩ := r4.obj
          refine ⟨rfl, _, rfl, s, dx, _, rfl, e4, rfl, _, rfl, s, du, dk, S', x, t + us.length, rfl, r4, gv.bd t bd (by omega), by omega, (ownB x xo).2, by rw [gv.kn]; exact (ownB x xo).1, sub', fun H6 S2 z r6 k6 g6 sub2 => ?_⟩
          have hM6 := k6 _ _ hM ms mu
          refine ⟨_, hM6, by rw [List.length_map]; exact small1000 (by omega), us ++ [z], S2, by rw [upd_same, List.map_append]; rfl, by rw [List.length_append, lu]; rfl, ?_, fun b o eb n1 n2 => ?_, gv.app g6.one, sub2⟩
          · obtain ⟨dx6, e6⟩ := r6.obj
            exact ⟨⟨dx6, by rw [upd_ne ms.symm]; exact e6⟩, by rw [upd_ne mu.symm]; exact r6.used, by rw [upd_ne (fun z => by have e7 := r3.known; rw [z, nM] at e7; cases e7)]; exact r6.known, r6.ne⟩
          · rw [upd_ne (ne_of_none eb nM)]
            exact k6 _ _ (k4 _ _ eb n1 n2) n1 n2
        · rintro H4 ⟨us, S1, hM, lu, r4, k4, gv, sub1⟩
          rw [List.length_map] at lu
          refine ⟨M, _, rfl, .inl ⟨SqL.of hM, fun t4 nt4 => ?_⟩⟩
          have gk : Ks s du H H4 := ((Ks.of s02).trans (.of s3)).trans k4
          have us8 : us.length ≤ 8 := by omega
          have st4 := same_upd (o := .tup (us.map V.str)) nt4
          have ht4 : SqT K (upd H4 t4 (.tup (us.map V.str))) t4 (us.map V.str) := SqT.of upd_same
          have r5 := r4.same st4
          have k5 : Ks s du H _ := gk.trans (.of st4)
          have ht2' : SqT K _ t2 ((h.args.map c).map V.str) := Same.sqt st4 (SqT.kj (r3.kj k4) (Same.sqt s3 ht2))
          clear hM st4 ht3 k4 r4 nM r3 s3 ht2 s02 gk
          revert ht4 r5 k5 ht2'
          generalize upd H4 t4 (.tup (us.map V.str)) = H5
          intro ht4 r5 k5 ht2'
          -- within
          have kj5 : Kj H H5 := r.kj k5
          obtain ⟨dx, e0⟩ := id r.obj
          obtain ⟨kvs, hk5, kl, kc⟩ := cg.ks k5 e0 neu
          refine ⟨_, rfl, e, kvs, rfl, .inl hk5, fun p np => ?_⟩
          have sp := same_upd (o := .dK kvs) np
          have hp : (upd H5 p (.dK kvs)) p = some (.dK kvs) := upd_same
          have pns : p ≠ s := fun z => by obtain ⟨dx, e1⟩ := r5.obj; rw [z, e1] at np; cases np
          have pnu : p ≠ du := fun z => by rw [z, r5.used] at np; cases np
          have pnk : p ≠ dk := fun z => by rw [z, r5.known] at np; cases np
          refine ⟨_, rfl, v, h, _, rfl, Dp.same sp (Dp.kj kj5 dp), fit.fits, fun H7 x7 s7 d7 => ?_⟩
          obtain ⟨t7, rfl, ht7⟩ := tS_inv d7
          have sp7 := sp.trans s7
          have hp7 := s7 _ _ hp
          have nH : H p = none := by
            cases z : H p with
            | none => rfl
            | some o =>
              exfalso
              have := k5 p o z (fun w => pns w) (fun w => pnu w)
              rw [this] at np
              cases np
          refine ⟨_, rfl, t7, t4, _, _, rfl, .inr ⟨ht7, Same.sqt sp7 ht4, RZ.for_zipT (K := K) (a := t7) (b := t4) (xs := h.own.map V.str) (ys := us.map V.str) (by rw [List.length_map, List.length_map, lu]) (fun i σ H8 => ∃ (y6 y7 : Option V) (kvs' : List (Key × V)), σ = [some v, some (.ref e), some (.ref s), some (.ref t2), some (.ref t4), some (.ref p), y6, y7, none, none, none] ∧ H8 p = some (.dK kvs') ∧ kvs'.length ≤ m + i ∧ (∀ x, (valV kvs' (Sum.inr x)).getD (.str x) = .str (updC c (h.own.take i) (us.take i) x)) ∧ ∀ b o, H7 b = some o → b ≠ p → H8 b = some o)
            ⟨none, none, kvs, rfl, hp7, kl, fun x => by rw [kc]; rfl, fun b o eb _ => eb⟩ (fun i σ H8 ⟨_, _, _, _, _, _, _, k8⟩ => ?_) ?_ ?_⟩⟩
          · have kp7 : Kj H7 H8 := fun b o eb n1 n2 => k8 b o eb fun z => by rw [z, hp7] at eb; cases eb; exact n2 _ rfl
            exact ⟨SqT.kj kp7 ht7, SqT.kj kp7 (Same.sqt sp7 ht4)⟩
          · rintro i x y T σ H8 hx hy ⟨y6, y7, kvs', rfl, h8, l8, c8, k8⟩ nT
            obtain ⟨o, ho, rfl⟩ := get_map hx
            obtain ⟨u, hu, rfl⟩ := get_map hy
            have io : i < h.own.length := (List.getElem?_eq_some_iff.mp ho).1
            have sT := same_upd (o := .tup [.str o, .str u]) nT
            have pT : p ≠ T := fun z => by rw [z, nT] at h8; cases h8
            have mdp := dep_pos (Fm.mk h ps)
            refine ⟨T, _, rfl, SqT.of upd_same, rfl, _, _, rfl, _, _, rfl, rfl, ?_⟩
            refine ⟨_, rfl, _, rfl, _, rfl, p, _, rfl, DPut.k (k := Sum.inr o) (sT _ _ h8) (small20 (by omega)), ?_⟩
            refine ⟨_, _, _, rfl, upd_same, Nat.le_trans putK_len (by omega), fun x => ?_, fun b ob eb nb => ?_⟩
            · rw [valV_put, List.take_add_one, List.take_add_one, ho, hu]
              show _ = V.str (updC c (h.own.take i ++ [o]) (us.take i ++ [u]) x)
              rw [updC_snoc (by rw [List.length_take, List.length_take, lu])]
              by_cases ex : x = o
              · rw [if_pos (congrArg Sum.inr ex)]
                show V.str u = V.str (if x = o then u else _)
                rw [if_pos ex]
              · rw [if_neg fun z => ex (Sum.inr.inj z), c8]
                show _ = V.str (if x = o then u else _)
                rw [if_neg ex]
            · rw [upd_ne nb]
              exact sT _ _ (k8 b ob eb nb)
          · rintro σ H8 ⟨y6, y7, kvs', rfl, h8, l8, c8, k8⟩
            rw [List.length_map] at l8 c8
            rw [List.take_length, ← lu, List.take_length] at c8
            have kp8 : Kj H H8 := fun b o eb n1 n2 => k8 b o (sp7 _ _ (kj5 b o eb n1 n2)) fun z => by rw [z, nH] at eb; cases eb
            have k58 : ∀ b o, H5 b = some o → b ≠ p → H8 b = some o := fun b o eb nb => k8 b o (sp7 _ _ eb) nb
            have r8 : SrR K H8 s du dk S1 := by
              obtain ⟨dx5, e5⟩ := r5.obj
              exact ⟨⟨dx5, k58 _ _ e5 pns.symm⟩, k58 _ _ r5.used pnu.symm, k58 _ _ r5.known pnk.symm, r5.ne⟩
            have k08 : Ks s du H H8 := fun b o eb n1 n2 => k58 b o (k5 b o eb n1 n2) fun z => by rw [z, nH] at eb; cases eb
            have j58 : Kj H5 H8 := fun b o eb n1 n2 => k58 b o eb fun z => by rw [z, np] at eb; cases eb
            have ht4 := SqT.kj j58 ht4
            have ht2 := SqT.kj j58 ht2'
            have dp8 := Dp.kj kp8 dp
            have mdp := dep_pos (Fm.mk h ps)
            clear ht7 hp7 hp d7 sp7 s7 sp k8 k58 j58 hk5 kc kl r5 k5 kj5 ht2'
            -- parts
            refine ⟨_, rfl, v, h, _, rfl, dp8, fit.fits, fun H9 x9 s9 d9 => ?_⟩
            obtain ⟨b, ys, rfl, hb, hy⟩ := Dp.tup_inv d9
            have r9 := r8.same s9
            have hp9 := s9 _ _ h8
            refine ⟨b, rfl, ⟨_, hb⟩, fun N nN => ?_⟩
            have ns : N ≠ s := fun z => by obtain ⟨dx9, e1⟩ := r9.obj; rw [z, e1] at nN; cases nN
            have nu : N ≠ du := fun z => by rw [z, r9.used] at nN; cases nN
            have nk : dk ≠ N := fun z => by have e7 := r9.known; rw [z, nN] at e7; cases e7
            refine lc_it (walk_tup (K := K) (a := b) (xs := ys)) (fun i H10 => ∃ (zs : List V) (gs : List Fm) (S2 : Src), H10 N = some (.lst zs) ∧ DpAll K H10 zs (gs.map Fm.data) ∧ gs.length = i ∧ SrR K H10 s du dk S2 ∧ Ks s du H9 H10 ∧ Gvs S1 ((gs.map Fm.allB).flatten) S2 ∧ (∀ x, x ∈ S2.used → x ∈ S2.known) ∧ ∀ (j : Nat) (a b : Fm), ps[j]? = some a → gs[j]? = some b → Sm (updC c h.own us) a b)
              ⟨[], [], S1, upd_same, .nil, rfl, r9.same (same_upd nN), .of (same_upd nN), .nil S1, sub1, fun j a b _ z => by simp at z⟩ (fun i H10 _ ⟨_, _, _, _, _, _, _, k10, _⟩ => SqT.kj (r9.kj k10) hb) ?_ ?_
            · rintro i y H10 H11 hi ⟨zs, gs, S2, hN, hz, lg, r10, k10, gv2, sub2, sm2⟩ ⟨rfl, hy2⟩
              obtain ⟨dd, hd, dpy⟩ := DpAll.get' hy hy2
              obtain ⟨g, hg, rfl⟩ := get_map hd
              have mem := List.mem_of_getElem? hg
              have dl : g.dep < (Fm.mk h ps).dep := dep_part mem
              have ip := (List.getElem?_eq_some_iff.mp hg).1
              have fl : ((gs.map Fm.allB).flatten).length = ((ps.take i).map Fm.allB).flatten.length := by
                refine flat_len (by rw [List.length_take]; omega) fun j a b' ha hb' => ?_
                have jl : j < gs.length := (List.getElem?_eq_some_iff.mp hb').1
                rw [List.getElem?_take, if_pos (by omega)] at ha
                exact (sm2 j a b' ha hb').lenB
              have ft := flat_take (ps.map Fm.allB) i g.allB (by rw [List.getElem?_map, hg]; rfl)
              rw [← List.map_take] at ft
              have b1 := gv.bd t bd (by omega)
              have b2 := gv2.bd _ b1 (by omega)
              have own_tk : ∀ x, x ∈ us → S2.Tk x := fun x hx => (gv2.tk x).mpr (.inl ((gv.tk x).mpr (.inr hx)))
              refine ⟨rfl, _, rfl, _, rfl, _, rfl, y, p, s, du, dk, g, updC c h.own us, S2, _, m + 8, rfl, Dp.kj (r9.kj k10) dpy, ok.part mem, by omega, r10, b2, by omega, sub2, fun x hx => ?_, ⟨kvs', k10 _ _ hp9 pns pnu, by omega, c8⟩, by omega, pnu, fun x hx => ?_, fun H11 rf g' S3 r11 k11 dg sm gv3 sub3 => ?_⟩
              · have z := kn x (by rw [Fm.allB_mk]; exact List.mem_append_right _ (List.mem_flatten.mpr ⟨_, List.mem_map.mpr ⟨g, mem, rfl⟩, hx⟩))
                rw [gv2.kn, gv.kn]
                exact z
              · by_cases ox : x ∈ h.own
                · have z := updC_in (c := c) (us := us) lu ox
                  exact ⟨gv.nm _ z, own_tk _ z⟩
                · rw [updC_out ox]
                  have z := fr x (Fm.frees_mem.mpr (.inl ⟨g, mem, hx, ox⟩))
                  exact ⟨z.1, (gv2.tk _).mpr (.inl ((gv.tk _).mpr (.inl z.2)))⟩
              · have hN11 := k11 _ _ hN ns nu
                have lz := DpAll.length hz
                rw [List.length_map] at lz
                have kz := r10.kj k11
                refine ⟨_, hN11, small1000 (by omega), zs ++ [rf], gs ++ [g'], S3, upd_same, ?_, by rw [List.length_append, lg]; rfl, ?_, fun b' o eb n1 n2 => ?_, ?_, sub3, fun j a b' ha hb' => ?_⟩
                · rw [List.map_append]
                  exact DpAll.kl (Kl.upd hN11) (DpAll.snoc (DpAll.kj kz hz) dg) (by rw [noLs_append, fms_noL, fms_noL]; rfl)
                · obtain ⟨dx11, e11⟩ := r11.obj
                  exact ⟨⟨dx11, by rw [upd_ne ns.symm]; exact e11⟩, by rw [upd_ne nu.symm]; exact r11.used, by rw [upd_ne nk]; exact r11.known, r11.ne⟩
                · rw [upd_ne (ne_of_none eb nN)]
                  exact k11 _ _ (k10 _ _ eb n1 n2) n1 n2
                · rw [List.map_append, List.flatten_append]
                  have e1 : ([g'].map Fm.allB).flatten = g'.allB := by simp
                  rw [e1]
                  exact gv2.app gv3
                · by_cases jl : j < gs.length
                  · rw [List.getElem?_append_left jl] at hb'
                    exact sm2 j a b' ha hb'
                  · have jle := (List.getElem?_eq_some_iff.mp hb').1
                    rw [List.length_append] at jle
                    have ji : j = i := by have : j < gs.length + 1 := jle; omega
                    subst ji
                    rw [List.getElem?_append_right (by omega), lg, Nat.sub_self] at hb'
                    rw [hg] at ha
                    cases ha
                    cases hb'
                    exact sm
            · rintro H10 ⟨zs, gs, S2, hN, hz, lg, r10, k10, gv2, sub2, sm2⟩
              have lps : gs.length = ps.length := by rw [lg, DpAll.length hy, List.length_map]
              have j9 := r9.kj k10
              have la : (h.args.map c).length = h.args.length := List.length_map ..
              have ro : ReOk h (h.args.map c) us := ⟨la, lu, fun x hx => by
                obtain ⟨y, hy', rfl⟩ := List.mem_map.mp hx
                exact (fr y (Fm.frees_mem.mpr (.inr hy'))).1, gv.nm, gv.nd⟩
              have d40 : (ps.map Fm.data).length ≤ 40 := by rw [List.length_map]; exact p40
              have j8 : Kj H8 H10 := fun b' o eb n1 n2 => j9 b' o (s9 _ _ eb) n1 n2
              refine ⟨_, rfl, _, rfl, v, .ref t2, h, _, h.args.map c, rfl, Dp.kj j8 dp8, tS_of (SqT.kj j8 ht2), la, fit.fits, d40, fun H12 x12 s12 d12 => ?_⟩
              have f1 : (h.withArgs (h.args.map c)).fits (ps.map Fm.data).length := fun k e => fit.fits k (by rw [← one_withArgs la]; exact e)
              refine ⟨_, rfl, x12, .ref t4, _, _, us, rfl, d12, tS_of (Same.sqt s12 (SqT.kj j8 ht4)), by rw [own_withArgs la]; exact lu, f1, d40, fun H13 x13 s13 d13 => ?_⟩
              have f2 : ((h.withArgs (h.args.map c)).withOwn us).fits (ps.map Fm.data).length := fun k e => f1 k (by rw [← one_withOwn (us := us)]; exact e)
              have s10 := s12.trans s13
              refine ⟨_, rfl, x13, _, _, gs.map Fm.data, N, zs, rfl, d13, f2, SqL.of (s10 _ _ hN), DpAll.same s10 hz, by rw [List.length_map, List.length_map, lps], fun H14 x14 s14 d14 => ?_⟩
              have sF := s10.trans s14
              refine q H14 x14 (.mk (h.re (h.args.map c) us) gs) S2 (r10.same sF) (k08.trans ((Ks.of s9).trans (k10.trans (.of sF)))) (by rw [Fm.data_mk]; exact d14) (.mk ro (fun x hx hu => ?_) lps sm2) ?_ sub2
              · exact gv.new _ hu (fr x hx).2
              · rw [Fm.allB_mk, re_own ro]
                exact gv.app gv2
end
/-! ### variables that occur -/
theorem own_len {h : Hd} {n : Nat} (k : h.Ok n) : h.own.length ≤ 8 := by
  cases h with
  | ex us => show us.length ≤ 8; have h2 := k.1.2.1; omega
  | al us => show us.length ≤ 8; have h2 := k.1.2.1; omega
  | lfp n us as => show us.length ≤ 8; have h2 := k.2.1.2.1; omega
  | pfp n us as => show us.length ≤ 8; have h2 := k.2.1.2.1; omega
  | tc us as => show us.length ≤ 8; have h2 := k.1; omega
  | _ => exact Nat.zero_le _
theorem smallV {n : Nat} (h : n ≤ 20000) : n < sizeLine := Nat.lt_of_le_of_lt h (by show 20000 < sizeLine; decide)
theorem mem_flat_len {α : Type} : ∀ {l : List (List α)} {x : List α}, x ∈ l → x.length ≤ l.flatten.length
  | a :: l, x, h => by
    rw [List.flatten_cons, List.length_append]
    rcases List.mem_cons.mp h with rfl | h
    · omega
    · have := mem_flat_len h
      omega
theorem vars_part {h : Hd} {ps : List Fm} {p : Fm} (hp : p ∈ ps) : p.vars.length ≤ (Fm.mk h ps).vars.length := by
  rw [Fm.vars_mk, List.length_append]
  have := mem_flat_len (List.mem_map_of_mem (f := Fm.vars) hp)
  omega
theorem vars_mem {h : Hd} {ps : List Fm} {x : Str} : x ∈ (Fm.mk h ps).vars ↔ x ∈ h.own ++ h.args ∨ ∃ g, g ∈ ps ∧ x ∈ g.vars := by
  rw [Fm.vars_mk, List.mem_append, List.mem_flatten]
  constructor
  · rintro (a | ⟨l, hl, hx⟩)
    · exact .inl a
    · obtain ⟨g, hg, rfl⟩ := List.mem_map.mp hl
      exact .inr ⟨g, hg, hx⟩
  · rintro (a | ⟨g, hg, hx⟩)
    · exact .inl a
    · exact .inr ⟨_, List.mem_map.mpr ⟨g, hg, rfl⟩, hx⟩
theorem catA_tup {K : PySem.W.Frag} {H : Hp} {a b : Addr} {as bs : List Str} {Q : VK} (h1 : SqT K H a (as.map V.str)) (h2 : SqT K H b (bs.map V.str)) (len : as.length + bs.length ≤ 900)
    (q : ∀ (H' : Hp) (t : Addr), Same H H' → SqT K H' t ((as ++ bs).map V.str) → Q (.ref t) H') : rCatA K (.ref a) (.ref b) H Q := by
  refine ⟨a, b, _, _, rfl, rfl, h1, h2, ?_, fun e => ?_, fun _ e => ?_, fun _ _ p np => ?_⟩
  · rw [List.length_map, List.length_map]
    exact Nat.le_of_lt (small1000 (by omega))
  · refine q H b (.refl H) ?_
    rw [List.map_eq_nil_iff.mp e]
    exact h2
  · refine q H a (.refl H) ?_
    rw [List.map_eq_nil_iff.mp e, List.append_nil]
    exact h1
  · refine q _ p (same_upd np) ?_
    rw [List.map_append]
    exact .inl (.inl upd_same)
def spVarsD (K : PySem.W.Frag) (n : Nat) : Sp := fun vs H Q _ => ∃ (v : V) (f : Fm), vs = [v] ∧ Dp K H v f.data ∧ f.Ok ∧ f.vars.length ≤ 20000 - 1 ∧ f.dep ≤ n ∧
  ∀ (H' : Hp) (r : Addr) (l : List Str), Same H H' → H r = none → H' r = some (.dK (l.map encT)) → l.Nodup → (∀ x, x ∈ l ↔ x ∈ f.vars) → Q (.ref r) H'
section
variable {P : Program} {w : World} {K : PySem.W.Frag} {mg : Str → Option Value} {base : Heap}
theorem sc_pvars : FnScope ["formula", "found", "part", "variable"] ["formula"] (defScope (top 56)) := ⟨rfl, rfl, rfl, by decide +kernel, rfl, by decide +kernel, by decide +kernel⟩
theorem has_pvars (D : Def K mg "variables_in" ["formula"] (top 56)) (T : Txt mg) (C1 : Has P w K mg base 1 "inner" ["formula"] (spInner K)) (C2 : Has P w K mg base 1 "own" ["formula"] (spOwn K)) (C3 : Has P w K mg base 1 "arguments" ["formula"] (spArgs K)) :
    ∀ n : Nat, Has P w K mg base (2 + n) "variables_in" ["formula"] (spVarsD K n) := by
  obtain ⟨f1, fd1, G_inner, g_inner, k_inner, b_inner⟩ := C1
  obtain ⟨f2, fd2, G_own, g_own, k_own, b_own⟩ := C2
  obtain ⟨f3, fd3, G_arguments, g_arguments, k_arguments, b_arguments⟩ := C3
  intro n
  induction n with
  | zero =>
    refine D.has fun f fd F => F.ok sc_pvars (fun vs H Q E h => ?_) (fun cdv A outer s H vs Q E hr h => ?_)
    · obtain ⟨v, f, rfl, _⟩ := h; rfl
    · obtain ⟨v, f, rfl, _, _, _, h0, _⟩ := h
      have := dep_pos f
      omega
  | succ n ih =>
    obtain ⟨f4, fd4, G_variables_in, g_variables_in, k_variables_in, b_variables_in⟩ := ih
    refine D.has fun f fd F => F.ok sc_pvars (fun vs H Q E h => ?_) (fun cdv A outer s H vs Q E hr h => ?_)
    · obtain ⟨v, f, rfl, _⟩ := h; rfl
    · obtain ⟨v, f, rfl, dp, ok, hp20, hn, q⟩ := h
      have R_inner : Room 1 _ := hr.mono (Nat.le_trans (by decide) (Nat.le_add_right 2 n))
      have R_own : Room 1 _ := hr.mono (Nat.le_trans (by decide) (Nat.le_add_right 2 n))
      have R_arguments : Room 1 _ := hr.mono (Nat.le_trans (by decide) (Nat.le_add_right 2 n))
      have R_variables_in : Room (2 + n) _ := hr
      refine ⟨_, PSs.nox (pss_cons (ps_setDc (i := 1) (own := [("variable", 3)]) rfl sc_pvars.nd rfl rfl (sw_trueD rfl rfl rfl (by decide +kernel)) (pi_tup (pe_op op_catA (pe_call G_own R_own (by rfl) g_own k_own b_own .nil pass0 (pa_cons (pv 0) pa_nil)) (pe_call G_arguments R_arguments (by rfl) g_arguments k_arguments b_arguments .nil pass0 (pa_cons (pv 0) pa_nil)))) (blkOk_by (N := ["formula", "found", "part", "variable"]) (sc := defScope (top 56)) (by decide +kernel)) (fun _ _ _ _ _ => (pg_name (i := 3) sc_pvars.nd rfl (Or.inl rfl))) (fun _ _ _ _ _ => pts_nil) (fun _ _ _ _ _ => (pv 3)) (fun _ _ _ _ _ => pe_bl)) (pss_cons (ps_for PassesOwn.never rfl (pi_tup (pe_call G_inner R_inner (by rfl) g_inner k_inner b_inner .nil pass0 (pa_cons (pv 0) pa_nil))) (pg_name (i := 2) sc_pvars.nd rfl (Or.inl rfl)) (pss_one (ps_for PassesOwn.never rfl (pi_keys (pe_frz (pe_call G_variables_in R_variables_in (by rfl) g_variables_in k_variables_in b_variables_in .nil pass0 (pa_cons (pv 2) pa_nil)))) (pg_name (i := 3) sc_pvars.nd rfl (Or.inl rfl)) (pss_one (ps_dput (hu_of hr) (pv 1) (pv 3) pe_bl rfl))))) (pss_one (ps_ret (pv 1))))), ?_⟩
      obtain ⟨h, ps⟩ := f
      have fit : h.Ok (ps.map Fm.data).length := by rw [List.length_map]; exact ok.hd_
      rw [Fm.data_mk] at dp
      have al : h.args.length ≤ 8 := args_len ok.hd_
      have ol : h.own.length ≤ 8 := own_len ok.hd_
      -- found
      refine ⟨_, rfl, v, h, _, rfl, dp, fit.fits, fun H0 t0 s0 d0 => ?_⟩
      obtain ⟨t0, rfl, ht0⟩ := tS_inv d0
      refine ⟨_, rfl, v, h, _, rfl, Dp.same s0 dp, fit.fits, fun Ha ta sa da => ?_⟩
      obtain ⟨ta, rfl, hta⟩ := tS_inv da
      refine catA_tup (Same.sqt sa ht0) hta (by omega) fun H1 t s1' ht => ?_
      have s1 : Same H H1 := (s0.trans sa).trans s1'
      refine ⟨t, rfl, ⟨_, ht⟩, fun c nc => ?_⟩
      have nc0 : H c = none := Same.none s1 nc
      have bl : (h.own ++ h.args).length ≤ 16 := by rw [List.length_append]; omega
      refine dc_tup (K := K) (a := t) (xs := (h.own ++ h.args).map V.str) (fun i H2 => Same H1 H2 ∧ ∃ l : List Str, H2 c = some (.dK (l.map encT)) ∧ l.Nodup ∧ (∀ x, x ∈ l ↔ x ∈ (h.own ++ h.args).take i) ∧ l.length ≤ i) ⟨same_upd nc, [], upd_same, List.nodup_nil, fun x => by simp, Nat.le_refl _⟩ (fun i H2 _ ⟨s2, _⟩ => Same.sqt s2 ht) ?_ ?_
      · rintro i z H2 hz ⟨s2, l, hc2, nd, ml, ll⟩
        obtain ⟨x, hx, rfl⟩ := get_map hz
        have hi : i < (h.own ++ h.args).length := (List.getElem?_eq_some_iff.mp hx).1
        obtain ⟨m, em, ndm, mm, lm⟩ := put_encT (l := l) (x := x)
        refine ⟨rfl, _, rfl, _, Sum.inr x, rfl, hc2, ?_, fun b o eb => ?_, m, ?_, ndm nd, fun y => ?_, by omega⟩
        · rw [List.length_map]
          exact small1000 (by omega)
        · rw [upd_ne (ne_of_none eb nc)]
          exact s2 _ _ eb
        · rw [upd_same, em]
        · rw [mm, ml, List.take_add_one, hx, List.mem_append]
          simp
      · rintro H2 ⟨s2, l0, hc2, nd0, ml0, ll0⟩
        rw [List.length_map] at ll0 ml0
        rw [List.take_length] at ml0
        have s02 : Same H H2 := s1.trans s2
        have keepS : ∀ {H3 H4 : Hp}, Same H2 H3 → Kp c H3 H4 → Same H H4 := fun s k b o e => k b o (s b o (s02 b o e)) (ne_of_none e nc0)
        refine ⟨_, rfl, v, h, _, rfl, Dp.same s02 dp, fit.fits, fun H3 r s3 hr3 => ?_⟩
        obtain ⟨b, ys, rfl, hb, hy⟩ := Dp.tup_inv hr3
        have hc3 := s3 _ _ hc2
        have nq : NotSeq H3 c := ⟨_, hc3⟩
        refine ⟨b, rfl, ⟨_, hb⟩, for_tup (K := K) (a := b) (xs := ys) (fun i σ H4 => ∃ (y2 y3 : Option V) (l : List Str), σ = [some v, some (.ref c), y2, y3] ∧ Kp c H3 H4 ∧ H4 c = some (.dK (l.map encT)) ∧ l.Nodup ∧ ∀ x, x ∈ l ↔ x ∈ h.own ++ h.args ∨ ∃ g, g ∈ ps.take i ∧ x ∈ g.vars)
          ⟨none, none, l0, rfl, .refl _ _, hc3, nd0, fun x => by rw [ml0]; simp⟩ (fun i σ H4 _ ⟨_, _, _, _, k4, _⟩ => k4.sqt' nq hb) ?_ ?_⟩
        · rintro i y σ H4 hi ⟨y2, y3, l, rfl, k4, hc4, nd, ml⟩
          obtain ⟨dd, hd, dpy⟩ := DpAll.get' hy hi
          obtain ⟨g, hg, rfl⟩ := get_map hd
          have mem := List.mem_of_getElem? hg
          have dl : g.dep < (Fm.mk h ps).dep := dep_part mem
          have sH4 : Same H H4 := keepS s3 k4
          refine ⟨_, rfl, y, g, rfl, Dp.kpD k4 nq dpy, ok.part mem, Nat.le_trans (vars_part mem) hp20, by omega, fun H5 e l2 s5 ne he nd2 m2 => ?_⟩
          have nec : e ≠ c := fun z => by rw [z, hc4] at ne; cases ne
          refine ⟨e, .dK (l2.map encT), he, trivial, fun od => ?_⟩
          refine ⟨e, od, rfl, .inl ⟨_, upd_same, for_it walk_keys (fun j σ H6 => ∃ (y3 : Option V) (l' : List Str), σ = [some v, some (.ref c), some y, y3] ∧ H6 e = some (.frz od (.dK (l2.map encT))) ∧ (∀ b o, H4 b = some o → b ≠ c → H6 b = some o) ∧ H6 c = some (.dK (l'.map encT)) ∧ l'.Nodup ∧ ∀ x, x ∈ l' ↔ x ∈ l ∨ x ∈ l2.take j)
            ⟨y3, l, rfl, upd_same, fun b o eb nb => by rw [upd_ne (ne_of_none eb ne)]; exact s5 _ _ eb, by rw [upd_ne nec.symm]; exact s5 _ _ hc4, nd, fun x => by simp⟩ (fun j σ H6 _ ⟨_, _, _, q1, _⟩ => q1) ?_ ?_⟩⟩
          · rintro j x σ H6 H7 hj ⟨y3, l', rfl, he6, k6, hc6, nd', ml'⟩ ⟨rfl, kk, vv, hkv, rfl⟩
            obtain ⟨p, hp, ep⟩ := get_map hkv
            have ek : kk = Sum.inr p := congrArg Prod.fst ep
            subst ek
            have tk : l2.take (j + 1) = l2.take j ++ [p] := by rw [List.take_add_one, hp]; rfl
            have l'20 : l'.length ≤ 20000 - 1 := Nat.le_trans (sub_len l' (Fm.mk h ps).vars nd' fun x hx => (vars_mem.mpr (by
              rcases (ml' x).mp hx with z | z
              · rcases (ml x).mp z with a | ⟨g2, hg2, a⟩
                · exact .inl a
                · exact .inr ⟨g2, List.mem_of_mem_take hg2, a⟩
              · exact .inr ⟨g, mem, (m2 x).mp (List.mem_of_mem_take z)⟩))) hp20
            obtain ⟨m, em, ndm, mm, lm⟩ := put_encT (l := l') (x := p)
            refine ⟨_, rfl, _, rfl, c, _, rfl, DPut.k (k := Sum.inr p) hc6 (by rw [List.length_map]; exact smallV (by omega)), ?_⟩
            rw [em]
            refine ⟨_, m, rfl, by rw [upd_ne nec]; exact he6, fun b o eb nb => by rw [upd_ne nb]; exact k6 b o eb nb, upd_same, ndm nd', fun x => ?_⟩
            rw [mm, ml', tk, List.mem_append]
            simp [or_assoc]
          · rintro σ H6 ⟨y3, l', rfl, he6, k6, hc6, nd', ml'⟩
            refine ⟨_, _, l', rfl, fun b o eb nb => k6 b o (k4 b o eb nb) nb, hc6, nd', fun x => ?_⟩
            have hg : ps[i]? = some g := hg
            rw [ml', ml, List.take_of_length_le (show l2.length ≤ (l2.map encT).length by rw [List.length_map]; exact Nat.le_refl _), m2, List.take_add_one, hg]
            constructor
            · rintro ((a | ⟨g2, hg2, a⟩) | a)
              · exact .inl a
              · exact .inr ⟨g2, List.mem_append_left _ hg2, a⟩
              · exact .inr ⟨g, List.mem_append_right _ (List.mem_singleton.mpr rfl), a⟩
            · rintro (a | ⟨g2, hg2, a⟩)
              · exact .inl (.inl a)
              · rcases List.mem_append.mp hg2 with hg2 | hg2
                · exact .inl (.inr ⟨g2, hg2, a⟩)
                · rw [List.mem_singleton.mp hg2] at a
                  exact .inr a
        · rintro σ H4 ⟨y2, y3, l, rfl, k4, hc4, nd, ml⟩
          have eyl : ys.length = ps.length := by rw [DpAll.length hy, List.length_map]
          rw [List.take_of_length_le (show ps.length ≤ ys.length by omega)] at ml
          exact ⟨_, rfl, q H4 c l (keepS s3 k4) nc0 hc4 nd fun x => by rw [ml, vars_mem]⟩
end
/-! ### apart -/
theorem own_names {h : Hd} {n : Nat} (k : h.Ok n) : Names h.own := by
  cases h with
  | ex vs => exact k.1.2.2.1
  | al vs => exact k.1.2.2.1
  | lfp m vs as => exact k.2.1.2.2.1
  | pfp m vs as => exact k.2.1.2.2.1
  | tc vs as => exact k.2.1
  | _ => exact fun v hv => nomatch hv
theorem args_names {h : Hd} {n : Nat} (k : h.Ok n) : Names h.args := by
  cases h with
  | rel m as => exact k.2.2.1
  | eq x y =>
    intro v hv
    rcases List.mem_cons.mp hv with rfl | hv
    · exact k.1
    · rw [List.mem_singleton.mp hv]; exact k.2.1
  | less x y =>
    intro v hv
    rcases List.mem_cons.mp hv with rfl | hv
    · exact k.1
    · rw [List.mem_singleton.mp hv]; exact k.2.1
  | lfp m vs as => exact k.2.2.2.1
  | pfp m vs as => exact k.2.2.2.1
  | tc vs as => exact k.2.2.2.2.1
  | _ => exact fun v hv => nomatch hv
theorem mk_init {P : Program} {w : World} {K : PySem.W.Frag} {mg : Str → Option Value} {base : Heap} {g : Addr} {ps : List Str} {sp : Sp} {k : Nat} (M : Mk K (He.ga K "Names") g) (h : HasM P w K mg base k "Names" "__init__" ps sp) : ∃ f fd, Mk K (He.ga K "Names") f ∧ FnOk P w K mg base CX0 k f fd ps sp ∧ Binds K fd ps [] := by
  obtain ⟨f, fd, F, m, b⟩ := h
  have e := m.at_.symm.trans M.init
  injection e with e
  injection e with e
  injection e with e
  subst e
  exact ⟨f, fd, M, F, b⟩
theorem vars_nm : ∀ f : Fm, f.Ok → ∀ x, x ∈ f.vars → Nm x := Fm.ind fun h ps ih ok x hx => by
  rcases vars_mem.mp hx with a | ⟨g, hg, a⟩
  · rcases List.mem_append.mp a with a | a
    · exact own_names ok.hd_ x a
    · exact args_names ok.hd_ x a
  · exact ih g hg (ok.part hg) x a
theorem allB_vars : ∀ f : Fm, ∀ x, x ∈ f.allB → x ∈ f.vars := Fm.ind fun h ps ih x hx => by
  rw [Fm.allB_mk] at hx
  rcases List.mem_append.mp hx with a | a
  · exact vars_mem.mpr (.inl (List.mem_append_left _ a))
  · obtain ⟨l, hl, a⟩ := List.mem_flatten.mp a
    obtain ⟨g, hg, rfl⟩ := List.mem_map.mp hl
    exact vars_mem.mpr (.inr ⟨g, hg, ih g hg x a⟩)
def spApart (K : PySem.W.Frag) : Sp := fun vs H Q _ => ∃ (v : V) (f : Fm), vs = [v] ∧ Dp K H v f.data ∧ f.Wf ∧ Fr20 f ∧ f.vars.length ≤ 20000 - 1 ∧ f.allB.length ≤ 10000 ∧
  ∀ (H' : Hp) (r : V) (g : Fm), Same H H' → Dp K H' r g.data → Sm id f g → Names g.allB → g.allB.Nodup → (∀ u, u ∈ g.allB → u ∉ f.frees) → Q r H'
section
variable {P : Program} {w : World} {K : PySem.W.Frag} {mg : Str → Option Value} {base : Heap}
theorem sc_apart : FnScope ["formula", "source"] ["formula"] (defScope (top 64)) := ⟨rfl, rfl, rfl, by decide +kernel, rfl, by decide +kernel, by decide +kernel⟩
theorem has_apart (D : Def K mg "apart" ["formula"] (top 64)) (gC_Names : mg "Names" = some (.ref (He.ga K "Names"))) (I : ∃ f fd, Mk K (He.ga K "Names") f ∧ FnOk P w K mg base CX0 1 f fd ["self", "barred", "known"] (spSrcInit K) ∧ Binds K fd ["self", "barred", "known"] [])
    (C1 : Has P w K mg base 48 "free" ["formula"] (spFreeL K)) (C2 : ∀ n, Has P w K mg base (2 + n) "variables_in" ["formula"] (spVarsD K n)) (C3 : ∀ n, Has P w K mg base (3 + n) "renamed" ["formula", "changes", "source"] (spRen K n)) : Has P w K mg base 49 "apart" ["formula"] (spApart K) := D.has fun f fd F => by
  obtain ⟨f1, fd1, G_free, g_free, k_free, b_free⟩ := C1
  obtain ⟨f2, fd2, G_variables_in, g_variables_in, k_variables_in, b_variables_in⟩ := C2 40
  obtain ⟨f3, fd3, G_renamed, g_renamed, k_renamed, b_renamed⟩ := C3 40
  obtain ⟨f4, fd4, MK_Names, GI_Names, bI_Names⟩ := I
  refine F.ok sc_apart (fun vs H Q E h => ?_) (fun cdv A outer s H vs Q E hr h => ?_)
  · obtain ⟨v, f, rfl, _⟩ := h; rfl
  · obtain ⟨v, f, rfl, dp, wf, fr, vl, bl, q⟩ := h
    have R_free : Room 48 _ := hr
    have R_variables_in : Room (2 + 40) _ := hr.mono (by decide)
    have R_renamed : Room (3 + 40) _ := hr.mono (by decide)
    have RI_Names : Room (1 + 1) _ := hr.mono (by decide)
    refine ⟨_, PSs.nox (pss_cons (ps_set (i := 1) sc_apart.nd rfl (Or.inl rfl) (pe_make MK_Names GI_Names RI_Names (by rfl) gC_Names bI_Names .nil pass0 (pa_cons (pe_call G_free R_free (by rfl) g_free k_free b_free .nil pass0 (pa_cons (pv 0) pa_nil)) (pa_cons (pe_call G_variables_in R_variables_in (by rfl) g_variables_in k_variables_in b_variables_in .nil pass0 (pa_cons (pv 0) pa_nil)) pa_nil)))) (pss_one (ps_ret (pe_call G_renamed R_renamed (by rfl) g_renamed k_renamed b_renamed .nil pass0 (pa_cons (pv 0) (pa_cons pe_dnewK (pa_cons (pv 1) pa_nil))))))), ?_⟩
    refine ⟨_, rfl, v, f, rfl, dp, wf, fr, fun H1 r1 ss s1 hr1 so => ?_⟩
    refine ⟨_, rfl, v, f, rfl, Dp.same s1 dp, wf.ok, vl, wf.dep, fun H2 e l s2 ne he nd ml => ?_⟩
    have ne0 : H e = none := Same.none s1 ne
    obtain ⟨pool, p20, sub⟩ := fr.here
    have l1 : ss.length ≤ 40 := Nat.le_trans (sub_len ss pool so.nd fun x hx => sub x ((so.mem x).mp hx)) p20
    have l2 : l.length ≤ 20000 - 1 := Nat.le_trans (sub_len l f.vars nd fun x hx => (ml x).mp hx) vl
    intro x dx nx ndx nex
    have sd := same_upd (o := .own x) ndx
    have nx1 : (upd H2 dx (.own x)) x = none := by rw [upd_ne nex.symm]; exact nx
    have sx := same_upd (o := .ins (He.ga K "Names") dx []) nx1
    have s03 := ((s1.trans s2).trans sd).trans sx
    have s23 := sd.trans sx
    refine ⟨x, dx, r1, e, ss, l, rfl, upd_same, SqL.of (s23 _ _ (s2 _ _ hr1)), s23 _ _ he, so.nd, nd, by omega, by omega, fun H4 du dk S r4 k4 ndu nu lu mu lk mk made => ⟨rfl, ?_⟩⟩
    have nx0 : H x = none := by
      cases z : H x with
      | none => rfl
      | some o => rw [s2 _ _ (s1 _ _ z)] at nx; cases nx
    have ndu0 : H du = none := by
      cases z : H du with
      | none => rfl
      | some o => rw [s03 _ _ z] at ndu; cases ndu
    have s04 : Same H H4 := fun b o eb => k4 b o (s03 _ _ eb) (fun z => by rw [z, nx0] at eb; cases eb) (fun z => by rw [z, ne0] at eb; cases eb)
    refine ⟨_, rfl, fun p np => ?_⟩
    have sp := same_upd (o := .dK []) np
    have s05 := s04.trans sp
    refine ⟨_, rfl, v, p, x, du, dk, f, id, S, 40, 0, rfl, Dp.same s05 dp, wf.ok, wf.dep, r4.same sp, ⟨nu, by omega, by omega, by omega⟩, by omega, fun y hy => ?_, fun y hy => ⟨?_, ?_⟩, ⟨[], upd_same, Nat.le_refl _, fun _ => rfl⟩, (by have := wf.dep; omega), (fun z => by rw [z, r4.used] at np; cases np), fun y hy => ⟨?_, ?_⟩, fun H6 r g S' r6 k6 dg sm gv _ => ?_⟩
    · exact (mk y).mpr ((ml y).mpr (frees_vars _ y ((so.mem y).mp ((mu y).mp hy))))
    · exact (mk y).mpr ((ml y).mpr (allB_vars f y hy))
    · exact vars_nm f wf.ok y (allB_vars f y hy)
    · exact vars_nm f wf.ok y (frees_vars _ y hy)
    · exact .inl ((mu y).mpr ((so.mem y).mpr hy))
    · refine q H6 r g (fun b o eb => k6 b o (s05 _ _ eb) (fun z => by rw [z, nx0] at eb; cases eb) (fun z => by rw [z, ndu0] at eb; cases eb)) dg sm gv.nm gv.nd fun u hu hf => gv.new u hu (.inl ((mu u).mpr ((so.mem u).mpr hf)))
end
/-! ### errors that fly on, errors raised in a suite -/
section
variable {X : Cx}
theorem passN : Passes (L2N.CX X.prog X.w) X E0 := fun _ _ _ _ _ _ _ ⟨_, _, _, _, _, _, _, _, _, _, _, _, z⟩ => z.elim
/-- raise X('m') where nothing is handled, its context told -/
theorem ps_raiseXN {x m : Str} {j : Nat} {p p2 pos pos' : Pos} {W : WX} (c : XC X.K X.mg x) (hc : X.calm = true) (tk : L2N.Takes X W) (hg : Gl X x) (hdb : (x == ("__debug__" : Str)) = false := by decide) :
    PS X (.Raise (some (.Call (.Name x p) [.Constant (.str m) j p2] [] pos)) none pos') (fun _ σ H => W (.ref (He.ga X.K x)) none σ H) :=
  L2N.ps_raise hc tk (L2N.pmk_own PySem.F.excBase_ValueError c.ex c.g c.k (raises_own c.b c.t) hg hdb)
/-- X('m'), its six fields told -/
theorem pmk5X {x m : Str} {j : Nat} {p p2 pos : Pos} (c : XC X.K X.mg x) (hg : Gl X x) (hdb : (x == ("__debug__" : Str)) = false := by decide) : L2H.PMk5 X (.Call (.Name x p) [.Constant (.str m) j p2] [] pos) (fun _ G Q => Q (.ref (He.ga X.K x)) none G) := by
  intro ps s0 τ G Q J hq
  have one : PA X [.Constant (.str m) j p2] (tCons (tC (.str m)) tNil) := pa_cons pe_str pa_nil
  have ran := one.run pos ps s0 τ G (fun ws G1 => ws = [V.str m] ∧ G = G1) J ⟨rfl, rfl⟩
  refine wpAny_Call_Name_kw (ld_glob J hg c.g (PySem.W.callWith_K (h₀ := X.base) J.ok.mod.kin c.k (thn ran fun us t1 told => ?_)) hdb)
  obtain ⟨ws, G1, J1, rel, e1, e2⟩ := told
  subst e1 e2
  refine ⟨J1.kIn, ?_⟩
  cases rel with
  | cons ra rb =>
    cases rb
    obtain ⟨w1, w2, w3, w4, w5, w6, w7, w8, w9, w10, w11, w12, w13, w14, w15, w16, w17, oC, oN, oI, oT⟩ := exc_obj J1.kIn c.ex
    exact wpAny_call_exc_subT PySem.F.excBase_ValueError oT oC oN oI (fun g e made => L2H.mk_of5 J1 made (raises_own c.b c.t) hq (J1.hok.gone made.new)) (by show 1 ≤ sizeLine; decide)
end
/-! ### a formula with too many parts is refused -/
def spCSX (K : PySem.W.Frag) (n : Nat) : Sp := fun vs H Q E => ∃ (v : V) (l p : Int) (f : Fm), vs = [v, .int l, .int p] ∧ Dp K H v f.data ∧ f.Ok ∧ f.dep ≤ n ∧ (f.dep : Int) ≤ l ∧ 0 ≤ p ∧ ((f.cnt : Int) ≤ p → ∀ (H' : Hp), Same H H' → Q (.int (p - f.cnt)) H') ∧
  (p < (f.cnt : Int) → ∀ (H' : Hp), Same H H' → E (.ref (He.ga K "BadFormula")) none H')
def spCheckX (K : PySem.W.Frag) : Sp := fun vs H Q E => ∃ (v : V) (f : Fm), vs = [v] ∧ Dp K H v f.data ∧ f.Ok ∧ f.dep ≤ 40 ∧ (f.cnt ≤ 2000 → f.Wf ∧ ∀ (H' : Hp), Same H H' → Q .non H') ∧ (2000 < f.cnt → ∀ (H' : Hp), Same H H' → E (.ref (He.ga K "BadFormula")) none H')
def spBounds (K : PySem.W.Frag) : Sp := fun vs H Q E => ∃ (v : V) (f : Fm), vs = [v] ∧ Dp K H v f.data ∧ f.Ok ∧ f.dep ≤ 40 ∧ (f.cnt ≤ 2000 → f.Wf ∧ ∀ (H' : Hp), Same H H' → Q v H') ∧ (2000 < f.cnt → ∀ (H' : Hp), Same H H' → E (.ref (He.ga K "TooLarge")) none H')
section
variable {P : Program} {w : World} {K : PySem.W.Frag} {mg : Str → Option Value} {base : Heap}
theorem has_check_shapesX (D : Def K mg "_check_shapes" ["value", "levels_left", "parts_left"] (top 48)) (BF : XC K mg "BadFormula") (C1 : Has P w K mg base 5 "is_shape" ["value"] (spShape K)) (C2 : Has P w K mg base 1 "inner" ["formula"] (spInner K)) :
    ∀ n : Nat, HasX (L2N.CX P w) P w K mg base (6 + n) "_check_shapes" ["value", "levels_left", "parts_left"] (spCSX K n) := by
  obtain ⟨f1, fd1, G_is_shape, g_is_shape, k_is_shape, b_is_shape⟩ := C1
  obtain ⟨f2, fd2, G_inner, g_inner, k_inner, b_inner⟩ := C2
  intro n
  induction n with
  | zero =>
    refine D.has fun f fd F => F.ok sc_check_shapes (fun vs H Q E h => ?_) (fun cdv A outer s H vs Q E hr h => ?_)
    · obtain ⟨v, l, p, f, rfl, _⟩ := h; rfl
    · obtain ⟨v, l, p, f, rfl, _, _, h0, _⟩ := h
      have := dep_pos f
      omega
  | succ n ih =>
    obtain ⟨f3, fd3, G_check_shapes, g_check_shapes, k_check_shapes, b_check_shapes⟩ := ih
    refine D.has fun f fd F => F.ok sc_check_shapes (fun vs H Q E h => ?_) (fun cdv A outer s H vs Q E hr h => ?_)
    · obtain ⟨v, l, p, f, rfl, _⟩ := h; rfl
    · obtain ⟨v, l, p, f, rfl, dp, ok, hn, hl, p0, q, qe⟩ := h
      have R_is_shape : Room 5 _ := hr.mono (Nat.le_trans (by decide) (Nat.le_add_right 6 n))
      have R_inner : Room 1 _ := hr.mono (Nat.le_trans (by decide) (Nat.le_add_right 6 n))
      have R_check_shapes : Room (6 + n) _ := hr
      refine ⟨_, (pss_cons (ps_if (PW.pt (pw_or (pt_cmpR op_lt (pv 1) pe_int (nomark _)) (pw_or1 (pt_cmpR op_lt (pv 2) pe_int (nomark _))))) (pss_one (ps_raiseXN BF rfl (L2N.takes_of rfl rfl rfl rfl) rfl)) pss_nil) (pss_cons (ps_if (pt_not (pt_val (pe_call G_is_shape R_is_shape (by rfl) g_is_shape k_is_shape b_is_shape .nil pass0 (pa_cons (pv 0) pa_nil)))) (pss_one (ps_raiseXN BF rfl (L2N.takes_of rfl rfl rfl rfl) rfl)) pss_nil) (pss_cons (ps_aug (i := 2) sc_check_shapes.nd rfl (Or.inl rfl) pe_int ip_sub) (pss_cons (ps_for (passes_of rfl) rfl (pi_tup (pe_call G_inner R_inner (by rfl) g_inner k_inner b_inner .nil pass0 (pa_cons (pv 0) pa_nil))) (pg_name (i := 3) sc_check_shapes.nd rfl (Or.inl rfl)) (pss_one (ps_set (i := 2) sc_check_shapes.nd rfl (Or.inl rfl) (pe_call G_check_shapes R_check_shapes (by rfl) g_check_shapes k_check_shapes b_check_shapes .nil (L2N.passes_call (L2N.takes_of rfl rfl rfl rfl) (fun _ _ _ _ h => h)) (pa_cons (pv 3) (pa_cons (pe_op op_sub (pv 1) pe_int) (pa_cons (pv 2) pa_nil))))))) (pss_one (ps_ret (pv 2))))))), ?_⟩
      obtain ⟨h, ps⟩ := f
      rw [Fm.data_mk] at dp
      have hd1 : 1 ≤ (Fm.mk h ps).dep := dep_pos _
      have hc1 : (Fm.mk h ps).cnt = 1 + sumN (ps.map Fm.cnt) := Fm.cnt_mk h ps
      have fit : h.Ok (ps.map Fm.data).length := by rw [List.length_map]; exact ok.hd_
      refine ⟨_, rfl, _, _, rfl, rfl, _, rfl, cF (k := decide (l < 1)) (decide_eq_false (by omega)) ⟨_, rfl, _, _, rfl, rfl, _, rfl, ?_⟩⟩
      by_cases p1 : p < 1
      · exact cT (k := decide (p < 1)) (decide_eq_true p1) (qe (by omega) H (.refl H))
      refine cF (k := decide (p < 1)) (decide_eq_false p1) ?_
      refine ⟨_, rfl, v, h, _, rfl, dp, fit, fun H1 s1 => ⟨_, rfl, iteF ?_⟩⟩
      refine ⟨_, rfl, _, _, rfl, rfl, ?_⟩
      refine ⟨_, rfl, v, h, _, rfl, Dp.same s1 dp, fit.fits, fun H2 r s2 hr2 => ?_⟩
      obtain ⟨b, ys, rfl, hb, hy⟩ := Dp.tup_inv hr2
      refine ⟨b, rfl, ⟨_, hb⟩, for_tup (K := K) (a := b) (xs := ys) (fun i σ H3 => ∃ y3, σ = [some v, some (.int l), some (.int (p - 1 - (sumN ((ps.map Fm.cnt).take i) : Nat))), y3] ∧ Same H2 H3 ∧ ((sumN ((ps.map Fm.cnt).take i) : Nat) : Int) ≤ p - 1)
        ⟨none, by show _ = [some v, some (.int l), some (.int (p - 1 - ((0 : Nat) : Int))), none]; rw [show (p - 1 - ((0 : Nat) : Int)) = p - 1 by omega]; rfl, .refl _, by show ((0 : Nat) : Int) ≤ p - 1; omega⟩ (fun i σ H3 _ ⟨_, _, s3, _⟩ => Same.sqt s3 hb) ?_ ?_⟩
      · rintro i y σ H3 hi ⟨y3, rfl, s3, le3⟩
        obtain ⟨d, hd, dpy⟩ := DpAll.get' hy hi
        obtain ⟨g, hg, rfl⟩ := get_map hd
        have mem := List.mem_of_getElem? hg
        have dl : g.dep < (Fm.mk h ps).dep := dep_part mem
        have eg : (ps.map Fm.cnt)[i]? = some g.cnt := by rw [List.getElem?_map, hg]; rfl
        have es := sumN_take eg
        have el := sumN_take_le (ps.map Fm.cnt) (i + 1)
        refine ⟨_, rfl, _, rfl, _, _, rfl, rfl, _, rfl, y, l - 1, _, g, rfl, Dp.same s3 dpy, ok.part mem, by omega, by omega, by omega, fun le H4 s4 => ?_, fun gt H4 s4 => ?_⟩
        · refine ⟨some y, ?_, s3.trans s4, by omega⟩
          rw [es]
          have e5 : p - 1 - ((sumN ((ps.map Fm.cnt).take i) : Nat) : Int) - (g.cnt : Int) = p - 1 - ((sumN ((ps.map Fm.cnt).take i) + g.cnt : Nat) : Int) := by omega
          rw [e5]
          rfl
        · exact qe (by omega) H4 (((s1.trans s2).trans s3).trans s4)
      · rintro σ H3 ⟨y3, rfl, s3, le3⟩
        have ey : ys.length = ps.length := by rw [DpAll.length hy, List.length_map]
        have et : (ps.map Fm.cnt).take ys.length = ps.map Fm.cnt := List.take_of_length_le (by rw [List.length_map]; omega)
        refine ⟨_, rfl, ?_⟩
        rw [et] at le3
        have e6 : p - 1 - ((sumN ((ps.map Fm.cnt).take ys.length) : Nat) : Int) = p - (((Fm.mk h ps).cnt : Nat) : Int) := by rw [et, hc1]; omega
        show Q (.int (p - 1 - ((sumN ((ps.map Fm.cnt).take ys.length) : Nat) : Int))) H3
        rw [e6]
        exact q (by omega) H3 ((s1.trans s2).trans s3)
theorem has_check_formulaX (D : Def K mg "check_formula" ["formula"] (top 52)) (k1 : ∃ t, mg "MOST_DEEP" = some (.int 40 t)) (k2 : ∃ t, mg "MOST_PARTS" = some (.int 2000 t))
    (C1 : ∀ n, HasX (L2N.CX P w) P w K mg base (6 + n) "_check_shapes" ["value", "levels_left", "parts_left"] (spCSX K n)) (C2 : ∀ n, Has P w K mg base (2 + n) "arities_in" ["formula"] (spAr K n)) (C3 : ∀ n, Has P w K mg base (3 + n) "_check_fixed_points" ["formula"] (spCF K n)) :
    HasX (L2N.CX P w) P w K mg base 47 "check_formula" ["formula"] (spCheckX K) := D.has fun f fd F => by
  obtain ⟨f1, fd1, G_check_shapes, g_check_shapes, k_check_shapes, b_check_shapes⟩ := C1 40
  obtain ⟨f2, fd2, G_arities_in, g_arities_in, k_arities_in, b_arities_in⟩ := C2 40
  obtain ⟨f3, fd3, G_check_fixed_points, g_check_fixed_points, k_check_fixed_points, b_check_fixed_points⟩ := C3 40
  obtain ⟨t1, c_MOST_DEEP⟩ := k1
  obtain ⟨t2, c_MOST_PARTS⟩ := k2
  refine F.ok sc_check_formula (fun vs H Q E h => ?_) (fun cdv A outer s H vs Q E hr h => ?_)
  · obtain ⟨v, f, rfl, _⟩ := h; rfl
  · obtain ⟨v, f, rfl, dp, ok, dep, q, qe⟩ := h
    have R_check_shapes : Room (6 + 40) _ := hr.mono (by decide)
    have R_arities_in : Room (2 + 40) _ := hr.mono (by decide)
    have R_check_fixed_points : Room (3 + 40) _ := hr.mono (by decide)
    refine ⟨_, (pss_cons (ps_expr (pe_call G_check_shapes R_check_shapes (by rfl) g_check_shapes k_check_shapes b_check_shapes .nil (L2N.passes_call (L2N.takes_of rfl rfl rfl rfl) (fun _ _ _ _ h => h)) (pa_cons (pv 0) (pa_cons (pe_glob (v := .int 40) (by rfl) c_MOST_DEEP ⟨_, rfl⟩) (pa_cons (pe_glob (v := .int 2000) (by rfl) c_MOST_PARTS ⟨_, rfl⟩) pa_nil))))) (pss_cons (ps_expr (pe_call G_arities_in R_arities_in (by rfl) g_arities_in k_arities_in b_arities_in .nil pass0 (pa_cons (pv 0) pa_nil))) (pss_one (ps_expr (pe_call G_check_fixed_points R_check_fixed_points (by rfl) g_check_fixed_points k_check_fixed_points b_check_fixed_points .nil pass0 (pa_cons (pv 0) pa_nil)))))), ?_⟩
    refine ⟨_, rfl, v, 40, 2000, f, rfl, dp, ok, dep, by omega, by decide, fun c H1 s1 => ?_, fun c H1 s1 => qe (by omega) H1 s1⟩
    obtain ⟨wf, q1⟩ := q (by omega)
    obtain ⟨Γ, ty⟩ := wf.ty
    refine ⟨_, rfl, v, f, Γ, rfl, Dp.same s1 dp, wf.ok, ty, dep, wf.cnt, fun H2 d l s2 _ _ _ => ?_⟩
    refine ⟨_, rfl, v, f, rfl, Dp.same (s1.trans s2) dp, wf.ok, wf.pos, dep, fun H3 s3 => ?_⟩
    exact q1 H3 ((s1.trans s2).trans s3)
theorem sc_bounds : FnScope ["formula"] ["formula"] (defScope (top 53)) := ⟨rfl, rfl, rfl, by decide +kernel, rfl, by decide +kernel, by decide +kernel⟩
theorem has_bounds (D : Def K mg "within_bounds" ["formula"] (top 53)) (BF : XC K mg "BadFormula") (TL : XC K mg "TooLarge") (C1 : HasX (L2N.CX P w) P w K mg base 47 "check_formula" ["formula"] (spCheckX K)) : HasX (L2.CX P w) P w K mg base 48 "within_bounds" ["formula"] (spBounds K) := D.has fun f fd F => by
  obtain ⟨f1, fd1, G_check_formula, g_check_formula, k_check_formula, b_check_formula⟩ := C1
  refine F.ok sc_bounds (fun vs H Q E h => ?_) (fun cdv A outer s H vs Q E hr h => ?_)
  · obtain ⟨v, f, rfl, _⟩ := h; rfl
  · obtain ⟨v, f, rfl, dp, ok, dep, q, qe⟩ := h
    have R_check_formula : Room 47 _ := hr
    refine ⟨_, pss_cons (L2H.ps_try_onlyX (tb := fun W => tDrop (tCallS (spCheckX K) (WE W) (tCons (tVar 0) tNil))) (Wout := fun cls d _ G => E cls d G) rfl rfl ⟨rfl, by decide, Or.inl BF.g⟩ (fun hd => L2H.passesAt_of rfl hd) (takes_of rfl rfl rfl rfl)
      (fun W pn xe tkN tkP _ => pss_one (ps_expr (by exact (pe_callS G_check_formula R_check_formula rfl g_check_formula k_check_formula b_check_formula (fun σ => L2N.passAt tkN σ) (by exact (pa_cons (pv 0) pa_nil))))))
      (ts := fun a cls d D σ G => E (.ref (He.ga K "TooLarge")) none G) (fun a oe cls d pn hz hf tk hot => pss_one (L2H.ps_raiseHN hot tk (pmk5X TL rfl))))
      (pss_one (ps_ret (pv 0))), ?_⟩
    refine ⟨_, rfl, v, f, rfl, dp, ok, dep, fun c => ⟨(q c).1, fun H1 s1 => ⟨_, rfl, (q c).2 H1 s1⟩⟩, fun c H1 s1 => ⟨true, BF.e, fun _ a na => qe c H1 s1, fun z => nomatch z⟩⟩
end
/-! ### the meaning of first-order formulas -/
def updS (a : Str → Nat) (v : Str) (x : Nat) : Str → Nat := fun y => if y = v then x else a y
def upds (a : Str → Nat) : List Str → List Nat → Str → Nat
  | v :: vs, x :: xs => upds (updS a v x) vs xs
  | _, _ => a
def tups (n : Nat) : Nat → List (List Nat)
  | 0 => [[]]
  | k + 1 => (tups n k).flatMap fun r => (List.range n).map fun x => r ++ [x]
abbrev Rl := Str → List Nat → Bool
def semH (n : Nat) (I : Rl) (h : Hd) (ts : List ((Str → Nat) → Bool)) (a : Str → Nat) : Bool := match h with
  | .rel m as => I m (as.map a)
  | .eq x y => decide (a x = a y)
  | .less x y => decide (a x < a y)
  | .no => !(ts.all fun t => t a)
  | .con => ts.all fun t => t a
  | .dis => ts.any fun t => t a
  | .ex vs => (tups n vs.length).any fun r => ts.all fun t => t (upds a vs r)
  | .al vs => (tups n vs.length).all fun r => ts.all fun t => t (upds a vs r)
  | _ => false
def Fm.sem (n : Nat) (I : Rl) : Fm → (Str → Nat) → Bool := Fm.fold (semH n I)
theorem sem_mk (n : Nat) (I : Rl) (h : Hd) (ps : List Fm) (a : Str → Nat) : (Fm.mk h ps).sem n I a = semH n I h (ps.map (Fm.sem n I)) a := congrFun (Fm.fold_mk (semH n I) h ps) a
theorem all_map' {α β : Type} (f : α → β) (p : β → Bool) (l : List α) : (l.map f).all p = l.all fun x => p (f x) := by
  rw [List.all_map]; rfl
theorem any_map' {α β : Type} (f : α → β) (p : β → Bool) (l : List α) : (l.map f).any p = l.any fun x => p (f x) := by
  rw [List.any_map]; rfl
theorem sem_no (n : Nat) (I : Rl) (p : Fm) (a : Str → Nat) : (Fm.mk .no [p]).sem n I a = !(p.sem n I a) := by
  rw [sem_mk]; show (!((p.sem n I a) && true)) = _; rw [Bool.and_true]
theorem sem_con (n : Nat) (I : Rl) (ps : List Fm) (a : Str → Nat) : (Fm.mk .con ps).sem n I a = ps.all fun p => p.sem n I a := by
  rw [sem_mk]; exact all_map' _ _ _
theorem sem_dis (n : Nat) (I : Rl) (ps : List Fm) (a : Str → Nat) : (Fm.mk .dis ps).sem n I a = ps.any fun p => p.sem n I a := by
  rw [sem_mk]; exact any_map' _ _ _
theorem sem_ex (n : Nat) (I : Rl) (vs : List Str) (p : Fm) (a : Str → Nat) : (Fm.mk (.ex vs) [p]).sem n I a = (tups n vs.length).any fun r => p.sem n I (upds a vs r) := by
  rw [sem_mk]
  show ((tups n vs.length).any fun r => (p.sem n I (upds a vs r) && true)) = _
  congr 1
  funext r
  rw [Bool.and_true]
theorem sem_al (n : Nat) (I : Rl) (vs : List Str) (p : Fm) (a : Str → Nat) : (Fm.mk (.al vs) [p]).sem n I a = (tups n vs.length).all fun r => p.sem n I (upds a vs r) := by
  rw [sem_mk]
  show ((tups n vs.length).all fun r => (p.sem n I (upds a vs r) && true)) = _
  congr 1
  funext r
  rw [Bool.and_true]
/-! tuples of elements -/
theorem tups_mem {n : Nat} : ∀ {k : Nat} {r : List Nat}, r ∈ tups n k ↔ r.length = k ∧ ∀ x, x ∈ r → x < n
  | 0, r => by
    rw [tups, List.mem_singleton]
    constructor
    · rintro rfl; exact ⟨rfl, fun x hx => nomatch hx⟩
    · rintro ⟨h, _⟩; exact List.length_eq_zero_iff.mp h
  | k + 1, r => by
    rw [tups, List.mem_flatMap]
    constructor
    · rintro ⟨q, hq, hr⟩
      obtain ⟨x, hx, rfl⟩ := List.mem_map.mp hr
      obtain ⟨h1, h2⟩ := tups_mem.mp hq
      refine ⟨by rw [List.length_append, h1]; rfl, fun y hy => ?_⟩
      rcases List.mem_append.mp hy with hy | hy
      · exact h2 y hy
      · rw [List.mem_singleton.mp hy]; exact List.mem_range.mp hx
    · rintro ⟨h1, h2⟩
      have ne : r ≠ [] := fun e => by rw [e] at h1; cases h1
      refine ⟨r.dropLast, tups_mem.mpr ⟨by rw [List.length_dropLast, h1]; rfl, fun x hx => h2 x ((List.dropLast_sublist r).subset hx)⟩, List.mem_map.mpr ⟨r.getLast ne, List.mem_range.mpr (h2 _ (List.getLast_mem ne)), List.dropLast_concat_getLast ne⟩⟩
theorem tups_len (n : Nat) : ∀ k : Nat, (tups n k).length = n ^ k
  | 0 => rfl
  | k + 1 => by
    rw [tups, Nat.pow_succ]
    have e : ∀ l : List (List Nat), (l.flatMap fun r => (List.range n).map fun x => r ++ [x]).length = l.length * n := by
      intro l
      induction l with
      | nil => rw [List.flatMap_nil]; simp
      | cons a l ih => rw [List.flatMap_cons, List.length_append, ih, List.length_map, List.length_range, List.length_cons, Nat.add_mul, Nat.one_mul, Nat.add_comm]
    rw [e, tups_len n k]
/-! values changed -/
theorem upds_out {x : Str} : ∀ {vs : List Str} {r : List Nat} {a : Str → Nat}, x ∉ vs → upds a vs r x = a x
  | [], r, a, _ => by cases r <;> rfl
  | v :: vs, [], a, _ => rfl
  | v :: vs, y :: r, a, h => by
    show upds (updS a v y) vs r x = a x
    rw [upds_out fun z => h (List.mem_cons_of_mem _ z)]
    show (if x = v then y else a x) = a x
    rw [if_neg fun e => h (by rw [e]; exact List.mem_cons_self ..)]
theorem upds_same {x : Str} : ∀ {vs : List Str} {r : List Nat} {a b : Str → Nat}, r.length = vs.length → (x ∈ vs ∨ a x = b x) → upds a vs r x = upds b vs r x
  | [], r, a, b, l, h => by
    rw [List.length_eq_zero_iff.mp l]
    rcases h with h | h
    · cases h
    · exact h
  | v :: vs, [], a, b, l, h => by cases l
  | v :: vs, y :: r, a, b, l, h => by
    show upds (updS a v y) vs r x = upds (updS b v y) vs r x
    refine upds_same (Nat.succ.inj l) ?_
    by_cases e : x = v
    · exact .inr (by show (if x = v then y else a x) = (if x = v then y else b x); rw [if_pos e, if_pos e])
    · rcases h with h | h
      · exact .inl ((List.mem_cons.mp h).resolve_left e)
      · exact .inr (by show (if x = v then y else a x) = (if x = v then y else b x); rw [if_neg e, if_neg e]; exact h)
theorem any_congr' {α : Type} {l : List α} {p q : α → Bool} (h : ∀ x, x ∈ l → p x = q x) : l.any p = l.any q := by
  induction l with
  | nil => rfl
  | cons a l ih => rw [List.any_cons, List.any_cons, h a (List.mem_cons_self ..), ih fun x hx => h x (List.mem_cons_of_mem _ hx)]
theorem all_congr' {α : Type} {l : List α} {p q : α → Bool} (h : ∀ x, x ∈ l → p x = q x) : l.all p = l.all q := by
  induction l with
  | nil => rfl
  | cons a l ih => rw [List.all_cons, List.all_cons, h a (List.mem_cons_self ..), ih fun x hx => h x (List.mem_cons_of_mem _ hx)]
/-- first-order: no head but these -/
def Hd.F : Hd → Bool
  | .lfp _ _ _ => false
  | .pfp _ _ _ => false
  | .tc _ _ => false
  | .gs _ _ => false
  | _ => true
def Fm.fo : Fm → Bool := Fm.fold fun h xs => h.F && xs.all id
theorem fo_mk (h : Hd) (ps : List Fm) : (Fm.mk h ps).fo = (h.F && ps.all Fm.fo) := by
  have e : (Fm.mk h ps).fo = (h.F && (ps.map Fm.fo).all id) := Fm.fold_mk _ h ps
  rw [e, List.all_map]; rfl
theorem fo_hd {h : Hd} {ps : List Fm} (k : (Fm.mk h ps).fo = true) : h.F = true := by
  rw [fo_mk] at k; exact (Bool.and_eq_true_iff.mp k).1
theorem fo_part {h : Hd} {ps : List Fm} (k : (Fm.mk h ps).fo = true) {p : Fm} (hp : p ∈ ps) : p.fo = true := by
  rw [fo_mk] at k; exact List.all_eq_true.mp (Bool.and_eq_true_iff.mp k).2 p hp
/-- the cases of a first-order formula -/
theorem Fm.indF {P : Fm → Prop} (rel : ∀ m as, P (.mk (.rel m as) [])) (eq : ∀ x y, P (.mk (.eq x y) [])) (less : ∀ x y, P (.mk (.less x y) [])) (no : ∀ p, P p → P (.mk .no [p])) (con : ∀ ps, (∀ p, p ∈ ps → P p) → P (.mk .con ps)) (dis : ∀ ps, (∀ p, p ∈ ps → P p) → P (.mk .dis ps))
    (ex : ∀ vs p, OwnOk vs → P p → P (.mk (.ex vs) [p])) (al : ∀ vs p, OwnOk vs → P p → P (.mk (.al vs) [p])) : ∀ f : Fm, f.Ok → f.fo = true → P f := Fm.ind fun h ps ih ok fo => by
  have hk := ok.hd_
  have ih' : ∀ p, p ∈ ps → P p := fun p hp => ih p hp (ok.part hp) (fo_part fo hp)
  cases h with
  | rel m as => rw [none_of hk.2.2.2]; exact rel m as
  | eq x y => rw [none_of hk.2.2]; exact eq x y
  | less x y => rw [none_of hk.2.2]; exact less x y
  | no =>
    obtain ⟨p, rfl⟩ := one_of (show ps.length = 1 from hk)
    exact no p (ih' p (List.mem_singleton.mpr rfl))
  | con => exact con ps ih'
  | dis => exact dis ps ih'
  | ex vs =>
    obtain ⟨p, rfl⟩ := one_of hk.2
    exact ex vs p hk.1 (ih' p (List.mem_singleton.mpr rfl))
  | al vs =>
    obtain ⟨p, rfl⟩ := one_of hk.2
    exact al vs p hk.1 (ih' p (List.mem_singleton.mpr rfl))
  | _ => have := fo_hd fo; cases this
theorem sem_congr (n : Nat) (I : Rl) : ∀ f : Fm, ∀ a b : Str → Nat, (∀ x, x ∈ f.frees → a x = b x) → f.sem n I a = f.sem n I b := Fm.ind fun h ps ih a b e => by
  have ea : ∀ x, x ∈ h.args → a x = b x := fun x hx => e x (Fm.frees_mem.mpr (.inr hx))
  have ep : ∀ (c d : Str → Nat), (∀ x, x ∉ h.own → x ∈ (Fm.mk h ps).frees → c x = d x) → (∀ x, x ∈ h.own → c x = d x) → ∀ p, p ∈ ps → p.sem n I c = p.sem n I d := fun c d h1 h2 p hp => ih p hp c d fun x hx => by
    by_cases o : x ∈ h.own
    · exact h2 x o
    · exact h1 x o (Fm.frees_mem.mpr (.inl ⟨p, hp, hx, o⟩))
  have quant : ∀ vs : List Str, h.own = vs → ∀ r, r ∈ tups n vs.length → (ps.all fun p => p.sem n I (upds a vs r)) = ps.all fun p => p.sem n I (upds b vs r) := fun vs hv r hr => all_congr' fun p hp => by
    have hl := (tups_mem.mp hr).1
    refine ep _ _ (fun x o hx => ?_) (fun x o => ?_) p hp
    · exact upds_same hl (.inr (e x hx))
    · exact upds_same hl (.inl (by rw [← hv]; exact o))
  rw [sem_mk, sem_mk]
  cases h with
  | rel m as =>
    exact congrArg (I m) (List.map_congr_left fun x hx => ea x hx)
  | eq x y =>
    show decide (a x = a y) = decide (b x = b y)
    rw [ea x (List.mem_cons_self ..), ea y (List.mem_cons_of_mem _ (List.mem_cons_self ..))]
  | less x y =>
    show decide (a x < a y) = decide (b x < b y)
    rw [ea x (List.mem_cons_self ..), ea y (List.mem_cons_of_mem _ (List.mem_cons_self ..))]
  | no =>
    show (!((ps.map (Fm.sem n I)).all fun t => t a)) = !((ps.map (Fm.sem n I)).all fun t => t b)
    rw [all_map', all_map', all_congr' (ep a b (fun x _ hx => e x hx) (fun x hx => nomatch hx))]
  | con =>
    show ((ps.map (Fm.sem n I)).all fun t => t a) = ((ps.map (Fm.sem n I)).all fun t => t b)
    rw [all_map', all_map', all_congr' (ep a b (fun x _ hx => e x hx) (fun x hx => nomatch hx))]
  | dis =>
    show ((ps.map (Fm.sem n I)).any fun t => t a) = ((ps.map (Fm.sem n I)).any fun t => t b)
    rw [any_map', any_map', any_congr' (ep a b (fun x _ hx => e x hx) (fun x hx => nomatch hx))]
  | ex vs =>
    show ((tups n vs.length).any fun r => (ps.map (Fm.sem n I)).all fun t => t (upds a vs r)) = ((tups n vs.length).any fun r => (ps.map (Fm.sem n I)).all fun t => t (upds b vs r))
    refine any_congr' fun r hr => ?_
    rw [all_map', all_map']
    exact quant vs rfl r hr
  | al vs =>
    show ((tups n vs.length).all fun r => (ps.map (Fm.sem n I)).all fun t => t (upds a vs r)) = ((tups n vs.length).all fun r => (ps.map (Fm.sem n I)).all fun t => t (upds b vs r))
    refine all_congr' fun r hr => ?_
    rw [all_map', all_map']
    exact quant vs rfl r hr
  | _ => rfl
/-! ### the same formula with other variables means the same -/
theorem upds_updC {n : Nat} : ∀ {os us : List Str} {r : List Nat} {a b : Str → Nat} {c : Str → Str} {x : Str}, us.length = os.length → r.length = os.length → us.Nodup → (∀ y, y ∈ us → y ∈ us) → (c x ∉ us ∨ x ∈ os) → (x ∉ os → a x = b (c x)) →
    upds a os r x = upds b us r (updC c os us x)
  | [], us, r, a, b, c, x, lu, lr, _, _, _, h => by
    rw [List.length_eq_zero_iff.mp lu, List.length_eq_zero_iff.mp lr]
    exact h fun z => nomatch z
  | o :: os, [], r, a, b, c, x, lu, _, _, _, _, _ => by cases lu
  | o :: os, u :: us, [], a, b, c, x, _, lr, _, _, _, _ => by cases lr
  | o :: os, u :: us, y :: r, a, b, c, x, lu, lr, nd, hh, fr, h => by
    obtain ⟨nu, nd'⟩ := List.nodup_cons.mp nd
    show upds (updS a o y) os r x = upds (updS b u y) us r (updC (fun x => if x = o then u else c x) os us x)
    have lu' : us.length = os.length := Nat.succ.inj lu
    have lr' : r.length = os.length := Nat.succ.inj lr
    refine upds_updC (n := n) lu' lr' nd' (fun _ h => h) ?_ fun no => ?_
    · by_cases m : x ∈ os
      · exact .inr m
      · refine .inl ?_
        show (if x = o then u else c x) ∉ us
        by_cases e : x = o
        · rw [if_pos e]; exact nu
        · rw [if_neg e]
          rcases fr with fr | fr
          · exact fun z => fr (List.mem_cons_of_mem _ z)
          · exact absurd ((List.mem_cons.mp fr).resolve_left e) m
    · show (if x = o then y else a x) = (if (if x = o then u else c x) = u then y else b (if x = o then u else c x))
      by_cases e : x = o
      · rw [if_pos e, if_pos e, if_pos rfl]
      · have nx : x ∉ o :: os := fun z => (List.mem_cons.mp z).elim e no
        have nc : c x ∉ u :: us := fr.resolve_right nx
        rw [if_neg e, if_neg e, if_neg fun z => nc (by rw [z]; exact List.mem_cons_self ..)]
        exact h nx
theorem map_two2 {α β : Type} {F G : α → β} {ps qs : List α} (l : qs.length = ps.length) (h : ∀ (i : Nat) (a b : α), ps[i]? = some a → qs[i]? = some b → G b = F a) : qs.map G = ps.map F := by
  apply List.ext_getElem?
  intro i
  rw [List.getElem?_map, List.getElem?_map]
  by_cases hi : i < ps.length
  · rw [List.getElem?_eq_getElem hi, List.getElem?_eq_getElem (show i < qs.length by omega)]
    exact congrArg some (h i _ _ (List.getElem?_eq_getElem hi) (List.getElem?_eq_getElem (by omega)))
  · rw [List.getElem?_eq_none (by omega), List.getElem?_eq_none (by omega)]
    rfl
theorem sm_sem {n : Nat} {I : Rl} {c : Str → Str} {f g : Fm} (s : Sm c f g) : f.Ok → ∀ a b : Str → Nat, (∀ x, x ∈ f.frees → a x = b (c x)) → f.sem n I a = g.sem n I b := by
  induction s with
  | @mk c h ps qs us r fr l p ih =>
    intro ok a b e
    have ea : ∀ x, x ∈ h.args → a x = b (c x) := fun x hx => e x (Fm.frees_mem.mpr (.inr hx))
    have lift : ∀ (A B : Str → Nat), (∀ x, x ∈ (Fm.mk h ps).frees ∨ x ∈ h.own → A x = B (updC c h.own us x)) → qs.map (fun q => q.sem n I B) = ps.map (fun q => q.sem n I A) := fun A B hAB => by
      refine map_two2 l fun i x y hx hy => ?_
      have m := List.mem_of_getElem? hx
      refine (ih i x y hx hy (ok.part m) A B fun z hz => hAB z ?_).symm
      by_cases o : z ∈ h.own
      · exact .inr o
      · exact .inl (Fm.frees_mem.mpr (.inl ⟨x, m, hz, o⟩))
    have all1 : ∀ (A B : Str → Nat), (∀ x, x ∈ (Fm.mk h ps).frees ∨ x ∈ h.own → A x = B (updC c h.own us x)) → (ps.all fun q => q.sem n I A) = qs.all fun q => q.sem n I B := fun A B hAB => by
      have z := congrArg (fun z : List Bool => z.all id) (lift A B hAB)
      simpa [List.all_map, Function.comp] using z.symm
    have any1 : ∀ (A B : Str → Nat), (∀ x, x ∈ (Fm.mk h ps).frees ∨ x ∈ h.own → A x = B (updC c h.own us x)) → (ps.any fun q => q.sem n I A) = qs.any fun q => q.sem n I B := fun A B hAB => by
      have z := congrArg (fun z : List Bool => z.any id) (lift A B hAB)
      simpa [List.any_map, Function.comp] using z.symm
    have ab : h.own = [] → ∀ x, x ∈ (Fm.mk h ps).frees ∨ x ∈ h.own → a x = b (updC c h.own us x) := fun ho x hx => by
      rw [ho]
      show a x = b (c x)
      rcases hx with hx | hx
      · exact e x hx
      · rw [ho] at hx; cases hx
    have q1 : ∀ (r' : List Nat), r'.length = h.own.length → ∀ x, x ∈ (Fm.mk h ps).frees ∨ x ∈ h.own → upds a h.own r' x = upds b us r' (updC c h.own us x) := fun r' lr x hx => by
      refine upds_updC (n := n) r.lu lr r.nd (fun _ h => h) ?_ fun no => ?_
      · by_cases o : x ∈ h.own
        · exact .inr o
        · exact .inl (fr x (hx.resolve_right o))
      · exact e x (hx.resolve_right no)
    rw [sem_mk, sem_mk]
    cases h with
    | rel m as =>
      rw [re_rel r rfl]
      show I m (as.map a) = I m ((as.map c).map b)
      rw [List.map_map]
      exact congrArg (I m) (List.map_congr_left fun x hx => ea x hx)
    | eq x y =>
      show decide (a x = a y) = decide (b (c x) = b (c y))
      rw [ea x (List.mem_cons_self ..), ea y (List.mem_cons_of_mem _ (List.mem_cons_self ..))]
    | less x y =>
      show decide (a x < a y) = decide (b (c x) < b (c y))
      rw [ea x (List.mem_cons_self ..), ea y (List.mem_cons_of_mem _ (List.mem_cons_self ..))]
    | no =>
      show (!((ps.map (Fm.sem n I)).all fun t => t a)) = !((qs.map (Fm.sem n I)).all fun t => t b)
      rw [all_map', all_map', all1 a b (ab rfl)]
    | con =>
      show ((ps.map (Fm.sem n I)).all fun t => t a) = ((qs.map (Fm.sem n I)).all fun t => t b)
      rw [all_map', all_map', all1 a b (ab rfl)]
    | dis =>
      show ((ps.map (Fm.sem n I)).any fun t => t a) = ((qs.map (Fm.sem n I)).any fun t => t b)
      rw [any_map', any_map', any1 a b (ab rfl)]
    | ex vs =>
      show ((tups n vs.length).any fun r => (ps.map (Fm.sem n I)).all fun t => t (upds a vs r)) = ((tups n us.length).any fun r => (qs.map (Fm.sem n I)).all fun t => t (upds b us r))
      rw [show us.length = vs.length from r.lu]
      refine any_congr' fun r' hr => ?_
      rw [all_map', all_map']
      exact all1 _ _ (q1 r' (tups_mem.mp hr).1)
    | al vs =>
      show ((tups n vs.length).all fun r => (ps.map (Fm.sem n I)).all fun t => t (upds a vs r)) = ((tups n us.length).all fun r => (qs.map (Fm.sem n I)).all fun t => t (upds b us r))
      rw [show us.length = vs.length from r.lu]
      refine all_congr' fun r' hr => ?_
      rw [all_map', all_map']
      exact all1 _ _ (q1 r' (tups_mem.mp hr).1)
    | _ => rfl
/-! ### some and all pulled out: the mathematics -/
abbrev Qv := Bool × Str
def pullStep (h : Hd) (xs : List (Bool → List Qv × Fm)) (neg : Bool) : List Qv × Fm := match h with
  | .ex vs => match xs with
    | [x] => (vs.map (fun v => (!neg, v)) ++ (x neg).1, (x neg).2)
    | _ => ([], .mk .con [])
  | .al vs => match xs with
    | [x] => (vs.map (fun v => (neg, v)) ++ (x neg).1, (x neg).2)
    | _ => ([], .mk .con [])
  | .no => ((xs.map fun x => (x (!neg)).1).flatten, .mk .no (xs.map fun x => (x (!neg)).2))
  | h => ((xs.map fun x => (x neg).1).flatten, .mk h (xs.map fun x => (x neg).2))
def Fm.pull : Fm → Bool → List Qv × Fm := Fm.fold pullStep
theorem pull_mk (h : Hd) (ps : List Fm) (b : Bool) : (Fm.mk h ps).pull b = pullStep h (ps.map Fm.pull) b := congrFun (Fm.fold_mk pullStep h ps) b
theorem pull_ex (vs : List Str) (p : Fm) (b : Bool) : (Fm.mk (.ex vs) [p]).pull b = (vs.map (fun v => (!b, v)) ++ (p.pull b).1, (p.pull b).2) := pull_mk _ _ _
theorem pull_al (vs : List Str) (p : Fm) (b : Bool) : (Fm.mk (.al vs) [p]).pull b = (vs.map (fun v => (b, v)) ++ (p.pull b).1, (p.pull b).2) := pull_mk _ _ _
theorem pull_no (p : Fm) (b : Bool) : (Fm.mk .no [p]).pull b = ((p.pull (!b)).1, .mk .no [(p.pull (!b)).2]) := by
  rw [pull_mk]
  show (((p.pull (!b)).1 ++ []), _) = _
  rw [List.append_nil]
  rfl
theorem pull_con (ps : List Fm) (b : Bool) : (Fm.mk .con ps).pull b = ((ps.map fun p => (p.pull b).1).flatten, .mk .con (ps.map fun p => (p.pull b).2)) := by
  rw [pull_mk]
  show (((ps.map Fm.pull).map fun x => (x b).1).flatten, Fm.mk .con ((ps.map Fm.pull).map fun x => (x b).2)) = _
  rw [List.map_map, List.map_map]; rfl
theorem pull_dis (ps : List Fm) (b : Bool) : (Fm.mk .dis ps).pull b = ((ps.map fun p => (p.pull b).1).flatten, .mk .dis (ps.map fun p => (p.pull b).2)) := by
  rw [pull_mk]
  show (((ps.map Fm.pull).map fun x => (x b).1).flatten, Fm.mk .dis ((ps.map Fm.pull).map fun x => (x b).2)) = _
  rw [List.map_map, List.map_map]; rfl
theorem pull_at {h : Hd} (o : h.kd = .rel ∨ h.kd = .eq ∨ h.kd = .less) (b : Bool) : (Fm.mk h []).pull b = ([], .mk h []) := by
  rw [pull_mk]
  cases h <;> first | rfl | (rcases o with o | o | o <;> cases o)
def semP (n : Nat) : List Qv → ((Str → Nat) → Bool) → (Str → Nat) → Bool
  | [], b, a => b a
  | (true, v) :: p, b, a => (List.range n).any fun x => semP n p b (updS a v x)
  | (false, v) :: p, b, a => (List.range n).all fun x => semP n p b (updS a v x)
theorem semP_app (n : Nat) (b : (Str → Nat) → Bool) : ∀ (p q : List Qv) (a : Str → Nat), semP n (p ++ q) b a = semP n p (semP n q b) a
  | [], q, a => rfl
  | (true, v) :: p, q, a => any_congr' fun x _ => semP_app n b p q (updS a v x)
  | (false, v) :: p, q, a => all_congr' fun x _ => semP_app n b p q (updS a v x)
theorem semP_congr (n : Nat) {b c : (Str → Nat) → Bool} (h : ∀ a, b a = c a) : ∀ (p : List Qv) (a : Str → Nat), semP n p b a = semP n p c a
  | [], a => h a
  | (true, v) :: p, a => any_congr' fun x _ => semP_congr n h p (updS a v x)
  | (false, v) :: p, a => all_congr' fun x _ => semP_congr n h p (updS a v x)
/-- v does not matter -/
def Inv (c : (Str → Nat) → Bool) (v : Str) : Prop := ∀ a x, c (updS a v x) = c a
theorem range_ne {n : Nat} (h : 0 < n) : ∃ x, x ∈ List.range n := ⟨0, List.mem_range.mpr h⟩
theorem any_and {α : Type} (l : List α) (f : α → Bool) (k : Bool) : (l.any fun x => f x && k) = (l.any f && k) := by
  cases k
  · simp
  · simp
theorem all_and {α : Type} (l : List α) (h : ∃ x, x ∈ l) (f : α → Bool) (k : Bool) : (l.all fun x => f x && k) = (l.all f && k) := by
  cases k
  · obtain ⟨x, hx⟩ := h
    simp
    exact ⟨x, hx⟩
  · simp
theorem any_or {α : Type} (l : List α) (h : ∃ x, x ∈ l) (f : α → Bool) (k : Bool) : (l.any fun x => f x || k) = (l.any f || k) := by
  cases k
  · simp
  · obtain ⟨x, hx⟩ := h
    simp
    exact ⟨x, hx⟩
theorem all_or {α : Type} (l : List α) (f : α → Bool) (k : Bool) : (l.all fun x => f x || k) = (l.all f || k) := by
  cases k
  · simp
  · simp
theorem semP_and {n : Nat} (hn : 0 < n) (b c : (Str → Nat) → Bool) : ∀ (p : List Qv), (∀ q, q ∈ p → Inv c q.2) → ∀ a, semP n p (fun a => b a && c a) a = (semP n p b a && c a)
  | [], _, a => rfl
  | (true, v) :: p, h, a => by
    show ((List.range n).any fun x => semP n p (fun a => b a && c a) (updS a v x)) = (((List.range n).any fun x => semP n p b (updS a v x)) && c a)
    rw [← any_and]
    refine any_congr' fun x _ => ?_
    rw [semP_and hn b c p (fun q hq => h q (List.mem_cons_of_mem _ hq)), h _ (List.mem_cons_self ..)]
  | (false, v) :: p, h, a => by
    show ((List.range n).all fun x => semP n p (fun a => b a && c a) (updS a v x)) = (((List.range n).all fun x => semP n p b (updS a v x)) && c a)
    rw [← all_and _ (range_ne hn)]
    refine all_congr' fun x _ => ?_
    rw [semP_and hn b c p (fun q hq => h q (List.mem_cons_of_mem _ hq)), h _ (List.mem_cons_self ..)]
theorem semP_or {n : Nat} (hn : 0 < n) (b c : (Str → Nat) → Bool) : ∀ (p : List Qv), (∀ q, q ∈ p → Inv c q.2) → ∀ a, semP n p (fun a => b a || c a) a = (semP n p b a || c a)
  | [], _, a => rfl
  | (true, v) :: p, h, a => by
    show ((List.range n).any fun x => semP n p (fun a => b a || c a) (updS a v x)) = (((List.range n).any fun x => semP n p b (updS a v x)) || c a)
    rw [← any_or _ (range_ne hn)]
    refine any_congr' fun x _ => ?_
    rw [semP_or hn b c p (fun q hq => h q (List.mem_cons_of_mem _ hq)), h _ (List.mem_cons_self ..)]
  | (false, v) :: p, h, a => by
    show ((List.range n).all fun x => semP n p (fun a => b a || c a) (updS a v x)) = (((List.range n).all fun x => semP n p b (updS a v x)) || c a)
    rw [← all_or]
    refine all_congr' fun x _ => ?_
    rw [semP_or hn b c p (fun q hq => h q (List.mem_cons_of_mem _ hq)), h _ (List.mem_cons_self ..)]
theorem updS_comm {a : Str → Nat} {u v : Str} (h : u ≠ v) (x y : Nat) : updS (updS a u x) v y = updS (updS a v y) u x := by
  funext z
  show (if z = v then y else if z = u then x else a z) = if z = u then x else if z = v then y else a z
  by_cases e : z = v
  · have : ¬ z = u := fun e2 => h (e2.symm.trans e)
    rw [if_pos e, if_neg this, if_pos e]
  · rw [if_neg e, if_neg e]
theorem semP_inv {n : Nat} {b : (Str → Nat) → Bool} {v : Str} (h : Inv b v) : ∀ (p : List Qv), (∀ q, q ∈ p → q.2 ≠ v) → Inv (semP n p b) v
  | [], _, a, x => h a x
  | (true, u) :: p, hp, a, x => any_congr' fun y _ => by
    have hu : u ≠ v := hp _ (List.mem_cons_self ..)
    rw [updS_comm (fun e => hu e.symm)]
    exact semP_inv h p (fun q hq => hp q (List.mem_cons_of_mem _ hq)) _ _
  | (false, u) :: p, hp, a, x => all_congr' fun y _ => by
    have hu : u ≠ v := hp _ (List.mem_cons_self ..)
    rw [updS_comm (fun e => hu e.symm)]
    exact semP_inv h p (fun q hq => hp q (List.mem_cons_of_mem _ hq)) _ _
abbrev It := List Qv × ((Str → Nat) → Bool)
structure Apart2 (x y : It) : Prop where
  l : ∀ q, q ∈ x.1 → Inv y.2 q.2
  r : ∀ q, q ∈ y.1 → Inv x.2 q.2
  d : ∀ q, q ∈ x.1 → ∀ u, u ∈ y.1 → u.2 ≠ q.2
theorem inv_all {L : List It} {v : Str} (h : ∀ i, i ∈ L → Inv i.2 v) : Inv (fun a => L.all fun i => i.2 a) v := fun a x => all_congr' fun i hi => h i hi a x
theorem inv_any {L : List It} {v : Str} (h : ∀ i, i ∈ L → Inv i.2 v) : Inv (fun a => L.any fun i => i.2 a) v := fun a x => any_congr' fun i hi => h i hi a x
theorem semP_all {n : Nat} (hn : 0 < n) : ∀ (L : List It), L.Pairwise Apart2 → ∀ a, semP n (L.map (·.1)).flatten (fun a => L.all fun i => i.2 a) a = L.all fun i => semP n i.1 i.2 a
  | [], _, a => rfl
  | x :: L, h, a => by
    obtain ⟨h1, h2⟩ := List.pairwise_cons.mp h
    rw [List.map_cons, List.flatten_cons, semP_app]
    have e1 : ∀ a, semP n (L.map (·.1)).flatten (fun a => (x :: L).all fun i => i.2 a) a = (x.2 a && L.all fun i => semP n i.1 i.2 a) := fun a => by
      have z := semP_and hn (fun a => L.all fun i => i.2 a) x.2 (L.map (·.1)).flatten (fun q hq => by
        obtain ⟨l, hl, hq⟩ := List.mem_flatten.mp hq
        obtain ⟨i, hi, rfl⟩ := List.mem_map.mp hl
        exact (h1 i hi).r q hq) a
      rw [semP_all hn L h2 a] at z
      rw [Bool.and_comm, ← z]
      exact semP_congr n (fun a => by rw [List.all_cons, Bool.and_comm]) _ a
    rw [semP_congr n e1, semP_and hn x.2 (fun a => L.all fun i => semP n i.1 i.2 a) x.1 (fun q hq a y => all_congr' fun i hi => semP_inv ((h1 i hi).l q hq) i.1 (fun u hu => (h1 i hi).d q hq u hu) a y), List.all_cons]
theorem semP_any {n : Nat} (hn : 0 < n) : ∀ (L : List It), L.Pairwise Apart2 → ∀ a, semP n (L.map (·.1)).flatten (fun a => L.any fun i => i.2 a) a = L.any fun i => semP n i.1 i.2 a
  | [], _, a => rfl
  | x :: L, h, a => by
    obtain ⟨h1, h2⟩ := List.pairwise_cons.mp h
    rw [List.map_cons, List.flatten_cons, semP_app]
    have e1 : ∀ a, semP n (L.map (·.1)).flatten (fun a => (x :: L).any fun i => i.2 a) a = (x.2 a || L.any fun i => semP n i.1 i.2 a) := fun a => by
      have z := semP_or hn (fun a => L.any fun i => i.2 a) x.2 (L.map (·.1)).flatten (fun q hq => by
        obtain ⟨l, hl, hq⟩ := List.mem_flatten.mp hq
        obtain ⟨i, hi, rfl⟩ := List.mem_map.mp hl
        exact (h1 i hi).r q hq) a
      rw [semP_any hn L h2 a] at z
      rw [Bool.or_comm, ← z]
      exact semP_congr n (fun a => by rw [List.any_cons, Bool.or_comm]) _ a
    rw [semP_congr n e1, semP_or hn x.2 (fun a => L.any fun i => semP n i.1 i.2 a) x.1 (fun q hq a y => any_congr' fun i hi => semP_inv ((h1 i hi).l q hq) i.1 (fun u hu => (h1 i hi).d q hq u hu) a y), List.any_cons]
/-- quantifiers of many variables, one variable after the other -/
theorem tups_cons_any (n : Nat) (k : Nat) (f : List Nat → Bool) : (tups n (k + 1)).any f = (List.range n).any fun x => (tups n k).any fun r => f (x :: r) := by
  rw [Bool.eq_iff_iff, List.any_eq_true, List.any_eq_true]
  constructor
  · rintro ⟨r, hr, e⟩
    obtain ⟨h1, h2⟩ := tups_mem.mp hr
    cases r with
    | nil => cases h1
    | cons x r => exact ⟨x, List.mem_range.mpr (h2 x (List.mem_cons_self ..)), List.any_eq_true.mpr ⟨r, tups_mem.mpr ⟨Nat.succ.inj h1, fun y hy => h2 y (List.mem_cons_of_mem _ hy)⟩, e⟩⟩
  · rintro ⟨x, hx, e⟩
    obtain ⟨r, hr, e⟩ := List.any_eq_true.mp e
    obtain ⟨h1, h2⟩ := tups_mem.mp hr
    exact ⟨x :: r, tups_mem.mpr ⟨congrArg Nat.succ h1, fun y hy => (List.mem_cons.mp hy).elim (fun e => by rw [e]; exact List.mem_range.mp hx) (h2 y)⟩, e⟩
theorem tups_cons_all (n : Nat) (k : Nat) (f : List Nat → Bool) : (tups n (k + 1)).all f = (List.range n).all fun x => (tups n k).all fun r => f (x :: r) := by
  rw [Bool.eq_iff_iff, List.all_eq_true, List.all_eq_true]
  constructor
  · intro h x hx
    refine List.all_eq_true.mpr fun r hr => h _ ?_
    obtain ⟨h1, h2⟩ := tups_mem.mp hr
    exact tups_mem.mpr ⟨congrArg Nat.succ h1, fun y hy => (List.mem_cons.mp hy).elim (fun e => by rw [e]; exact List.mem_range.mp hx) (h2 y)⟩
  · intro h r hr
    obtain ⟨h1, h2⟩ := tups_mem.mp hr
    cases r with
    | nil => cases h1
    | cons x r => exact List.all_eq_true.mp (h x (List.mem_range.mpr (h2 x (List.mem_cons_self ..)))) r (tups_mem.mpr ⟨Nat.succ.inj h1, fun y hy => h2 y (List.mem_cons_of_mem _ hy)⟩)
theorem semP_ex (n : Nat) (b : (Str → Nat) → Bool) : ∀ (vs : List Str) (a : Str → Nat), semP n (vs.map fun v => (true, v)) b a = (tups n vs.length).any fun r => b (upds a vs r)
  | [], a => by show b a = (b (upds a [] []) || false); rw [Bool.or_false]; rfl
  | v :: vs, a => by
    rw [List.length_cons, tups_cons_any]
    exact any_congr' fun x _ => semP_ex n b vs (updS a v x)
theorem semP_al (n : Nat) (b : (Str → Nat) → Bool) : ∀ (vs : List Str) (a : Str → Nat), semP n (vs.map fun v => (false, v)) b a = (tups n vs.length).all fun r => b (upds a vs r)
  | [], a => by show b a = (b (upds a [] []) && true); rw [Bool.and_true]; rfl
  | v :: vs, a => by
    rw [List.length_cons, tups_cons_all]
    exact all_congr' fun x _ => semP_al n b vs (updS a v x)
/-! what is pulled out of what -/
theorem xor_any {α : Type} (l : List α) (f : α → Bool) : (!l.all f) = l.any fun x => !f x := by
  induction l with
  | nil => rfl
  | cons a l ih => rw [List.all_cons, List.any_cons, Bool.not_and, ih]
theorem xor_all {α : Type} (l : List α) (f : α → Bool) : (!l.any f) = l.all fun x => !f x := by
  induction l with
  | nil => rfl
  | cons a l ih => rw [List.all_cons, List.any_cons, Bool.not_or, ih]
/-- no variable bound twice, none both bound and free -/
structure Apt (f : Fm) : Prop where
  nd : f.allB.Nodup
  fr : ∀ u, u ∈ f.allB → u ∉ f.frees
theorem allB_con {h : Hd} {ps : List Fm} (e : h.own = []) : (Fm.mk h ps).allB = (ps.map Fm.allB).flatten := by rw [Fm.allB_mk, e]; rfl
theorem nodup_flat : ∀ {ls : List (List Str)} {l : List Str}, ls.flatten.Nodup → l ∈ ls → l.Nodup
  | [], _, _, h => nomatch h
  | a :: ls, l, nd, h => by
    rw [List.flatten_cons] at nd
    obtain ⟨h1, h2, _⟩ := List.nodup_append.mp nd
    rcases List.mem_cons.mp h with e | h
    · rw [e]; exact h1
    · exact nodup_flat h2 h
theorem Apt.part {h : Hd} {ps : List Fm} (k : Apt (.mk h ps)) {p : Fm} (hp : p ∈ ps) : Apt p := by
  have nd := k.nd
  rw [Fm.allB_mk] at nd
  obtain ⟨n1, n2, n3⟩ := List.nodup_append.mp nd
  have inb : ∀ u, u ∈ p.allB → u ∈ (ps.map Fm.allB).flatten := fun u hu => List.mem_flatten.mpr ⟨_, List.mem_map.mpr ⟨p, hp, rfl⟩, hu⟩
  refine ⟨nodup_flat n2 (List.mem_map.mpr ⟨p, hp, rfl⟩), fun u hu hf => ?_⟩
  by_cases o : u ∈ h.own
  · exact n3 u o u (inb u hu) rfl
  · exact k.fr u (by rw [Fm.allB_mk]; exact List.mem_append_right _ (inb u hu)) (Fm.frees_mem.mpr (.inl ⟨p, hp, hf, o⟩))
theorem map_flat {α β : Type} (f : α → β) : ∀ ls : List (List α), ls.flatten.map f = (ls.map fun l => l.map f).flatten
  | [] => rfl
  | l :: ls => by rw [List.flatten_cons, List.map_append, map_flat f ls]; rfl
theorem pull_vars : ∀ f : Fm, f.Ok → f.fo = true → ∀ b, (f.pull b).1.map (·.2) = f.allB := by
  have flat : ∀ ps : List Fm, (∀ p, p ∈ ps → ∀ b, (p.pull b).1.map (·.2) = p.allB) → ∀ b, ((ps.map fun p => (p.pull b).1).flatten.map (·.2)) = (ps.map Fm.allB).flatten := fun ps ih b => by
    rw [map_flat, List.map_map]
    exact congrArg List.flatten (List.map_congr_left fun p hp => ih p hp b)
  have one : ∀ vs (p : Fm) (q : Bool), (∀ b, (p.pull b).1.map (·.2) = p.allB) → ∀ b, (vs.map (fun v => (q, v)) ++ (p.pull b).1).map (·.2) = vs ++ ([p].map Fm.allB).flatten := fun vs p q ih b => by
    rw [List.map_append, List.map_map, ih]
    show vs.map (fun v => v) ++ _ = vs ++ (p.allB ++ [])
    rw [List.append_nil, List.map_id'']
    intro x; rfl
  refine Fm.indF ?_ ?_ ?_ ?_ ?_ ?_ ?_ ?_
  · intro m as b; rw [pull_at (.inl rfl)]; rfl
  · intro x y b; rw [pull_at (.inr (.inl rfl))]; rfl
  · intro x y b; rw [pull_at (.inr (.inr rfl))]; rfl
  · intro p ih b
    rw [pull_no, Fm.allB_mk]
    show (p.pull (!b)).1.map (·.2) = [] ++ (p.allB ++ [])
    rw [ih, List.append_nil]; rfl
  · intro ps ih b; rw [pull_con, allB_con rfl]; exact flat ps ih b
  · intro ps ih b; rw [pull_dis, allB_con rfl]; exact flat ps ih b
  · intro vs p _ ih b; rw [pull_ex, Fm.allB_mk]; exact one vs p _ ih b
  · intro vs p _ ih b; rw [pull_al, Fm.allB_mk]; exact one vs p _ ih b
/-- without some and all -/
def Hd.Qf : Hd → Bool
  | .rel _ _ => true
  | .eq _ _ => true
  | .less _ _ => true
  | .no => true
  | .con => true
  | .dis => true
  | _ => false
def Fm.qf : Fm → Bool := Fm.fold fun h xs => h.Qf && xs.all id
theorem qf_mk (h : Hd) (ps : List Fm) : (Fm.mk h ps).qf = (h.Qf && ps.all Fm.qf) := by
  have e : (Fm.mk h ps).qf = (h.Qf && (ps.map Fm.qf).all id) := Fm.fold_mk _ h ps
  rw [e, List.all_map]; rfl
/-- what is left when some and all are pulled out -/
structure Left (f r : Fm) : Prop where
  ok : r.Ok
  qf : r.qf = true
  dep : r.dep ≤ f.dep
  cnt : r.cnt ≤ f.cnt
  ty : ∀ Γ, f.Typed Γ → r.Typed Γ
  fr : ∀ x, x ∈ r.frees → x ∈ f.frees ∨ x ∈ f.allB
  sy : ∀ p, p ∈ r.syms → p ∈ f.syms
  rn : ∀ x, x ∈ r.rns → x ∈ f.rns
theorem sumN_map_le {α : Type} {f g : α → Nat} : ∀ {l : List α}, (∀ x, x ∈ l → f x ≤ g x) → sumN (l.map f) ≤ sumN (l.map g)
  | [], _ => Nat.le_refl _
  | a :: l, h => Nat.add_le_add (h a (List.mem_cons_self ..)) (sumN_map_le fun x hx => h x (List.mem_cons_of_mem _ hx))
theorem maxN_map_le2 {α : Type} {f g : α → Nat} : ∀ {l : List α}, (∀ x, x ∈ l → f x ≤ g x) → maxN (l.map f) ≤ maxN (l.map g)
  | [], _ => Nat.le_refl _
  | a :: l, h => by
    have h1 := h a (List.mem_cons_self ..)
    have h2 : maxN (l.map f) ≤ maxN (l.map g) := maxN_map_le2 fun x hx => h x (List.mem_cons_of_mem _ hx)
    show max (f a) (maxN (l.map f)) ≤ max (g a) (maxN (l.map g))
    omega
theorem Left.mk' {h : Hd} (n : h.kd = .no ∨ h.kd = .con ∨ h.kd = .dis) (F : Fm → Fm) {ps : List Fm} (ok : h.Ok ps.length) (ih : ∀ p, p ∈ ps → Left p (F p)) : Left (.mk h ps) (.mk h (ps.map F)) := by
  have nr : h.kd ≠ .rel := by rcases n with n | n | n <;> (rw [n]; intro z; cases z)
  have q : h.Qf = true := by cases h <;> first | rfl | (rcases n with n | n | n <;> cases n)
  have ho : h.own = [] := by cases h <;> first | rfl | (rcases n with n | n | n <;> cases n)
  have hb : h.bname = none := by cases h <;> first | rfl | (rcases n with n | n | n <;> cases n)
  have he : ∀ Γ, h.env Γ = Γ := fun Γ => by cases h <;> first | rfl | (rcases n with n | n | n <;> cases n)
  have hr : h.rn = [] := by cases h <;> first | rfl | (rcases n with n | n | n <;> cases n)
  have inv : ∀ {r}, r ∈ ps.map F → ∃ p, p ∈ ps ∧ r = F p := fun hr => by
    obtain ⟨p, hp, e⟩ := List.mem_map.mp hr
    exact ⟨p, hp, e.symm⟩
  refine ⟨.mk (by rw [List.length_map]; exact ok) fun r hr => ?_, ?_, ?_, ?_, fun Γ t => .other nr fun r hr => ?_, fun x hx => ?_, fun p hp => ?_, fun x hx => ?_⟩
  · obtain ⟨p, hp, rfl⟩ := inv hr; exact (ih p hp).ok
  · rw [qf_mk, q]
    refine List.all_eq_true.mpr fun r hr => ?_
    obtain ⟨p, hp, rfl⟩ := inv hr; exact (ih p hp).qf
  · rw [Fm.dep_mk, Fm.dep_mk, List.map_map]
    have : maxN (ps.map (Fm.dep ∘ F)) ≤ maxN (ps.map Fm.dep) := maxN_map_le2 fun p hp => (ih p hp).dep
    omega
  · rw [Fm.cnt_mk, Fm.cnt_mk, List.map_map]
    have : sumN (ps.map (Fm.cnt ∘ F)) ≤ sumN (ps.map Fm.cnt) := sumN_map_le fun p hp => (ih p hp).cnt
    omega
  · obtain ⟨p, hp, rfl⟩ := inv hr
    exact (ih p hp).ty _ (t.part nr hp)
  · rcases Fm.frees_mem.mp hx with ⟨r, hr, hx, _⟩ | hx
    · obtain ⟨p, hp, rfl⟩ := inv hr
      rcases (ih p hp).fr x hx with a | a
      · exact .inl (Fm.frees_mem.mpr (.inl ⟨p, hp, a, by rw [ho]; exact fun z => nomatch z⟩))
      · exact .inr (by rw [allB_con ho]; exact List.mem_flatten.mpr ⟨_, List.mem_map.mpr ⟨p, hp, rfl⟩, a⟩)
    · exact .inl (Fm.frees_mem.mpr (.inr hx))
  · obtain ⟨nb, r, hr, hx⟩ := (Fm.syms_mem nr).mp hp
    obtain ⟨q', hq', rfl⟩ := inv hr
    exact (Fm.syms_mem nr).mpr ⟨nb, q', hq', (ih q' hq').sy p hx⟩
  · rw [Fm.rns_mk, hr] at hx ⊢
    obtain ⟨l, hl, hx⟩ := List.mem_flatten.mp hx
    obtain ⟨r, hr, rfl⟩ := List.mem_map.mp hl
    obtain ⟨p, hp, rfl⟩ := inv hr
    exact List.mem_flatten.mpr ⟨_, List.mem_map.mpr ⟨p, hp, rfl⟩, (ih p hp).rn x hx⟩
theorem Left.refl {h : Hd} (ok : h.Ok 0) (o : h.kd = .rel ∨ h.kd = .eq ∨ h.kd = .less) : Left (.mk h []) (.mk h []) := by
  refine ⟨.mk ok fun p hp => (nomatch hp), ?_, Nat.le_refl _, Nat.le_refl _, fun _ t => t, fun x hx => .inl hx, fun p hp => hp, fun x hx => hx⟩
  rw [qf_mk]
  cases h <;> first | rfl | (rcases o with o | o | o <;> cases o)
theorem Left.quant {h : Hd} {p r : Fm} (nn : h.kd = .ex ∨ h.kd = .al) (l : Left p r) : Left (.mk h [p]) r := by
  have nr : h.kd ≠ .rel := by rcases nn with n | n <;> (rw [n]; intro z; cases z)
  have hb : h.bname = none := by cases h <;> first | rfl | (rcases nn with n | n <;> cases n)
  have he : ∀ Γ, h.env Γ = Γ := fun Γ => by cases h <;> first | rfl | (rcases nn with n | n <;> cases n)
  have mem : p ∈ [p] := List.mem_singleton.mpr rfl
  refine ⟨l.ok, l.qf, ?_, ?_, fun Γ t => ?_, fun x hx => ?_, fun s hs => ?_, fun x hx => ?_⟩
  · have := l.dep
    have := dep_part (h := h) mem
    omega
  · have := l.cnt
    rw [Fm.cnt_mk]
    show r.cnt ≤ 1 + (p.cnt + 0)
    omega
  · have t' := t.part nr mem
    rw [he] at t'
    exact l.ty _ t'
  · rcases l.fr x hx with a | a
    · by_cases o : x ∈ h.own
      · exact .inr (by rw [Fm.allB_mk]; exact List.mem_append_left _ o)
      · exact .inl (Fm.frees_mem.mpr (.inl ⟨p, mem, a, o⟩))
    · exact .inr (by rw [Fm.allB_mk]; exact List.mem_append_right _ (List.mem_flatten.mpr ⟨_, List.mem_map.mpr ⟨p, mem, rfl⟩, a⟩))
  · exact (Fm.syms_mem nr).mpr ⟨by rw [hb]; exact (fun z => nomatch z), p, mem, l.sy s hs⟩
  · rw [Fm.rns_mk]
    exact List.mem_append_right _ (List.mem_flatten.mpr ⟨_, List.mem_map.mpr ⟨p, mem, rfl⟩, l.rn x hx⟩)
theorem pull_left : ∀ f : Fm, f.Ok → f.fo = true → ∀ b, Left f (f.pull b).2 := by
  intro f ok fo
  have key : ∀ f : Fm, f.Ok → f.fo = true → f.Ok → ∀ b, Left f (f.pull b).2 := by
    refine Fm.indF ?_ ?_ ?_ ?_ ?_ ?_ ?_ ?_
    · intro m as ok b; rw [pull_at (.inl rfl)]; exact .refl ok.hd_ (.inl rfl)
    · intro x y ok b; rw [pull_at (.inr (.inl rfl))]; exact .refl ok.hd_ (.inr (.inl rfl))
    · intro x y ok b; rw [pull_at (.inr (.inr rfl))]; exact .refl ok.hd_ (.inr (.inr rfl))
    · intro p ih ok b; rw [pull_no]; exact Left.mk' (.inl rfl) (fun p => (p.pull (!b)).2) ok.hd_ fun q hq => by rw [List.mem_singleton.mp hq]; exact ih (ok.part (List.mem_singleton.mpr rfl)) _
    · intro ps ih ok b; rw [pull_con]; exact Left.mk' (.inr (.inl rfl)) (fun p => (p.pull b).2) ok.hd_ fun q hq => ih q hq (ok.part hq) _
    · intro ps ih ok b; rw [pull_dis]; exact Left.mk' (.inr (.inr rfl)) (fun p => (p.pull b).2) ok.hd_ fun q hq => ih q hq (ok.part hq) _
    · intro vs p _ ih ok b; rw [pull_ex]; exact .quant (.inl rfl) (ih (ok.part (List.mem_singleton.mpr rfl)) _)
    · intro vs p _ ih ok b; rw [pull_al]; exact .quant (.inr rfl) (ih (ok.part (List.mem_singleton.mpr rfl)) _)
  exact key f ok fo ok
theorem pull_fst : ∀ f : Fm, f.Ok → f.fo = true → ∀ b c, (f.pull b).2 = (f.pull c).2 := by
  refine Fm.indF ?_ ?_ ?_ ?_ ?_ ?_ ?_ ?_
  · intro m as b c; rw [pull_at (.inl rfl), pull_at (.inl rfl)]
  · intro x y b c; rw [pull_at (.inr (.inl rfl)), pull_at (.inr (.inl rfl))]
  · intro x y b c; rw [pull_at (.inr (.inr rfl)), pull_at (.inr (.inr rfl))]
  · intro p ih b c; rw [pull_no, pull_no, ih (!b) (!c)]
  · intro ps ih b c
    rw [pull_con, pull_con]
    exact congrArg (Fm.mk .con) (List.map_congr_left fun p hp => ih p hp b c)
  · intro ps ih b c
    rw [pull_dis, pull_dis]
    exact congrArg (Fm.mk .dis) (List.map_congr_left fun p hp => ih p hp b c)
  · intro vs p _ ih b c; rw [pull_ex, pull_ex]; exact ih b c
  · intro vs p _ ih b c; rw [pull_al, pull_al]; exact ih b c
/-- pulling out keeps the meaning -/
theorem pull_sem {n : Nat} (hn : 0 < n) (I : Rl) : ∀ f : Fm, f.Ok → f.fo = true → f.Ok → f.fo = true → Apt f → ∀ b a, (b ^^ f.sem n I a) = semP n (f.pull b).1 (fun a => b ^^ (f.pull b).2.sem n I a) a := by
  have joined : ∀ ps : List Fm, (∀ p, p ∈ ps → p.Ok) → (∀ p, p ∈ ps → p.fo = true) → ∀ h : Hd, h.own = [] → Apt (.mk h ps) → ∀ b, (ps.map fun p => ((p.pull b).1, fun a => b ^^ (p.pull b).2.sem n I a)).Pairwise Apart2 := by
    intro ps ok fo h ho ap b
    rw [List.pairwise_map]
    have nd := ap.nd
    rw [allB_con ho] at nd
    have free : ∀ p, p ∈ ps → ∀ q, q ∈ ps → ∀ u, u ∈ p.allB → u ∉ q.allB → Inv (fun a => b ^^ (q.pull b).2.sem n I a) u := fun p hp q hq u hu nq a x => by
      refine congrArg (fun z => b ^^ z) (sem_congr n I _ _ _ fun y hy => ?_)
      have ny : y ≠ u := fun e => by
        subst e
        rcases (pull_left q (ok q hq) (fo q hq) b).fr y hy with z | z
        · exact ap.fr y (by rw [allB_con ho]; exact List.mem_flatten.mpr ⟨_, List.mem_map.mpr ⟨p, hp, rfl⟩, hu⟩) (Fm.frees_mem.mpr (.inl ⟨q, hq, z, by rw [ho]; exact fun z => nomatch z⟩))
        · exact nq z
      show (if y = u then x else a y) = a y
      rw [if_neg ny]
    have inB : ∀ p, p ∈ ps → ∀ q, q ∈ (p.pull b).1 → q.2 ∈ p.allB := fun p hp q hq => by
      rw [← pull_vars p (ok p hp) (fo p hp) b]
      exact List.mem_map.mpr ⟨q, hq, rfl⟩
    have pw : ps.Pairwise fun p q => ∀ u, u ∈ p.allB → u ∉ q.allB := by
      clear ap ok fo free inB
      induction ps with
      | nil => exact .nil
      | cons p ps ih =>
        rw [List.map_cons, List.flatten_cons] at nd
        obtain ⟨n1, n2, n3⟩ := List.nodup_append.mp nd
        exact .cons (fun q hq u hu hv => n3 u hu u (List.mem_flatten.mpr ⟨_, List.mem_map.mpr ⟨q, hq, rfl⟩, hv⟩) rfl) (ih n2)
    refine List.Pairwise.imp_of_mem (fun {p q} hp hq d => ?_) pw
    refine ⟨fun u hu => free p hp q hq u.2 (inB p hp u hu) (d _ (inB p hp u hu)), fun u hu => free q hq p hp u.2 (inB q hq u hu) (fun z => d _ z (inB q hq u hu)), fun u hu v hv e => d _ (inB p hp u hu) (by rw [← e]; exact inB q hq v hv)⟩
  refine Fm.indF ?_ ?_ ?_ ?_ ?_ ?_ ?_ ?_
  · intro m as _ _ _ b a; rw [pull_at (.inl rfl)]; rfl
  · intro x y _ _ _ b a; rw [pull_at (.inr (.inl rfl))]; rfl
  · intro x y _ _ _ b a; rw [pull_at (.inr (.inr rfl))]; rfl
  · intro p ih ok fo ap b a
    have mem : p ∈ [p] := List.mem_singleton.mpr rfl
    have z := ih (ok.part mem) (fo_part fo mem) (ap.part mem) (!b) a
    rw [pull_no, sem_no, show (b ^^ !(p.sem n I a)) = (!b ^^ p.sem n I a) by cases b <;> cases p.sem n I a <;> rfl, z]
    refine semP_congr n (fun a => ?_) _ a
    rw [sem_no]
    cases b <;> cases (p.pull _).2.sem n I a <;> rfl
  · intro ps ih ok fo ap b a
    have J := joined ps (fun p hp => ok.part hp) (fun p hp => fo_part fo hp) .con rfl ap b
    have fl : ((ps.map fun p => ((p.pull b).1, fun a => b ^^ (p.pull b).2.sem n I a)).map (·.1)).flatten = (ps.map fun p => (p.pull b).1).flatten := by rw [List.map_map]; rfl
    rw [pull_con]
    show _ = semP n (ps.map fun p => (p.pull b).1).flatten _ a
    rw [← fl, sem_con]
    cases b with
    | false =>
      have z := semP_all hn _ J a
      rw [semP_congr n (c := fun a => (ps.map fun p => ((p.pull false).1, fun a => false ^^ (p.pull false).2.sem n I a)).all fun i => i.2 a) (fun a => ?_), z, Bool.false_xor, all_map']
      · exact all_congr' fun p hp => by
          have y := ih p hp (ok.part hp) (fo_part fo hp) (ap.part hp) false a
          rw [Bool.false_xor] at y
          exact y
      · rw [sem_con, Bool.false_xor, all_map', all_map']
        exact all_congr' fun p hp => (Bool.false_xor _).symm
    | true =>
      have z := semP_any hn _ J a
      rw [semP_congr n (c := fun a => (ps.map fun p => ((p.pull true).1, fun a => true ^^ (p.pull true).2.sem n I a)).any fun i => i.2 a) (fun a => ?_), z, Bool.true_xor, xor_any, any_map']
      · exact any_congr' fun p hp => by
          have y := ih p hp (ok.part hp) (fo_part fo hp) (ap.part hp) true a
          rw [Bool.true_xor] at y
          exact y
      · rw [sem_con, Bool.true_xor, all_map', xor_any, any_map']
        exact any_congr' fun p hp => (Bool.true_xor _).symm
  · intro ps ih ok fo ap b a
    have J := joined ps (fun p hp => ok.part hp) (fun p hp => fo_part fo hp) .dis rfl ap b
    have fl : ((ps.map fun p => ((p.pull b).1, fun a => b ^^ (p.pull b).2.sem n I a)).map (·.1)).flatten = (ps.map fun p => (p.pull b).1).flatten := by rw [List.map_map]; rfl
    rw [pull_dis]
    show _ = semP n (ps.map fun p => (p.pull b).1).flatten _ a
    rw [← fl, sem_dis]
    cases b with
    | false =>
      have z := semP_any hn _ J a
      rw [semP_congr n (c := fun a => (ps.map fun p => ((p.pull false).1, fun a => false ^^ (p.pull false).2.sem n I a)).any fun i => i.2 a) (fun a => ?_), z, Bool.false_xor, any_map']
      · exact any_congr' fun p hp => by
          have y := ih p hp (ok.part hp) (fo_part fo hp) (ap.part hp) false a
          rw [Bool.false_xor] at y
          exact y
      · rw [sem_dis, Bool.false_xor, any_map', any_map']
        exact any_congr' fun p hp => (Bool.false_xor _).symm
    | true =>
      have z := semP_all hn _ J a
      rw [semP_congr n (c := fun a => (ps.map fun p => ((p.pull true).1, fun a => true ^^ (p.pull true).2.sem n I a)).all fun i => i.2 a) (fun a => ?_), z, Bool.true_xor, xor_all, all_map']
      · exact all_congr' fun p hp => by
          have y := ih p hp (ok.part hp) (fo_part fo hp) (ap.part hp) true a
          rw [Bool.true_xor] at y
          exact y
      · rw [sem_dis, Bool.true_xor, any_map', xor_all, all_map']
        exact all_congr' fun p hp => (Bool.true_xor _).symm
  · intro vs p _ ih ok fo ap b a
    have mem : p ∈ [p] := List.mem_singleton.mpr rfl
    have z := fun a => ih (ok.part mem) (fo_part fo mem) (ap.part mem) b a
    rw [pull_ex, sem_ex]
    show _ = semP n (vs.map (fun v => (!b, v)) ++ (p.pull b).1) _ a
    rw [semP_app]
    cases b with
    | false =>
      rw [Bool.false_xor]
      show _ = semP n (vs.map fun v => (true, v)) _ a
      rw [semP_ex]
      refine any_congr' fun r _ => ?_
      rw [← z, Bool.false_xor]
    | true =>
      rw [Bool.true_xor, xor_all]
      show _ = semP n (vs.map fun v => (false, v)) _ a
      rw [semP_al]
      refine all_congr' fun r _ => ?_
      rw [← z, Bool.true_xor]
  · intro vs p _ ih ok fo ap b a
    have mem : p ∈ [p] := List.mem_singleton.mpr rfl
    have z := fun a => ih (ok.part mem) (fo_part fo mem) (ap.part mem) b a
    rw [pull_al, sem_al]
    show _ = semP n (vs.map (fun v => (b, v)) ++ (p.pull b).1) _ a
    rw [semP_app]
    cases b with
    | false =>
      rw [Bool.false_xor]
      show _ = semP n (vs.map fun v => (false, v)) _ a
      rw [semP_al]
      refine all_congr' fun r _ => ?_
      rw [← z, Bool.false_xor]
    | true =>
      rw [Bool.true_xor, xor_any]
      show _ = semP n (vs.map fun v => (true, v)) _ a
      rw [semP_ex]
      refine any_congr' fun r _ => ?_
      rw [← z, Bool.true_xor]
/-! ### max of a tuple of ints -/
section
variable {X : Cx}
theorem holdInts {h : Heap} : ∀ {its : List Value} {ns : List Int}, Vals (ns.map V.int) its → PySem.W.HoldAll h its ns
  | [], [], _ => PySem.W.HoldAll.nil
  | _, n :: ns, .cons r t => by
    obtain ⟨tk, rfl⟩ := r
    exact PySem.W.HoldAll.cons (PySem.W.holds_int n tk) (holdInts t)
def rMaxT (K : PySem.W.Frag) : List V → Hp → VK → Prop := fun vs H Q => ∃ (a : Addr) (x : Int) (xs : List Int), vs = [V.ref a] ∧ SqT K H a ((x :: xs).map V.int) ∧ Q (.int (PySem.W.maxOf x xs)) H
theorem cr_maxT (hc : X.calm = true) (hu : X.A.units + 64 < cLine) : CallR X (.builtin "max") (rMaxT X.K) := by
  intro pins s σ H vs us Q I r h
  obtain ⟨a, x, xs, rfl, hs, q⟩ := h
  obtain ⟨its, rv, tp, hz⟩ := I.tuple hs
  rw [Vals.ref1 r]
  refine PySem.W.max_tuple_datum (α := Int) (I.ok.hd hc) (show s.heap.IsTuple a its.toArray from tp) (by rw [List.toList_toArray]; exact holdInts rv) (by show X.A.units + 1 + 0 < cLine; omega) fun i v h' tk hi hv hk => ?_
  obtain ⟨t, rfl⟩ := PySem.W.int_of_holds hv
  exact ⟨.int _, H, I.kept hk, ⟨_, rfl⟩, q⟩
end
/-! ### blocks of variables -/
abbrev Blk := Bool × List Str
def blkStep (found : List Blk) (q : Qv) : List Blk := match found.getLast? with
  | some b => if b.1 = q.1 ∧ b.2.length < 6 then found.dropLast ++ [(b.1, b.2 ++ [q.2])] else found ++ [(q.1, [q.2])]
  | none => [(q.1, [q.2])]
def blks (p : List Qv) : List Blk := p.foldl blkStep []
def flatB (bs : List Blk) : List Qv := (bs.map fun b => b.2.map fun v => (b.1, v)).flatten
theorem flatB_app (a b : List Blk) : flatB (a ++ b) = flatB a ++ flatB b := by unfold flatB; rw [List.map_append, List.flatten_append]
structure BlkOk (bs : List Blk) (p : List Qv) : Prop where
  flat : flatB bs = p
  len : ∀ b, b ∈ bs → 1 ≤ b.2.length ∧ b.2.length ≤ 6
  few : bs.length ≤ p.length
theorem getLast_app {α : Type} {l : List α} {x : α} (h : l.getLast? = some x) : l = l.dropLast ++ [x] := by
  cases l with
  | nil => cases h
  | cons a l =>
    have e := List.dropLast_concat_getLast (List.cons_ne_nil a l)
    rw [List.getLast?_eq_some_getLast (List.cons_ne_nil a l)] at h
    rw [Option.some.inj h] at e
    exact e.symm
theorem blkStep_ok {bs : List Blk} {p : List Qv} (h : BlkOk bs p) (q : Qv) : BlkOk (blkStep bs q) (p ++ [q]) := by
  have new : BlkOk (bs ++ [(q.1, [q.2])]) (p ++ [q]) := by
    refine ⟨?_, fun b hb => ?_, ?_⟩
    · rw [flatB_app, h.flat]; rfl
    · rcases List.mem_append.mp hb with hb | hb
      · exact h.len b hb
      · rw [List.mem_singleton.mp hb]; exact ⟨Nat.le_refl 1, show 1 ≤ 6 by decide⟩
    · rw [List.length_append, List.length_append]
      exact Nat.add_le_add h.few (Nat.le_refl 1)
  unfold blkStep
  cases e : bs.getLast? with
  | none =>
    rw [List.getLast?_eq_none_iff.mp e] at new
    exact new
  | some b =>
    dsimp only
    by_cases c : b.1 = q.1 ∧ b.2.length < 6
    · rw [if_pos c]
      have eb := getLast_app e
      have mb : b ∈ bs := by rw [eb]; exact List.mem_append_right _ (List.mem_singleton.mpr rfl)
      refine ⟨?_, fun b' hb => ?_, ?_⟩
      · have f := h.flat
        rw [eb, flatB_app] at f
        rw [flatB_app, ← f, List.append_assoc]
        congr 1
        show (b.2 ++ [q.2]).map (fun v => (b.1, v)) ++ [] = (b.2.map (fun v => (b.1, v)) ++ []) ++ [q]
        rw [List.map_append, List.append_nil, List.append_nil, c.1]
        rfl
      · rcases List.mem_append.mp hb with hb | hb
        · exact h.len b' (by rw [eb]; exact List.mem_append_left _ hb)
        · rw [List.mem_singleton.mp hb]
          have := h.len b mb
          rw [List.length_append]
          show 1 ≤ b.2.length + 1 ∧ b.2.length + 1 ≤ 6
          omega
      · have f := h.few
        have : bs.length = bs.dropLast.length + 1 := by
          conv => lhs; rw [eb]
          rw [List.length_append]; rfl
        rw [List.length_append, List.length_append]
        show bs.dropLast.length + 1 ≤ p.length + 1
        omega
    · rw [if_neg c]; exact new
theorem blks_take {p : List Qv} {i : Nat} {q : Qv} (h : p[i]? = some q) : blks (p.take (i + 1)) = blkStep (blks (p.take i)) q := by
  unfold blks
  rw [List.take_add_one, h, List.foldl_append]; rfl
theorem blks_ok : ∀ (p : List Qv), BlkOk (blks p) p := by
  have : ∀ (p q : List Qv) (bs : List Blk), BlkOk bs q → BlkOk (p.foldl blkStep bs) (q ++ p) := by
    intro p
    induction p with
    | nil => intro q bs h; rw [List.append_nil]; exact h
    | cons a p ih =>
      intro q bs h
      have := ih (q ++ [a]) _ (blkStep_ok h a)
      rw [List.append_assoc] at this
      exact this
  intro p
  exact this p [] [] ⟨rfl, (fun b hb => nomatch hb), Nat.le_refl _⟩
def blkH (b : Blk) : Hd := if b.1 = true then .ex b.2 else .al b.2
def wrapB (bs : List Blk) (r : Fm) : Fm := bs.foldr (fun b g => .mk (blkH b) [g]) r
def prenexF (f : Fm) : Fm := wrapB (blks (f.pull false).1) (f.pull false).2
theorem blkH_cases (b : Blk) : (b.1 = true ∧ blkH b = .ex b.2) ∨ (b.1 = false ∧ blkH b = .al b.2) := by
  unfold blkH
  cases e : b.1 with
  | true => exact .inl ⟨rfl, rfl⟩
  | false => exact .inr ⟨rfl, rfl⟩
theorem wrap_sem (n : Nat) (I : Rl) (r : Fm) : ∀ (bs : List Blk) (a : Str → Nat), (wrapB bs r).sem n I a = semP n (flatB bs) (r.sem n I) a
  | [], a => rfl
  | b :: bs, a => by
    show (Fm.mk (blkH b) [wrapB bs r]).sem n I a = semP n (b.2.map (fun v => (b.1, v)) ++ flatB bs) (r.sem n I) a
    rw [semP_app]
    rcases blkH_cases b with ⟨e1, e2⟩ | ⟨e1, e2⟩
    · rw [e2, sem_ex, e1, semP_ex]
      exact any_congr' fun x _ => wrap_sem n I r bs _
    · rw [e2, sem_al, e1, semP_al]
      exact all_congr' fun x _ => wrap_sem n I r bs _
/-- what the result is: a formula with the free variables and symbols of the first one, and its meaning -/
theorem prenex_sem {n : Nat} (hn : 0 < n) (I : Rl) {f : Fm} (ok : f.Ok) (fo : f.fo = true) (ap : Apt f) (a : Str → Nat) : (prenexF f).sem n I a = f.sem n I a := by
  unfold prenexF
  rw [wrap_sem, (blks_ok _).flat]
  have z := pull_sem hn I f ok fo ok fo ap false a
  rw [Bool.false_xor] at z
  rw [z]
  exact semP_congr n (fun a => by rw [Bool.false_xor]) _ a
theorem wrap_frees (r : Fm) : ∀ (bs : List Blk) (x : Str), x ∈ (wrapB bs r).frees → x ∈ r.frees ∧ ∀ q, q ∈ flatB bs → q.2 ≠ x
  | [], x, h => ⟨h, fun q hq => nomatch hq⟩
  | b :: bs, x, h => by
    have h : x ∈ (Fm.mk (blkH b) [wrapB bs r]).frees := h
    have ow : (blkH b).own = b.2 := by rcases blkH_cases b with ⟨_, e⟩ | ⟨_, e⟩ <;> rw [e] <;> rfl
    have ar : (blkH b).args = [] := by rcases blkH_cases b with ⟨_, e⟩ | ⟨_, e⟩ <;> rw [e] <;> rfl
    rcases Fm.frees_mem.mp h with ⟨g, hg, hx, no⟩ | hx
    · rw [List.mem_singleton.mp hg] at hx
      obtain ⟨h1, h2⟩ := wrap_frees r bs x hx
      refine ⟨h1, fun q hq => ?_⟩
      have hq : q ∈ b.2.map (fun v => (b.1, v)) ++ flatB bs := hq
      rcases List.mem_append.mp hq with hq | hq
      · obtain ⟨v, hv, rfl⟩ := List.mem_map.mp hq
        intro e
        rw [ow] at no
        exact no (by rw [← e]; exact hv)
      · exact h2 q hq
    · rw [ar] at hx; cases hx
theorem prenex_frees {f : Fm} (ok : f.Ok) (fo : f.fo = true) : ∀ x, x ∈ (prenexF f).frees → x ∈ f.frees := fun x hx => by
  obtain ⟨h1, h2⟩ := wrap_frees _ _ x hx
  rw [(blks_ok _).flat] at h2
  rcases (pull_left f ok fo false).fr x h1 with a | a
  · exact a
  · rw [← pull_vars f ok fo false] at a
    obtain ⟨q, hq, e⟩ := List.mem_map.mp a
    exact absurd e (h2 q hq)
/-- all that is asked of the parts of a formula that is wrapped -/
theorem wrap_ind {P : Fm → Prop} {r : Fm} (base : P r) : ∀ (bs : List Blk), (∀ b g, b ∈ bs → P g → P (.mk (blkH b) [g])) → P (wrapB bs r)
  | [], _ => base
  | b :: bs, step => step b (wrapB bs r) (List.mem_cons_self ..) (wrap_ind base bs fun b' g hb hg => step b' g (List.mem_cons_of_mem _ hb) hg)
theorem wrap_syms {r : Fm} {p : Str × Nat} (bs : List Blk) : p ∈ (wrapB bs r).syms → p ∈ r.syms := by
  refine wrap_ind (P := fun g => p ∈ g.syms → p ∈ r.syms) (fun h => h) bs fun b g _ ih h => ?_
  have nr : (blkH b).kd ≠ .rel := by rcases blkH_cases b with ⟨_, e⟩ | ⟨_, e⟩ <;> rw [e] <;> (intro z; cases z)
  obtain ⟨_, q, hq, hx⟩ := (Fm.syms_mem nr).mp h
  rw [List.mem_singleton.mp hq] at hx
  exact ih hx
theorem wrap_rns {r : Fm} {x : Str} (bs : List Blk) : x ∈ (wrapB bs r).rns → x ∈ r.rns := by
  refine wrap_ind (P := fun g => x ∈ g.rns → x ∈ r.rns) (fun h => h) bs fun b g _ ih h => ?_
  have nr : (blkH b).rn = [] := by rcases blkH_cases b with ⟨_, e⟩ | ⟨_, e⟩ <;> rw [e] <;> rfl
  rw [Fm.rns_mk, nr] at h
  have h : x ∈ g.rns ++ [] := h
  rw [List.append_nil] at h
  exact ih h
theorem wrap_dep (r : Fm) : ∀ (bs : List Blk), (wrapB bs r).dep = bs.length + r.dep
  | [] => (Nat.zero_add _).symm
  | b :: bs => by
    show (Fm.mk (blkH b) [wrapB bs r]).dep = _
    rw [Fm.dep_mk]
    show 1 + max (wrapB bs r).dep 0 = _
    rw [wrap_dep r bs, List.length_cons, Nat.max_eq_left (Nat.zero_le _)]
    omega
theorem wrap_cnt (r : Fm) : ∀ (bs : List Blk), (wrapB bs r).cnt = bs.length + r.cnt
  | [] => (Nat.zero_add _).symm
  | b :: bs => by
    show (Fm.mk (blkH b) [wrapB bs r]).cnt = _
    rw [Fm.cnt_mk]
    show 1 + ((wrapB bs r).cnt + 0) = _
    rw [wrap_cnt r bs, List.length_cons]
    omega
theorem fo_posok : ∀ f : Fm, f.fo = true → f.PosOk := Fm.ind fun h ps ih fo => by
  refine .mk (fun n us as e => ?_) fun p hp => ih p hp (fo_part fo hp)
  subst e
  have := fo_hd fo
  cases this
theorem qf_fo : ∀ f : Fm, f.qf = true → f.fo = true := Fm.ind fun h ps ih q => by
  rw [qf_mk] at q
  obtain ⟨q1, q2⟩ := Bool.and_eq_true_iff.mp q
  rw [fo_mk]
  refine Bool.and_eq_true_iff.mpr ⟨?_, List.all_eq_true.mpr fun p hp => ih p hp (List.all_eq_true.mp q2 p hp)⟩
  cases h <;> first | rfl | cases q1
theorem wrap_fo {r : Fm} (h : r.fo = true) (bs : List Blk) : (wrapB bs r).fo = true := by
  refine wrap_ind (P := fun g => g.fo = true) h bs fun b g _ ih => ?_
  rw [fo_mk]
  rcases blkH_cases b with ⟨_, e⟩ | ⟨_, e⟩ <;> rw [e] <;> (show (true && (g.fo && true)) = true; rw [ih]; rfl)
theorem sub_flat {bs : List Blk} {b : Blk} (h : b ∈ bs) : b.2.Sublist ((flatB bs).map (·.2)) := by
  induction bs with
  | nil => cases h
  | cons c bs ih =>
    have e : (flatB (c :: bs)).map (·.2) = c.2 ++ (flatB bs).map (·.2) := by
      show (c.2.map (fun v => (c.1, v)) ++ flatB bs).map (·.2) = _
      rw [List.map_append, List.map_map]
      congr 1
      show c.2.map (fun v => v) = c.2
      rw [List.map_id'']
      intro x; rfl
    rw [e]
    rcases List.mem_cons.mp h with rfl | h
    · exact List.sublist_append_left _ _
    · exact (ih h).trans (List.sublist_append_right _ _)
theorem prenex_wf {f : Fm} (wf : f.Wf) (fo : f.fo = true) (ap : Apt f) (nm : Names f.allB) (few : f.allB.length ≤ 20) (sm : f.dep ≤ 20) (sc : f.cnt ≤ 1000) : (prenexF f).Wf ∧ (prenexF f).dep ≤ 40 ∧ (prenexF f).cnt ≤ 1020 := by
  have ok := wf.ok
  have L := pull_left f ok fo false
  have B := blks_ok (f.pull false).1
  have pv := pull_vars f ok fo false
  have bl : (blks (f.pull false).1).length ≤ 20 := by
    have := B.few
    have h2 : (f.pull false).1.length = f.allB.length := by rw [← pv, List.length_map]
    omega
  obtain ⟨Γ, ty⟩ := wf.ty
  have d1 := wrap_dep (f.pull false).2 (blks (f.pull false).1)
  have c1 := wrap_cnt (f.pull false).2 (blks (f.pull false).1)
  have d2 := L.dep
  have c2 := L.cnt
  have own : ∀ b, b ∈ blks (f.pull false).1 → OwnOk b.2 := fun b hb => by
    have sl := sub_flat hb
    rw [B.flat, pv] at sl
    exact ⟨(B.len b hb).1, (B.len b hb).2, fun v hv => nm v (sl.subset hv), ap.nd.sublist sl⟩
  have dep : (prenexF f).dep ≤ 40 := by unfold prenexF; omega
  have cnt : (prenexF f).cnt ≤ 1020 := by unfold prenexF; omega
  refine ⟨⟨?_, dep, by omega, fo_posok _ (wrap_fo (qf_fo _ L.qf) _), Γ, ?_⟩, dep, cnt⟩
  · refine wrap_ind (P := Fm.Ok) L.ok _ fun b g hb ih => .mk ?_ fun p hp => by rw [List.mem_singleton.mp hp]; exact ih
    rcases blkH_cases b with ⟨_, e⟩ | ⟨_, e⟩ <;> rw [e] <;> exact ⟨own b hb, rfl⟩
  · refine wrap_ind (P := fun g => g.Typed Γ) (L.ty Γ ty) _ fun b g hb ih => .other ?_ fun p hp => ?_
    · rcases blkH_cases b with ⟨_, e⟩ | ⟨_, e⟩ <;> rw [e] <;> (intro z; cases z)
    · rw [List.mem_singleton.mp hp]
      rcases blkH_cases b with ⟨_, e⟩ | ⟨_, e⟩ <;> rw [e] <;> exact ih
/-! ### first-order, positive -/
def hotB (h : Hd) : Bool := inV (.str h.word) [.str "lfp", .str "pfp", .str "tc", .str "guess"]
def Fm.plain : Fm → Bool := Fm.fold fun h xs => !hotB h && xs.all id
theorem plain_mk (h : Hd) (ps : List Fm) : (Fm.mk h ps).plain = (!hotB h && ps.all Fm.plain) := by
  have e : (Fm.mk h ps).plain = (!hotB h && (ps.map Fm.plain).all id) := Fm.fold_mk _ h ps
  rw [e, List.all_map]
  rfl
def spFlag (K : PySem.W.Frag) (M : Fm → Bool) (n : Nat) : Sp := fun vs H Q _ => ∃ (v : V) (f : Fm), vs = [v] ∧ Dp K H v f.data ∧ f.Ok ∧ f.dep ≤ n ∧ ∀ (H' : Hp), Same H H' → Q (.bl (M f)) H'
section
variable {P : Program} {w : World} {K : PySem.W.Frag} {mg : Str → Option Value} {base : Heap}
theorem sc_pplain : FnScope ["formula", "part"] ["formula"] (defScope (top 57)) := ⟨rfl, rfl, rfl, by decide +kernel, rfl, by decide +kernel, by decide +kernel⟩
theorem has_pplain (D : Def K mg "_is_first_order" ["formula"] (top 57)) (T : Txt mg) (C1 : Has P w K mg base 1 "inner" ["formula"] (spInner K)) : ∀ n : Nat, Has P w K mg base (2 + n) "_is_first_order" ["formula"] (spFlag K Fm.plain n) := by
  obtain ⟨f1, fd1, G_inner, g_inner, k_inner, b_inner⟩ := C1
  intro n
  induction n with
  | zero =>
    refine D.has fun f fd F => F.ok sc_pplain (fun vs H Q E h => ?_) (fun cdv A outer s H vs Q E hr h => ?_)
    · obtain ⟨v, f, rfl, _⟩ := h; rfl
    · obtain ⟨v, f, rfl, _, _, h0, _⟩ := h
      have := dep_pos f
      omega
  | succ n ih =>
    obtain ⟨f4, fd4, G_is_first_order, g_is_first_order, k_is_first_order, b_is_first_order⟩ := ih
    refine D.has fun f fd F => F.ok sc_pplain (fun vs H Q E h => ?_) (fun cdv A outer s H vs Q E hr h => ?_)
    · obtain ⟨v, f, rfl, _⟩ := h; rfl
    · obtain ⟨v, f, rfl, dp, ok, hn, q⟩ := h
      have R_inner : Room 1 _ := hr.mono (Nat.le_trans (by decide) (Nat.le_add_right 2 n))
      have R_is_first_order : Room (2 + n) _ := hr
      refine ⟨_, PSs.nox (pss_cons (ps_if (pt_cmpR op_in_seq (pe_ix ix_tup (pv 0) pe_int (fun _ _ => rfl)) (pe_tup (pa_cons pe_str (pa_cons pe_str (pa_cons pe_str (pa_cons pe_str pa_nil))))) (by rfl)) (pss_one (ps_ret pe_bl)) pss_nil) (pss_one (ps_ret (pe_callB (cr_all rfl) (by rfl) T.n_all (by decide +kernel) (pa_cons (pe_lc (own := [("part", 1)]) rfl sc_pplain.nd (pi_tup (pe_call G_inner R_inner (by rfl) g_inner k_inner b_inner .nil pass0 (pa_cons (pv 0) pa_nil))) (blkOk_by (N := ["formula", "part"]) (sc := defScope (top 57)) (by decide +kernel)) (fun _ _ _ _ _ => (pg_name (i := 1) sc_pplain.nd rfl (Or.inl rfl))) (fun _ _ _ _ _ => pts_nil) (fun _ _ _ _ _ => (pe_call G_is_first_order R_is_first_order (by rfl) g_is_first_order k_is_first_order b_is_first_order .nil pass0 (pa_cons (pv 1) pa_nil)))) pa_nil))))), ?_⟩
      obtain ⟨h, ps⟩ := f
      rw [Fm.data_mk] at dp
      have fit : h.Ok (ps.map Fm.data).length := by rw [List.length_map]; exact ok.hd_
      have p40 : ps.length ≤ 40 := parts_len ok.hd_
      obtain ⟨a, xs, rfl, hT, hx⟩ := hd_inv dp
      refine ⟨_, rfl, a, _, _, _, rfl, rfl, hT, atI_nat (j := 0) rfl, (by show 4 ≤ sizeLine; decide), fun p np => ⟨p, _, rfl, .inr (.inl (.inl upd_same)), rfl, rfl, _, rfl, ?_⟩⟩
      have sp := same_upd (o := .tup [.str "lfp", .str "pfp", .str "tc", .str "guess"]) np
      have eM := plain_mk h ps
      cases hb : hotB h with
      | true =>
        refine cT (k := inV (.str h.word) [.str "lfp", .str "pfp", .str "tc", .str "guess"]) hb ?_
        have z := q _ sp
        rw [eM, hb] at z
        exact z
      | false =>
        refine cF (k := inV (.str h.word) [.str "lfp", .str "pfp", .str "tc", .str "guess"]) hb ?_
        refine ⟨_, rfl, _, h, _, rfl, Dp.same sp dp, fit.fits, fun H1 r s1 hr1 => ?_⟩
        obtain ⟨b, ys, rfl, hb2, hy⟩ := Dp.tup_inv hr1
        refine ⟨b, rfl, ⟨_, hb2⟩, fun L nL => ?_⟩
        refine lc_it (walk_tup (K := K) (a := b) (xs := ys)) (fun i H2 => Same H1 H2 ∧ H2 L = some (.lst (((ps.take i).map Fm.plain).map V.bl))) ⟨same_upd nL, upd_same⟩ (fun i H2 _ ⟨s2, _⟩ => Same.sqt s2 hb2) ?_ ?_
        · rintro i y H2 H3 hi ⟨s2, hL⟩ ⟨rfl, hy2⟩
          obtain ⟨dd, hd, dpy⟩ := DpAll.get' hy hy2
          obtain ⟨g, hg, rfl⟩ := get_map hd
          have mem := List.mem_of_getElem? hg
          have dl : g.dep < (Fm.mk h ps).dep := dep_part mem
          refine ⟨rfl, _, rfl, y, g, rfl, Dp.same s2 dpy, ok.part mem, by omega, fun H4 s4 => ⟨_, s4 _ _ hL, ?_, fun b o eb => ?_, ?_⟩⟩
          · rw [List.length_map, List.length_map]
            have := List.length_take_le' i ps
            exact small1000 (by omega)
          · rw [upd_ne (ne_of_none eb nL)]
            exact s4 _ _ (s2 _ _ eb)
          · rw [upd_same, List.take_add_one, hg, List.map_append, List.map_append]
            rfl
        · rintro H2 ⟨s2, hL⟩
          have eyl : ys.length = ps.length := by rw [DpAll.length hy, List.length_map]
          rw [List.take_of_length_le (show ps.length ≤ ys.length by omega)] at hL
          refine ⟨L, ps.map Fm.plain, rfl, SqL.of hL, ?_⟩
          have z := q H2 ((sp.trans s1).trans s2)
          rw [eM, hb] at z
          show Q (.bl ((ps.map Fm.plain).all id)) H2
          rw [List.all_map]
          exact z
end
def spWFlag (K : PySem.W.Frag) (M : Fm → Bool) : Sp := fun vs H Q _ => ∃ (v : V) (f : Fm), vs = [v] ∧ Dp K H v f.data ∧ f.Wf ∧ ∀ (H' : Hp), Same H H' → Q (.bl (M f)) H'
section
variable {P : Program} {w : World} {K : PySem.W.Frag} {mg : Str → Option Value} {base : Heap}
theorem sc_w_fo : FnScope ["formula"] ["formula"] (defScope (top 58)) := ⟨rfl, rfl, rfl, by decide +kernel, rfl, by decide +kernel, by decide +kernel⟩
theorem has_w_fo (D : Def K mg "is_first_order" ["formula"] (top 58)) (C1 : Has P w K mg base 47 "check_formula" ["formula"] (spCheck K)) (C2 : ∀ n, Has P w K mg base (2 + n) "_is_first_order" ["formula"] (spFlag K Fm.plain n)) : Has P w K mg base 48 "is_first_order" ["formula"] (spWFlag K Fm.plain) := D.has fun f fd F => by
  obtain ⟨f1, fd1, G_check_formula, g_check_formula, k_check_formula, b_check_formula⟩ := C1
  obtain ⟨f2, fd2, G_is_first_order, g_is_first_order, k_is_first_order, b_is_first_order⟩ := C2 40
  refine F.ok sc_w_fo (fun vs H Q E h => ?_) (fun cdv A outer s H vs Q E hr h => ?_)
  · obtain ⟨v, f, rfl, _⟩ := h; rfl
  · obtain ⟨v, f, rfl, dp, wf, q⟩ := h
    have R_check_formula : Room 47 _ := hr
    have R_is_first_order : Room (2 + 40) _ := hr.mono (by decide)
    refine ⟨_, PSs.nox (pss_cons (ps_expr (pe_call G_check_formula R_check_formula (by rfl) g_check_formula k_check_formula b_check_formula .nil pass0 (pa_cons (pv 0) pa_nil))) (pss_one (ps_ret (pe_call G_is_first_order R_is_first_order (by rfl) g_is_first_order k_is_first_order b_is_first_order .nil pass0 (pa_cons (pv 0) pa_nil))))), ?_⟩
    refine ⟨_, rfl, v, f, rfl, dp, wf, fun H1 r1 s1 _ => ?_⟩
    exact ⟨_, rfl, v, f, rfl, Dp.same s1 dp, wf.ok, wf.dep, fun H2 s2 => q _ (s1.trans s2)⟩
end
theorem hot_F (h : Hd) : (!hotB h) = h.F := by
  have e : ∀ k : Kd, (!inV (.str k.word) [.str "lfp", .str "pfp", .str "tc", .str "guess"]) = !(k == .lfp || k == .pfp || k == .tc || k == .gs) := by intro k; cases k <;> decide +kernel
  show (!inV (.str h.kd.word) _) = _
  rw [e]
  cases h <;> rfl
theorem plain_fo : ∀ f : Fm, f.plain = f.fo := Fm.ind fun h ps ih => by
  rw [plain_mk, fo_mk, hot_F]
  congr 1
  exact all_congr' ih
/-! ### some and all pulled out: the program -/
def turnTab : List (Str × V) := [("and", .str "or"), ("or", .str "and"), ("some", .str "all"), ("all", .str "some")]
def wB (b : Bool) : Str := if b = true then "some" else "all"
def qD (q : Qv) : PyData := .tuple [.str (wB q.1), .str q.2]
theorem noL_qD (q : Qv) : noL (qD q) = true := noL_tup (by rw [noLs_cons, noLs_cons, noL_str, noL_str, noLs]; rfl)
theorem qs_noL (p : List Qv) : noLs (p.map qD) = true := noLs_all fun t ht => by
  obtain ⟨q, _, rfl⟩ := List.mem_map.mp ht
  exact noL_qD q
theorem big9000 {n : Nat} (h : n ≤ 9000) : n ≤ sizeLine := Nat.le_trans h (by decide)
theorem ite_b {b : Bool} {A B : Prop} (t : b = true → A) (f : b = false → B) : if b = true then A else B := by
  cases b with
  | true => rw [if_pos rfl]; exact t rfl
  | false => rw [if_neg Bool.false_ne_true]; exact f rfl
def Hd.turn2 (h : Hd) : Str := match h with
  | .ex _ => "all"
  | .al _ => "some"
  | h => h.word
theorem pull_nq {h : Hd} (n : ¬ (h.kd = .ex ∨ h.kd = .al)) (k : h.F = true) (ps : List Fm) (b : Bool) : (Fm.mk h ps).pull b = ((ps.map fun p => (p.pull (b ^^ (h.kd == .no))).1).flatten, .mk h (ps.map fun p => (p.pull (b ^^ (h.kd == .no))).2)) := by
  rw [pull_mk]
  have e : ∀ c : Bool, ((ps.map Fm.pull).map fun x => (x c).1) = ps.map fun p => (p.pull c).1 := fun c => by rw [List.map_map]; rfl
  have e2 : ∀ c : Bool, ((ps.map Fm.pull).map fun x => (x c).2) = ps.map fun p => (p.pull c).2 := fun c => by rw [List.map_map]; rfl
  have bf : (b ^^ false) = b := Bool.xor_false b
  have bt : (b ^^ true) = !b := Bool.xor_true b
  cases h with
  | ex vs => exact absurd (Or.inl rfl) n
  | al vs => exact absurd (Or.inr rfl) n
  | no => show (_, Fm.mk .no _) = _; rw [e, e2]; show _ = ((ps.map fun p => (p.pull (b ^^ true)).1).flatten, Fm.mk .no (ps.map fun p => (p.pull (b ^^ true)).2)); rw [bt]
  | con => show (_, Fm.mk .con _) = _; rw [e, e2]; show _ = ((ps.map fun p => (p.pull (b ^^ false)).1).flatten, Fm.mk .con (ps.map fun p => (p.pull (b ^^ false)).2)); rw [bf]
  | dis => show (_, Fm.mk .dis _) = _; rw [e, e2]; show _ = ((ps.map fun p => (p.pull (b ^^ false)).1).flatten, Fm.mk .dis (ps.map fun p => (p.pull (b ^^ false)).2)); rw [bf]
  | rel m as => show (_, Fm.mk (.rel m as) _) = _; rw [e, e2]; show _ = ((ps.map fun p => (p.pull (b ^^ false)).1).flatten, Fm.mk _ (ps.map fun p => (p.pull (b ^^ false)).2)); rw [bf]
  | eq x y => show (_, Fm.mk (.eq x y) _) = _; rw [e, e2]; show _ = ((ps.map fun p => (p.pull (b ^^ false)).1).flatten, Fm.mk _ (ps.map fun p => (p.pull (b ^^ false)).2)); rw [bf]
  | less x y => show (_, Fm.mk (.less x y) _) = _; rw [e, e2]; show _ = ((ps.map fun p => (p.pull (b ^^ false)).1).flatten, Fm.mk _ (ps.map fun p => (p.pull (b ^^ false)).2)); rw [bf]
  | _ => cases k
theorem len_flat {h : Hd} {ps : List Fm} {k : Nat} (l : (Fm.mk h ps).allB.length ≤ k) (ho : h.own = []) {g : Fm} (hg : g ∈ ps) : g.allB.length ≤ k := by
  rw [allB_con ho] at l
  have : ∀ {ls : List (List Str)} {x : List Str}, x ∈ ls → x.length ≤ ls.flatten.length := by
    intro ls
    induction ls with
    | nil => intro x h; cases h
    | cons y ls ih =>
      intro x h
      rw [List.flatten_cons, List.length_append]
      rcases List.mem_cons.mp h with rfl | h
      · omega
      · have := ih h; omega
  exact Nat.le_trans (this (List.mem_map.mpr ⟨g, hg, rfl⟩)) l
theorem flat_take_le {α β : Type} (F : α → List β) (ps : List α) (i : Nat) : (((ps.take i).map F).flatten).length ≤ ((ps.map F).flatten).length := by
  conv => rhs; rw [← List.take_append_drop i ps]
  rw [List.map_append, List.flatten_append, List.length_append]
  omega
def spPull (K : PySem.W.Frag) (n : Nat) : Sp := fun vs H Q _ => ∃ (v : V) (b : Bool) (f : Fm), vs = [v, .bl b] ∧ Dp K H v f.data ∧ f.Ok ∧ f.fo = true ∧ f.dep ≤ n ∧ f.allB.length ≤ 1000 ∧
  ∀ (H' : Hp) (t L : Addr) (xs : List V) (rv : V), Same H H' → H' t = some (.tup [.ref L, rv]) → H L = none → H' L = some (.lst xs) → DpAll K H' xs ((f.pull b).1.map qD) → Dp K H' rv (f.pull b).2.data → Q (.ref t) H'
section
variable {P : Program} {w : World} {K : PySem.W.Frag} {mg : Str → Option Value} {base : Heap}
theorem sc_pull : FnScope ["formula", "negated", "prefix", "rest", "word", "rests", "part", "pairs", "variable"] ["formula", "negated"] (defScope (top 65)) := ⟨rfl, rfl, rfl, by decide +kernel, rfl, by decide +kernel, by decide +kernel⟩
theorem has_pull (D : Def K mg "_pulled_out" ["formula", "negated"] (top 65)) (TU : KTab K w mg "TURNED" turnTab)
    (C1 : Has P w K mg base 1 "inner" ["formula"] (spInner K)) (C2 : Has P w K mg base 2 "with_inner" ["formula", "changed"] (spWithInner K)) (C3 : Has P w K mg base 1 "own" ["formula"] (spOwn K)) :
    ∀ n : Nat, Has P w K mg base (3 + n) "_pulled_out" ["formula", "negated"] (spPull K n) := by
  obtain ⟨f1, fd1, G_inner, g_inner, k_inner, b_inner⟩ := C1
  obtain ⟨f2, fd2, G_with_inner, g_with_inner, k_with_inner, b_with_inner⟩ := C2
  obtain ⟨f4, fd4, G_own, g_own, k_own, b_own⟩ := C3
  have c_TURNED := TU.g
  obtain ⟨es0, n0, D_TURNED⟩ := TU.d
  intro n
  induction n with
  | zero =>
    refine D.has fun f fd F => F.ok sc_pull (fun vs H Q E h => ?_) (fun cdv A outer s H vs Q E hr h => ?_)
    · obtain ⟨v, b, f, rfl, _⟩ := h; rfl
    · obtain ⟨v, b, f, rfl, _, _, _, h0, _⟩ := h
      have := dep_pos f
      omega
  | succ n ih =>
    obtain ⟨f3, fd3, G_pulled_out, g_pulled_out, k_pulled_out, b_pulled_out⟩ := ih
    refine D.has fun f fd F => F.ok sc_pull (fun vs H Q E h => ?_) (fun cdv A outer s H vs Q E hr h => ?_)
    · obtain ⟨v, b, f, rfl, _⟩ := h; rfl
    · obtain ⟨v, b, f, rfl, dp, ok, fo, hn, hB, q⟩ := h
      have R_inner : Room 1 _ := hr.mono (Nat.le_trans (by decide) (Nat.le_add_right 3 n))
      have R_own : Room 1 _ := hr.mono (Nat.le_trans (by decide) (Nat.le_add_right 3 n))
      have R_with_inner : Room 2 _ := hr.mono (Nat.le_trans (by decide) (Nat.le_add_right 3 n))
      have R_pulled_out : Room (3 + n) _ := hr
      refine ⟨_, PSs.nox (pss_cons (ps_if (pt_cmpR op_in_seq (pe_ix ix_tup (pv 0) pe_int (fun _ _ => rfl)) (pe_tup (pa_cons pe_str (pa_cons pe_str pa_nil))) (by rfl)) (pss_cons (ps_asg (pe_call G_pulled_out R_pulled_out (by rfl) g_pulled_out k_pulled_out b_pulled_out .nil pass0 (pa_cons (pe_ix ix_tup (pv 0) pe_int (fun _ _ => rfl)) (pa_cons (pv 1) pa_nil))) (pg_tup rfl (pgs_cons (pg_name (i := 2) sc_pull.nd rfl (Or.inl rfl)) (pgs_cons (pg_name (i := 3) sc_pull.nd rfl (Or.inl rfl)) pgs_nil)))) (pss_cons (ps_set (i := 4) sc_pull.nd rfl (Or.inr rfl) (pe_ifExp (pt_val (pv 1)) (pe_ix ix_kdict (pe_glob (v := .ref (He.ga K "TURNED")) (by rfl) c_TURNED rfl) (pe_ix ix_tup (pv 0) pe_int (fun _ _ => rfl)) (fun _ _ => rfl)) (pe_ix ix_tup (pv 0) pe_int (fun _ _ => rfl)))) (pss_one (ps_ret (pe_tup (pa_cons (pe_op op_cat (pe_lc (own := [("variable", 8)]) rfl sc_pull.nd (pi_tup (pe_call G_own R_own (by rfl) g_own k_own b_own .nil pass0 (pa_cons (pv 0) pa_nil))) (blkOk_by (N := ["formula", "negated", "prefix", "rest", "word", "rests", "part", "pairs", "variable"]) (sc := defScope (top 65)) (by decide +kernel)) (fun _ _ _ _ _ => (pg_name (i := 8) sc_pull.nd rfl (Or.inl rfl))) (fun _ _ _ _ _ => pts_nil) (fun _ _ _ _ _ => (pe_tup (pa_cons (pv 4) (pa_cons (pv 8) pa_nil))))) (pv 2)) (pa_cons (pv 3) pa_nil))))))) pss_nil) (pss_cons (ps_set (i := 2) sc_pull.nd rfl (Or.inl rfl) (pe_lst pa_nil)) (pss_cons (ps_set (i := 5) sc_pull.nd rfl (Or.inl rfl) (pe_lst pa_nil)) (pss_cons (ps_for PassesOwn.never rfl (pi_tup (pe_call G_inner R_inner (by rfl) g_inner k_inner b_inner .nil pass0 (pa_cons (pv 0) pa_nil))) (pg_name (i := 6) sc_pull.nd rfl (Or.inl rfl)) (pss_cons (ps_asg (pe_call G_pulled_out R_pulled_out (by rfl) g_pulled_out k_pulled_out b_pulled_out .nil pass0 (pa_cons (pv 6) (pa_cons (pe_cmpR op_ne (pv 1) (pe_cmpR op_eq (pe_ix ix_tup (pv 0) pe_int (fun _ _ => rfl)) pe_str (nomark _)) (nomark _)) pa_nil))) (pg_tup rfl (pgs_cons (pg_name (i := 7) sc_pull.nd rfl (Or.inl rfl)) (pgs_cons (pg_name (i := 3) sc_pull.nd rfl (Or.inl rfl)) pgs_nil)))) (pss_cons (ps_expr (pe_bm PySem.F.plainAttrs_list PySem.F.slot_list_extend PySem.F.type_list_extend mt_extend (pv 2) (pa_cons (pv 7) pa_nil))) (pss_one (ps_expr (pe_bm PySem.F.plainAttrs_list PySem.F.slot_list_append PySem.F.type_list_append mt_append (pv 5) (pa_cons (pv 3) pa_nil))))))) (pss_one (ps_ret (pe_tup (pa_cons (pv 2) (pa_cons (pe_call G_with_inner R_with_inner (by rfl) g_with_inner k_with_inner b_with_inner .nil pass0 (pa_cons (pv 0) (pa_cons (pv 5) pa_nil))) pa_nil))))))))), ?_⟩
      obtain ⟨h, ps⟩ := f
      have dp0 := dp
      rw [Fm.data_mk] at dp
      obtain ⟨a, xs, rfl, hT, hx⟩ := hd_inv dp
      refine ⟨_, rfl, a, _, _, _, rfl, rfl, hT, atI_nat (j := 0) rfl, (by show 2 ≤ sizeLine; decide), fun p np => ⟨p, _, rfl, .inr (.inl (.inl upd_same)), rfl, rfl, _, rfl, ?_⟩⟩
      have sp := same_upd (o := .tup [.str "some", .str "all"]) np
      have p40 := parts_len ok.hd_
      have exw : ∀ k : Kd, inV (.str k.word) [.str "some", .str "all"] = (k == .ex || k == .al) := by intro k; cases k <;> decide +kernel
      by_cases hk : h.kd = .ex ∨ h.kd = .al
      · obtain ⟨vs, g, rfl, how, hrest, hpull, hw⟩ : ∃ vs g, ps = [g] ∧ h.own = vs ∧ h.rest ([g].map Fm.data) = [tS vs, g.data] ∧ ((Fm.mk h ps).pull b = (vs.map (fun v => ((h.kd == .ex) ^^ b, v)) ++ (g.pull b).1, (g.pull b).2)) ∧ (V.str (if b = true then h.turn2 else h.word)) = V.str (wB ((h.kd == .ex) ^^ b)) := by
          cases h with
          | ex vs =>
            obtain ⟨g, rfl⟩ := one_of ok.hd_.2
            refine ⟨vs, g, rfl, rfl, rfl, ?_, ?_⟩
            · rw [pull_ex]; cases b <;> rfl
            · cases b <;> rfl
          | al vs =>
            obtain ⟨g, rfl⟩ := one_of ok.hd_.2
            refine ⟨vs, g, rfl, rfl, rfl, ?_, ?_⟩
            · rw [pull_al]; cases b <;> rfl
            · cases b <;> rfl
          | _ => rcases hk with e | e <;> cases e
        refine cT (k := inV (.str h.word) [.str "some", .str "all"]) (by
          rw [show inV (.str h.word) _ = inV (.str h.kd.word) _ from rfl, exw]
          rcases hk with e | e <;> rw [e] <;> rfl) ?_
        rw [hrest] at hx
        obtain ⟨w1, r1, rfl, e1, hx⟩ := DpAll.cons_inv hx
        obtain ⟨w2, r2, rfl, e2, hx⟩ := DpAll.cons_inv hx
        obtain rfl := DpAll.nil_inv hx
        have mem : g ∈ [g] := List.mem_singleton.mpr rfl
        have dl : g.dep < (Fm.mk h [g]).dep := dep_part mem
        have lB : vs.length + g.allB.length ≤ 1000 := by
          rw [Fm.allB_mk, how] at hB
          have hB : (vs ++ (g.allB ++ [])).length ≤ 1000 := hB
          rw [List.length_append, List.append_nil] at hB
          exact hB
        refine ⟨_, rfl, a, _, _, _, rfl, rfl, Same.sqt sp hT, atI_nat (j := 2) rfl, _, rfl, w2, b, g, rfl, Dp.same sp e2, ok.part mem, fo_part fo mem, by omega, by omega, fun H1 t L xs1 rv s1 ht nL hL dxs drv => ?_⟩
        refine ⟨t, _, rfl, .inl (.inl ht), rfl, _, _, rfl, _, _, rfl, rfl, ?_⟩
        have s01 := sp.trans s1
        have hT1 := Same.sqt s01 hT
        -- the word
        have e0 : h.kd = .ex ∨ h.kd = .al := hk
        have tm : (h.word, V.str h.turn2) ∈ turnTab := by
          cases h with
          | ex vs => show (("some" : Str), V.str "all") ∈ turnTab; exact List.mem_cons_of_mem _ (List.mem_cons_of_mem _ (List.mem_cons_self ..))
          | al vs => show (("all" : Str), V.str "some") ∈ turnTab; exact List.mem_cons_of_mem _ (List.mem_cons_of_mem _ (List.mem_cons_of_mem _ (List.mem_cons_self ..)))
          | _ => rcases e0 with e | e <;> cases e
        refine ⟨_, rfl, b, rfl, swap2 (fun (rest : ∀ wv : V, wv = V.str (wB ((h.kd == .ex) ^^ b)) → gName 4 wv _ _ _) => ite_b (fun eb => ⟨_, rfl, a, _, _, _, rfl, rfl, hT1, atI_nat (j := 0) rfl, _, _, _, rfl, rfl, TU.dct tm, rest _ (by rw [← hw, if_pos eb])⟩) (fun eb => ⟨_, rfl, a, _, _, _, rfl, rfl, hT1, atI_nat (j := 0) rfl, rest _ (by rw [← hw, if_neg (by rw [eb]; exact Bool.false_ne_true)])⟩)) ?_⟩
        rintro _ rfl
        generalize eq0 : ((h.kd == .ex) ^^ b) = qb at hpull ⊢
        have fit : h.Ok ([g].map Fm.data).length := ok.hd_
        refine ⟨_, rfl, _, h, _, rfl, Dp.same s01 dp, fit.fits, fun H2 r2 s2 hr2 => ?_⟩
        have hr2 : Dp K H2 r2 (tS h.own) := hr2
        rw [how] at hr2
        obtain ⟨b2, rfl, hb2⟩ := tS_inv hr2
        refine ⟨b2, rfl, ⟨_, hb2⟩, fun M nM => ?_⟩
        refine lc_it (walk_tup (K := K) (a := b2) (xs := vs.map V.str)) (fun i H3 => ∃ acc, H3 M = some (.lst acc) ∧ Same H2 H3 ∧ DpAll K H3 acc (((vs.take i).map fun v => (qb, v)).map qD)) ⟨[], upd_same, same_upd nM, .nil⟩ (fun i H3 _ ⟨_, _, s3, _⟩ => Same.sqt s3 hb2) ?_ ?_
        · rintro i y H3 H4 hi ⟨acc, hM, s3, hacc⟩ ⟨rfl, hy⟩
          obtain ⟨v, hv, rfl⟩ := get_map hy
          refine ⟨rfl, _, rfl, _, rfl, (by show 2 ≤ sizeLine; decide), fun u nu => ?_⟩
          have su := same_upd (o := .tup [.str (wB qb), .str v]) nu
          have la := DpAll.length hacc
          rw [List.length_map, List.length_map] at la
          have l2 := List.length_take_le' i vs
          refine ⟨acc, su _ _ hM, small1000 (by omega), acc ++ [.ref u], upd_same, fun b o eb => ?_, ?_⟩
          · rw [upd_ne (ne_of_none eb nM)]
            exact su _ _ (s3 _ _ eb)
          · rw [List.take_add_one, hv, List.map_append, List.map_append]
            refine DpAll.kl (Kl.upd (su _ _ hM)) (DpAll.append (DpAll.kl (.of su) hacc (qs_noL _)) (.cons (.tup (.inl (.inl upd_same)) (.cons (.str _) (.cons (.str _) .nil))) .nil)) ?_
            rw [noLs_append, qs_noL, qs_noL]; rfl
        · rintro H3 ⟨acc, hM, s3, hacc⟩
          rw [List.length_map, List.take_of_length_le (Nat.le_refl _)] at hacc
          have s13 := s2.trans s3
          have la := DpAll.length hacc
          rw [List.length_map, List.length_map] at la
          have lx := DpAll.length dxs
          have pvl : (g.pull b).1.length = g.allB.length := by rw [← pull_vars g (ok.part mem) (fo_part fo mem) b, List.length_map]
          rw [List.length_map, pvl] at lx
          refine ⟨_, rfl, M, L, acc, xs1, rfl, rfl, hM, s13 _ _ hL, (big9000 (by omega)), fun c nc => ?_⟩
          have sc := same_upd (o := .lst (acc ++ xs1)) nc
          refine ⟨_, rfl, (by show 2 ≤ sizeLine; decide), fun t2 nt2 => ?_⟩
          have st := same_upd (o := .tup [.ref c, rv]) nt2
          have s03 := s01.trans s13
          refine q _ t2 c (acc ++ xs1) rv ((s03.trans sc).trans st) upd_same (Same.none s03 nc) (st _ _ upd_same) ?_ ?_
          · rw [hpull]
            show DpAll K _ _ ((vs.map (fun v => (qb, v)) ++ (g.pull b).1).map qD)
            rw [List.map_append]
            exact DpAll.append (DpAll.same (sc.trans st) hacc) (DpAll.same ((s13.trans sc).trans st) dxs)
          · rw [hpull]
            exact Dp.same ((s13.trans sc).trans st) drv
      · refine cF (k := inV (.str h.word) [.str "some", .str "all"]) (by
          rw [show inV (.str h.word) _ = inV (.str h.kd.word) _ from rfl, exw]
          cases e : h.kd <;> first | rfl | exact absurd (Or.inl e) hk | exact absurd (Or.inr e) hk) ?_
        have fit : h.Ok (ps.map Fm.data).length := by rw [List.length_map]; exact ok.hd_
        refine ⟨Nat.zero_le _, fun c nc => ⟨Nat.zero_le _, fun e ne => ?_⟩⟩
        have sc := same_upd (o := .lst []) nc
        have se := same_upd (o := .lst []) ne
        have s0 := (sp.trans sc).trans se
        refine ⟨_, rfl, _, h, _, rfl, Dp.same s0 dp, fit.fits, fun H1 r s1 hr1 => ?_⟩
        obtain ⟨b2, ys, rfl, hb2, hy⟩ := Dp.tup_inv hr1
        have hpull := pull_nq hk (fo_hd fo) ps b
        generalize eb : (b ^^ (h.kd == .no)) = b' at hpull
        refine ⟨b2, rfl, ⟨_, hb2⟩, for_it (walk_tup (K := K) (a := b2) (xs := ys)) (fun i σ H3 => ∃ (y3 y6 y7 : Option V) (xp xr : List V), σ = [some (.ref a), some (.bl b), some (.ref c), y3, none, some (.ref e), y6, y7, none] ∧ Same H H3 ∧ SqT K H3 b2 ys ∧ DpAll K H3 ys (ps.map Fm.data) ∧ H3 c = some (.lst xp) ∧ H3 e = some (.lst xr) ∧ DpAll K H3 xp ((((ps.take i).map fun p => (p.pull b').1).flatten).map qD) ∧ DpAll K H3 xr ((ps.take i).map fun p => (p.pull b').2.data))
          ?_ (fun i σ H3 _ ⟨_, _, _, _, _, _, _, h3, _⟩ => h3) ?_ ?_⟩
        · exact ⟨none, none, none, [], [], rfl, s0.trans s1, hb2, hy, s1 _ _ (se _ _ upd_same), s1 _ _ upd_same, .nil, .nil⟩
        · rintro i y σ H3 H4 hi ⟨y3, y6, y7, xp, xr, rfl, s3, h3, d3, hc, he, dxp, dxr⟩ ⟨rfl, hy2⟩
          obtain ⟨dd, hd, dpy⟩ := DpAll.get' d3 hy2
          obtain ⟨g, hg, rfl⟩ := get_map hd
          have mem := List.mem_of_getElem? hg
          have dl : g.dep < (Fm.mk h ps).dep := dep_part mem
          have ho : h.own = [] := by
            have k := fo_hd fo
            cases h <;> first | rfl | exact absurd (Or.inl rfl) hk | exact absurd (Or.inr rfl) hk | cases k
          have lB := len_flat hB ho mem
          have nce : c ≠ e := ne_of_none upd_same ne
          refine ⟨_, rfl, _, rfl, _, rfl, a, _, _, _, rfl, rfl, Same.sqt s3 hT, atI_nat (j := 0) rfl, rfl, rfl, ?_⟩
          have eb2 : (!decide (V.bl b = V.bl (decide (V.str h.word = V.str "not")))) = b' := by
            rw [← eb, show decide (V.str h.word = V.str "not") = (h.kd == .no) from (kw_not h.kd).trans (by cases h.kd <;> rfl)]
            cases b <;> cases (h.kd == .no) <;> rfl
          rw [eb2]
          refine ⟨y, b', g, rfl, dpy, ok.part mem, fo_part fo mem, by omega, by omega, fun H5 t L xs1 rv s5 ht nL hL dxs drv => ?_⟩
          refine ⟨t, _, rfl, .inl (.inl ht), rfl, _, _, rfl, _, _, rfl, rfl, ?_⟩
          have hc5 := s5 _ _ hc
          have he5 := s5 _ _ he
          have lxp := DpAll.length dxp
          rw [List.length_map] at lxp
          have lfl := flat_take_le (fun p => (p.pull b').1) ps i
          have ltot : ((ps.map fun p => (p.pull b').1).flatten).length = ((Fm.mk h ps).pull b).1.length := by rw [hpull]
          have ltot2 : ((Fm.mk h ps).pull b).1.length = (Fm.mk h ps).allB.length := by rw [← pull_vars _ ok fo b, List.length_map]
          have lx1 := DpAll.length dxs
          have lg : (g.pull b').1.length = g.allB.length := by rw [← pull_vars g (ok.part mem) (fo_part fo mem) b', List.length_map]
          rw [List.length_map, lg] at lx1
          refine ⟨_, rfl, .inl ⟨rfl, _, SqL.of hc5⟩, _, rfl, c, L, xp, xs1, rfl, rfl, hc5, hL, (big9000 (by omega)), ?_⟩
          have k6 : Kl H5 (upd H5 c (.lst (xp ++ xs1))) := Kl.upd hc5
          have he6 : (upd H5 c (.lst (xp ++ xs1))) e = some (.lst xr) := by rw [upd_ne (fun z => nce z.symm)]; exact he5
          refine ⟨_, rfl, .inl ⟨rfl, _, SqL.of he6⟩, _, rfl, e, xr, rv, rfl, rfl, he6, ?_, ?_⟩
          · have := DpAll.length dxr
            rw [List.length_map] at this
            have := List.length_take_le' i ps
            exact small1000 (by omega)
          · have k7 : Kl H5 (upd (upd H5 c (.lst (xp ++ xs1))) e (.lst (xr ++ [rv]))) := k6.trans (Kl.upd he6)
            refine ⟨_, _, _, xp ++ xs1, xr ++ [rv], rfl, fun z o eo => ?_, SqT.kl k7 (Same.sqt s5 h3), DpAll.kl k7 (DpAll.same s5 d3) (fms_noL _), ?_, upd_same, ?_, ?_⟩
            · have zc : z ≠ c := fun e0 => by
                rw [e0] at eo
                rw [sp _ _ eo] at nc
                cases nc
              have ze : z ≠ e := fun e0 => by
                rw [e0] at eo
                rw [sc _ _ (sp _ _ eo)] at ne
                cases ne
              rw [upd_ne ze, upd_ne zc]
              exact s5 _ _ (s3 _ _ eo)
            · rw [upd_ne nce]; exact upd_same
            · rw [List.take_add_one, hg, List.map_append, List.flatten_append, List.map_append]
              refine DpAll.append (DpAll.kl k7 (DpAll.same s5 dxp) (qs_noL _)) (DpAll.kl k7 ?_ (qs_noL _))
              show DpAll K H5 xs1 (((g.pull b').1 ++ []).map qD)
              rw [List.append_nil]; exact dxs
            · rw [List.take_add_one, hg, List.map_append]
              exact DpAll.append (DpAll.kl k7 (DpAll.same s5 dxr) (by
                have := fms_noL ((ps.take i).map fun p => (p.pull b').2)
                rw [List.map_map] at this
                exact this)) (.cons (Dp.kl k7 drv (Fm.noL _)) .nil)
        · rintro σ H3 ⟨y3, y6, y7, xp, xr, rfl, s3, h3, d3, hc, he, dxp, dxr⟩
          have el : ys.length = ps.length := by rw [DpAll.length hy, List.length_map]
          rw [List.take_of_length_le (show ps.length ≤ ys.length by omega)] at dxp dxr
          have e2 : (ps.map fun p => (p.pull b').2.data) = ((ps.map fun p => (p.pull b').2).map Fm.data) := by rw [List.map_map]; rfl
          rw [e2] at dxr
          refine ⟨_, rfl, _, rfl, _, rfl, .ref a, h, _, _, e, xr, rfl, Dp.same s3 dp, fit.fits, SqL.of he, dxr, by rw [List.length_map, List.length_map, List.length_map], fun H4 r4 s4 d4 => ?_⟩
          refine ⟨(by show 2 ≤ sizeLine; decide), fun t nt => ?_⟩
          have st := same_upd (o := .tup [.ref c, r4]) nt
          refine q _ t c xp r4 ((s3.trans s4).trans st) upd_same (Same.none sp nc) (st _ _ (s4 _ _ hc)) ?_ ?_
          · rw [hpull]; exact DpAll.same (s4.trans st) dxp
          · rw [hpull, Fm.data_mk]; exact Dp.same st d4
end
/-! ### blocks of quantifiers: the program -/
def bD (b : Blk) : PyData := .tuple [.str (wB b.1), tS b.2]
theorem noL_bD (b : Blk) : noL (bD b) = true := noL_tup (by rw [noLs_cons, noLs_cons, noL_str, noL_tS, noLs]; rfl)
theorem bs_noL (p : List Blk) : noLs (p.map bD) = true := noLs_all fun t ht => by
  obtain ⟨q, _, rfl⟩ := List.mem_map.mp ht
  exact noL_bD q
theorem wB_inj {a b : Bool} (h : wB a = wB b) : a = b := by
  have e : ∀ a b : Bool, decide (wB a = wB b) = decide (a = b) := by intro a b; cases a <;> cases b <;> decide +kernel
  have z := e a b
  rw [decide_eq_true h] at z
  exact of_decide_eq_true z.symm
theorem ix_last (n : Nat) : ixN (n + [V.non].length) (-1) = some n := by
  unfold ixN
  rw [if_neg (by decide), if_pos (by show -(((n + 1 : Nat)) : Int) ≤ -1; omega)]
  congr 1
  show ((-1 : Int) + ((n + 1 : Nat) : Int)).toNat = n
  omega
theorem at_last {zs : List V} {v : V} : atI (zs ++ [v]) (-1) = some v := by
  unfold atI
  rw [show (zs ++ [v]).length = zs.length + [V.non].length by rw [List.length_append]; rfl, ix_last]
  show (zs ++ [v])[zs.length]? = some v
  rw [List.getElem?_append_right (Nat.le_refl _), Nat.sub_self]; rfl
theorem set_last {zs : List V} {v x : V} : (zs ++ [v]).set zs.length x = zs ++ [x] := by
  rw [List.set_append_right (h := Nat.le_refl _), Nat.sub_self]; rfl
theorem dp_snoc {K : PySem.W.Frag} {H : Hp} : ∀ {ys : List V} {ds : List PyData} {d : PyData}, DpAll K H ys (ds ++ [d]) → ∃ zs v, ys = zs ++ [v] ∧ DpAll K H zs ds ∧ Dp K H v d
  | ys, [], d, h => by
    obtain ⟨v, w, rfl, h1, h2⟩ := DpAll.cons_inv h
    obtain rfl := DpAll.nil_inv h2
    exact ⟨[], v, rfl, .nil, h1⟩
  | ys, e :: ds, d, h => by
    obtain ⟨v, w, rfl, h1, h2⟩ := DpAll.cons_inv (show DpAll K H ys (e :: (ds ++ [d])) from h)
    obtain ⟨zs, u, rfl, h3, h4⟩ := dp_snoc h2
    exact ⟨v :: zs, u, rfl, .cons h1 h3, h4⟩
def spBlocks (K : PySem.W.Frag) : Sp := fun vs H Q _ => ∃ (L : Addr) (xs : List V) (p : List Qv), vs = [.ref L] ∧ SqL K H L xs ∧ DpAll K H xs (p.map qD) ∧ p.length ≤ 1000 ∧
  ∀ (H' : Hp) (r : Addr) (ys : List V), Same H H' → H r = none → H' r = some (.lst ys) → DpAll K H' ys ((blks p).map bD) → Q (.ref r) H'
section
variable {P : Program} {w : World} {K : PySem.W.Frag} {mg : Str → Option Value} {base : Heap}
theorem sc_blocks : FnScope ["prefix", "found", "word", "variable"] ["prefix"] (defScope (top 66)) := ⟨rfl, rfl, rfl, by decide +kernel, rfl, by decide +kernel, by decide +kernel⟩
theorem has_blocks (D : Def K mg "_blocks" ["prefix"] (top 66)) (T : Txt mg) (S : Shp K w mg) : Has P w K mg base 1 "_blocks" ["prefix"] (spBlocks K) := D.has fun f fd F => by
  have c_OWN_COUNTS := S.ownG
  refine F.ok sc_blocks (fun vs H Q E h => ?_) (fun cdv A outer s H vs Q E hr h => ?_)
  · obtain ⟨L, xs, p, rfl, _⟩ := h; rfl
  · obtain ⟨L, xs, p, rfl, hL, dx, lp, q⟩ := h
    refine ⟨_, PSs.nox (pss_cons (ps_set (i := 1) sc_blocks.nd rfl (Or.inl rfl) (pe_lst pa_nil)) (pss_cons (ps_for PassesOwn.never rfl (pi_list (pv 0)) (pg_tup rfl (pgs_cons (pg_name (i := 2) sc_blocks.nd rfl (Or.inl rfl)) (pgs_cons (pg_name (i := 3) sc_blocks.nd rfl (Or.inl rfl)) pgs_nil))) (pss_one (ps_if (PW.pt (pw_and (pt_truth (pv 1) (by intro _; rfl)) (pw_and (pt_cmpR op_eq (pe_ix ix_tup (pe_ix ix_list (pv 1) (pe_un un_neg pe_int) (fun _ _ => rfl)) pe_int (fun _ _ => rfl)) (pv 2) (nomark _)) (pw_and1 (pt_cmpR op_lt (pe_callB call_len_seq (by rfl) T.n_len PySem.boot_len (pa_cons (pe_ix ix_tup (pe_ix ix_list (pv 1) (pe_un un_neg pe_int) (fun _ _ => rfl)) pe_int (fun _ _ => rfl)) pa_nil)) (pe_callB (cr_maxT rfl hr.units) (by rfl) T.n_max (by decide +kernel) (pa_cons (pe_glob (v := .ref (He.ga K "OWN_COUNTS")) (by rfl) c_OWN_COUNTS rfl) pa_nil)) (nomark _)))))) (pss_one (ps_asg (pe_tup (pa_cons (pv 2) (pa_cons (pe_op op_catA (pe_ix ix_tup (pe_ix ix_list (pv 1) (pe_un un_neg pe_int) (fun _ _ => rfl)) pe_int (fun _ _ => rfl)) (pe_tup (pa_cons (pv 3) pa_nil))) pa_nil))) (pg_sub (pv 1) (pe_un un_neg pe_int) set_list))) (pss_one (ps_expr (pe_bm PySem.F.plainAttrs_list PySem.F.slot_list_append PySem.F.type_list_append mt_append (pv 1) (pa_cons (pe_tup (pa_cons (pv 2) (pa_cons (pe_tup (pa_cons (pv 3) pa_nil)) pa_nil))) pa_nil))))))) (pss_one (ps_ret (pv 1))))), ?_⟩
    refine ⟨Nat.zero_le _, fun c nc => ?_⟩
    have sc := same_upd (o := .lst []) nc
    refine ⟨_, rfl, L, rfl, ⟨_, sc.seq hL⟩, for_list (K := K) (a := L) (xs := xs) (fun i σ H2 => ∃ (y2 y3 : Option V) (ys : List V), σ = [some (.ref L), some (.ref c), y2, y3] ∧ Same H H2 ∧ H2 c = some (.lst ys) ∧ DpAll K H2 ys ((blks (p.take i)).map bD))
      ⟨none, none, [], rfl, sc, upd_same, .nil⟩ (fun i σ H2 _ ⟨_, _, _, _, s2, _⟩ => s2.seq hL) ?_ ?_⟩
    · rintro i y σ H2 hi ⟨y2, y3, ys, rfl, s2, hc, dys⟩
      obtain ⟨dd, hd, dpy⟩ := DpAll.get' dx hi
      obtain ⟨qv, hq, rfl⟩ := get_map hd
      obtain ⟨a, zs, rfl, ha, hz⟩ := Dp.tup_inv dpy
      obtain ⟨u1, w1, rfl, e1, hz⟩ := DpAll.cons_inv hz
      obtain ⟨u2, w2, rfl, e2, hz⟩ := DpAll.cons_inv hz
      obtain rfl := DpAll.nil_inv hz
      obtain rfl := Dp.str_inv e1
      obtain rfl := Dp.str_inv e2
      have ha2 := Same.sqt s2 ha
      have bt := blks_take hq
      have B := blks_ok (p.take i)
      have lys := DpAll.length dys
      rw [List.length_map] at lys
      have lt := List.length_take_le' i p
      have lfew := B.few
      refine ⟨a, _, rfl, ha2, rfl, _, _, rfl, _, _, rfl, rfl, ?_⟩
      -- a new block
      have fresh : blks (p.take (i + 1)) = blks (p.take i) ++ [(qv.1, [qv.2])] → (∃ y2 y3 : Option V, tDrop (tBM K "list" rAppend (tVar 1) (tCons (tTup (tCons (tVar 2) (tCons (tTup (tCons (tVar 3) tNil)) tNil))) tNil)) { nx := fun σ H2 => ∃ (y2 y3 : Option V) (ys : List V), σ = [some (.ref L), some (.ref c), y2, y3] ∧ Same H H2 ∧ H2 c = some (.lst ys) ∧ DpAll K H2 ys ((blks (p.take (i + 1))).map bD), rt := Q, bk := fun _ _ => True, ct := fun _ _ => True } [some (.ref L), some (.ref c), some (.str (wB qv.1)), some (.str qv.2)] H2) := fun eb => by
        refine ⟨none, none, _, rfl, .inl ⟨rfl, _, SqL.of hc⟩, _, rfl, _, rfl, (by show 1 ≤ sizeLine; decide), fun u nu => ⟨(by show 2 ≤ sizeLine; decide), fun v nv => ?_⟩⟩
        have su := same_upd (o := .tup [.str qv.2]) nu
        have sv := same_upd (o := .tup [.str (wB qv.1), .ref u]) nv
        have suv := su.trans sv
        refine ⟨c, ys, _, rfl, rfl, suv _ _ hc, small1000 (by omega), _, _, ys ++ [.ref v], rfl, fun b o e => ?_, upd_same, ?_⟩
        · rw [upd_ne (ne_of_none e nc)]
          exact suv _ _ (s2 _ _ e)
        · rw [eb, List.map_append]
          refine DpAll.kl (Kl.upd (suv _ _ hc)) (DpAll.append (DpAll.same suv dys) (.cons (.tup (.inl (.inl upd_same)) (.cons (.str _) (.cons (tS_of (as := [qv.2]) (Same.sqt sv (SqT.of upd_same))) .nil))) .nil)) ?_
          rw [noLs_append, bs_noL]
          exact bs_noL [(qv.1, [qv.2])]
      cases eL : (blks (p.take i)).getLast? with
      | none =>
        have e0 := List.getLast?_eq_none_iff.mp eL
        rw [e0] at lys
        have y0 : ys = [] := List.length_eq_zero_iff.mp lys
        subst y0
        have fr := fresh (by rw [bt]; unfold blkStep; rw [eL, e0]; rfl)
        obtain ⟨_, _, fr⟩ := fr
        refine ⟨_, rfl, false, .inl ⟨_, SqL.of hc, rfl⟩, iteF ?_⟩
        exact fr
      | some b =>
        have eb := getLast_app eL
        generalize ei : (blks (p.take i)).dropLast = ini at eb
        have mb : b ∈ blks (p.take i) := by rw [eb]; exact List.mem_append_right _ (List.mem_singleton.mpr rfl)
        have lb := (B.len b mb).2
        have dys0 := dys
        rw [eb, List.map_append] at dys
        obtain ⟨zs, v, rfl, dzs, dv⟩ := dp_snoc dys
        obtain ⟨t, ts, rfl, ht, hts⟩ := Dp.tup_inv dv
        obtain ⟨x1, r1, rfl, g1, hts⟩ := DpAll.cons_inv hts
        obtain ⟨x2, r2, rfl, g2, hts⟩ := DpAll.cons_inv hts
        obtain rfl := DpAll.nil_inv hts
        obtain rfl := Dp.str_inv g1
        obtain ⟨t2, rfl, ht2⟩ := tS_inv g2
        have lastI : atI (zs ++ [V.ref t]) (-1) = some (V.ref t) := at_last
        refine ⟨_, rfl, true, .inl ⟨_, SqL.of hc, by cases zs <;> rfl⟩, iteT ?_⟩
        refine ⟨_, rfl, 1, rfl, c, _, _, _, rfl, rfl, SqL.of hc, lastI, t, _, _, _, rfl, rfl, ht, atI_nat (j := 0) rfl, _, rfl, rfl, _, rfl, ?_⟩
        by_cases ew : b.1 = qv.1
        · refine cT (k := decide (V.str (wB b.1) = V.str (wB qv.1))) (by rw [ew]; exact decide_eq_true rfl) ?_
          refine ⟨_, rfl, 1, rfl, c, _, _, _, rfl, rfl, SqL.of hc, lastI, t, _, _, _, rfl, rfl, ht, atI_nat (j := 1) rfl, t2, _, rfl, .inr ht2, ?_⟩
          refine ⟨_, 1, [2, 3, 4, 5, 6], rfl, S.ownC _, _, _, rfl, rfl, _, rfl, ?_⟩
          have e6 : PySem.W.maxOf (1 : Int) [2, 3, 4, 5, 6] = 6 := by decide
          rw [e6, List.length_map]
          by_cases l6 : b.2.length < 6
          · refine cT (k := decide (((b.2.length : Nat) : Int) < 6)) (decide_eq_true (by omega)) ?_
            refine ⟨_, rfl, _, rfl, 1, rfl, c, _, _, _, rfl, rfl, SqL.of hc, lastI, t, _, _, _, rfl, rfl, ht, atI_nat (j := 1) rfl, _, rfl, (by show 1 ≤ sizeLine; decide), fun u nu => ?_⟩
            have su := same_upd (o := .tup [.str qv.2]) nu
            have lb1 : b.2 ≠ [] := fun z => by have := (B.len b mb).1; rw [z] at this; exact absurd this (by decide)
            have lb2 : b.2.map V.str ≠ [] := fun z => lb1 (List.map_eq_nil_iff.mp z)
            refine ⟨t2, u, _, _, rfl, rfl, Same.sqt su ht2, .inl (.inl upd_same), (by rw [List.length_map]; show b.2.length + 1 ≤ sizeLine; exact big9000 (by omega)), fun z => absurd z lb2, fun _ z => absurd z (by intro z; cases z), fun _ _ w nw => ⟨(by show 2 ≤ sizeLine; decide), fun x nx => ?_⟩⟩
            have sw := same_upd (o := .tup (b.2.map V.str ++ [.str qv.2])) nw
            have sx := same_upd (o := .tup [.str (wB qv.1), .ref w]) nx
            have sux := (su.trans sw).trans sx
            refine ⟨_, rfl, 1, rfl, c, _, _, zs.length, rfl, rfl, sux _ _ hc, ?_, _, _, zs ++ [.ref x], rfl, fun b o e => ?_, ?_, ?_⟩
            · rw [List.length_append]; exact ix_last zs.length
            · rw [upd_ne (ne_of_none e nc)]
              exact sux _ _ (s2 _ _ e)
            · rw [upd_same, set_last]
            · rw [bt]
              unfold blkStep
              rw [eL]
              dsimp only
              rw [if_pos ⟨ew, l6⟩, ei, List.map_append]
              refine DpAll.kl (Kl.upd (sux _ _ hc)) (DpAll.append (DpAll.same sux dzs) (.cons (.tup (.inl (.inl upd_same)) (.cons ?_ (.cons (tS_of (as := b.2 ++ [qv.2]) ?_) .nil))) .nil)) ?_
              · rw [ew]; exact .str _
              · rw [List.map_append]; exact Same.sqt sx (SqT.of upd_same)
              · rw [noLs_append, bs_noL]
                exact bs_noL [(b.1, b.2 ++ [qv.2])]
          · obtain ⟨_, _, fr⟩ := fresh (by rw [bt]; unfold blkStep; rw [eL]; dsimp only; rw [if_neg fun z => l6 z.2])
            refine cF (k := decide (((b.2.length : Nat) : Int) < 6)) (decide_eq_false (by omega)) ?_
            exact fr
        · obtain ⟨_, _, fr⟩ := fresh (by rw [bt]; unfold blkStep; rw [eL]; dsimp only; rw [if_neg fun z => ew z.1])
          refine cF (k := decide (V.str (wB b.1) = V.str (wB qv.1))) (decide_eq_false fun z => ew (wB_inj (V.str.inj z))) (iteF ?_)
          exact fr
    · rintro σ H2 ⟨y2, y3, ys, rfl, s2, hc, dys⟩
      rw [DpAll.length dx, List.length_map, List.take_of_length_le (Nat.le_refl _)] at dys
      exact ⟨_, rfl, q H2 c ys s2 nc hc dys⟩
end
/-! ### prenex -/
def spPrenex (K : PySem.W.Frag) : Sp := fun vs H Q E => ∃ (v : V) (f : Fm), vs = [v] ∧ Dp K H v f.data ∧ f.Wf ∧
  (f.fo = true → Fr20 f ∧ f.allB.length ≤ 20 ∧ f.vars.length ≤ 20000 - 1 ∧ f.dep ≤ 20 ∧ f.cnt ≤ 1000 ∧ ∀ (H' : Hp) (r : V) (g : Fm), Same H H' → Sm id f g → Apt g → Names g.allB → g.fo = true → Dp K H' r (prenexF g).data → Q r H') ∧
  (f.fo = false → ∀ H' : Hp, Same H H' → E (.ref (He.ga K "BadArgument")) none H')
theorem sm_fo {c : Str → Str} {f g : Fm} (s : Sm c f g) : g.fo = f.fo := by
  induction s with
  | @mk c h ps qs us r fr l p ih =>
    rw [fo_mk, fo_mk]
    have e : (h.re (h.args.map c) us).F = h.F := by
      have hk := re_kd r
      have key : ∀ a b : Hd, a.kd = b.kd → a.F = b.F := by intro a b e; cases a <;> cases b <;> first | rfl | cases e
      exact key _ _ hk
    rw [e]
    congr 1
    have z := congrArg (fun z : List Bool => z.all id) (map_two l fun i a b ha hb => ih i a b ha hb)
    simpa [List.all_map, Function.comp] using z
theorem blk_data (b : Blk) (d : PyData) : (blkH b).data [d] = .tuple [.str (wB b.1), tS b.2, d] := by
  rcases blkH_cases b with ⟨e1, e2⟩ | ⟨e1, e2⟩ <;> rw [e2, e1] <;> rfl
theorem sm_lenB {c : Str → Str} {f g : Fm} (s : Sm c f g) : g.allB.length = f.allB.length := by
  induction s with
  | @mk c h ps qs us r fr l p ih =>
    rw [Fm.allB_mk, Fm.allB_mk, List.length_append, List.length_append, re_own r, r.lu, List.length_flatten, List.length_flatten]
    congr 2
    rw [List.map_map, List.map_map]
    exact map_two l fun i a b ha hb => ih i a b ha hb
section
variable {P : Program} {w : World} {K : PySem.W.Frag} {mg : Str → Option Value} {base : Heap}
theorem sc_prenex : FnScope ["formula", "prefix", "found", "word", "variables"] ["formula"] (defScope (top 67)) := ⟨rfl, rfl, rfl, by decide +kernel, rfl, by decide +kernel, by decide +kernel⟩
theorem has_prenex (D : Def K mg "prenex" ["formula"] (top 67)) (n_reversed : mg "reversed" = none) (BA : XC K mg "BadArgument") (C1 : Has P w K mg base 48 "is_first_order" ["formula"] (spWFlag K Fm.plain)) (C2 : Has P w K mg base 49 "apart" ["formula"] (spApart K))
    (C3 : ∀ n, Has P w K mg base (3 + n) "_pulled_out" ["formula", "negated"] (spPull K n)) (C4 : Has P w K mg base 1 "_blocks" ["prefix"] (spBlocks K)) (C5 : HasX (L2.CX P w) P w K mg base 48 "within_bounds" ["formula"] (spBounds K)) :
    HasX (L2.CX P w) P w K mg base 50 "prenex" ["formula"] (spPrenex K) := D.has fun f fd F => by
  obtain ⟨f1, fd1, G_is_first_order, g_is_first_order, k_is_first_order, b_is_first_order⟩ := C1
  obtain ⟨f2, fd2, G_apart, g_apart, k_apart, b_apart⟩ := C2
  obtain ⟨f3, fd3, G_pulled_out, g_pulled_out, k_pulled_out, b_pulled_out⟩ := C3 40
  obtain ⟨f4, fd4, G_blocks, g_blocks, k_blocks, b_blocks⟩ := C4
  obtain ⟨f5, fd5, G_within_bounds, g_within_bounds, k_within_bounds, b_within_bounds⟩ := C5
  refine F.ok sc_prenex (fun vs H Q E h => ?_) (fun cdv A outer s H vs Q E hr h => ?_)
  · obtain ⟨v, f, rfl, _⟩ := h; rfl
  · obtain ⟨v, f, rfl, dp, wf, qf, qx⟩ := h
    have R_is_first_order : Room 48 _ := hr.mono (by decide)
    have R_apart : Room 49 _ := hr
    have R_pulled_out : Room (3 + 40) _ := hr.mono (by decide)
    have R_blocks : Room 1 _ := hr.mono (by decide)
    have R_within_bounds : Room 48 _ := hr.mono (by decide)
    refine ⟨_, (pss_cons (ps_if (pt_not (pt_val (pe_call G_is_first_order R_is_first_order (by rfl) g_is_first_order k_is_first_order b_is_first_order .nil pass0 (pa_cons (pv 0) pa_nil)))) (pss_one (ps_raiseX BA rfl (takes_of rfl rfl rfl rfl) rfl)) pss_nil) (pss_cons (ps_asg (pe_call G_pulled_out R_pulled_out (by rfl) g_pulled_out k_pulled_out b_pulled_out .nil pass0 (pa_cons (pe_call G_apart R_apart (by rfl) g_apart k_apart b_apart .nil pass0 (pa_cons (pv 0) pa_nil)) (pa_cons pe_bl pa_nil))) (pg_tup rfl (pgs_cons (pg_name (i := 1) sc_prenex.nd rfl (Or.inl rfl)) (pgs_cons (pg_name (i := 2) sc_prenex.nd rfl (Or.inl rfl)) pgs_nil)))) (pss_cons (ps_for (passes_of rfl) rfl (pi_reversed (by rfl) n_reversed (pa_cons (pe_call G_blocks R_blocks (by rfl) g_blocks k_blocks b_blocks .nil pass0 (pa_cons (pv 1) pa_nil)) pa_nil)) (pg_tup rfl (pgs_cons (pg_name (i := 3) sc_prenex.nd rfl (Or.inl rfl)) (pgs_cons (pg_name (i := 4) sc_prenex.nd rfl (Or.inl rfl)) pgs_nil))) (pss_one (ps_set (i := 2) sc_prenex.nd rfl (Or.inl rfl) (pe_tup (pa_cons (pv 3) (pa_cons (pv 4) (pa_cons (pv 2) pa_nil))))))) (pss_one (ps_ret (pe_call G_within_bounds R_within_bounds (by rfl) g_within_bounds k_within_bounds b_within_bounds .nil (passes_call (takes_of rfl rfl rfl rfl) (fun _ _ _ _ h => h)) (pa_cons (pv 2) pa_nil))))))), ?_⟩
    refine ⟨_, rfl, v, f, rfl, dp, wf, fun H1 s1 => ?_⟩
    rw [plain_fo]
    refine ⟨_, rfl, ?_⟩
    cases fo : f.fo with
    | false => exact qx fo H1 s1
    | true =>
      obtain ⟨fr, lB, lv, dd, cc, q⟩ := qf fo
      refine ⟨_, rfl, v, f, rfl, Dp.same s1 dp, wf, fr, lv, by omega, fun H2 r2 g s2 dg sm nmB ndB frB => ?_⟩
      have gwf := sm.wf wf
      have gfo : g.fo = true := (sm_fo sm).trans fo
      have gl : g.allB.length ≤ 20 := by rw [sm_lenB sm]; exact lB
      have gap : Apt g := ⟨ndB, fun u hu hf => by
        obtain ⟨x, hx, e⟩ := (sm.frees u).mp hf
        rw [e] at hu
        exact frB _ hu hx⟩
      have gd : g.dep ≤ 20 := by rw [sm.sizes.1]; exact dd
      have gc : g.cnt ≤ 1000 := by rw [sm.sizes.2]; exact cc
      refine ⟨r2, false, g, rfl, dg, gwf.ok, gfo, by omega, by omega, fun H3 t L xs rv s3 ht nL hL dxs drv => ?_⟩
      refine ⟨t, _, rfl, .inl (.inl ht), rfl, _, _, rfl, _, _, rfl, rfl, ?_⟩
      have pvl : (g.pull false).1.length = g.allB.length := by rw [← pull_vars g gwf.ok gfo false, List.length_map]
      refine ⟨_, rfl, L, xs, (g.pull false).1, rfl, SqL.of hL, dxs, by omega, fun H4 r4 ys s4 nr4 hr4 dys => ?_⟩
      have ly := DpAll.length dys
      rw [List.length_map] at ly
      generalize eB : blks (g.pull false).1 = B at dys ly
      refine ⟨r4, ys, rfl, SqL.of hr4, for_it (walk_rev (K := K) (a := r4) (xs := ys)) (fun i σ H5 => ∃ (y3 y4 : Option V) (fv : V), σ = [some v, some (.ref L), some fv, y3, y4] ∧ Same H4 H5 ∧ Dp K H5 fv (wrapB (B.drop (B.length - i)) (g.pull false).2).data)
        ⟨none, none, rv, rfl, fun _ _ e => e, by rw [Nat.sub_zero, List.drop_length]; exact Dp.same s4 drv⟩ (fun i σ H5 _ ⟨_, _, _, _, s5, _⟩ => SqL.of (s5 _ _ hr4)) ?_ ?_⟩
      · rintro i y σ H5 H6 hi ⟨y3, y4, fv, rfl, s5, dfv⟩ ⟨rfl, hy⟩
        obtain ⟨dd, hd, dpy⟩ := DpAll.get' dys hy
        obtain ⟨b, hb, rfl⟩ := get_map hd
        obtain ⟨a, zs, rfl, ha, hz⟩ := Dp.tup_inv (Dp.same s5 dpy)
        obtain ⟨u1, w1, rfl, e1, hz⟩ := DpAll.cons_inv hz
        obtain ⟨u2, w2, rfl, e2, hz⟩ := DpAll.cons_inv hz
        obtain rfl := DpAll.nil_inv hz
        refine ⟨a, _, rfl, ha, rfl, _, _, rfl, _, _, rfl, rfl, ?_⟩
        refine ⟨_, rfl, _, rfl, _, rfl, (by show 3 ≤ sizeLine; decide), fun t2 nt2 => ?_⟩
        have st := same_upd (o := .tup [u1, u2, fv]) nt2
        refine ⟨_, _, _, rfl, s5.trans st, ?_⟩
        have hl : ys.length - 1 - i < B.length := by omega
        have ed : B.drop (B.length - (i + 1)) = b :: B.drop (B.length - i) := by
          have e0 : B.length - (i + 1) = ys.length - 1 - i := by omega
          have e1 : B.length - i = ys.length - 1 - i + 1 := by omega
          rw [e0, e1, List.drop_eq_getElem_cons hl]
          congr 1
          have := (List.getElem?_eq_getElem hl).symm.trans hb
          exact Option.some.inj this
        rw [ed]
        show Dp K _ _ (Fm.mk (blkH b) [wrapB (B.drop (B.length - i)) (g.pull false).2]).data
        rw [Fm.data_mk]
        show Dp K _ _ ((blkH b).data [(wrapB (B.drop (B.length - i)) (g.pull false).2).data])
        rw [blk_data]
        exact .tup (.inl (.inl upd_same)) (.cons (Dp.same st e1) (.cons (Dp.same st e2) (.cons (Dp.same st dfv) .nil)))
      · rintro σ H5 ⟨y3, y4, fv, rfl, s5, dfv⟩
        have e0 : B.length - ys.length = 0 := by omega
        rw [e0, List.drop_zero, ← eB] at dfv
        have pw := prenex_wf gwf gfo gap nmB gl gd gc
        refine ⟨_, rfl, fv, prenexF g, rfl, dfv, pw.1.ok, pw.2.1, fun _ => ⟨pw.1, fun H6 s6 => ?_⟩, fun z => absurd z (by have := pw.2.2; omega)⟩
        exact q H6 fv g ((((s1.trans s2).trans s3).trans s4).trans (s5.trans s6)) sm gap nmB gfo (Dp.same s6 dfv)
end
section
variable {X : Cx} {K : PySem.W.Frag}
theorem op_catAK (h : X.K = K) : OpR X (binaryOp .Add) (rCatA K) := h ▸ op_catA
theorem call_tuple_ofK (h : X.K = K) : CallR X (.type "tuple") (fun xs H Q => ∃ p ys, xs = [.ref p] ∧ ((SqL K H p ys ∧ ∀ l, H l = none → Q (.ref l) (upd H l (.tup ys))) ∨ (SqT K H p ys ∧ Q (.ref p) H))) := h ▸ call_tuple_of
theorem call_list_ofK (h : X.K = K) : CallR X (.type "list") (fun xs H Q => ∃ p ys, xs = [.ref p] ∧ (SqL K H p ys ∨ SqT K H p ys) ∧ ∀ l, H l = none → Q (.ref l) (upd H l (.lst ys))) := h ▸ call_list_of
theorem pg_names2 {i j : Nat} {x y : Str} {p q pos : Pos} {k : Nat} (hK : X.K = K) (hc : X.calm = true) (hN : X.N.Nodup) (hi : X.N[i]? = some x) (hx : Loc X.env.scope x) (hj : X.N[j]? = some y) (hy : Loc X.env.scope y)
    (fx : X.fn x = true ∨ X.env.scope.names.lookup x = some .local := by first | exact .inl rfl | exact .inr rfl) (fy : X.fn y = true ∨ X.env.scope.names.lookup y = some .local := by first | exact .inl rfl | exact .inr rfl) :
    PG X (.Tuple [.Name x p, .Name y q] k pos) (gTup K 2 (gCons (gName i) (gCons (gName j) gNil))) := hK ▸ pg_tup hc (pgs_cons (pg_name hN hi hx fx) (pgs_cons (pg_name hN hj hy fy) pgs_nil))
theorem pg_names3 {i j l : Nat} {x y z : Str} {p q r pos : Pos} {k : Nat} (hK : X.K = K) (hc : X.calm = true) (hN : X.N.Nodup) (hi : X.N[i]? = some x) (hx : Loc X.env.scope x) (hj : X.N[j]? = some y) (hy : Loc X.env.scope y) (hl : X.N[l]? = some z) (hz : Loc X.env.scope z)
    (fx : X.fn x = true ∨ X.env.scope.names.lookup x = some .local := by first | exact .inl rfl | exact .inr rfl) (fy : X.fn y = true ∨ X.env.scope.names.lookup y = some .local := by first | exact .inl rfl | exact .inr rfl) (fz : X.fn z = true ∨ X.env.scope.names.lookup z = some .local := by first | exact .inl rfl | exact .inr rfl) :
    PG X (.Tuple [.Name x p, .Name y q, .Name z r] k pos) (gTup K 3 (gCons (gName i) (gCons (gName j) (gCons (gName l) gNil)))) := hK ▸ pg_tup hc (pgs_cons (pg_name hN hi hx fx) (pgs_cons (pg_name hN hj hy fy) (pgs_cons (pg_name hN hl hz fz) pgs_nil)))
end
/-! ### rows of elements, values with more: the law's helpers -/
def rowD (r : List Nat) : PyData := .tuple (r.map fun x => .int (x : Nat))
def rowV (r : List Nat) : List V := r.map fun x => .int (x : Nat)
theorem noL_rowD (r : List Nat) : noL (rowD r) = true := noL_tup (noLs_all fun t ht => by
  obtain ⟨x, _, rfl⟩ := List.mem_map.mp ht
  exact noL_int)
theorem rows_noL (l : List (List Nat)) : noLs (l.map rowD) = true := noLs_all fun t ht => by
  obtain ⟨x, _, rfl⟩ := List.mem_map.mp ht
  exact noL_rowD x
theorem row_all {K : PySem.W.Frag} {H : Hp} : ∀ r : List Nat, DpAll K H (rowV r) (r.map fun x => .int (x : Nat))
  | [] => .nil
  | x :: r => .cons (.int _) (row_all r)
theorem row_of {K : PySem.W.Frag} {H : Hp} {t : Addr} {r : List Nat} (h : SqT K H t (rowV r)) : Dp K H (.ref t) (rowD r) := .tup h (row_all r)
theorem row_vs {K : PySem.W.Frag} {H : Hp} : ∀ {r : List Nat} {vs : List V}, DpAll K H vs (r.map fun x => .int (x : Nat)) → vs = rowV r
  | [], vs, h => DpAll.nil_inv h
  | x :: r, vs, h => by
    obtain ⟨v, w, rfl, h1, h2⟩ := DpAll.cons_inv h
    rw [Dp.int_inv h1, row_vs h2]; rfl
theorem row_inv {K : PySem.W.Frag} {H : Hp} {v : V} {r : List Nat} (h : Dp K H v (rowD r)) : ∃ t, v = .ref t ∧ SqT K H t (rowV r) := by
  obtain ⟨a, xs, rfl, h1, h2⟩ := Dp.tup_inv h
  rw [row_vs h2] at h1
  exact ⟨a, rfl, h1⟩
/-- the rows so far, with one more element each -/
def moreT (n : Nat) (l : List (List Nat)) : List (List Nat) := l.flatMap fun r => (List.range n).map fun x => r ++ [x]
theorem moreT_len (n : Nat) (l : List (List Nat)) : (moreT n l).length = l.length * n := by
  unfold moreT
  induction l with
  | nil => rw [List.flatMap_nil]; simp
  | cons a l ih => rw [List.flatMap_cons, List.length_append, ih, List.length_map, List.length_range, List.length_cons, Nat.add_mul, Nat.one_mul, Nat.add_comm]
theorem moreT_take {n i : Nat} {l : List (List Nat)} {r : List Nat} (h : l[i]? = some r) : moreT n (l.take (i + 1)) = moreT n (l.take i) ++ (List.range n).map fun x => r ++ [x] := by
  unfold moreT
  rw [List.take_add_one, h, List.flatMap_append]
  show _ ++ ((List.range n).map (fun x => r ++ [x]) ++ []) = _
  rw [List.append_nil]
def spTups (K : PySem.W.Frag) : Sp := fun vs H Q _ => ∃ n k : Nat, vs = [.int (n : Nat), .int (k : Nat)] ∧ n ≤ 16 ∧ k ≤ 8 ∧ n ^ k ≤ 4096 ∧ 1 ≤ n ∧
  ∀ (H' : Hp) (r : Addr) (xs : List V), Same H H' → H r = none → H' r = some (.lst xs) → DpAll K H' xs ((tups n k).map rowD) → Q (.ref r) H'
section
variable {P : Program} {w : World} {K : PySem.W.Frag} {mg : Str → Option Value} {base : Heap}
theorem sc_ltups : FnScope ["n", "width", "rows", "k", "longer", "row", "x"] ["n", "width"] (defScope (top 85)) := ⟨rfl, rfl, rfl, by decide +kernel, rfl, by decide +kernel, by decide +kernel⟩
theorem has_ltups (D : Def K mg "_law_tuples" ["n", "width"] (top 85)) (T : Txt mg) : Has P w K mg base 1 "_law_tuples" ["n", "width"] (spTups K) := D.has fun f fd F => by
  refine F.ok sc_ltups (fun vs H Q E h => ?_) (fun cdv A outer s H vs Q E hr h => ?_)
  · obtain ⟨n, k, rfl, _⟩ := h; rfl
  · obtain ⟨n, k, rfl, hn, hk, hnk, n1, q⟩ := h
    refine ⟨_, PSs.nox (pss_cons (ps_set (i := 2) sc_ltups.nd rfl (Or.inl rfl) (pe_lst (pa_cons (pe_tup pa_nil) pa_nil))) (pss_cons (ps_for PassesOwn.never rfl (pi_range1 (by rfl) T.n_range (pa_cons (pv 1) pa_nil)) (pg_name (i := 3) sc_ltups.nd rfl (Or.inl rfl)) (pss_cons (ps_set (i := 4) sc_ltups.nd rfl (Or.inl rfl) (pe_lst pa_nil)) (pss_cons (ps_for PassesOwn.never rfl (pi_list (pv 2)) (pg_name (i := 5) sc_ltups.nd rfl (Or.inr rfl)) (pss_one (ps_expr (pe_bm PySem.F.plainAttrs_list PySem.F.slot_list_extend PySem.F.type_list_extend mt_extend (pv 4) (pa_cons (pe_lc (own := [("x", 6)]) rfl sc_ltups.nd (pi_range1 (by rfl) T.n_range (pa_cons (pv 0) pa_nil)) (blkOk_by (N := ["n", "width", "rows", "k", "longer", "row", "x"]) (sc := defScope (top 85)) (by decide +kernel)) (fun _ _ _ _ _ => (pg_name (i := 6) sc_ltups.nd rfl (Or.inl rfl))) (fun _ _ _ _ _ => pts_nil) (fun _ _ _ _ _ => (pe_op (op_catAK (K := K) rfl) (pv 5) (pe_tup (pa_cons (pv 6) pa_nil))))) pa_nil))))) (pss_one (ps_set (i := 2) sc_ltups.nd rfl (Or.inl rfl) (pv 4)))))) (pss_one (ps_ret (pv 2))))), ?_⟩
    refine ⟨(by show 0 ≤ sizeLine; exact Nat.zero_le _), fun t nt => ⟨(by show 1 ≤ sizeLine; decide), fun c nc => ?_⟩⟩
    have st := same_upd (o := .tup []) nt
    have sc := same_upd (o := .lst [.ref t]) nc
    have pw : ∀ i, i ≤ k → n ^ i ≤ 4096 := fun i hi => Nat.le_trans (Nat.pow_le_pow_right n1 hi) hnk
    refine ⟨_, rfl, k, rfl, by omega, by omega, for_it walk_range (fun i σ H2 => ∃ (y3 y4 y5 y6 : Option V) (p : Addr) (xs : List V), σ = [some (.int (n : Nat)), some (.int (k : Nat)), some (.ref p), y3, y4, y5, y6] ∧ Same H H2 ∧ H p = none ∧ H2 p = some (.lst xs) ∧ DpAll K H2 xs ((tups n i).map rowD))
      ⟨none, none, none, none, c, [.ref t], rfl, st.trans sc, Same.none st nc, upd_same, .cons (.tup (.inl (.inl (sc _ _ upd_same))) .nil) .nil⟩ (fun _ _ _ _ _ => trivial) ?_ ?_⟩
    · rintro i y σ H2 H3 hi ⟨y3, y4, y5, y6, p, xs, rfl, s2, np, hp, dx⟩ ⟨rfl, rfl⟩
      refine ⟨Nat.zero_le _, fun c1 nc1 => ?_⟩
      have s1 := same_upd (o := .lst []) nc1
      have hp1 := s1 _ _ hp
      have npc : p ≠ c1 := ne_of_none hp nc1
      have lx := DpAll.length dx
      rw [List.length_map, tups_len] at lx
      have pi := pw i (by omega)
      have pi1 := pw (i + 1) (by omega)
      have pe : n ^ (i + 1) = n ^ i * n := Nat.pow_succ ..
      refine ⟨_, rfl, p, rfl, ⟨_, SqL.of hp1⟩, for_list (K := K) (a := p) (xs := xs) (fun j σ H5 => ∃ (y5 y6 : Option V) (xl : List V), σ = [some (.int (n : Nat)), some (.int (k : Nat)), some (.ref p), some (.int (0 + (i : Nat))), some (.ref c1), y5, y6] ∧ Same H3 H5 ∧ H5 c1 = some (.lst xl) ∧ DpAll K H5 xl ((moreT n ((tups n i).take j)).map rowD))
        ⟨y5, y6, [], rfl, s1, upd_same, .nil⟩ (fun j σ H5 _ ⟨_, _, _, _, s5, _⟩ => SqL.of (s5 _ _ hp)) ?_ ?_⟩
      · rintro j y σ H5 hj ⟨y5, y6, xl, rfl, s5, hc, dxl⟩
        obtain ⟨dd, hd, dpy⟩ := DpAll.get' dx hj
        obtain ⟨r, hr2, rfl⟩ := get_map hd
        have hm := tups_mem.mp (List.mem_of_getElem? hr2)
        have rl : r.length ≤ 8 := by omega
        have lxl := DpAll.length dxl
        rw [List.length_map, moreT_len] at lxl
        have ltk := List.length_take_le' j (tups n i)
        have hj2 : j < (tups n i).length := (List.getElem?_eq_some_iff.mp hr2).1
        rw [tups_len] at hj2
        have lt1 : ((tups n i).take (j + 1)).length * n ≤ n ^ (i + 1) := by
          rw [pe]
          refine Nat.mul_le_mul_right n ?_
          rw [List.length_take, tups_len]; omega
        have lt2 : ((tups n i).take (j + 1)).length = ((tups n i).take j).length + 1 := by
          rw [List.length_take, List.length_take, tups_len]; omega
        rw [lt2, Nat.add_mul, Nat.one_mul] at lt1
        obtain ⟨t0, rfl, ht0⟩ := row_inv (Dp.same s5 dpy)
        refine ⟨_, rfl, .inl ⟨rfl, _, SqL.of hc⟩, _, rfl, n, rfl, by omega, by omega, fun M nM => ?_⟩
        refine lc_it walk_range (fun m H6 => ∃ acc, Same H5 H6 ∧ H6 M = some (.lst acc) ∧ DpAll K H6 acc (((List.range m).map fun x => r ++ [x]).map rowD)) ⟨[], same_upd nM, upd_same, .nil⟩ (fun _ _ _ _ => trivial) ?_ ?_
        · rintro m y H6 H7 hm2 ⟨acc, s6, hM, dacc⟩ ⟨rfl, rfl⟩
          have la := DpAll.length dacc
          rw [List.length_map, List.length_map, List.length_range] at la
          refine ⟨rfl, _, rfl, _, rfl, (by show 1 ≤ sizeLine; decide), fun u nu => ?_⟩
          have su := same_upd (o := .tup [.int (0 + (m : Nat))]) nu
          refine catA (Same.sqt (s6.trans su) ht0) (.inl (.inl upd_same)) (by rw [rowV, List.length_map]; show r.length + 1 ≤ 1000; omega) fun H8 r8 s8 h8 => ?_
          have s68 := su.trans s8
          refine ⟨acc, s68 _ _ hM, small1000 (by omega), acc ++ [.ref r8], fun b o e => ?_, upd_same, ?_⟩
          · rw [upd_ne (ne_of_none e nM)]
            exact s68 _ _ (s6 _ _ e)
          · rw [List.range_succ, List.map_append, List.map_append]
            refine DpAll.kl (Kl.upd (s68 _ _ hM)) (DpAll.append (DpAll.same s68 dacc) (.cons (row_of ?_) .nil)) ?_
            · have e9 : rowV (r ++ [m]) = rowV r ++ [.int (0 + (m : Nat))] := by rw [rowV, List.map_append, Int.zero_add]; rfl
              rw [e9]; exact h8
            · rw [noLs_append, rows_noL]
              exact rows_noL [r ++ [m]]
        · rintro H6 ⟨acc, s6, hM, dacc⟩
          have la := DpAll.length dacc
          rw [List.length_map, List.length_map, List.length_range] at la
          have hc6 := s6 _ _ hc
          refine ⟨c1, M, xl, acc, rfl, rfl, hc6, hM, big9000 (by omega), _, _, xl ++ acc, rfl, fun b o e => ?_, upd_same, ?_⟩
          · rw [upd_ne (ne_of_none e nc1)]
            exact s6 _ _ (s5 _ _ e)
          · rw [moreT_take hr2, List.map_append]
            refine DpAll.kl (Kl.upd hc6) (DpAll.append (DpAll.same s6 dxl) dacc) ?_
            rw [noLs_append, rows_noL, rows_noL]; rfl
      · rintro σ H5 ⟨y5, y6, xl, rfl, s5, hc, dxl⟩
        rw [lx, ← tups_len, List.take_of_length_le (Nat.le_refl _)] at dxl
        exact ⟨_, rfl, _, _, _, _, c1, xl, rfl, s2.trans s5, Same.none s2 nc1, hc, dxl⟩
    · rintro σ H2 ⟨y3, y4, y5, y6, p, xs, rfl, s2, np, hp, dx⟩
      exact ⟨_, rfl, q H2 p xs s2 np hp dx⟩
end
/-! ### values -/
/-- the dict at e gives the variables of D their values -/
def ValD (H : Hp) (e : Addr) (D : List Str) (a : Str → Nat) (m : Nat) : Prop := ∃ kvs : List (Key × V), H e = some (.dK kvs) ∧ kvs.length ≤ m ∧ ∀ x, x ∈ D → valV kvs (Sum.inr x) = some (.int (a x : Nat))
theorem ValD.kl {H H' : Hp} {e : Addr} {D : List Str} {a : Str → Nat} {m : Nat} (v : ValD H e D a m) (k : Kl H H') : ValD H' e D a m := by
  obtain ⟨kvs, h, r⟩ := v
  exact ⟨kvs, k _ _ h (fun ys z => nomatch z), r⟩
theorem ValD.mono {H : Hp} {e : Addr} {D D' : List Str} {a : Str → Nat} {m m' : Nat} (v : ValD H e D a m) (h : ∀ x, x ∈ D' → x ∈ D) (l : m ≤ m') : ValD H e D' a m' := by
  obtain ⟨kvs, h1, h2, h3⟩ := v
  exact ⟨kvs, h1, Nat.le_trans h2 l, fun x hx => h3 x (h x hx)⟩
theorem upds_snoc {v : Str} {x : Nat} : ∀ {vs : List Str} {r : List Nat} {a : Str → Nat}, r.length = vs.length → upds a (vs ++ [v]) (r ++ [x]) = updS (upds a vs r) v x
  | [], r, a, l => by rw [List.length_eq_zero_iff.mp l]; rfl
  | u :: vs, [], a, l => by cases l
  | u :: vs, y :: r, a, l => upds_snoc (vs := vs) (r := r) (a := updS a u y) (Nat.succ.inj l)
theorem upds_take {vs : List Str} {r : List Nat} {a : Str → Nat} {i : Nat} {v : Str} {x : Nat} (l : r.length = vs.length) (h1 : vs[i]? = some v) (h2 : r[i]? = some x) : upds a (vs.take (i + 1)) (r.take (i + 1)) = updS (upds a (vs.take i) (r.take i)) v x := by
  rw [List.take_add_one, List.take_add_one, h1, h2]
  exact upds_snoc (by rw [List.length_take, List.length_take, l])
def spWith (K : PySem.W.Frag) : Sp := fun vs H Q _ => ∃ (e nm rw : Addr) (D names : List Str) (a : Str → Nat) (r : List Nat) (m : Nat), vs = [.ref e, .ref nm, .ref rw] ∧ ValD H e D a m ∧ (SqL K H nm (names.map V.str) ∨ SqT K H nm (names.map V.str)) ∧ SqT K H rw (rowV r) ∧ r.length = names.length ∧ names.length ≤ 20 ∧ m + names.length ≤ 900 ∧
  ∀ (H' : Hp) (e' : Addr), Same H H' → H e' = none → ValD H' e' (D ++ names) (upds a names r) (m + names.length) → Q (.ref e') H'
section
variable {P : Program} {w : World} {K : PySem.W.Frag} {mg : Str → Option Value} {base : Heap}
theorem sc_lwith : FnScope ["values", "names", "row", "inner_v", "k"] ["values", "names", "row"] (defScope (top 86)) := ⟨rfl, rfl, rfl, by decide +kernel, rfl, by decide +kernel, by decide +kernel⟩
theorem has_lwith (D : Def K mg "_law_with" ["values", "names", "row"] (top 86)) (T : Txt mg) : Has P w K mg base 1 "_law_with" ["values", "names", "row"] (spWith K) := D.has fun f fd F => by
  refine F.ok sc_lwith (fun vs H Q E h => ?_) (fun cdv A outer s H vs Q E hr h => ?_)
  · obtain ⟨e, nm, rw, D, names, a, r, m, rfl, _⟩ := h; rfl
  · obtain ⟨e, nm, rw, D, names, a, r, m, rfl, ⟨kvs, he, hm, hv⟩, hn, hw, lr, l20, lm, q⟩ := h
    refine ⟨_, PSs.nox (pss_cons (ps_set (i := 3) sc_lwith.nd rfl (Or.inl rfl) (pe_callTy call_dictD (by rfl) T.n_dict (by decide +kernel) (pa_cons (pv 0) pa_nil))) (pss_cons (ps_for PassesOwn.never rfl (pi_range1 (by rfl) T.n_range (pa_cons (pe_callB call_len_seq (by rfl) T.n_len PySem.boot_len (pa_cons (pv 1) pa_nil)) pa_nil)) (pg_name (i := 4) sc_lwith.nd rfl (Or.inl rfl)) (pss_one (ps_dput (hu_of hr) (pv 3) (pe_ix (IxR.or ix_list ix_tup) (pv 1) (pv 4) (fun _ _ => rfl)) (pe_ix ix_tup (pv 2) (pv 4) (fun _ _ => rfl)) rfl))) (pss_one (ps_ret (pv 3))))), ?_⟩
    refine ⟨_, rfl, e, kvs, rfl, .inl he, fun p np => ?_⟩
    have sp := same_upd (o := .dK kvs) np
    have ln : (names.map V.str).length = names.length := List.length_map ..
    have hn1 : SqL K (upd H p (.dK kvs)) nm (names.map V.str) ∨ SqT K (upd H p (.dK kvs)) nm (names.map V.str) := hn.imp (fun h => sp.seq h) (fun h => Same.sqt sp h)
    refine ⟨_, rfl, nm, _, rfl, hn1, names.length, (by rw [ln]), by omega, by omega, for_it walk_range (fun i σ H2 => ∃ (y4 : Option V), σ = [some (.ref e), some (.ref nm), some (.ref rw), some (.ref p), y4] ∧ Same H H2 ∧ ValD H2 p (D ++ names.take i) (upds a (names.take i) (r.take i)) (m + i))
      ⟨none, rfl, sp, kvs, upd_same, hm, fun x hx => hv x (by simpa using hx)⟩ (fun _ _ _ _ _ => trivial) ?_ ?_⟩
    · rintro i y σ H2 H3 hi ⟨y4, rfl, s2, kvs2, hp2, hm2, hv2⟩ ⟨rfl, rfl⟩
      have hin : names[i]? = some names[i] := List.getElem?_eq_getElem hi
      have hir : r[i]? = some (r[i]'(by omega)) := List.getElem?_eq_getElem (by omega)
      have e0 : (fun i : Nat => V.int (0 + (i : Int))) i = .int ((i : Nat) : Int) := by show V.int (0 + (i : Int)) = _; rw [Int.zero_add]
      rw [e0]
      have a1 : (rowV r)[i]? = some (.int ((r[i]'(by omega) : Nat) : Int)) := by rw [rowV, List.getElem?_map, hir]; rfl
      have a2 : (names.map V.str)[i]? = some (.str names[i]) := by rw [List.getElem?_map, hin]; rfl
      refine ⟨_, rfl, _, rfl, rw, _, _, _, rfl, rfl, Same.sqt s2 hw, atI_nat a1, ?_⟩
      have fin : ∃ y4 : Option V, ([some (.ref e), some (.ref nm), some (.ref rw), some (.ref p), some (.int (i : Int))] : L2.St) = [some (.ref e), some (.ref nm), some (.ref rw), some (.ref p), y4] ∧ Same H (upd H3 p (.dK (putK kvs2 (Sum.inr names[i]) (.int ((r[i]'(by omega) : Nat) : Int))))) ∧ ValD (upd H3 p (.dK (putK kvs2 (Sum.inr names[i]) (.int ((r[i]'(by omega) : Nat) : Int))))) p (D ++ names.take (i + 1)) (upds a (names.take (i + 1)) (r.take (i + 1))) (m + (i + 1)) := by
        refine ⟨_, rfl, fun b o eb => ?_, _, upd_same, Nat.le_trans putK_len (by omega), fun x hx => ?_⟩
        · rw [upd_ne (ne_of_none eb np)]
          exact s2 _ _ eb
        · rw [valV_put, upds_take lr hin hir]
          show _ = some (V.int ((if x = names[i] then (r[i]'(by omega)) else upds a (names.take i) (r.take i) x : Nat) : Int))
          by_cases ex : x = names[i]
          · rw [if_pos (by rw [ex]), if_pos ex]
          · rw [if_neg (fun z => ex (Sum.inr.inj z)), if_neg ex]
            refine hv2 x ?_
            rcases List.mem_append.mp hx with hx | hx
            · exact List.mem_append_left _ hx
            · rw [List.take_add_one, hin] at hx
              rcases List.mem_append.mp hx with hx | hx
              · exact List.mem_append_right _ hx
              · exact absurd (by simpa using hx) ex
      refine ⟨_, rfl, _, rfl, _, rfl, (hn.imp (fun h => ⟨nm, _, _, _, rfl, rfl, s2.seq h, atI_nat a2, p, _, rfl, DPut.k (k := Sum.inr names[i]) hp2 (small20 (by omega)), fin⟩) (fun h => ⟨nm, _, _, _, rfl, rfl, Same.sqt s2 h, atI_nat a2, p, _, rfl, DPut.k (k := Sum.inr names[i]) hp2 (small20 (by omega)), fin⟩))⟩
    · rintro σ H2 ⟨y4, rfl, s2, vd⟩
      rw [Int.toNat_natCast, List.take_of_length_le (Nat.le_refl _), List.take_of_length_le (Nat.le_of_eq lr)] at vd
      exact ⟨_, rfl, q H2 p s2 np vd⟩
end
/-! ### the law's meaning of formulas, first-order -/
theorem eqv_rowI : ∀ r s : List Nat, PyData.eqvAll (r.map fun x => PyData.int (x : Nat)) (s.map fun x => PyData.int (x : Nat)) = decide (r = s)
  | [], [] => by rw [List.map_nil, PyData.eqvAll]; rfl
  | [], y :: s => by rw [List.map_nil, List.map_cons, PyData.eqvAll]; · rfl
                     all_goals (intros; contradiction)
  | x :: r, [] => by rw [List.map_nil, List.map_cons, PyData.eqvAll]; · rfl
                     all_goals (intros; contradiction)
  | x :: r, y :: s => by
    rw [List.map_cons, List.map_cons, PyData.eqvAll, eqv_rowI r s, PyData.eqv]
    by_cases e : x = y
    · subst e; simp
    · have e2 : ¬ ((x : Int) = y) := fun z => e (by omega)
      simp [e, e2]
theorem eqv_row (r s : List Nat) : PyData.eqv (rowD r) (rowD s) = decide (r = s) := by
  unfold rowD
  rw [PyData.eqv]
  exact eqv_rowI r s
theorem any_row (l : List (List Nat)) (r : List Nat) : ((l.map rowD).any fun z => PyData.eqv z (rowD r)) = decide (r ∈ l) := by
  rw [List.any_map]
  by_cases h : r ∈ l
  · rw [decide_eq_true h]
    exact List.any_eq_true.mpr ⟨r, h, by rw [Function.comp, eqv_row]; exact decide_eq_true rfl⟩
  · rw [decide_eq_false h]
    refine List.any_eq_false.mpr fun q hq z => h ?_
    rw [Function.comp, eqv_row] at z
    rw [← of_decide_eq_true z]
    exact hq
theorem lay_ints : ∀ r : List Nat, PyData.canLayAll0 (r.map fun x => PyData.int (x : Nat)) = true
  | [] => by rw [List.map_nil, PyData.canLayAll0]
  | x :: r => by rw [List.map_cons, PyData.canLayAll0, PyData.canLay0, lay_ints r]; rfl
theorem dep_ints : ∀ r : List Nat, PyData.depthAll (r.map fun x => PyData.int (x : Nat)) = 0
  | [] => by rw [List.map_nil, PyData.depthAll]
  | x :: r => by rw [List.map_cons, PyData.depthAll, dep_ints r, PyData.depth]; all_goals first | rfl | (intros; contradiction)
theorem dep_row (r : List Nat) : (rowD r).depth = 1 := by
  unfold rowD
  rw [PyData.depth, dep_ints]
theorem lay_row (r : List Nat) : (rowD r).canLay0 = true := by
  unfold rowD
  rw [PyData.canLay0, lay_ints]
theorem shaped_row (r : List Nat) : SeqAt.shaped (rowD r) = true := by
  unfold SeqAt.shaped
  rw [lay_row, dep_row]; rfl
theorem lay_rows : ∀ l : List (List Nat), PyData.canLayAll0 (l.map rowD) = true
  | [] => by rw [List.map_nil, PyData.canLayAll0]
  | r :: l => by rw [List.map_cons, PyData.canLayAll0, lay_row, lay_rows l]; rfl
theorem dep_rows : ∀ l : List (List Nat), PyData.depthAll (l.map rowD) ≤ 1
  | [] => by rw [List.map_nil, PyData.depthAll]; decide
  | r :: l => by
    rw [List.map_cons, PyData.depthAll, dep_row]
    have := dep_rows l
    omega
theorem shaped_rows (l : List (List Nat)) : SeqAt.shaped (.list (l.map rowD)) = true := by
  unfold SeqAt.shaped
  rw [PyData.canLay0, lay_rows, PyData.depth]
  have := dep_rows l
  exact decide_eq_true (by omega)
def epq : List Str := ["e", "p", "q"]
abbrev Rows := Str → List (List Nat)
def Rows.rl (J : Rows) : Rl := fun m r => decide (r ∈ J m)
/-- the dict at ra: the list with what is left, and the rows of each relation -/
def RowsR (K : PySem.W.Frag) (H : Hp) (ra la : Addr) (J : Rows) : Prop := ∃ kvs : List (Key × V), H ra = some (.dK kvs) ∧ valV kvs (Sum.inr "left") = some (.ref la) ∧
  ∀ x, x ∈ epq → ∃ (b : Addr) (xs : List V), valV kvs (Sum.inr x) = some (.ref b) ∧ b ≠ la ∧ H b = some (.lst xs) ∧ DpAll K H xs ((J x).map rowD)
theorem RowsR.kp {K : PySem.W.Frag} {H H' : Hp} {ra la : Addr} {J : Rows} {zs : List V} (r : RowsR K H ra la J) (k : Kp la H H') (hl : H la = some (.lst zs)) : RowsR K H' ra la J := by
  obtain ⟨kvs, h1, h2, h3⟩ := r
  have kl := Kl.kp k hl
  refine ⟨kvs, kl _ _ h1 (fun ys z => nomatch z), h2, fun x hx => ?_⟩
  obtain ⟨b, xs, g1, g2, g3, g4⟩ := h3 x hx
  exact ⟨b, xs, g1, g2, k _ _ g3 g2, DpAll.kl kl g4 (rows_noL _)⟩
theorem RowsR.left {K : PySem.W.Frag} {H : Hp} {ra la : Addr} {J : Rows} (r : RowsR K H ra la J) : DGet H ra (.str "left") (some (.ref la)) := by
  obtain ⟨kvs, h1, h2, h3⟩ := r
  have z := DGet.k (k := Sum.inr ("left" : Str)) h1
  rw [h2] at z
  exact z
theorem RowsR.at {K : PySem.W.Frag} {H : Hp} {ra la : Addr} {J : Rows} (r : RowsR K H ra la J) {x : Str} (hx : x ∈ epq) : ∃ b, DGet H ra (.str x) (some (.ref b)) ∧ Dp K H (.ref b) (.list ((J x).map rowD)) := by
  obtain ⟨kvs, h1, h2, h3⟩ := r
  obtain ⟨b, xs, g1, g2, g3, g4⟩ := h3 x hx
  have z := DGet.k (k := Sum.inr x) h1
  rw [g1] at z
  exact ⟨b, z, .lst (SqL.of g3) g4⟩
theorem ValD.at {H : Hp} {e : Addr} {D : List Str} {a : Str → Nat} {m : Nat} (v : ValD H e D a m) {x : Str} (hx : x ∈ D) : DGet H e (.str x) (some (.int (a x : Nat))) := by
  obtain ⟨kvs, h1, h2, h3⟩ := v
  have z := DGet.k (k := Sum.inr x) h1
  rw [h3 x hx] at z
  exact z
theorem hd_test {K : PySem.W.Frag} {σ : L2.St} {H : Hp} {fa : Addr} {xs : List V} {w w0 : Str} {Q : Bool → Hp → Prop} (e : σ[0]? = some (some (.ref fa))) (hT : SqT K H fa (.str w0 :: xs)) (q : Q (decide (V.str w0 = V.str w)) H) : tTest (tOp rEq (tOp (rIxT K) (tVar 0) (tC (.int 0))) (tC (.str w))) σ H Q :=
  ⟨_, e, fa, _, _, _, rfl, rfl, hT, atI_nat (j := 0) rfl, rfl, _, rfl, q⟩
theorem b_ne {b c : Bool} (h : ¬ b = c) : b = !c := by cases b <;> cases c <;> first | rfl | exact absurd rfl h
theorem kdec (a b : Kd) : decide (V.str a.word = V.str b.word) = (a == b) := by cases a <;> cases b <;> decide +kernel
def spTrueF (K : PySem.W.Frag) (N : Nat) : Sp := fun vs H Q _ => ∃ (fv : V) (n : Nat) (ra e la : Addr) (D : List Str) (a : Str → Nat) (m : Nat) (J : Rows) (L : Int) (f : Fm), vs = [fv, .int (n : Nat), .ref ra, .ref e] ∧ Dp K H fv f.data ∧ f.Ok ∧ f.fo = true ∧ f.dep ≤ N ∧
  RowsR K H ra la J ∧ H la = some (.lst [.int L]) ∧ ValD H e D a m ∧ (∀ x, x ∈ f.frees → x ∈ D) ∧ m + 6 * f.dep ≤ 900 ∧ (∀ p, p ∈ f.syms → p.1 ∈ epq) ∧ 1 ≤ n ∧ n ≤ 4 ∧
  ∀ (H' : Hp) (b : Bool) (L' : Int), Kp la H H' → H' la = some (.lst [.int L']) → L' < L → (0 ≤ L' → b = f.sem n J.rl a) → Q (.bl b) H'
section
variable {P : Program} {w : World} {K : PySem.W.Frag} {mg : Str → Option Value} {base : Heap}
theorem sc_ltrue : FnScope ["f", "n", "rows", "values", "part", "row", "x"] ["f", "n", "rows", "values"] (defScope (top 91)) := ⟨rfl, rfl, rfl, by decide +kernel, rfl, by decide +kernel, by decide +kernel⟩
theorem has_ltrueF (D : Def K mg "_law_true" ["f", "n", "rows", "values"] (top 91)) (T : Txt mg) (C1 : Has P w K mg base 1 "_law_tuples" ["n", "width"] (spTups K)) (C2 : Has P w K mg base 1 "_law_with" ["values", "names", "row"] (spWith K)) :
    ∀ N : Nat, Has P w K mg base (2 + N) "_law_true" ["f", "n", "rows", "values"] (spTrueF K N) := by
  obtain ⟨f1, fd1, G_law_tuples, g_law_tuples, k_law_tuples, b_law_tuples⟩ := C1
  obtain ⟨f2, fd2, G_law_with, g_law_with, k_law_with, b_law_with⟩ := C2
  intro N
  induction N with
  | zero =>
    refine D.has fun f fd F => F.ok sc_ltrue (fun vs H Q E h => ?_) (fun cdv A outer s H vs Q E hr h => ?_)
    · obtain ⟨fv, n, ra, e, la, D, a, m, J, L, f, rfl, _⟩ := h; rfl
    · obtain ⟨fv, n, ra, e, la, D, a, m, J, L, f, rfl, _, _, _, h0, _⟩ := h
      have := dep_pos f
      omega
  | succ N ih =>
    obtain ⟨f3, fd3, G_law_true, g_law_true, k_law_true, b_law_true⟩ := ih
    refine D.has fun f fd F => F.ok sc_ltrue (fun vs H Q E h => ?_) (fun cdv A outer s H vs Q E hr h => ?_)
    · obtain ⟨fv, n, ra, e, la, D, a, m, J, L, f, rfl, _⟩ := h; rfl
    · obtain ⟨fv, n, ra, e, la, D, a, m, J, L, f, rfl, dp, ok, fo, hN, rr, hla, vd, fr, lm, sy, n1, n4, q⟩ := h
      have R_law_tuples : Room 1 _ := hr.mono (Nat.le_trans (by decide) (Nat.le_add_right 2 N))
      have R_law_with : Room 1 _ := hr.mono (Nat.le_trans (by decide) (Nat.le_add_right 2 N))
      have R_law_true : Room (2 + N) _ := hr
      refine ⟨_, PSs.nox (pss_cons (ps_asg (pe_op op_sub (pe_ix ix_list (pe_dget (hu_of hr) (pv 2) pe_str (fun _ _ => rfl)) pe_int (fun _ _ => rfl)) pe_int) (pg_sub (pe_dget (hu_of hr) (pv 2) pe_str (fun _ _ => rfl)) pe_int set_list)) (pss_cons (ps_if (pt_cmpR op_lt (pe_ix ix_list (pe_dget (hu_of hr) (pv 2) pe_str (fun _ _ => rfl)) pe_int (fun _ _ => rfl)) pe_int (nomark _)) (pss_one (ps_ret pe_bl)) pss_nil) (pss_cons (ps_if (pt_cmpR op_eq (pe_ix ix_tup (pv 0) pe_int (fun _ _ => rfl)) pe_str (nomark _)) (pss_one (ps_ret (pe_cmpR (op_inD (hu65 hr)) (pe_callTy call_tuple_of (by rfl) T.n_tuple (by decide +kernel) (pa_cons (pe_lc (own := [("x", 6)]) rfl sc_ltrue.nd (pi_tup (pe_ix ix_tup (pv 0) pe_int (fun _ _ => rfl))) (blkOk_by (N := ["f", "n", "rows", "values", "part", "row", "x"]) (sc := defScope (top 91)) (by decide +kernel)) (fun _ _ _ _ _ => (pg_name (i := 6) sc_ltrue.nd rfl (Or.inl rfl))) (fun _ _ _ _ _ => pts_nil) (fun _ _ _ _ _ => (pe_dget (hu_of hr) (pv 3) (pv 6) (fun _ _ => rfl)))) pa_nil)) (pe_dget (hu_of hr) (pv 2) (pe_ix ix_tup (pv 0) pe_int (fun _ _ => rfl)) (fun _ _ => rfl)) (by rfl)))) pss_nil) (pss_cons (ps_if (pt_cmpR op_eq (pe_ix ix_tup (pv 0) pe_int (fun _ _ => rfl)) pe_str (nomark _)) (pss_one (ps_ret (pe_cmpR op_eq (pe_dget (hu_of hr) (pv 3) (pe_ix ix_tup (pv 0) pe_int (fun _ _ => rfl)) (fun _ _ => rfl)) (pe_dget (hu_of hr) (pv 3) (pe_ix ix_tup (pv 0) pe_int (fun _ _ => rfl)) (fun _ _ => rfl)) (nomark _)))) pss_nil) (pss_cons (ps_if (pt_cmpR op_eq (pe_ix ix_tup (pv 0) pe_int (fun _ _ => rfl)) pe_str (nomark _)) (pss_one (ps_ret (pe_cmpR op_lt (pe_dget (hu_of hr) (pv 3) (pe_ix ix_tup (pv 0) pe_int (fun _ _ => rfl)) (fun _ _ => rfl)) (pe_dget (hu_of hr) (pv 3) (pe_ix ix_tup (pv 0) pe_int (fun _ _ => rfl)) (fun _ _ => rfl)) (nomark _)))) pss_nil) (pss_cons (ps_if (pt_cmpR op_eq (pe_ix ix_tup (pv 0) pe_int (fun _ _ => rfl)) pe_str (nomark _)) (pss_one (ps_ret (pe_not (pe_call G_law_true R_law_true (by rfl) g_law_true k_law_true b_law_true .nil pass0 (pa_cons (pe_ix ix_tup (pv 0) pe_int (fun _ _ => rfl)) (pa_cons (pv 1) (pa_cons (pv 2) (pa_cons (pv 3) pa_nil)))))))) pss_nil) (pss_cons (ps_if (PW.pt (pw_or (pt_cmpR op_eq (pe_ix ix_tup (pv 0) pe_int (fun _ _ => rfl)) pe_str (nomark _)) (pw_or1 (pt_cmpR op_eq (pe_ix ix_tup (pv 0) pe_int (fun _ _ => rfl)) pe_str (nomark _))))) (pss_cons (ps_for PassesOwn.never rfl (pi_tup (pe_ix ix_tup (pv 0) pe_int (fun _ _ => rfl))) (pg_name (i := 4) sc_ltrue.nd rfl (Or.inl rfl)) (pss_one (ps_if (pt_cmpR op_ne (pe_call G_law_true R_law_true (by rfl) g_law_true k_law_true b_law_true .nil pass0 (pa_cons (pv 4) (pa_cons (pv 1) (pa_cons (pv 2) (pa_cons (pv 3) pa_nil))))) (pe_cmpR op_eq (pe_ix ix_tup (pv 0) pe_int (fun _ _ => rfl)) pe_str (nomark _)) (nomark _)) (pss_one (ps_ret (pe_cmpR op_eq (pe_ix ix_tup (pv 0) pe_int (fun _ _ => rfl)) pe_str (nomark _)))) pss_nil))) (pss_one (ps_ret (pe_cmpR op_eq (pe_ix ix_tup (pv 0) pe_int (fun _ _ => rfl)) pe_str (nomark _))))) pss_nil) (pss_cons (ps_if (PW.pt (pw_or (pt_cmpR op_eq (pe_ix ix_tup (pv 0) pe_int (fun _ _ => rfl)) pe_str (nomark _)) (pw_or1 (pt_cmpR op_eq (pe_ix ix_tup (pv 0) pe_int (fun _ _ => rfl)) pe_str (nomark _))))) (pss_cons (ps_for PassesOwn.never rfl (pi_list (pe_call G_law_tuples R_law_tuples (by rfl) g_law_tuples k_law_tuples b_law_tuples .nil pass0 (pa_cons (pv 1) (pa_cons (pe_callB call_len_seq (by rfl) T.n_len PySem.boot_len (pa_cons (pe_ix ix_tup (pv 0) pe_int (fun _ _ => rfl)) pa_nil)) pa_nil)))) (pg_name (i := 5) sc_ltrue.nd rfl (Or.inl rfl)) (pss_one (ps_if (pt_cmpR op_eq (pe_call G_law_true R_law_true (by rfl) g_law_true k_law_true b_law_true .nil pass0 (pa_cons (pe_ix ix_tup (pv 0) pe_int (fun _ _ => rfl)) (pa_cons (pv 1) (pa_cons (pv 2) (pa_cons (pe_call G_law_with R_law_with (by rfl) g_law_with k_law_with b_law_with .nil pass0 (pa_cons (pv 3) (pa_cons (pe_ix ix_tup (pv 0) pe_int (fun _ _ => rfl)) (pa_cons (pv 5) pa_nil)))) pa_nil))))) (pe_cmpR op_eq (pe_ix ix_tup (pv 0) pe_int (fun _ _ => rfl)) pe_str (nomark _)) (nomark _)) (pss_one (ps_ret (pe_cmpR op_eq (pe_ix ix_tup (pv 0) pe_int (fun _ _ => rfl)) pe_str (nomark _)))) pss_nil))) (pss_one (ps_ret (pe_cmpR op_eq (pe_ix ix_tup (pv 0) pe_int (fun _ _ => rfl)) pe_str (nomark _))))) pss_nil) (pss_cons (ps_if (PW.pt (pw_or (pt_cmpR op_eq (pe_ix ix_tup (pv 0) pe_int (fun _ _ => rfl)) pe_str (nomark _)) (pw_or1 (pt_cmpR op_eq (pe_ix ix_tup (pv 0) pe_int (fun _ _ => rfl)) pe_str (nomark _))))) pss_never pss_nil) (pss_cons (ps_if (pt_cmpR op_eq (pe_ix ix_tup (pv 0) pe_int (fun _ _ => rfl)) pe_str (nomark _)) pss_never pss_nil) (pss_one ps_never))))))))))), ?_⟩
      have left0 := rr.left
      refine ⟨_, rfl, ra, _, rfl, left0, la, _, _, _, rfl, rfl, SqL.of hla, atI_nat (j := 0) rfl, _, _, rfl, rfl, _, rfl, ra, _, rfl, left0, la, _, _, 0, rfl, rfl, hla, rfl, ?_⟩
      have k1 : Kp la H (upd H la (.lst ([V.int L].set 0 (.int (L - 1))))) := Kp.upd
      have hla1 : (upd H la (.lst ([V.int L].set 0 (.int (L - 1))))) la = some (.lst [.int (L - 1)]) := upd_same
      revert k1 hla1
      generalize upd H la (.lst ([V.int L].set 0 (.int (L - 1)))) = H1
      intro k1 hla1
      have rr1 := rr.kp k1 hla
      have vd1 := vd.kl (.kp k1 hla)
      have dp1 := Dp.kl (.kp k1 hla) dp f.noL
      refine ⟨_, rfl, ra, _, rfl, rr1.left, la, _, _, _, rfl, rfl, SqL.of hla1, atI_nat (j := 0) rfl, _, _, rfl, rfl, _, rfl, ite2 (fun z => ?_) (fun z => ?_)⟩
      · have z := of_decide_eq_true z
        exact q H1 false (L - 1) k1 hla1 (by omega) (fun z2 => by omega)
      · obtain ⟨h, ps⟩ := f
        rw [Fm.data_mk] at dp1
        obtain ⟨fa, xs, rfl, hT, hx⟩ := hd_inv dp1
        have hk := ok.hd_
        have lt1 : L - 1 < L := by omega
        have part : ∀ g, g ∈ ps → g.dep ≤ N ∧ g.Ok ∧ g.fo = true ∧ (∀ p, p ∈ g.syms → p.1 ∈ epq) ∧ m + 6 + 6 * g.dep ≤ 900 := fun g hg => by
          have dl : g.dep < (Fm.mk h ps).dep := dep_part hg
          refine ⟨by omega, ok.part hg, fo_part fo hg, fun p hp => ?_, by omega⟩
          have nr : h.kd ≠ .rel := fun z => by
            cases h <;> first | (cases z; done) | skip
            rw [none_of hk.2.2.2] at hg
            cases hg
          have nb : h.bname = none := by
            have := fo_hd fo
            cases h <;> first | rfl | cases this
          exact sy p ((Fm.syms_mem nr).mpr ⟨by rw [nb]; exact (fun z => nomatch z), g, hg, hp⟩)
        have nk : ∀ k : Kd, h.kd ≠ k → decide (V.str h.word = V.str k.word) = false := fun k n => by
          rw [show decide (V.str h.word = V.str k.word) = (h.kd == k) from kdec h.kd k]
          exact beq_eq_false_iff_ne.mpr n
        have kk : ∀ k : Kd, h.kd = k → decide (V.str h.word = V.str k.word) = true := fun k n => by
          rw [show decide (V.str h.word = V.str k.word) = (h.kd == k) from kdec h.kd k]
          exact beq_iff_eq.mpr n
        by_cases cd : h.kd = .con ∨ h.kd = .dis
        · have hr : h.rest (ps.map Fm.data) = [.tuple (ps.map Fm.data)] := by cases h <;> first | rfl | (rcases cd with e | e <;> cases e)
          have ho : h.own = [] := by cases h <;> first | rfl | (rcases cd with e | e <;> cases e)
          rw [hr] at hx
          obtain ⟨v1, w1, rfl, e1, hx⟩ := DpAll.cons_inv hx
          obtain rfl := DpAll.nil_inv hx
          obtain ⟨t1, ys, rfl, ht1, hy⟩ := Dp.tup_inv e1
          have n4' : ∀ k : Kd, k ≠ .con → k ≠ .dis → h.kd ≠ k := fun k a b => by rcases cd with e | e <;> rw [e] <;> (intro z; first | exact a z.symm | exact b z.symm)
          have ka : decide (V.str h.word = V.str "and") = (h.kd == .con) := kdec h.kd .con
          have ko : decide (V.str h.word = V.str "or") = !(h.kd == .con) := by
            rw [show decide (V.str h.word = V.str "or") = (h.kd == .dis) from kdec h.kd .dis]
            rcases cd with e | e <;> rw [e] <;> rfl
          have sAll : ∀ (all : ∀ p, p ∈ ps → p.sem n J.rl a = (h.kd == .con)), (Fm.mk h ps).sem n J.rl a = (h.kd == .con) := fun all => by
            rcases cd with e | e
            · cases h <;> first | (cases e; done) | skip
              rw [sem_con]
              exact List.all_eq_true.mpr all
            · cases h <;> first | (cases e; done) | skip
              rw [sem_dis]
              exact List.any_eq_false.mpr fun p hp z => by
                have z2 := all p hp
                rw [z] at z2
                cases z2
          have sOne : ∀ p, p ∈ ps → p.sem n J.rl a = (!(h.kd == .con)) → (Fm.mk h ps).sem n J.rl a = !(h.kd == .con) := fun p hp hs => by
            rcases cd with e | e
            · cases h <;> first | (cases e; done) | skip
              rw [sem_con]
              exact Bool.eq_false_iff.mpr fun z => by
                have z2 := List.all_eq_true.mp z p hp
                rw [hs] at z2
                cases z2
            · cases h <;> first | (cases e; done) | skip
              rw [sem_dis]
              exact List.any_eq_true.mpr ⟨p, hp, hs⟩
          refine hd_test rfl hT (cF (nk .rel (n4' _ (by decide) (by decide))) (hd_test rfl hT (cF (nk .eq (n4' _ (by decide) (by decide))) (hd_test rfl hT (cF (nk .less (n4' _ (by decide) (by decide))) (hd_test rfl hT (cF (nk .no (n4' _ (by decide) (by decide))) ?_)))))))
          refine swap2 (fun rest => cd.elim (fun e => hd_test rfl hT (cT (kk .con e) (iteT rest))) (fun e => hd_test rfl hT (cF (nk .con (by rw [e]; decide)) (hd_test rfl hT (cT (kk .dis e) rest))))) ?_
          refine ⟨_, rfl, fa, _, _, _, rfl, rfl, hT, atI_nat (j := 1) rfl, t1, rfl, ⟨_, ht1⟩, for_it (walk_tup (K := K) (a := t1) (xs := ys)) (fun i σ H3 => ∃ (y4 : Option V) (L3 : Int), σ = [some (.ref fa), some (.int (n : Nat)), some (.ref ra), some (.ref e), y4, none, none] ∧ Kp la H1 H3 ∧ H3 la = some (.lst [.int L3]) ∧ L3 < L ∧ (0 ≤ L3 → ∀ p, p ∈ ps.take i → p.sem n J.rl a = (h.kd == .con)))
            ⟨none, L - 1, rfl, Kp.refl _ _, hla1, lt1, fun _ p hp => by simp at hp⟩ (fun i σ H3 _ ⟨_, _, _, k3, _⟩ => SqT.kl (.kp k3 hla1) ht1) ?_ ?_⟩
          · rintro i y σ H3 H4 hi ⟨y4, L3, rfl, k3, hla3, l3, so⟩ ⟨rfl, hy2⟩
            obtain ⟨dd, hd, dpy⟩ := DpAll.get' hy hy2
            obtain ⟨g, hg, rfl⟩ := get_map hd
            have mem := List.mem_of_getElem? hg
            obtain ⟨p1, p2, p3, p4, p5⟩ := part g mem
            have kl3 := Kl.kp k3 hla1
            refine ⟨_, rfl, _, rfl, _, rfl, _, rfl, y, n, ra, e, la, D, a, m, J, L3, g, rfl, Dp.kl kl3 dpy g.noL, p2, p3, p1, rr1.kp k3 hla1, hla3, vd1.kl kl3, fun x hx => fr x (Fm.frees_mem.mpr (.inl ⟨g, mem, hx, by rw [ho]; exact (fun z => nomatch z)⟩)), by omega, p4, n1, n4, fun H5 b L5 k5 hla5 l5 hb => ?_⟩
            have k35 := k3.trans k5
            have hT5 : SqT K H5 fa [.str h.word, .ref t1] := SqT.kl (.kp k35 hla1) hT
            refine ⟨_, rfl, fa, _, _, _, rfl, rfl, hT5, atI_nat (j := 0) rfl, rfl, rfl, _, rfl, ?_⟩
            rw [ka]
            by_cases eb : b = (h.kd == .con)
            · refine cF (k := !decide (V.bl b = V.bl (h.kd == .con))) (by rw [eb, decide_eq_true rfl]; rfl) ⟨_, L5, rfl, k35, hla5, by omega, fun z p hp => ?_⟩
              rw [List.take_add_one, hg] at hp
              rcases List.mem_append.mp hp with hp | hp
              · exact so (by omega) p hp
              · have : p = g := by simpa using hp
                rw [this, ← hb z, eb]
            · refine cT (k := !decide (V.bl b = V.bl (h.kd == .con))) (by rw [decide_eq_false fun z => eb (V.bl.inj z)]; rfl) ?_
              refine ⟨_, rfl, fa, _, _, _, rfl, rfl, hT5, atI_nat (j := 0) rfl, rfl, ?_⟩
              refine q H5 _ L5 (k1.trans k35) hla5 (by omega) (fun z => ?_)
              rw [ko]
              refine (sOne g mem ?_).symm
              rw [← hb z]
              exact b_ne eb
          · rintro σ H3 ⟨y4, L3, rfl, k3, hla3, l3, so⟩
            have eyl : ys.length = ps.length := by rw [DpAll.length hy, List.length_map]
            rw [List.take_of_length_le (show ps.length ≤ ys.length by omega)] at so
            have hT3 : SqT K H3 fa [.str h.word, .ref t1] := SqT.kl (.kp k3 hla1) hT
            refine ⟨_, rfl, fa, _, _, _, rfl, rfl, hT3, atI_nat (j := 0) rfl, rfl, ?_⟩
            refine q H3 _ L3 (k1.trans k3) hla3 l3 (fun z => ?_)
            rw [ka]
            exact (sAll (so z)).symm
        by_cases qa : h.kd = .ex ∨ h.kd = .al
        · obtain ⟨vs, g, rfl, hre, ho, ov⟩ : ∃ vs g, ps = [g] ∧ h.rest (ps.map Fm.data) = [tS vs, g.data] ∧ h.own = vs ∧ OwnOk vs := by
            cases h with
            | ex vs => obtain ⟨g, rfl⟩ := one_of hk.2; exact ⟨vs, g, rfl, rfl, rfl, hk.1⟩
            | al vs => obtain ⟨g, rfl⟩ := one_of hk.2; exact ⟨vs, g, rfl, rfl, rfl, hk.1⟩
            | _ => rcases qa with e | e <;> cases e
          have mem : g ∈ [g] := List.mem_singleton.mpr rfl
          rw [hre] at hx
          obtain ⟨v1, w1, rfl, e1, hx⟩ := DpAll.cons_inv hx
          obtain ⟨v2, w2, rfl, e2, hx⟩ := DpAll.cons_inv hx
          obtain rfl := DpAll.nil_inv hx
          obtain ⟨t1, rfl, ht1⟩ := tS_inv e1
          obtain ⟨p1, p2, p3, p4, p5⟩ := part g mem
          have n6' : ∀ k : Kd, k ≠ .ex → k ≠ .al → h.kd ≠ k := fun k a b => by rcases qa with e | e <;> rw [e] <;> (intro z; first | exact a z.symm | exact b z.symm)
          have ka : decide (V.str h.word = V.str "some") = (h.kd == .ex) := kdec h.kd .ex
          have ko : decide (V.str h.word = V.str "all") = !(h.kd == .ex) := by
            rw [show decide (V.str h.word = V.str "all") = (h.kd == .al) from kdec h.kd .al]
            rcases qa with e | e <;> rw [e] <;> rfl
          have sAll : ∀ (all : ∀ r, r ∈ tups n vs.length → g.sem n J.rl (upds a vs r) = !(h.kd == .ex)), (Fm.mk h [g]).sem n J.rl a = !(h.kd == .ex) := fun all => by
            clear hre
            rcases qa with e | e
            · cases h <;> first | (cases e; done) | skip
              subst ho
              rw [sem_ex]
              exact List.any_eq_false.mpr fun r hrm z => by
                have z2 : g.sem n J.rl (upds a _ r) = false := all r hrm
                have z3 := z.symm.trans z2
                cases z3
            · cases h <;> first | (cases e; done) | skip
              subst ho
              rw [sem_al]
              exact List.all_eq_true.mpr all
          have sOne : ∀ r, r ∈ tups n vs.length → g.sem n J.rl (upds a vs r) = (h.kd == .ex) → (Fm.mk h [g]).sem n J.rl a = (h.kd == .ex) := fun r hrm hs => by
            clear hre
            rcases qa with e | e
            · cases h <;> first | (cases e; done) | skip
              subst ho
              rw [sem_ex]
              exact List.any_eq_true.mpr ⟨r, hrm, hs⟩
            · cases h <;> first | (cases e; done) | skip
              subst ho
              rw [sem_al]
              exact Bool.eq_false_iff.mpr fun z => by
                have z2 := List.all_eq_true.mp z r hrm
                have z3 : g.sem n J.rl (upds a _ r) = false := hs
                have z4 := z2.symm.trans z3
                cases z4
          refine hd_test rfl hT (cF (nk .rel (n6' _ (by decide) (by decide))) (hd_test rfl hT (cF (nk .eq (n6' _ (by decide) (by decide))) (hd_test rfl hT (cF (nk .less (n6' _ (by decide) (by decide))) (hd_test rfl hT (cF (nk .no (n6' _ (by decide) (by decide))) ?_)))))))
          refine hd_test rfl hT (cF (nk .con (n6' _ (by decide) (by decide))) (hd_test rfl hT (cF (nk .dis (n6' _ (by decide) (by decide))) ?_)))
          refine swap2 (fun rest => qa.elim (fun e => hd_test rfl hT (cT (kk .ex e) (iteT rest))) (fun e => hd_test rfl hT (cF (nk .ex (by rw [e]; decide)) (hd_test rfl hT (cT (kk .al e) rest))))) ?_
          have ov6 := ov.2.1
          have pn : n ^ vs.length ≤ 4096 := Nat.le_trans (Nat.pow_le_pow_right n1 ov6) (Nat.le_trans (Nat.pow_le_pow_left n4 6) (by decide))
          refine ⟨_, rfl, _, rfl, fa, _, _, _, rfl, rfl, hT, atI_nat (j := 1) rfl, t1, _, rfl, .inr ht1, n, vs.length, by rw [List.length_map]; rfl, by omega, by omega, pn, n1, fun H2 r2 xr s2 nr2 hr2 dxr => ?_⟩
          have k2 : Kp la H1 H2 := .of s2
          have hla2 := s2 _ _ hla1
          have nrla : r2 ≠ la := fun z => by rw [z, hla1] at nr2; cases nr2
          refine ⟨r2, rfl, ⟨_, SqL.of hr2⟩, for_list (K := K) (a := r2) (xs := xr) (fun i σ H3 => ∃ (y5 : Option V) (L3 : Int), σ = [some (.ref fa), some (.int (n : Nat)), some (.ref ra), some (.ref e), none, y5, none] ∧ Kp la H2 H3 ∧ H3 la = some (.lst [.int L3]) ∧ L3 < L ∧ (0 ≤ L3 → ∀ r, r ∈ (tups n vs.length).take i → g.sem n J.rl (upds a vs r) = !(h.kd == .ex)))
            ⟨none, L - 1, rfl, Kp.refl _ _, hla2, lt1, fun _ p hp => by simp at hp⟩ (fun i σ H3 _ ⟨_, _, _, k3, _⟩ => SqL.of (k3 _ _ hr2 nrla)) ?_ ?_⟩
          · rintro i y σ H3 hi ⟨y5, L3, rfl, k3, hla3, l3, so⟩
            obtain ⟨dd, hd, dpy⟩ := DpAll.get' dxr hi
            obtain ⟨r, hr3, rfl⟩ := get_map hd
            have rm := List.mem_of_getElem? hr3
            obtain ⟨rl, _⟩ := tups_mem.mp rm
            have k13 := k2.trans k3
            have kl3 := Kl.kp k13 hla1
            obtain ⟨t3, rfl, ht3⟩ := row_inv (Dp.kl (Kl.kp k3 hla2) dpy (noL_rowD r))
            have hT3 : SqT K H3 fa [.str h.word, .ref t1, v2] := SqT.kl kl3 hT
            refine ⟨_, rfl, fa, _, _, _, rfl, rfl, hT3, atI_nat (j := 2) rfl, _, rfl, _, rfl, _, rfl, _, rfl, fa, _, _, _, rfl, rfl, hT3, atI_nat (j := 1) rfl, _, rfl, e, t1, t3, D, vs, a, r, m, rfl, vd1.kl kl3, .inr (SqT.kl kl3 ht1), ht3, rl, by omega, by omega, fun H4 e4 s4 ne4 vd4 => ?_⟩
            have k14 : Kp la H1 H4 := k13.trans (.of s4)
            have kl4 := Kl.kp k14 hla1
            refine ⟨v2, n, ra, e4, la, D ++ vs, upds a vs r, m + vs.length, J, L3, g, rfl, Dp.kl kl4 e2 g.noL, p2, p3, p1, rr1.kp k14 hla1, s4 _ _ hla3, vd4, fun x hx => ?_, by omega, p4, n1, n4, fun H5 b L5 k5 hla5 l5 hb => ?_⟩
            · by_cases o : x ∈ vs
              · exact List.mem_append_right _ o
              · exact List.mem_append_left _ (fr x (Fm.frees_mem.mpr (.inl ⟨g, mem, hx, by rw [ho]; exact o⟩)))
            · have k15 := k14.trans k5
              have hT5 : SqT K H5 fa [.str h.word, .ref t1, v2] := SqT.kl (.kp k15 hla1) hT
              refine ⟨_, rfl, fa, _, _, _, rfl, rfl, hT5, atI_nat (j := 0) rfl, rfl, rfl, _, rfl, ?_⟩
              rw [ka]
              by_cases eb : b = (h.kd == .ex)
              · refine cT (k := decide (V.bl b = V.bl (h.kd == .ex))) (by rw [eb]; exact decide_eq_true rfl) ?_
                refine ⟨_, rfl, fa, _, _, _, rfl, rfl, hT5, atI_nat (j := 0) rfl, rfl, ?_⟩
                refine q H5 _ L5 (k1.trans k15) hla5 (by omega) (fun z => ?_)
                rw [ka]
                exact (sOne r rm (by rw [← hb z, eb])).symm
              · refine cF (k := decide (V.bl b = V.bl (h.kd == .ex))) (decide_eq_false fun z => eb (V.bl.inj z)) ⟨_, L5, rfl, (k3.trans (.of s4)).trans k5, hla5, by omega, fun z r' hr' => ?_⟩
                rw [List.take_add_one, hr3] at hr'
                rcases List.mem_append.mp hr' with hr' | hr'
                · exact so (by omega) r' hr'
                · have : r' = r := by simpa using hr'
                  rw [this, ← hb z]
                  exact b_ne eb
          · rintro σ H3 ⟨y5, L3, rfl, k3, hla3, l3, so⟩
            rw [DpAll.length dxr, List.length_map, List.take_of_length_le (Nat.le_refl _)] at so
            have hT3 : SqT K H3 fa [.str h.word, .ref t1, v2] := SqT.kl (.kp (k2.trans k3) hla1) hT
            refine ⟨_, rfl, fa, _, _, _, rfl, rfl, hT3, atI_nat (j := 0) rfl, rfl, ?_⟩
            refine q H3 _ L3 ((k1.trans k2).trans k3) hla3 l3 (fun z => ?_)
            rw [ko]
            exact (sAll (so z)).symm
        cases h with
        | rel m0 as =>
          rw [none_of hk.2.2.2] at hx q fr sy
          obtain ⟨v1, w1, rfl, e1, hx⟩ := DpAll.cons_inv hx
          obtain ⟨v2, w2, rfl, e2, hx⟩ := DpAll.cons_inv hx
          obtain rfl := DpAll.nil_inv hx
          obtain rfl := Dp.str_inv e1
          obtain ⟨t2, rfl, ht2⟩ := tS_inv e2
          have me : m0 ∈ epq := sy (m0, as.length) (by rw [Fm.syms_rel]; exact List.mem_singleton.mpr rfl)
          have las := hk.2.1
          refine hd_test rfl hT (cT (k := decide (V.str "rel" = V.str "rel")) (by decide +kernel) ?_)
          refine ⟨_, rfl, fa, _, _, _, rfl, rfl, hT, atI_nat (j := 2) rfl, t2, rfl, ⟨_, ht2⟩, fun M nM => ?_⟩
          refine lc_it (walk_tup (K := K) (a := t2) (xs := as.map V.str)) (fun i H3 => Same H1 H3 ∧ H3 M = some (.lst (rowV ((as.take i).map a)))) ⟨same_upd nM, upd_same⟩ (fun i H3 _ ⟨s3, _⟩ => Same.sqt s3 ht2) ?_ ?_
          · rintro i y H3 H4 hi ⟨s3, hM⟩ ⟨rfl, hy⟩
            obtain ⟨x, hx2, rfl⟩ := get_map hy
            have xf : x ∈ D := fr x (Fm.frees_mem.mpr (.inr (List.mem_of_getElem? hx2)))
            refine ⟨rfl, _, rfl, _, rfl, e, _, rfl, (vd1.kl (.of s3)).at xf, _, hM, ?_, fun b o eb => ?_, ?_⟩
            · rw [rowV, List.length_map, List.length_map]
              have := List.length_take_le' i as
              exact small1000 (by omega)
            · rw [upd_ne (ne_of_none eb nM)]
              exact s3 _ _ eb
            · rw [upd_same, List.take_add_one, hx2, List.map_append, rowV, rowV, List.map_append]; rfl
          · rintro H3 ⟨s3, hM⟩
            rw [List.length_map, List.take_of_length_le (Nat.le_refl _)] at hM
            refine ⟨M, _, rfl, .inl ⟨SqL.of hM, fun u nu => ?_⟩⟩
            have su := same_upd (o := .tup (rowV (as.map a))) nu
            have s13 := s3.trans su
            have rr3 := rr1.kp (.of s13) hla1
            obtain ⟨b, g1, g2⟩ := rr3.at me
            refine ⟨_, rfl, _, rfl, fa, _, _, _, rfl, rfl, Same.sqt s13 hT, atI_nat (j := 1) rfl, ra, _, rfl, g1, rowD (as.map a), _, row_of (.inl (.inl upd_same)), g2, shaped_row _, shaped_rows _, ?_⟩
            rw [any_row]
            exact q _ _ (L - 1) (k1.trans (.of s13)) (s13 _ _ hla1) lt1 (fun _ => by rw [sem_mk]; rfl)
        | eq x y =>
          rw [none_of hk.2.2] at hx q fr
          obtain ⟨v1, w1, rfl, e1, hx⟩ := DpAll.cons_inv hx
          obtain ⟨v2, w2, rfl, e2, hx⟩ := DpAll.cons_inv hx
          obtain rfl := DpAll.nil_inv hx
          obtain rfl := Dp.str_inv e1
          obtain rfl := Dp.str_inv e2
          have xf : x ∈ D := fr x (Fm.frees_mem.mpr (.inr (List.mem_cons_self ..)))
          have yf : y ∈ D := fr y (Fm.frees_mem.mpr (.inr (List.mem_cons_of_mem _ (List.mem_cons_self ..))))
          refine hd_test rfl hT (cF (k := decide (V.str "eq" = V.str "rel")) (by decide +kernel) (hd_test rfl hT (cT (k := decide (V.str "eq" = V.str "eq")) (by decide +kernel) ?_)))
          refine ⟨_, rfl, _, rfl, fa, _, _, _, rfl, rfl, hT, atI_nat (j := 1) rfl, e, _, rfl, vd1.at xf, _, rfl, _, rfl, fa, _, _, _, rfl, rfl, hT, atI_nat (j := 2) rfl, e, _, rfl, vd1.at yf, rfl, ?_⟩
          exact q _ _ (L - 1) k1 hla1 lt1 (fun _ => by
            rw [sem_mk]
            show _ = decide (a x = a y)
            exact decide_eq_decide.mpr ⟨fun z => by have := V.int.inj z; omega, fun z => by rw [z]⟩)
        | less x y =>
          rw [none_of hk.2.2] at hx q fr
          obtain ⟨v1, w1, rfl, e1, hx⟩ := DpAll.cons_inv hx
          obtain ⟨v2, w2, rfl, e2, hx⟩ := DpAll.cons_inv hx
          obtain rfl := DpAll.nil_inv hx
          obtain rfl := Dp.str_inv e1
          obtain rfl := Dp.str_inv e2
          have xf : x ∈ D := fr x (Fm.frees_mem.mpr (.inr (List.mem_cons_self ..)))
          have yf : y ∈ D := fr y (Fm.frees_mem.mpr (.inr (List.mem_cons_of_mem _ (List.mem_cons_self ..))))
          refine hd_test rfl hT (cF (k := decide (V.str "less" = V.str "rel")) (by decide +kernel) (hd_test rfl hT (cF (k := decide (V.str "less" = V.str "eq")) (by decide +kernel) (hd_test rfl hT (cT (k := decide (V.str "less" = V.str "less")) (by decide +kernel) ?_)))))
          refine ⟨_, rfl, _, rfl, fa, _, _, _, rfl, rfl, hT, atI_nat (j := 1) rfl, e, _, rfl, vd1.at xf, _, rfl, _, rfl, fa, _, _, _, rfl, rfl, hT, atI_nat (j := 2) rfl, e, _, rfl, vd1.at yf, _, _, rfl, rfl, ?_⟩
          exact q _ _ (L - 1) k1 hla1 lt1 (fun _ => by
            rw [sem_mk]
            show _ = decide (a x < a y)
            exact decide_eq_decide.mpr ⟨fun z => by omega, fun z => by omega⟩)
        | no =>
          obtain ⟨g, rfl⟩ := one_of (show ps.length = 1 from hk)
          have mem : g ∈ [g] := List.mem_singleton.mpr rfl
          obtain ⟨v1, w1, rfl, e1, hx⟩ := DpAll.cons_inv hx
          obtain ⟨p1, p2, p3, p4, p5⟩ := part g mem
          refine hd_test rfl hT (cF (k := decide (V.str "not" = V.str "rel")) (by decide +kernel) (hd_test rfl hT (cF (k := decide (V.str "not" = V.str "eq")) (by decide +kernel) (hd_test rfl hT (cF (k := decide (V.str "not" = V.str "less")) (by decide +kernel) (hd_test rfl hT (cT (k := decide (V.str "not" = V.str "not")) (by decide +kernel) ?_)))))))
          refine ⟨_, rfl, fa, _, _, _, rfl, rfl, hT, atI_nat (j := 1) rfl, _, rfl, _, rfl, _, rfl, v1, n, ra, e, la, D, a, m, J, L - 1, g, rfl, e1, p2, p3, p1, rr1, hla1, vd1, fun x hx => fr x (Fm.frees_mem.mpr (.inl ⟨g, mem, hx, fun z => nomatch z⟩)), by omega, p4, n1, n4, fun H2 b L2 k2 hla2 l2 hb => ⟨b, rfl, ?_⟩⟩
          exact q H2 (!b) L2 (k1.trans k2) hla2 (by omega) (fun z => by rw [sem_no, hb z])
        | con => exact absurd (Or.inl rfl) cd
        | dis => exact absurd (Or.inr rfl) cd
        | ex vs => exact absurd (Or.inl rfl) qa
        | al vs => exact absurd (Or.inr rfl) qa
        | _ => have := fo_hd fo; cases this
end
/-! ### what the law counts -/
def spCostF (K : PySem.W.Frag) (N : Nat) : Sp := fun vs H Q _ => ∃ (v : V) (n : Nat) (f : Fm), vs = [v, .int (n : Nat)] ∧ 1 ≤ n ∧ n ≤ 16 ∧ Dp K H v f.data ∧ f.Ok ∧ f.fo = true ∧ f.dep ≤ N ∧ ∀ (H' : Hp) (z : Int), Same H H' → 0 ≤ z → z ≤ 1000000000 → Q (.int z) H'
theorem min9 (y : Int) (h : 0 ≤ y) : 0 ≤ (if y < (10 : Int) ^ ((9 : Int).toNat) then y else (10 : Int) ^ ((9 : Int).toNat)) ∧ (if y < (10 : Int) ^ ((9 : Int).toNat) then y else (10 : Int) ^ ((9 : Int).toNat)) ≤ 1000000000 := by
  have e : (10 : Int) ^ ((9 : Int).toNat) = 1000000000 := by decide
  rw [e]
  split <;> omega
theorem sumI_map {M : Fm → Nat} : ∀ ps : List Fm, (ps.map fun p => ((M p : Nat) : Int)).sum = ((sumN (ps.map M) : Nat) : Int)
  | [] => rfl
  | p :: ps => by
    rw [List.map_cons, List.sum_cons, sumI_map ps, List.map_cons]
    show _ = ((M p + sumN (ps.map M) : Nat) : Int)
    rw [Int.natCast_add]
theorem sum_bd : ∀ (ns : List Int), (∀ z, z ∈ ns → 0 ≤ z ∧ z ≤ 1000000000) → 0 ≤ ns.sum ∧ ns.sum ≤ 1000000000 * (ns.length : Int)
  | [], _ => by simp
  | z :: ns, h => by
    have a := h z (List.mem_cons_self ..)
    have b := sum_bd ns fun y hy => h y (List.mem_cons_of_mem _ hy)
    rw [List.sum_cons, List.length_cons]
    omega
section
variable {P : Program} {w : World} {K : PySem.W.Frag} {mg : Str → Option Value} {base : Heap}
theorem sc_lcost : FnScope ["f", "n", "inner_v", "power", "x", "k", "part"] ["f", "n"] (defScope (top 92)) := ⟨rfl, rfl, rfl, by decide +kernel, rfl, by decide +kernel, by decide +kernel⟩
theorem has_lcostF (D : Def K mg "_law_cost" ["f", "n"] (top 92)) (T : Txt mg) (C1 : Has P w K mg base 1 "_law_parts" ["f"] (spParts K)) (C2 : Has P w K mg base 1 "_law_bound_here" ["f"] (spLook K fun f => tS f.hd.own)) :
    ∀ N : Nat, Has P w K mg base (2 + N) "_law_cost" ["f", "n"] (spCostF K N) := by
  obtain ⟨f1, fd1, G_law_parts, g_law_parts, k_law_parts, b_law_parts⟩ := C1
  obtain ⟨f2, fd2, G_law_bound_here, g_law_bound_here, k_law_bound_here, b_law_bound_here⟩ := C2
  intro N
  induction N with
  | zero =>
    refine D.has fun f fd F => F.ok sc_lcost (fun vs H Q E h => ?_) (fun cdv A outer s H vs Q E hr h => ?_)
    · obtain ⟨v, m, f, rfl, _⟩ := h; rfl
    · obtain ⟨v, m, f, rfl, _, _, _, _, _, h0, _⟩ := h
      have := dep_pos f
      omega
  | succ N ih =>
    obtain ⟨f4, fd4, G_law_cost, g_law_cost, k_law_cost, b_law_cost⟩ := ih
    refine D.has fun f fd F => F.ok sc_lcost (fun vs H Q E h => ?_) (fun cdv A outer s H vs Q E hr h => ?_)
    · obtain ⟨v, m, f, rfl, _⟩ := h; rfl
    · obtain ⟨v, m, f, rfl, m1, m2, dp, ok, fo, hn, q⟩ := h
      have R_law_parts : Room 1 _ := hr.mono (Nat.le_trans (by decide) (Nat.le_add_right 2 N))
      have R_law_bound_here : Room 1 _ := hr.mono (Nat.le_trans (by decide) (Nat.le_add_right 2 N))
      have R_law_cost : Room (2 + N) _ := hr
      refine ⟨_, PSs.nox (pss_cons (ps_set (i := 2) sc_lcost.nd rfl (Or.inl rfl) (pe_callB (cr_sum rfl) (by rfl) T.n_sum (by decide +kernel) (pa_cons (pe_lc (own := [("part", 6)]) rfl sc_lcost.nd (pi_list (pe_call G_law_parts R_law_parts (by rfl) g_law_parts k_law_parts b_law_parts .nil pass0 (pa_cons (pv 0) pa_nil))) (blkOk_by (N := ["f", "n", "inner_v", "power", "x", "k", "part"]) (sc := defScope (top 92)) (by decide +kernel)) (fun _ _ _ _ _ => (pg_name (i := 6) sc_lcost.nd rfl (Or.inl rfl))) (fun _ _ _ _ _ => pts_nil) (fun _ _ _ _ _ => (pe_call G_law_cost R_law_cost (by rfl) g_law_cost k_law_cost b_law_cost .nil pass0 (pa_cons (pv 6) (pa_cons (pv 1) pa_nil))))) pa_nil))) (pss_cons (ps_set (i := 3) sc_lcost.nd rfl (Or.inl rfl) pe_int) (pss_cons (ps_for PassesOwn.never rfl (pi_tup (pe_call G_law_bound_here R_law_bound_here (by rfl) g_law_bound_here k_law_bound_here b_law_bound_here .nil pass0 (pa_cons (pv 0) pa_nil))) (pg_name (i := 4) sc_lcost.nd rfl (Or.inl rfl)) (pss_one (ps_set (i := 3) sc_lcost.nd rfl (Or.inl rfl) (pe_op op_mul (pv 3) (pv 1))))) (pss_cons (ps_if (pt_cmpR op_in_seq (pe_ix ix_tup (pv 0) pe_int (fun _ _ => rfl)) (pe_lst (pa_cons pe_str (pa_cons pe_str (pa_cons pe_str pa_nil)))) (by rfl)) (pss_one (ps_ret (pe_callB (call_min2 rfl) (by rfl) T.n_min (by decide +kernel) (pa_cons (pe_op op_pow pe_int pe_int) (pa_cons (pe_op op_add pe_int (pe_op op_mul (pv 3) (pv 2))) pa_nil))))) pss_nil) (pss_cons (ps_if (pt_cmpR op_eq (pe_ix ix_tup (pv 0) pe_int (fun _ _ => rfl)) pe_str (nomark _)) pss_never pss_nil) (pss_cons (ps_if (pt_cmpR op_eq (pe_ix ix_tup (pv 0) pe_int (fun _ _ => rfl)) pe_str (nomark _)) pss_never pss_nil) (pss_cons (ps_if (pt_cmpR op_eq (pe_ix ix_tup (pv 0) pe_int (fun _ _ => rfl)) pe_str (nomark _)) pss_never pss_nil) (pss_one (ps_ret (pe_callB (call_min2 rfl) (by rfl) T.n_min (by decide +kernel) (pa_cons (pe_op op_pow pe_int pe_int) (pa_cons (pe_op op_add pe_int (pv 2)) pa_nil)))))))))))), ?_⟩
      have dp0 := dp
      obtain ⟨h, ps⟩ := f
      rw [Fm.data_mk] at dp
      have p40 : ps.length ≤ 40 := parts_len ok.hd_
      refine ⟨_, rfl, v, _, rfl, dp0, ok, fun H1 b ys s1 nb hb hy => ?_⟩
      have hy : DpAll K H1 ys (ps.map Fm.data) := hy
      refine ⟨b, rfl, ⟨_, SqL.of hb⟩, fun L nL => ?_⟩
      refine lc_it (walk_list (K := K) (a := b) (xs := ys)) (fun i H2 => ∃ ns : List Int, Same H1 H2 ∧ H2 L = some (.lst (ns.map V.int)) ∧ ns.length = i ∧ ∀ z, z ∈ ns → 0 ≤ z ∧ z ≤ 1000000000) ⟨[], same_upd nL, upd_same, rfl, fun z hz => nomatch hz⟩ (fun i H2 _ ⟨_, s2, _⟩ => SqL.of (s2 _ _ hb)) ?_ ?_
      · rintro i y H2 H3 hi ⟨ns, s2, hL, ln, hb2⟩ ⟨rfl, hy2⟩
        obtain ⟨dd, hd, dpy⟩ := DpAll.get' hy hy2
        obtain ⟨g, hg, rfl⟩ := get_map hd
        have mem := List.mem_of_getElem? hg
        have dl : g.dep < (Fm.mk h ps).dep := dep_part mem
        have ly := DpAll.length hy
        rw [List.length_map] at ly
        refine ⟨rfl, _, rfl, _, rfl, y, m, g, rfl, m1, m2, Dp.same s2 dpy, ok.part mem, fo_part fo mem, by omega, fun H4 z s4 z0 z1 => ⟨_, s4 _ _ hL, ?_, ns ++ [z], fun b o eb => ?_, ?_, ?_, ?_⟩⟩
        · rw [List.length_map]
          exact small1000 (by omega)
        · rw [upd_ne (ne_of_none eb nL)]
          exact s4 _ _ (s2 _ _ eb)
        · rw [upd_same, List.map_append]; rfl
        · rw [List.length_append, ln]; rfl
        · intro y hy
          rcases List.mem_append.mp hy with hy | hy
          · exact hb2 y hy
          · rw [List.mem_singleton.mp hy]; exact ⟨z0, z1⟩
      · rintro H2 ⟨ns, s2, hL, ln, hb2⟩
        have ly := DpAll.length hy
        rw [List.length_map] at ly
        have sAll : Same H H2 := s1.trans s2
        refine ⟨L, _, rfl, SqL.of hL, ?_⟩
        obtain ⟨sb0, sb1⟩ := sum_bd ns hb2
        generalize ns.sum = S at sb0 sb1
        have o := own_le ok.hd_
        have pw : m ^ h.own.length ≤ 16 ^ 8 := Nat.le_trans (Nat.pow_le_pow_right m1 o) (Nat.pow_le_pow_left m2 8)
        have e8 : (16 : Nat) ^ 8 = 4294967296 := by decide
        refine ⟨_, rfl, v, _, rfl, Dp.same sAll dp0, ok, fun H0 t0 s0 d0 => ?_⟩
        have sA := sAll.trans s0
        obtain ⟨t, rfl, ht⟩ := tS_inv d0
        have ht : SqT K H0 t (h.own.map V.str) := ht
        have ol : (h.own.map V.str).length = h.own.length := List.length_map ..
        refine ⟨t, rfl, ⟨_, ht⟩, for_tup (K := K) (a := t) (xs := h.own.map V.str) (fun i σ H5 => ∃ y4 y5 y6, σ = [some v, some (.int (m : Nat)), some (.int S), some (.int (m ^ i : Nat)), y4, y5, y6] ∧ H5 = H0) ⟨none, none, none, rfl, rfl⟩ (fun i σ H5 _ ⟨_, _, _, _, e⟩ => by rw [e]; exact ht) ?_ ?_⟩
        · rintro i y σ H5 hi ⟨y4, y5, y6, rfl, rfl⟩
          have il : i < h.own.length := by have := (List.getElem?_eq_some_iff.mp hi).1; omega
          have le : m ^ i ≤ m ^ h.own.length := Nat.pow_le_pow_right m1 (by omega)
          refine ⟨_, rfl, _, rfl, _, _, rfl, rfl, .inl ⟨by omega, by omega⟩, some y, y5, y6, ?_, rfl⟩
          rw [Nat.pow_succ, Int.natCast_mul]
          rfl
        rintro σ H5 ⟨y4, y5, y6, rfl, rfl⟩
        rw [ol]
        have dp5 := Dp.same sA dp
        obtain ⟨a, xs, rfl, hT, hx⟩ := hd_inv dp5
        refine ⟨_, rfl, a, _, _, _, rfl, rfl, hT, atI_nat (j := 0) rfl, (by show 3 ≤ sizeLine; decide), fun p1 np1 => ⟨_, _, rfl, .inl (SqL.of upd_same), rfl, rfl, _, rfl, ?_⟩⟩
        have t1 := same_upd (o := .lst [V.str "some", .str "all", .str "tc"]) np1
        have hT1 := Same.sqt t1 hT
        have F := fo_hd fo
        have key : ∀ k : Kd, inV (.str k.word) [.str "some", .str "all", .str "tc"] = (k == .ex || k == .al || k == .tc) := by intro k; cases k <;> decide +kernel
        have pn : (0 : Int) ≤ ((m ^ h.own.length : Nat) : Int) := by omega
        have pn1 : ((m ^ h.own.length : Nat) : Int) ≤ 4294967296 := by omega
        by_cases hb : inV (.str h.word) [.str "some", .str "all", .str "tc"] = true
        · refine cT (k := inV (.str h.word) [.str "some", .str "all", .str "tc"]) hb ?_
          refine ⟨_, _, rfl, rfl, ⟨by decide, by decide, by decide⟩, _, rfl, _, rfl, _, _, rfl, rfl, .inl ⟨by omega, by omega⟩, _, _, rfl, rfl, _, _, rfl, ?_⟩
          have pm : 0 ≤ ((m ^ h.own.length : Nat) : Int) * S := Int.mul_nonneg pn sb0
          exact q _ _ (sA.trans t1) (min9 _ (by omega)).1 (min9 _ (by omega)).2
        · refine cF (k := inV (.str h.word) [.str "some", .str "all", .str "tc"]) (Bool.eq_false_iff.mpr hb) ?_
          have t3 : ∀ k : Kd, k = .lfp ∨ k = .pfp ∨ k = .gs → decide (V.str h.word = V.str k.word) = false := fun k hk => by
            rw [show decide (V.str h.word = V.str k.word) = (h.kd == k) from kdec h.kd k]
            cases h <;> first | (cases F; done) | (rcases hk with e | e | e <;> rw [e] <;> rfl)
          refine ⟨_, rfl, a, _, _, _, rfl, rfl, hT1, atI_nat (j := 0) rfl, rfl, _, rfl, cF (k := decide (V.str h.word = V.str "lfp")) (t3 .lfp (by simp)) ?_⟩
          refine ⟨_, rfl, a, _, _, _, rfl, rfl, hT1, atI_nat (j := 0) rfl, rfl, _, rfl, cF (k := decide (V.str h.word = V.str "pfp")) (t3 .pfp (by simp)) ?_⟩
          refine ⟨_, rfl, a, _, _, _, rfl, rfl, hT1, atI_nat (j := 0) rfl, rfl, _, rfl, cF (k := decide (V.str h.word = V.str "guess")) (t3 .gs (by simp)) ?_⟩
          refine ⟨_, _, rfl, rfl, ⟨by decide, by decide, by decide⟩, _, rfl, _, _, rfl, rfl, _, _, rfl, ?_⟩
          exact q _ _ (sA.trans t1) (min9 _ (by omega)).1 (min9 _ (by omega)).2
theorem sc_lquant : FnScope ["f", "here", "part"] ["f"] (defScope (top 99)) := ⟨rfl, rfl, rfl, by decide +kernel, rfl, by decide +kernel, by decide +kernel⟩
theorem allB_len2 : ∀ f : Fm, f.fo = true → f.allB.length = (if f.hd.kd = .ex ∨ f.hd.kd = .al then f.hd.own.length else 0) + sumN (f.parts.map fun g => g.allB.length) := fun f fo => by
  obtain ⟨h, ps⟩ := f
  rw [Fm.allB_mk, List.length_append, List.length_flatten, List.map_map]
  have F := fo_hd fo
  have e1 : h.own.length = if h.kd = .ex ∨ h.kd = .al then h.own.length else 0 := by
    cases h <;> first | rfl | cases F
  have e2 : ∀ l : List Nat, l.sum = sumN l := by
    intro l
    induction l with
    | nil => rfl
    | cons a l ih => rw [List.sum_cons, ih]; rfl
  rw [e2]
  conv => lhs; rw [e1]
  rfl
def spQuants (K : PySem.W.Frag) (N : Nat) : Sp := fun vs H Q _ => ∃ (v : V) (f : Fm), vs = [v] ∧ Dp K H v f.data ∧ f.Ok ∧ f.fo = true ∧ f.dep ≤ N ∧ ∀ (H' : Hp), Same H H' → Q (.int (f.allB.length : Nat)) H'
theorem has_lquant (D : Def K mg "_law_quantifiers" ["f"] (top 99)) (T : Txt mg) (C1 : Has P w K mg base 1 "_law_parts" ["f"] (spParts K)) (C2 : Has P w K mg base 1 "_law_bound_here" ["f"] (spLook K fun f => tS f.hd.own)) :
    ∀ N : Nat, Has P w K mg base (2 + N) "_law_quantifiers" ["f"] (spQuants K N) := by
  obtain ⟨f1, fd1, G_law_parts, g_law_parts, k_law_parts, b_law_parts⟩ := C1
  obtain ⟨f2, fd2, G_law_bound_here, g_law_bound_here, k_law_bound_here, b_law_bound_here⟩ := C2
  intro N
  induction N with
  | zero =>
    refine D.has fun f fd F => F.ok sc_lquant (fun vs H Q E h => ?_) (fun cdv A outer s H vs Q E hr h => ?_)
    · obtain ⟨v, f, rfl, _⟩ := h; rfl
    · obtain ⟨v, f, rfl, _, _, _, h0, _⟩ := h
      have := dep_pos f
      omega
  | succ N ih =>
    obtain ⟨f4, fd4, G_law_quantifiers, g_law_quantifiers, k_law_quantifiers, b_law_quantifiers⟩ := ih
    refine D.has fun f fd F => F.ok sc_lquant (fun vs H Q E h => ?_) (fun cdv A outer s H vs Q E hr h => ?_)
    · obtain ⟨v, f, rfl, _⟩ := h; rfl
    · obtain ⟨v, f, rfl, dp, ok, fo, hn, q⟩ := h
      have R_law_parts : Room 1 _ := hr.mono (Nat.le_trans (by decide) (Nat.le_add_right 2 N))
      have R_law_bound_here : Room 1 _ := hr.mono (Nat.le_trans (by decide) (Nat.le_add_right 2 N))
      have R_law_quantifiers : Room (2 + N) _ := hr
      refine ⟨_, PSs.nox (pss_cons (ps_set (i := 1) sc_lquant.nd rfl (Or.inl rfl) (pe_op op_mul (pe_callTy call_int1 (by rfl) T.n_int (by decide +kernel) (pa_cons (pe_cmpR op_in_seq (pe_ix ix_tup (pv 0) pe_int (fun _ _ => rfl)) (pe_lst (pa_cons pe_str (pa_cons pe_str pa_nil))) (by rfl)) pa_nil)) (pe_callB call_len_seq (by rfl) T.n_len PySem.boot_len (pa_cons (pe_call G_law_bound_here R_law_bound_here (by rfl) g_law_bound_here k_law_bound_here b_law_bound_here .nil pass0 (pa_cons (pv 0) pa_nil)) pa_nil)))) (pss_one (ps_ret (pe_op op_add (pv 1) (pe_callB (cr_sum rfl) (by rfl) T.n_sum (by decide +kernel) (pa_cons (pe_lc (own := [("part", 2)]) rfl sc_lquant.nd (pi_list (pe_call G_law_parts R_law_parts (by rfl) g_law_parts k_law_parts b_law_parts .nil pass0 (pa_cons (pv 0) pa_nil))) (blkOk_by (N := ["f", "here", "part"]) (sc := defScope (top 99)) (by decide +kernel)) (fun _ _ _ _ _ => (pg_name (i := 2) sc_lquant.nd rfl (Or.inl rfl))) (fun _ _ _ _ _ => pts_nil) (fun _ _ _ _ _ => (pe_call G_law_quantifiers R_law_quantifiers (by rfl) g_law_quantifiers k_law_quantifiers b_law_quantifiers .nil pass0 (pa_cons (pv 2) pa_nil)))) pa_nil)))))), ?_⟩
      have dp0 := dp
      have al2 := allB_len2 f fo
      obtain ⟨h, ps⟩ := f
      rw [Fm.data_mk] at dp
      have p40 : ps.length ≤ 40 := parts_len ok.hd_
      obtain ⟨a, xs, rfl, hT, hx⟩ := hd_inv dp
      have key : ∀ k : Kd, inV (.str k.word) [.str "some", .str "all"] = (k == .ex || k == .al) := by intro k; cases k <;> decide +kernel
      refine ⟨_, rfl, a, _, _, _, rfl, rfl, hT, atI_nat (j := 0) rfl, (by show 2 ≤ sizeLine; decide), fun p1 np1 => ⟨_, _, rfl, .inl (SqL.of upd_same), rfl, rfl, .inr ⟨_, rfl, ?_⟩⟩⟩
      have t1 := same_upd (o := .lst [V.str "some", .str "all"]) np1
      have e0 : (if (if (false : Bool) = true then !inV (V.str h.word) [V.str "some", V.str "all"] else inV (V.str h.word) [V.str "some", V.str "all"]) = true then 1 else 0 : Int) = (((if h.kd = .ex ∨ h.kd = .al then 1 else 0 : Nat)) : Int) := by
        rw [if_neg Bool.false_ne_true, show inV (V.str h.word) _ = _ from key h.kd]
        by_cases c : h.kd = .ex ∨ h.kd = .al
        · rw [if_pos c, if_pos (by rcases c with e | e <;> rw [e] <;> rfl)]; rfl
        · have c2 : ¬ (h.kd == .ex || h.kd == .al) = true := fun z => c (by simpa using z)
          rw [if_neg c, if_neg c2]; rfl
      rw [e0]
      refine ⟨_, rfl, .ref a, _, rfl, Dp.same t1 dp0, ok, fun H0 t0 s0 d0 => ?_⟩
      obtain ⟨t, rfl, ht⟩ := tS_inv d0
      have ht : SqT K H0 t (h.own.map V.str) := ht
      have s01 := t1.trans s0
      have o := own_le ok.hd_
      refine ⟨t, _, rfl, .inr ht, _, _, rfl, rfl, .inl ⟨by split <;> decide, by split <;> decide⟩, _, rfl, ?_⟩
      refine ⟨_, rfl, .ref a, _, rfl, Dp.same s01 dp0, ok, fun H1 b ys s1 nb hb hy => ?_⟩
      have hy : DpAll K H1 ys (ps.map Fm.data) := hy
      refine ⟨b, rfl, ⟨_, SqL.of hb⟩, fun L nL => ?_⟩
      refine lc_it (walk_list (K := K) (a := b) (xs := ys)) (fun i H2 => Same H1 H2 ∧ H2 L = some (.lst (((ps.take i).map fun p => ((p.allB.length : Nat) : Int)).map V.int))) ⟨same_upd nL, upd_same⟩ (fun i H2 _ ⟨s2, _⟩ => SqL.of (s2 _ _ hb)) ?_ ?_
      · rintro i y H2 H3 hi ⟨s2, hL⟩ ⟨rfl, hy2⟩
        obtain ⟨dd, hd, dpy⟩ := DpAll.get' hy hy2
        obtain ⟨g, hg, rfl⟩ := get_map hd
        have mem := List.mem_of_getElem? hg
        have dl : g.dep < (Fm.mk h ps).dep := dep_part mem
        refine ⟨rfl, _, rfl, y, g, rfl, Dp.same s2 dpy, ok.part mem, fo_part fo mem, by omega, fun H4 s4 => ⟨_, s4 _ _ hL, ?_, fun b o eb => ?_, ?_⟩⟩
        · rw [List.length_map, List.length_map]
          have := List.length_take_le' i ps
          exact small1000 (by omega)
        · rw [upd_ne (ne_of_none eb nL)]
          exact s4 _ _ (s2 _ _ eb)
        · rw [upd_same, List.take_add_one, hg, List.map_append, List.map_append]
          rfl
      · rintro H2 ⟨s2, hL⟩
        have eyl : ys.length = ps.length := by rw [DpAll.length hy, List.length_map]
        rw [List.take_of_length_le (show ps.length ≤ ys.length by omega)] at hL
        refine ⟨L, _, rfl, SqL.of hL, _, _, rfl, rfl, ?_⟩
        have z := q H2 ((s01.trans s1).trans s2)
        rw [al2] at z
        have e5 : (ps.map fun p => ((p.allB.length : Nat) : Int)).sum = ((sumN (ps.map fun g => g.allB.length) : Nat) : Int) := sumI_map (M := fun p => p.allB.length) ps
        have e6 : (if h.kd = .ex ∨ h.kd = .al then h.own.length else 0) = (if h.kd = .ex ∨ h.kd = .al then 1 else 0) * h.own.length := by
          split
          · exact (Nat.one_mul _).symm
          · exact (Nat.zero_mul _).symm
        have z : Q (.int (((if h.kd = .ex ∨ h.kd = .al then h.own.length else 0) + sumN (ps.map fun g => g.allB.length) : Nat) : Int)) H2 := z
        rw [e6, Int.natCast_add, Int.natCast_mul] at z
        rw [e5, List.length_map]
        exact z
end
/-! ### the matrix, what is without some and all -/
def spIsQf (K : PySem.W.Frag) (N : Nat) : Sp := fun vs H Q _ => ∃ (v : V) (f : Fm), vs = [v] ∧ Dp K H v f.data ∧ f.Ok ∧ f.qf = true ∧ f.dep ≤ N ∧ ∀ (H' : Hp), Same H H' → Q (.bl true) H'
def spMatrix (K : PySem.W.Frag) : Sp := fun vs H Q _ => ∃ (v : V) (bs : List Blk) (r : Fm), vs = [v] ∧ Dp K H v (wrapB bs r).data ∧ r.Ok ∧ r.qf = true ∧ bs.length ≤ 60 ∧ ∀ (w : V), Dp K H w r.data → Q w H
section
variable {P : Program} {w : World} {K : PySem.W.Frag} {mg : Str → Option Value} {base : Heap}
theorem sc_lqf : FnScope ["f", "part"] ["f"] (defScope (top 97)) := ⟨rfl, rfl, rfl, by decide +kernel, rfl, by decide +kernel, by decide +kernel⟩
theorem has_lqf (D : Def K mg "_law_plain" ["f"] (top 97)) (T : Txt mg) (C1 : Has P w K mg base 1 "_law_parts" ["f"] (spParts K)) :
    ∀ N : Nat, Has P w K mg base (2 + N) "_law_plain" ["f"] (spIsQf K N) := by
  obtain ⟨f1, fd1, G_law_parts, g_law_parts, k_law_parts, b_law_parts⟩ := C1
  intro N
  induction N with
  | zero =>
    refine D.has fun f fd F => F.ok sc_lqf (fun vs H Q E h => ?_) (fun cdv A outer s H vs Q E hr h => ?_)
    · obtain ⟨v, f, rfl, _⟩ := h; rfl
    · obtain ⟨v, f, rfl, _, _, _, h0, _⟩ := h
      have := dep_pos f
      omega
  | succ N ih =>
    obtain ⟨f4, fd4, G_law_plain, g_law_plain, k_law_plain, b_law_plain⟩ := ih
    refine D.has fun f fd F => F.ok sc_lqf (fun vs H Q E h => ?_) (fun cdv A outer s H vs Q E hr h => ?_)
    · obtain ⟨v, f, rfl, _⟩ := h; rfl
    · obtain ⟨v, f, rfl, dp, ok, qf, hn, q⟩ := h
      have R_law_parts : Room 1 _ := hr.mono (Nat.le_trans (by decide) (Nat.le_add_right 2 N))
      have R_law_plain : Room (2 + N) _ := hr
      refine ⟨_, PSs.nox (pss_cons (ps_if (pt_cmpR op_notIn_seq (pe_ix ix_tup (pv 0) pe_int (fun _ _ => rfl)) (pe_lst (pa_cons pe_str (pa_cons pe_str (pa_cons pe_str (pa_cons pe_str (pa_cons pe_str (pa_cons pe_str pa_nil))))))) (by rfl)) (pss_one (ps_ret pe_bl)) pss_nil) (pss_one (ps_ret (pe_cmpR op_eq (pe_callB call_len_seq (by rfl) T.n_len PySem.boot_len (pa_cons (pe_lc (own := [("part", 1)]) rfl sc_lqf.nd (pi_list (pe_call G_law_parts R_law_parts (by rfl) g_law_parts k_law_parts b_law_parts .nil pass0 (pa_cons (pv 0) pa_nil))) (blkOk_by (N := ["f", "part"]) (sc := defScope (top 97)) (by decide +kernel)) (fun _ _ _ _ _ => (pg_name (i := 1) sc_lqf.nd rfl (Or.inl rfl))) (fun _ _ _ _ _ => (pts_one (pt_not (pt_val (pe_call G_law_plain R_law_plain (by rfl) g_law_plain k_law_plain b_law_plain .nil pass0 (pa_cons (pv 1) pa_nil)))))) (fun _ _ _ _ _ => (pv 1))) pa_nil)) pe_int (nomark _))))), ?_⟩
      have dp0 := dp
      obtain ⟨h, ps⟩ := f
      rw [Fm.data_mk] at dp
      obtain ⟨a, xs, rfl, hT, hx⟩ := hd_inv dp
      have key : ∀ k : Kd, inV (.str k.word) [.str "rel", .str "eq", .str "less", .str "not", .str "and", .str "or"] = (k == .rel || k == .eq || k == .less || k == .no || k == .con || k == .dis) := by intro k; cases k <;> decide +kernel
      rw [qf_mk] at qf
      obtain ⟨q1, q2⟩ := Bool.and_eq_true_iff.mp qf
      have hb : (!inV (.str h.word) [.str "rel", .str "eq", .str "less", .str "not", .str "and", .str "or"]) = false := by
        rw [show inV (V.str h.word) _ = _ from key h.kd]
        cases h <;> first | rfl | cases q1
      refine ⟨_, rfl, a, _, _, _, rfl, rfl, hT, atI_nat (j := 0) rfl, (by show 6 ≤ sizeLine; decide), fun p1 np1 => ⟨_, _, rfl, .inl (SqL.of upd_same), rfl, rfl, _, rfl, cF (k := !inV (.str h.word) [.str "rel", .str "eq", .str "less", .str "not", .str "and", .str "or"]) hb ?_⟩⟩
      have t1 := same_upd (o := .lst [V.str "rel", .str "eq", .str "less", .str "not", .str "and", .str "or"]) np1
      refine ⟨_, rfl, .ref a, _, rfl, Dp.same t1 dp0, ok, fun H1 b ys s1 nb hb hy => ?_⟩
      have hy : DpAll K H1 ys (ps.map Fm.data) := hy
      refine ⟨b, rfl, ⟨_, SqL.of hb⟩, fun L nL => ?_⟩
      refine lc_it (walk_list (K := K) (a := b) (xs := ys)) (fun i H2 => Same H1 H2 ∧ H2 L = some (.lst [])) ⟨same_upd nL, upd_same⟩ (fun i H2 _ ⟨s2, _⟩ => SqL.of (s2 _ _ hb)) ?_ ?_
      · rintro i y H2 H3 hi ⟨s2, hL⟩ ⟨rfl, hy2⟩
        obtain ⟨dd, hd, dpy⟩ := DpAll.get' hy hy2
        obtain ⟨g, hg, rfl⟩ := get_map hd
        have mem := List.mem_of_getElem? hg
        have dl : g.dep < (Fm.mk h ps).dep := dep_part mem
        exact ⟨rfl, _, rfl, y, g, rfl, Dp.same s2 dpy, ok.part mem, List.all_eq_true.mp q2 g mem, by omega, fun H4 s4 => ⟨true, rfl, cF (k := !true) rfl ⟨s2.trans s4, s4 _ _ hL⟩⟩⟩
      · rintro H2 ⟨s2, hL⟩
        exact ⟨L, _, rfl, .inl (SqL.of hL), rfl, q H2 ((t1.trans s1).trans s2)⟩
theorem sc_lmatrix : FnScope ["f", "k"] ["f"] (defScope (top 96)) := ⟨rfl, rfl, rfl, by decide +kernel, rfl, by decide +kernel, by decide +kernel⟩
theorem has_lmatrix (D : Def K mg "_law_matrix" ["f"] (top 96)) (T : Txt mg) : Has P w K mg base 1 "_law_matrix" ["f"] (spMatrix K) := D.has fun f fd F => by
  refine F.ok sc_lmatrix (fun vs H Q E h => ?_) (fun cdv A outer s H vs Q E hr h => ?_)
  · obtain ⟨v, bs, r, rfl, _⟩ := h; rfl
  · obtain ⟨v, bs, r, rfl, dp, ok, qf, lb, q⟩ := h
    refine ⟨_, PSs.nox (pss_cons (ps_for PassesOwn.never rfl (pi_range1 (by rfl) T.n_range (pa_cons pe_int pa_nil)) (pg_name (i := 1) sc_lmatrix.nd rfl (Or.inl rfl)) (pss_one (ps_if (PW.pt (pw_or (pt_cmpR op_eq (pe_ix ix_tup (pv 0) pe_int (fun _ _ => rfl)) pe_str (nomark _)) (pw_or1 (pt_cmpR op_eq (pe_ix ix_tup (pv 0) pe_int (fun _ _ => rfl)) pe_str (nomark _))))) (pss_one (ps_set (i := 0) sc_lmatrix.nd rfl (Or.inl rfl) (pe_ix ix_tup (pv 0) pe_int (fun _ _ => rfl)))) pss_nil))) (pss_one (ps_ret (pv 0)))), ?_⟩
    refine ⟨60, rfl, by decide, by decide, for_range (n := 60) (fun i σ H2 => ∃ (fv : V) (y1 : Option V), σ = [some fv, y1] ∧ H2 = H ∧ Dp K H fv (wrapB (bs.drop i) r).data) ⟨v, none, rfl, rfl, dp⟩ ?_ ?_⟩
    · rintro i σ H2 hi ⟨fv, y1, rfl, rfl, dfv⟩
      cases eb : bs.drop i with
      | nil =>
        rw [eb] at dfv
        have en : bs.drop (i + 1) = [] := List.drop_eq_nil_of_le (by have := List.drop_eq_nil_iff.mp eb; omega)
        obtain ⟨h, ps⟩ := r
        have dfv : Dp K H2 fv (Fm.mk h ps).data := dfv
        have d0 := dfv
        rw [Fm.data_mk] at d0
        obtain ⟨a, xs, rfl, hT, hx⟩ := hd_inv d0
        rw [qf_mk] at qf
        obtain ⟨q1, _⟩ := Bool.and_eq_true_iff.mp qf
        have nk : ∀ k : Kd, k = .ex ∨ k = .al → decide (V.str h.word = V.str k.word) = false := fun k hk => by
          rw [show decide (V.str h.word = V.str k.word) = (h.kd == k) from kdec h.kd k]
          cases h <;> first | (cases q1; done) | (rcases hk with e | e <;> rw [e] <;> rfl)
        refine hd_test rfl hT (cF (nk .ex (.inl rfl)) (hd_test rfl hT (cF (nk .al (.inr rfl)) ?_)))
        exact ⟨_, _, rfl, rfl, by rw [en]; exact dfv⟩
      | cons b rest =>
        rw [eb] at dfv
        have en : bs.drop (i + 1) = rest := by
          have := congrArg (List.drop 1) eb
          rw [List.drop_drop] at this
          exact this
        have dfv : Dp K H2 fv (Fm.mk (blkH b) [wrapB rest r]).data := dfv
        rw [Fm.data_mk] at dfv
        have dfv : Dp K H2 fv ((blkH b).data [(wrapB rest r).data]) := dfv
        rw [blk_data] at dfv
        obtain ⟨a, zs, rfl, ha, hz⟩ := Dp.tup_inv dfv
        obtain ⟨u1, w1, rfl, e1, hz⟩ := DpAll.cons_inv hz
        obtain ⟨u2, w2, rfl, e2, hz⟩ := DpAll.cons_inv hz
        obtain ⟨u3, w3, rfl, e3, hz⟩ := DpAll.cons_inv hz
        obtain rfl := Dp.str_inv e1
        have fin : tAsg (tOp (rIxT K) (tVar 0) (tC (.int 2))) (gName 0) { nx := fun σ H' => ∃ (fv : V) (y1 : Option V), σ = [some fv, y1] ∧ H' = H2 ∧ Dp K H2 fv (wrapB (bs.drop (i + 1)) r).data, rt := Q, bk := fun _ _ => True, ct := fun _ _ => True } [some (.ref a), some (.int (0 + (i : Nat)))] H2 := ⟨_, rfl, a, _, _, _, rfl, rfl, ha, atI_nat (j := 2) rfl, _, _, rfl, rfl, by rw [en]; exact e3⟩
        cases eb1 : b.1 with
        | true =>
          rw [eb1] at ha
          exact hd_test rfl ha (cT (k := decide (V.str (wB true) = V.str "some")) (by decide +kernel) (iteT fin))
        | false =>
          rw [eb1] at ha
          exact hd_test rfl ha (cF (k := decide (V.str (wB false) = V.str "some")) (by decide +kernel) (hd_test rfl ha (cT (k := decide (V.str (wB false) = V.str "all")) (by decide +kernel) fin)))
    · rintro σ H2 ⟨fv, y1, rfl, rfl, dfv⟩
      rw [List.drop_eq_nil_of_le (by omega)] at dfv
      exact ⟨_, rfl, q fv dfv⟩
end
/-! ### a drawn world -/
def spSubset (K : PySem.W.Frag) : Sp := fun vs H Q _ => ∃ (d l r : Addr) (xs : List V) (R : List (List Nat)), vs = [.ref d, .ref r] ∧ DrA H d l ∧ H r = some (.lst xs) ∧ DpAll K H xs (R.map rowD) ∧ R.length ≤ 4096 ∧ r ≠ d ∧
  ∀ (H' : Hp) (p : Addr) (ys : List V) (J : List (List Nat)), DrA H' d l → Kp d H H' → H p = none → H' p = some (.lst ys) → DpAll K H' ys (J.map rowD) → J.length ≤ R.length → (∀ x, x ∈ J → x ∈ R) → Q (.ref p) H'
section
variable {P : Program} {w : World} {K : PySem.W.Frag} {mg : Str → Option Value} {base : Heap}
theorem sc_lsubset : FnScope ["draws", "rows", "kind", "row"] ["draws", "rows"] (defScope (top 93)) := ⟨rfl, rfl, rfl, by decide +kernel, rfl, by decide +kernel, by decide +kernel⟩
theorem has_lsubset (D : Def K mg "_law_subset" ["draws", "rows"] (top 93)) (T : Txt mg) (C1 : Has P w K mg base 2 "_law_draw" ["draws"] spDraw) : Has P w K mg base 3 "_law_subset" ["draws", "rows"] (spSubset K) := D.has fun f fd F => by
  obtain ⟨f1, fd1, G_law_draw, g_law_draw, k_law_draw, b_law_draw⟩ := C1
  refine F.ok sc_lsubset (fun vs H Q E h => ?_) (fun cdv A outer s H vs Q E hr h => ?_)
  · obtain ⟨d, l, r, xs, R, rfl, _⟩ := h; rfl
  · obtain ⟨d, l, r, xs, R, rfl, dr, hr0, dx, lR, nrd, q⟩ := h
    have R_law_draw : Room 2 _ := hr
    refine ⟨_, PSs.nox (pss_cons (ps_set (i := 2) sc_lsubset.nd rfl (Or.inr rfl) (pe_op op_mod (pe_call G_law_draw R_law_draw (by rfl) g_law_draw k_law_draw b_law_draw .nil pass0 (pa_cons (pv 0) pa_nil)) pe_int)) (pss_cons (ps_if (pt_cmpR op_eq (pv 2) pe_int (nomark _)) (pss_one (ps_ret (pe_callTy call_list_of (by rfl) T.n_list (by decide +kernel) (pa_cons (pv 1) pa_nil)))) pss_nil) (pss_cons (ps_if (pt_cmpR op_eq (pv 2) pe_int (nomark _)) (pss_one (ps_ret (pe_lst pa_nil))) pss_nil) (pss_one (ps_ret (pe_lc (own := [("row", 3)]) rfl sc_lsubset.nd (pi_list (pv 1)) (blkOk_by (N := ["draws", "rows", "kind", "row"]) (sc := defScope (top 93)) (by decide +kernel)) (fun _ _ _ _ _ => (pg_name (i := 3) sc_lsubset.nd rfl (Or.inl rfl))) (fun _ _ _ _ _ => (pts_one (pt_cmpR op_eq (pe_op op_mod (pe_call G_law_draw R_law_draw (by rfl) g_law_draw k_law_draw b_law_draw .nil pass0 (pa_cons (pv 0) pa_nil)) (pv 2)) pe_int (nomark _)))) (fun _ _ _ _ _ => (pv 3)))))))), ?_⟩
    refine ⟨_, rfl, d, l, rfl, dr, fun z1 H1 _ _ dr1 k1 => ?_⟩
    refine ⟨_, _, rfl, rfl, (by show (0 : Int) < 5; decide), ?_⟩
    have kl1 := Kl.dr k1 dr
    have dx1 := DpAll.kl kl1 dx (rows_noL _)
    have hr1 := k1 _ _ hr0 nrd
    have z5 : 0 ≤ z1 % 5 ∧ z1 % 5 < 5 := by omega
    show gName 2 (V.int (z1 % 5)) _ _ _
    generalize z1 % 5 = kd at z5 ⊢
    refine ⟨_, rfl, rfl, _, rfl, ?_⟩
    by_cases e0 : kd = 0
    · refine cT (k := decide (V.int kd = V.int 0)) (decide_eq_true (by rw [e0])) ?_
      refine ⟨_, rfl, r, xs, rfl, .inl (SqL.of hr1), fun p np => ?_⟩
      have sp := same_upd (o := .lst xs) np
      exact q _ p xs R (dr1.same sp) (k1.trans (.of sp)) (Kp.free k1 (fun z => by obtain ⟨ys, e⟩ := dr1.some; rw [z, e] at np; cases np) np) upd_same (DpAll.same sp dx1) (Nat.le_refl _) (fun x hx => hx)
    · refine cF (k := decide (V.int kd = V.int 0)) (decide_eq_false fun z => e0 (V.int.inj z)) ⟨_, rfl, rfl, _, rfl, ?_⟩
      by_cases e1 : kd = 1
      · refine cT (k := decide (V.int kd = V.int 1)) (decide_eq_true (by rw [e1])) ?_
        refine ⟨Nat.zero_le _, fun p np => ?_⟩
        have sp := same_upd (o := .lst []) np
        exact q _ p [] [] (dr1.same sp) (k1.trans (.of sp)) (Kp.free k1 (fun z => by obtain ⟨ys, e⟩ := dr1.some; rw [z, e] at np; cases np) np) upd_same .nil (Nat.zero_le _) (fun x hx => nomatch hx)
      · refine cF (k := decide (V.int kd = V.int 1)) (decide_eq_false fun z => e1 (V.int.inj z)) ?_
        refine ⟨_, rfl, r, rfl, ⟨_, SqL.of hr1⟩, fun M nM => ?_⟩
        obtain ⟨nMd, nMl⟩ := dr1.ne nM
        have lx := DpAll.length dx1
        rw [List.length_map] at lx
        refine lc_it (walk_list (K := K) (a := r) (xs := xs)) (fun i H3 => ∃ (acc : List V) (J : List (List Nat)), DrA H3 d l ∧ Kp d H1 H3 ∧ H3 M = some (.lst acc) ∧ DpAll K H3 acc (J.map rowD) ∧ J.length ≤ i ∧ ∀ x, x ∈ J → x ∈ R) ⟨[], [], dr1.same (same_upd nM), .of (same_upd nM), upd_same, .nil, Nat.le_refl _, fun x hx => nomatch hx⟩ (fun i H3 _ ⟨_, _, _, k3, _⟩ => SqL.of (k3 _ _ hr1 nrd)) ?_ ?_
        · rintro i y H3 H4 hi ⟨acc, J, dr3, k3, hM, dacc, lJ, sJ⟩ ⟨rfl, hy⟩
          obtain ⟨dd, hd, dpy⟩ := DpAll.get' dx1 hy
          obtain ⟨rw', hrw, rfl⟩ := get_map hd
          refine ⟨rfl, _, rfl, d, l, rfl, dr3, fun z2 H5 _ _ dr5 k5 => ?_⟩
          have k35 := k3.trans k5
          have kl5 := Kl.dr k5 dr3
          have hM5 := k5 _ _ hM nMd
          refine ⟨_, rfl, _, _, rfl, rfl, (by show 0 < kd; omega), rfl, _, rfl, ite2 (fun _ => ?_) (fun _ => ?_)⟩
          · have la := DpAll.length dacc
            rw [List.length_map] at la
            refine ⟨_, rfl, acc, hM5, (by have := big9000 (n := acc.length + 1) (by omega); omega), acc ++ [y], J ++ [rw'], dr5.kp Kp.upd ⟨nMd, nMl⟩, kp_own k35 nM, upd_same, ?_, by rw [List.length_append]; exact Nat.add_le_add lJ (Nat.le_refl 1), fun x hx => ?_⟩
            · rw [List.map_append]
              refine DpAll.kl (Kl.upd hM5) (DpAll.append (DpAll.kl kl5 dacc (rows_noL _)) (.cons (Dp.kl (Kl.dr k35 dr1) dpy (noL_rowD _)) .nil)) ?_
              rw [noLs_append, rows_noL]
              exact rows_noL [rw']
            · rcases List.mem_append.mp hx with hx | hx
              · exact sJ x hx
              · rw [List.mem_singleton.mp hx]; exact List.mem_of_getElem? hrw
          · exact ⟨acc, J, dr5, k35, hM5, DpAll.kl kl5 dacc (rows_noL _), by omega, sJ⟩
        · rintro H3 ⟨acc, J, dr3, k3, hM, dacc, lJ, sJ⟩
          exact q H3 M acc J dr3 (k1.trans k3) (Kp.free k1 nMd nM) hM dacc (by omega) sJ
end
def sgL : List (Str × Nat) := [("e", 2), ("p", 1), ("q", 0)]
abbrev Wrl := (Str × Nat) × List (List Nat)
def wD (w : Wrl) : PyData := .tuple [.str w.1.1, .int w.1.2, .tuple (w.2.map rowD)]
theorem noL_wD (w : Wrl) : noL (wD w) = true := noL_tup (by rw [noLs_cons, noLs_cons, noLs_cons, noL_str, noL_int, noL_tup (rows_noL _), noLs]; rfl)
theorem ws_noL (l : List Wrl) : noLs (l.map wD) = true := noLs_all fun t ht => by
  obtain ⟨x, _, rfl⟩ := List.mem_map.mp ht
  exact noL_wD x
def spWorld (K : PySem.W.Frag) : Sp := fun vs H Q _ => ∃ (d l : Addr) (n : Nat), vs = [.ref d, .int (n : Nat)] ∧ DrA H d l ∧ 1 ≤ n ∧ n ≤ 4 ∧
  ∀ (H' : Hp) (p : Addr) (ys : List V) (W : List Wrl), DrA H' d l → Kp d H H' → H p = none → H' p = some (.lst ys) → DpAll K H' ys (W.map wD) → W.map (·.1) = sgL → (∀ w, w ∈ W → ∀ r, r ∈ w.2 → r ∈ tups n w.1.2) → Q (.ref p) H'
def spRows (K : PySem.W.Frag) : Sp := fun vs H Q _ => ∃ (r : Addr) (ys : List V) (W : List Wrl), vs = [.ref r] ∧ H r = some (.lst ys) ∧ DpAll K H ys (W.map wD) ∧ W.map (·.1) = sgL ∧
  ∀ (H' : Hp) (p la : Addr) (J : Rows), Same H H' → H p = none → H la = none → RowsR K H' p la J → H' la = some (.lst [.int 40000]) → (∀ w, w ∈ W → J w.1.1 = w.2) → Q (.ref p) H'
section
variable {P : Program} {w : World} {K : PySem.W.Frag} {mg : Str → Option Value} {base : Heap}
theorem sc_lworld : FnScope ["draws", "n", "signs", "name", "arity"] ["draws", "n"] (defScope (top 94)) := ⟨rfl, rfl, rfl, by decide +kernel, rfl, by decide +kernel, by decide +kernel⟩
theorem has_lworld (D : Def K mg "_law_world" ["draws", "n"] (top 94)) (T : Txt mg) (C1 : Has P w K mg base 3 "_law_subset" ["draws", "rows"] (spSubset K)) (C2 : Has P w K mg base 1 "_law_tuples" ["n", "width"] (spTups K)) : Has P w K mg base 4 "_law_world" ["draws", "n"] (spWorld K) := D.has fun f fd F => by
  obtain ⟨f1, fd1, G_law_subset, g_law_subset, k_law_subset, b_law_subset⟩ := C1
  obtain ⟨f2, fd2, G_law_tuples, g_law_tuples, k_law_tuples, b_law_tuples⟩ := C2
  refine F.ok sc_lworld (fun vs H Q E h => ?_) (fun cdv A outer s H vs Q E hr h => ?_)
  · obtain ⟨d, l, n, rfl, _⟩ := h; rfl
  · obtain ⟨d, l, n, rfl, dr, n1, n4, q⟩ := h
    have R_law_subset : Room 3 _ := hr
    have R_law_tuples : Room 1 _ := hr.mono (by decide)
    refine ⟨_, PSs.nox (pss_cons (ps_set (i := 2) sc_lworld.nd rfl (Or.inl rfl) (pe_lst (pa_cons (pe_tup (pa_cons pe_str (pa_cons pe_int pa_nil))) (pa_cons (pe_tup (pa_cons pe_str (pa_cons pe_int pa_nil))) (pa_cons (pe_tup (pa_cons pe_str (pa_cons pe_int pa_nil))) pa_nil))))) (pss_one (ps_ret (pe_lc (own := [("name", 3), ("arity", 4)]) rfl sc_lworld.nd (pi_list (pv 2)) (blkOk_by (N := ["draws", "n", "signs", "name", "arity"]) (sc := defScope (top 94)) (by decide +kernel)) (fun _ _ _ _ _ => (pg_names2 (K := K) rfl rfl sc_lworld.nd (i := 3) rfl (Or.inl rfl) (j := 4) rfl (Or.inl rfl))) (fun _ _ _ _ _ => pts_nil) (fun _ _ _ _ _ => (pe_tup (pa_cons (pv 3) (pa_cons (pv 4) (pa_cons (pe_callTy (T := "tuple") (call_tuple_ofK (K := K) rfl) (by rfl) T.n_tuple (by decide +kernel) (pa_cons (pe_call G_law_subset R_law_subset (by rfl) g_law_subset k_law_subset b_law_subset .nil pass0 (pa_cons (pv 0) (pa_cons (pe_call G_law_tuples R_law_tuples (by rfl) g_law_tuples k_law_tuples b_law_tuples .nil pass0 (pa_cons (pv 1) (pa_cons (pv 4) pa_nil))) pa_nil))) pa_nil)) pa_nil))))))))), ?_⟩
    refine ⟨(by show 2 ≤ sizeLine; decide), fun t1 m1 => ⟨(by show 2 ≤ sizeLine; decide), fun t2 m2 => ⟨(by show 2 ≤ sizeLine; decide), fun t3 m3 => ⟨(by show 3 ≤ sizeLine; decide), fun c nc => ?_⟩⟩⟩⟩
    have s1 := same_upd (o := .tup [.str "e", .int 2]) m1
    have s2 := same_upd (o := .tup [.str "p", .int 1]) m2
    have s3 := same_upd (o := .tup [.str "q", .int 0]) m3
    have s4 := same_upd (o := .lst [.ref t1, .ref t2, .ref t3]) nc
    have s0 := ((s1.trans s2).trans s3).trans s4
    have dsg : DpAll K (upd (upd (upd (upd H t1 (.tup [.str "e", .int 2])) t2 (.tup [.str "p", .int 1])) t3 (.tup [.str "q", .int 0])) c (.lst [.ref t1, .ref t2, .ref t3])) [.ref t1, .ref t2, .ref t3] (sgL.map sD) :=
      .cons (.tup (SqT.of (s4 _ _ (s3 _ _ (s2 _ _ upd_same)))) (.cons (.str _) (.cons (.int _) .nil))) (.cons (.tup (SqT.of (s4 _ _ (s3 _ _ upd_same))) (.cons (.str _) (.cons (.int _) .nil))) (.cons (.tup (SqT.of (s4 _ _ upd_same)) (.cons (.str _) (.cons (.int _) .nil))) .nil))
    have hc0 : (upd (upd (upd (upd H t1 (.tup [.str "e", .int 2])) t2 (.tup [.str "p", .int 1])) t3 (.tup [.str "q", .int 0])) c (.lst [.ref t1, .ref t2, .ref t3])) c = some (.lst [.ref t1, .ref t2, .ref t3]) := upd_same
    have ncd : c ≠ d := ((((dr.same s1).same s2).same s3).ne nc).1
    clear s1 s2 s3 s4
    revert s0 dsg hc0
    generalize upd (upd (upd (upd H t1 (.tup [.str "e", .int 2])) t2 (.tup [.str "p", .int 1])) t3 (.tup [.str "q", .int 0])) c (.lst [.ref t1, .ref t2, .ref t3]) = H0
    intro s0 dsg hc0
    have dr0 := dr.same s0
    refine ⟨_, rfl, c, rfl, ⟨_, SqL.of hc0⟩, fun M nM => ?_⟩
    obtain ⟨nMd, nMl⟩ := dr0.ne nM
    refine lc_it (walk_list (K := K) (a := c) (xs := [.ref t1, .ref t2, .ref t3])) (fun i H3 => ∃ (acc : List V) (W : List Wrl), DrA H3 d l ∧ Kp d H0 H3 ∧ H3 M = some (.lst acc) ∧ DpAll K H3 acc (W.map wD) ∧ W.map (·.1) = sgL.take i ∧ ∀ w, w ∈ W → ∀ r, r ∈ w.2 → r ∈ tups n w.1.2) ⟨[], [], dr0.same (same_upd nM), .of (same_upd nM), upd_same, .nil, rfl, fun w hw => nomatch hw⟩ (fun i H3 _ ⟨_, _, _, k3, _⟩ => SqL.of (k3 _ _ hc0 ncd)) ?_ ?_
    · rintro i y H3 H4 hi ⟨acc, W, dr3, k3, hM, dacc, eW, sW⟩ ⟨rfl, hy⟩
      obtain ⟨dd, hd, dpy⟩ := DpAll.get' dsg hy
      obtain ⟨sg, hs, rfl⟩ := get_map hd
      have sm : sg ∈ sgL := List.mem_of_getElem? hs
      have ar : sg.2 ≤ 2 := by
        simp only [sgL, List.mem_cons, List.not_mem_nil, or_false] at sm
        rcases sm with rfl | rfl | rfl <;> decide
      obtain ⟨u, zs, rfl, hu, hz⟩ := Dp.tup_inv (Dp.kl (Kl.dr k3 dr0) dpy (by exact noL_tup (by rw [noLs_cons, noLs_cons, noL_str, noL_int, noLs]; rfl)))
      obtain ⟨x1, w1, rfl, g1, hz⟩ := DpAll.cons_inv hz
      obtain ⟨x2, w2, rfl, g2, hz⟩ := DpAll.cons_inv hz
      obtain rfl := DpAll.nil_inv hz
      obtain rfl := Dp.str_inv g1
      obtain rfl := Dp.int_inv g2
      refine ⟨u, _, rfl, hu, rfl, _, _, rfl, _, _, rfl, rfl, rfl, ?_⟩
      have pn : n ^ sg.2 ≤ 4096 := Nat.le_trans (Nat.pow_le_pow_right n1 ar) (Nat.le_trans (Nat.pow_le_pow_left n4 2) (by decide))
      refine ⟨_, rfl, _, rfl, _, rfl, _, rfl, _, rfl, n, sg.2, rfl, by omega, by omega, pn, n1, fun H5 r5 xs5 s5 nr5 hr5 d5 => ?_⟩
      have dr5 := dr3.same s5
      refine ⟨d, l, r5, xs5, tups n sg.2, rfl, dr5, hr5, d5, by rw [tups_len]; exact pn, (dr3.ne nr5).1, fun H6 p6 ys6 J dr6 k6 np6 hp6 dJ lJ sJ => ?_⟩
      refine ⟨p6, ys6, rfl, .inl ⟨SqL.of hp6, fun v nv => ?_⟩⟩
      have sv := same_upd (o := .tup ys6) nv
      refine ⟨(by show 3 ≤ sizeLine; decide), fun v2 nv2 => ?_⟩
      have sv2 := same_upd (o := .tup [.str sg.1, .int (sg.2 : Nat), .ref v]) nv2
      have k36 : Kp d H4 H6 := (Kp.of s5).trans k6
      have hM6 := k36 _ _ hM nMd
      have svv := sv.trans sv2
      have la := DpAll.length dacc
      have lW : W.length ≤ 3 := by
        have e := congrArg List.length eW
        rw [List.length_map] at e
        rw [e, List.length_take]
        show min i 3 ≤ 3
        omega
      rw [List.length_map] at la
      refine ⟨acc, svv _ _ hM6, small1000 (by omega), acc ++ [.ref v2], W ++ [(sg, J)], (dr6.same svv).kp Kp.upd ⟨nMd, nMl⟩, kp_own ((k3.trans k36).trans (.of svv)) nM, upd_same, ?_, ?_, fun w hw => ?_⟩
      · rw [List.map_append]
        refine DpAll.kl (Kl.upd (svv _ _ hM6)) (DpAll.append (DpAll.kl ((Kl.dr k36 dr3).trans (.of svv)) dacc (ws_noL _)) (.cons (.tup (SqT.of upd_same) (.cons (.str _) (.cons (.int _) (.cons (.tup (SqT.of (sv2 _ _ upd_same)) (DpAll.same svv dJ)) .nil)))) .nil)) ?_
        rw [noLs_append, ws_noL]
        exact ws_noL [(sg, J)]
      · rw [List.map_append, eW, List.take_add_one, hs]; rfl
      · rcases List.mem_append.mp hw with hw | hw
        · exact sW w hw
        · rw [List.mem_singleton.mp hw]; exact sJ
    · rintro H3 ⟨acc, W, dr3, k3, hM, dacc, eW, sW⟩
      exact q H3 M acc W dr3 ((Kp.of s0).trans k3) (Same.none s0 nM) hM dacc eW sW
theorem sc_lrows : FnScope ["relations", "rows", "name", "arity", "here"] ["relations"] (defScope (top 95)) := ⟨rfl, rfl, rfl, by decide +kernel, rfl, by decide +kernel, by decide +kernel⟩
theorem has_lrows (D : Def K mg "_law_rows" ["relations"] (top 95)) (T : Txt mg) : Has P w K mg base 1 "_law_rows" ["relations"] (spRows K) := D.has fun f fd F => by
  refine F.ok sc_lrows (fun vs H Q E h => ?_) (fun cdv A outer s H vs Q E hr h => ?_)
  · obtain ⟨r, ys, W, rfl, _⟩ := h; rfl
  · obtain ⟨r, ys, W, rfl, hr0, dW, eW, q⟩ := h
    refine ⟨_, PSs.nox (pss_cons (ps_set (i := 1) sc_lrows.nd rfl (Or.inl rfl) (pe_disp (pps_cons pe_str (pe_lst (pa_cons pe_int pa_nil)) pps_nil) (by rfl) (by rfl) (fun z => by cases z) (by decide))) (pss_cons (ps_for PassesOwn.never rfl (pi_list (pv 0)) (pg_tup rfl (pgs_cons (pg_name (i := 2) sc_lrows.nd rfl (Or.inl rfl)) (pgs_cons (pg_name (i := 3) sc_lrows.nd rfl (Or.inl rfl)) (pgs_cons (pg_name (i := 4) sc_lrows.nd rfl (Or.inl rfl)) pgs_nil)))) (pss_one (ps_dput (hu_of hr) (pv 1) (pv 2) (pe_callTy call_list_of (by rfl) T.n_list (by decide +kernel) (pa_cons (pv 4) pa_nil)) rfl))) (pss_one (ps_ret (pv 1))))), ?_⟩
    intro p np
    have sp := same_upd (o := .dK []) np
    refine ⟨(by show 1 ≤ sizeLine; decide), fun la nla => ?_⟩
    have sl := same_upd (o := .lst [.int 40000]) nla
    have npla : p ≠ la := ne_of_none upd_same nla
    refine ⟨sl _ _ upd_same, [(Sum.inr ("left" : Str), .ref la)], rfl, (by show 1 ≤ 15; decide), ?_⟩
    have nla0 : H la = none := Same.none sp nla
    have s1 : Same H (upd (upd (upd H p (.dK [])) la (.lst [.int 40000])) p (.dK (mergeK [] [(Sum.inr ("left" : Str), .ref la)]))) := fun b o e => by
      rw [upd_ne (ne_of_none e np)]
      exact sl _ _ (sp _ _ e)
    have hp1 : (upd (upd (upd H p (.dK [])) la (.lst [.int 40000])) p (.dK (mergeK [] [(Sum.inr ("left" : Str), .ref la)]))) p = some (.dK [(Sum.inr ("left" : Str), .ref la)]) := upd_same
    have hla1 : (upd (upd (upd H p (.dK [])) la (.lst [.int 40000])) p (.dK (mergeK [] [(Sum.inr ("left" : Str), .ref la)]))) la = some (.lst [.int 40000]) := by
      rw [upd_ne (fun z => npla z.symm)]; exact upd_same
    clear sp sl
    revert s1 hp1 hla1
    generalize (upd (upd (upd H p (.dK [])) la (.lst [.int 40000])) p (.dK (mergeK [] [(Sum.inr ("left" : Str), .ref la)]))) = H1
    intro s1 hp1 hla1
    have lW : W.length = 3 := by
      have := congrArg List.length eW
      rw [List.length_map] at this
      exact this
    have nmE : ∀ (j : Nat) (w : Wrl), W[j]? = some w → (sgL.map (·.1))[j]? = some w.1.1 := fun j w hj => by
      rw [← eW, List.map_map, List.getElem?_map, hj]; rfl
    have nd : (sgL.map (·.1)).Nodup := by decide +kernel
    have notL : ∀ (j : Nat) (w : Wrl), W[j]? = some w → w.1.1 ≠ "left" := fun j w hj e => by
      have := nmE j w hj
      have hm := List.mem_of_getElem? this
      rw [e] at hm
      exact absurd hm (by decide +kernel)
    have ly := DpAll.length dW
    rw [List.length_map] at ly
    refine ⟨_, rfl, r, rfl, ⟨_, SqL.of (s1 _ _ hr0)⟩, for_list (K := K) (a := r) (xs := ys) (fun i σ H2 => ∃ (y2 y3 y4 : Option V) (kvs : List (Key × V)), σ = [some (.ref r), some (.ref p), y2, y3, y4] ∧ Same H H2 ∧ H2 p = some (.dK kvs) ∧ kvs.length ≤ i + 1 ∧ H2 la = some (.lst [.int 40000]) ∧ valV kvs (Sum.inr "left") = some (.ref la) ∧
      ∀ (j : Nat) (w : Wrl), j < i → W[j]? = some w → ∃ (b : Addr) (xs : List V), valV kvs (Sum.inr w.1.1) = some (.ref b) ∧ b ≠ la ∧ b ≠ p ∧ H2 b = some (.lst xs) ∧ DpAll K H2 xs (w.2.map rowD))
      ⟨none, none, none, _, rfl, s1, hp1, (by show 1 ≤ 0 + 1; decide), hla1, rfl, fun j w hj => absurd hj (Nat.not_lt_zero _)⟩ (fun i σ H2 _ ⟨_, _, _, _, _, s2, _⟩ => SqL.of (s2 _ _ hr0)) ?_ ?_⟩
    · rintro i y σ H2 hi ⟨y2, y3, y4, kvs, rfl, s2, hp2, lk, hla2, hl, al⟩
      obtain ⟨dd, hd, dpy⟩ := DpAll.get' dW hi
      obtain ⟨wi, hw, rfl⟩ := get_map hd
      have hil := (List.getElem?_eq_some_iff.mp hi).1
      obtain ⟨u, zs, rfl, hu, hz⟩ := Dp.tup_inv (Dp.same s2 dpy)
      obtain ⟨x1, w1, rfl, g1, hz⟩ := DpAll.cons_inv hz
      obtain ⟨x2, w2, rfl, g2, hz⟩ := DpAll.cons_inv hz
      obtain ⟨x3, w3, rfl, g3, hz⟩ := DpAll.cons_inv hz
      obtain rfl := DpAll.nil_inv hz
      obtain rfl := Dp.str_inv g1
      obtain rfl := Dp.int_inv g2
      obtain ⟨t3, rs, rfl, ht3, hrs⟩ := Dp.tup_inv g3
      refine ⟨u, _, rfl, hu, rfl, _, _, rfl, _, _, rfl, _, _, rfl, rfl, ?_⟩
      refine ⟨_, rfl, t3, rs, rfl, .inr ht3, fun b nb => ?_⟩
      have sb := same_upd (o := .lst rs) nb
      have nbp : p ≠ b := ne_of_none hp2 nb
      have nbla : la ≠ b := ne_of_none hla2 nb
      have npla2 : p ≠ la := npla
      refine ⟨_, rfl, _, rfl, p, _, rfl, DPut.k (k := Sum.inr wi.1.1) (sb _ _ hp2) (small20 (by omega)), ?_⟩
      have kl : Kl H2 (upd (upd H2 b (.lst rs)) p (.dK (putK kvs (Sum.inr wi.1.1) (.ref b)))) → True := fun _ => trivial
      have rowsKeep : ∀ {xs : List V} {J : List (List Nat)}, DpAll K H2 xs (J.map rowD) → DpAll K (upd (upd H2 b (.lst rs)) p (.dK (putK kvs (Sum.inr wi.1.1) (.ref b)))) xs (J.map rowD) := fun h => DpAll.kpD (Kp.upd (d := p)) ⟨_, sb _ _ hp2⟩ (DpAll.same sb h)
      refine ⟨_, _, _, _, rfl, fun z o e => ?_, upd_same, Nat.le_trans putK_len (by omega), ?_, ?_, fun j w hj hw2 => ?_⟩
      · rw [upd_ne (ne_of_none e np)]
        exact sb _ _ (s2 _ _ e)
      · rw [upd_ne (fun z => npla2 z.symm)]
        exact sb _ _ hla2
      · rw [valV_put, if_neg (fun z => notL i wi hw (Sum.inr.inj z).symm)]
        exact hl
      · by_cases ej : j = i
        · subst ej
          have ew : w = wi := Option.some.inj (hw2.symm.trans hw)
          subst ew
          refine ⟨b, rs, ?_, fun z => nbla z.symm, fun z => nbp z.symm, ?_, ?_⟩
          · rw [valV_put, if_pos rfl]
          · rw [upd_ne (fun z => nbp z.symm)]; exact upd_same
          · exact rowsKeep hrs
        · obtain ⟨b0, xs0, a1, a2, a3, a4, a5⟩ := al j w (by omega) hw2
          refine ⟨b0, xs0, ?_, a2, a3, ?_, rowsKeep a5⟩
          · rw [valV_put, if_neg]
            · exact a1
            · intro z
              have e1 := nmE j w hw2
              have e2 := nmE i wi hw
              rw [← Sum.inr.inj z] at e2
              have jl : j < (sgL.map (·.1)).length := (List.getElem?_eq_some_iff.mp e1).1
              exact ej ((List.getElem?_inj jl nd).mp (e1.trans e2.symm))
          · rw [upd_ne a3]
            exact sb _ _ a4
    · rintro σ H2 ⟨y2, y3, y4, kvs, rfl, s2, hp2, lk, hla2, hl, al⟩
      have at3 : ∀ j, j < 3 → ∃ w, W[j]? = some w := fun j hj => ⟨W[j]'(by omega), List.getElem?_eq_getElem (by omega)⟩
      obtain ⟨w0, h0⟩ := at3 0 (by decide)
      obtain ⟨w1, h1⟩ := at3 1 (by decide)
      obtain ⟨w2, h2⟩ := at3 2 (by decide)
      have n0 : w0.1.1 = "e" := (Option.some.inj (nmE 0 w0 h0)).symm
      have n1 : w1.1.1 = "p" := (Option.some.inj (nmE 1 w1 h1)).symm
      have n2 : w2.1.1 = "q" := (Option.some.inj (nmE 2 w2 h2)).symm
      refine ⟨_, rfl, q H2 p la (fun x => if x = "e" then w0.2 else if x = "p" then w1.2 else w2.2) s2 np nla0 ⟨kvs, hp2, hl, fun x hx => ?_⟩ hla2 fun w hw => ?_⟩
      · simp only [epq, List.mem_cons, List.not_mem_nil, or_false] at hx
        rcases hx with rfl | rfl | rfl
        · obtain ⟨b0, xs0, a1, a2, a3, a4, a5⟩ := al 0 w0 (by omega) h0
          rw [n0] at a1
          exact ⟨b0, xs0, a1, a2, a4, by have e : (fun x : Str => if x = "e" then w0.2 else if x = "p" then w1.2 else w2.2) "e" = w0.2 := if_pos rfl; rw [e]; exact a5⟩
        · obtain ⟨b0, xs0, a1, a2, a3, a4, a5⟩ := al 1 w1 (by omega) h1
          rw [n1] at a1
          exact ⟨b0, xs0, a1, a2, a4, by have e : (fun x : Str => if x = "e" then w0.2 else if x = "p" then w1.2 else w2.2) "p" = w1.2 := (if_neg (by decide +kernel)).trans (if_pos rfl); rw [e]; exact a5⟩
        · obtain ⟨b0, xs0, a1, a2, a3, a4, a5⟩ := al 2 w2 (by omega) h2
          rw [n2] at a1
          exact ⟨b0, xs0, a1, a2, a4, by have e : (fun x : Str => if x = "e" then w0.2 else if x = "p" then w1.2 else w2.2) "q" = w2.2 := (if_neg (by decide +kernel)).trans (if_neg (by decide +kernel)); rw [e]; exact a5⟩
      · obtain ⟨j, hj⟩ := List.mem_iff_getElem?.mp hw
        have jl : j < 3 := by have := (List.getElem?_eq_some_iff.mp hj).1; omega
        match j, jl with
        | 0, _ => rw [← Option.some.inj (h0.symm.trans hj), n0]; exact if_pos rfl
        | 1, _ => rw [← Option.some.inj (h1.symm.trans hj), n1]; exact (if_neg (by decide +kernel)).trans (if_pos rfl)
        | 2, _ => rw [← Option.some.inj (h2.symm.trans hj), n2]; exact (if_neg (by decide +kernel)).trans (if_neg (by decide +kernel))
end
/-! ### sizes -/
theorem flat_le {F : Fm → List Str} {b : Nat} : ∀ ps : List Fm, (∀ p, p ∈ ps → (F p).length ≤ b * p.cnt) → ((ps.map F).flatten).length ≤ b * sumN (ps.map Fm.cnt)
  | [], _ => Nat.zero_le _
  | p :: ps, h => by
    have a := h p (List.mem_cons_self ..)
    have c := flat_le ps fun q hq => h q (List.mem_cons_of_mem _ hq)
    rw [List.map_cons, List.flatten_cons, List.length_append]
    show _ ≤ b * (p.cnt + sumN (ps.map Fm.cnt))
    rw [Nat.mul_add]
    omega
theorem vars_len : ∀ f : Fm, f.Ok → f.vars.length ≤ 16 * f.cnt := Fm.ind fun h ps ih ok => by
  have a := flat_le (F := Fm.vars) (b := 16) ps fun p hp => ih p hp (ok.part hp)
  have o : h.own.length ≤ 8 := own_le ok.hd_
  have r : h.args.length ≤ 8 := args_len ok.hd_
  rw [Fm.vars_mk, Fm.cnt_mk, List.length_append, Nat.mul_add]
  have e : h.vars.length = h.own.length + h.args.length := List.length_append
  omega
theorem allB_len : ∀ f : Fm, f.Ok → f.allB.length ≤ 8 * f.cnt := Fm.ind fun h ps ih ok => by
  have a := flat_le (F := Fm.allB) (b := 8) ps fun p hp => ih p hp (ok.part hp)
  have o : h.own.length ≤ 8 := own_le ok.hd_
  rw [Fm.allB_mk, Fm.cnt_mk, List.length_append, Nat.mul_add]
  omega
section
variable {X : Cx} {K : PySem.W.Frag}
theorem op_inDK (h : X.K = K) (hu : X.A.units + 65 < cLine) : OpR X (compareOp .In) (rInD K) := h ▸ op_inD hu
theorem op_notInDK (h : X.K = K) (hu : X.A.units + 65 < cLine) : OpR X (compareOp .NotIn) (rNotInD K) := h ▸ op_notInD hu
end
/-! ### the law of k22: refusals, the program's own names -/
def spRefP (K : PySem.W.Frag) : Sp := fun vs H Q _ => ∃ (v : V) (f : Fm), vs = [v] ∧ Dp K H v f.data ∧ f.Wf ∧ f.fo = false ∧ ∀ H' : Hp, Same H H' → Q (.bl true) H'
def eqF (x y : Str) : Fm := .mk (.eq x y) []
def theirsF : Fm := .mk (.ex ["x", "y", "z"]) [.mk .con [eqF "x" "y", eqF "y" "z"]]
def spTheirs (K : PySem.W.Frag) : Sp := fun vs H Q _ => vs = [] ∧ ∀ (H' : Hp) (r : Addr) (us : List Str), Same H H' → H r = none → H' r = some (.lst (us.map V.str)) → Names us → us.Nodup → us.length = 3 → Q (.ref r) H'
theorem eqF_data (x y : Str) : (eqF x y).data = .tuple [.str "eq", .str x, .str y] := by unfold eqF; rw [Fm.data_mk]; rfl
theorem theirs_ok : theirsF.Ok := by
  have n3 : Names ["x", "y", "z"] := fun v hv => by
    have b : ((["x", "y", "z"] : List Str).all nmB) = true := by decide +kernel
    exact nm_of (List.all_eq_true.mp b v hv)
  have e : ∀ x y : Str, x ∈ (["x", "y", "z"] : List Str) → y ∈ (["x", "y", "z"] : List Str) → (eqF x y).Ok := fun x y hx hy => .mk ⟨n3 x hx, n3 y hy, rfl⟩ (fun p hp => nomatch hp)
  refine .mk ⟨⟨by decide, by decide, n3, by decide +kernel⟩, rfl⟩ fun p hp => ?_
  rw [List.mem_singleton.mp hp]
  refine .mk (show 2 ≤ 40 by decide) fun p hp => ?_
  rcases (show p = eqF "x" "y" ∨ p = eqF "y" "z" by simpa using hp) with rfl | rfl
  · exact e _ _ (by decide +kernel) (by decide +kernel)
  · exact e _ _ (by decide +kernel) (by decide +kernel)
theorem theirs_wf : theirsF.Wf := by
  refine ⟨theirs_ok, by decide +kernel, by decide +kernel, fo_posok _ (by decide +kernel), fun _ => none, ?_⟩
  refine .other (fun z => nomatch z) fun p hp => ?_
  rw [List.mem_singleton.mp hp]
  refine .other (fun z => nomatch z) fun p hp => ?_
  rcases (show p = eqF "x" "y" ∨ p = eqF "y" "z" by simpa using hp) with rfl | rfl
  · exact .other (fun z => nomatch z) (fun q hq => nomatch hq)
  · exact .other (fun z => nomatch z) (fun q hq => nomatch hq)
theorem theirs_occ : Occ ["x", "y", "z"] theirsF := ⟨by
    have b : (theirsF.vars.all fun x => decide (x ∈ (["x", "y", "z"] : List Str))) = true := by decide +kernel
    exact fun x hx => of_decide_eq_true (List.all_eq_true.mp b x hx), by
    have b : theirsF.rns = [] := by decide +kernel
    rw [b]; exact fun x hx => nomatch hx⟩
theorem vars_fb : ∀ f : Fm, ∀ x, x ∈ f.vars → x ∈ f.frees ∨ x ∈ f.allB := Fm.ind fun h ps ih x hx => by
  rw [Fm.vars_mk] at hx
  rw [Fm.allB_mk]
  rcases List.mem_append.mp hx with hx | hx
  · rcases List.mem_append.mp hx with hx | hx
    · exact .inr (List.mem_append_left _ hx)
    · exact .inl (Fm.frees_mem.mpr (.inr hx))
  · obtain ⟨l, hl, hx⟩ := List.mem_flatten.mp hx
    obtain ⟨p, hp, rfl⟩ := List.mem_map.mp hl
    rcases ih p hp x hx with a | a
    · by_cases o : x ∈ h.own
      · exact .inr (List.mem_append_left _ o)
      · exact .inl (Fm.frees_mem.mpr (.inl ⟨p, hp, a, o⟩))
    · exact .inr (List.mem_append_right _ (List.mem_flatten.mpr ⟨_, List.mem_map.mpr ⟨p, hp, rfl⟩, a⟩))
theorem qf_allB : ∀ f : Fm, f.qf = true → f.allB = [] := Fm.ind fun h ps ih q => by
  rw [qf_mk] at q
  obtain ⟨q1, q2⟩ := Bool.and_eq_true_iff.mp q
  have ho : h.own = [] := by cases h <;> first | rfl | cases q1
  rw [allB_con ho]
  refine List.flatten_eq_nil_iff.mpr fun l hl => ?_
  obtain ⟨p, hp, rfl⟩ := List.mem_map.mp hl
  exact ih p hp (List.all_eq_true.mp q2 p hp)
theorem wrap_allB (r : Fm) : ∀ bs : List Blk, (wrapB bs r).allB = (flatB bs).map (·.2) ++ r.allB
  | [] => rfl
  | b :: bs => by
    show (Fm.mk (blkH b) [wrapB bs r]).allB = ((b.2.map fun v => (b.1, v)) ++ flatB bs).map (·.2) ++ r.allB
    have ow : (blkH b).own = b.2 := by rcases blkH_cases b with ⟨_, e⟩ | ⟨_, e⟩ <;> rw [e] <;> rfl
    rw [Fm.allB_mk, ow]
    show b.2 ++ ((wrapB bs r).allB ++ []) = _
    rw [List.append_nil, wrap_allB r bs, List.map_append, List.map_map, List.append_assoc]
    congr 1
    show b.2 = b.2.map fun v => v
    rw [List.map_id'']
    intro x; rfl
theorem prenex_allB {g : Fm} (ok : g.Ok) (fo : g.fo = true) : (prenexF g).allB = g.allB := by
  unfold prenexF
  rw [wrap_allB, (blks_ok _).flat, qf_allB _ (pull_left g ok fo false).qf, List.append_nil, pull_vars g ok fo false]
theorem sm_syms {c : Str → Str} {f g : Fm} (s : Sm c f g) : ∀ p, p ∈ g.syms → p ∈ f.syms := by
  induction s with
  | @mk c h ps qs us r fr l p ih =>
    intro s hs
    by_cases kr : h.kd = .rel
    · cases h with
      | rel n as =>
        rw [re_rel r rfl, Fm.syms_rel] at hs
        rw [Fm.syms_rel, List.mem_singleton.mp hs]
        show _ ∈ [(n, as.length)]
        rw [List.length_map]
        exact List.mem_singleton.mpr rfl
      | _ => cases kr
    · have nr : (h.re (h.args.map c) us).kd ≠ .rel := by rw [re_kd r]; exact kr
      obtain ⟨nb, q, hq, hx⟩ := (Fm.syms_mem nr).mp hs
      obtain ⟨i, a, ha, hb, m⟩ := other l hq
      refine (Fm.syms_mem kr).mpr ⟨?_, a, m, ih i a q ha hb s hx⟩
      have e : (h.re (h.args.map c) us).bname = h.bname := by unfold Hd.bname; rw [re_bound r]
      rw [← e]; exact nb
theorem sm_rns {c : Str → Str} {f g : Fm} (s : Sm c f g) : ∀ x, x ∈ g.rns → x ∈ f.rns := by
  induction s with
  | @mk c h ps qs us r fr l p ih =>
    intro x hx
    rw [Fm.rns_mk] at hx ⊢
    have e : (h.re (h.args.map c) us).rn = h.rn := by
      cases h with
      | _ => rfl
    rw [e] at hx
    rcases List.mem_append.mp hx with hx | hx
    · exact List.mem_append_left _ hx
    · obtain ⟨y, hy, hx⟩ := List.mem_flatten.mp hx
      obtain ⟨q, hq, rfl⟩ := List.mem_map.mp hy
      obtain ⟨i, a, ha, hb, m⟩ := other l hq
      exact List.mem_append_right _ (List.mem_flatten.mpr ⟨_, List.mem_map.mpr ⟨a, m, rfl⟩, ih i a q ha hb x hx⟩)
theorem fo_kws : ∀ f : Fm, (∀ x, x ∈ f.kws → x ∈ (["some", "all"] : List Str)) → f.fo = true := Fm.ind fun h ps ih k => by
  rw [fo_mk]
  refine Bool.and_eq_true_iff.mpr ⟨?_, List.all_eq_true.mpr fun p hp => ih p hp fun x hx => k x (by rw [Fm.kws_mk]; exact List.mem_append_right _ (List.mem_flatten.mpr ⟨_, List.mem_map.mpr ⟨p, hp, rfl⟩, hx⟩))⟩
  have z : ∀ x, x ∈ h.kw → x ∈ (["some", "all"] : List Str) := fun x hx => k x (by rw [Fm.kws_mk]; exact List.mem_append_left _ hx)
  cases h with
  | lfp m vs as => exact absurd (z "lfp" (List.mem_singleton.mpr rfl)) (by decide +kernel)
  | pfp m vs as => exact absurd (z "pfp" (List.mem_singleton.mpr rfl)) (by decide +kernel)
  | tc vs as => exact absurd (z "tc" (List.mem_singleton.mpr rfl)) (by decide +kernel)
  | gs m k => exact absurd (z "guess" (List.mem_singleton.mpr rfl)) (by decide +kernel)
  | _ => rfl
theorem RowsR.kpd {K : PySem.W.Frag} {H H' : Hp} {ra la d l : Addr} {J : Rows} (r : RowsR K H ra la J) (dr : DrA H d l) (k : Kp d H H') : RowsR K H' ra la J := by
  obtain ⟨n, ms, hd, _⟩ := dr
  obtain ⟨kvs, h1, h2, h3⟩ := r
  have kl := Kl.kp k hd
  refine ⟨kvs, kl _ _ h1 (fun ys z => nomatch z), h2, fun x hx => ?_⟩
  obtain ⟨b, xs, g1, g2, g3, g4⟩ := h3 x hx
  have nb : b ≠ d := fun e => by
    rw [e, hd] at g3
    have e2 : [V.ref l, V.int n] = xs := HO.lst.inj (Option.some.inj g3)
    obtain ⟨dd, h5, h6⟩ := DpAll.get' (i := 1) (v := .int n) g4 (by rw [← e2]; rfl)
    obtain ⟨r, _, rfl⟩ := get_map h5
    obtain ⟨t, h7, _⟩ := row_inv h6
    cases h7
  exact ⟨b, xs, g1, g2, k _ _ g3 nb, DpAll.kl kl g4 (rows_noL _)⟩
section
variable {P : Program} {w : World} {K : PySem.W.Frag} {mg : Str → Option Value} {base : Heap}
theorem sc_refused : FnScope ["f", "e"] ["f"] (defScope (top 98)) := ⟨rfl, rfl, rfl, by decide +kernel, rfl, by decide +kernel, by decide +kernel⟩
theorem has_refusedP (D : Def K mg "_law_refused" ["f"] (top 98)) (T : Txt mg) (BA : XC K mg "BadArgument") (BF : mg "BadFormula" = some (.ref (He.ga K "BadFormula"))) (kb : PySem.W.kitOne K (.ref (He.ga K "BadArgument")) (.ref (He.ga K "BadFormula")) = some false)
    (C1 : HasX (L2.CX P w) P w K mg base 50 "prenex" ["formula"] (spPrenex K)) : Has P w K mg base 51 "_law_refused" ["f"] (spRefP K) := D.has fun f fd F => by
  obtain ⟨f1, fd1, G_prenex, g_prenex, k_prenex, b_prenex⟩ := C1
  refine F.ok sc_refused (fun vs H Q E h => ?_) (fun cdv A outer s H vs Q E hr h => ?_)
  · obtain ⟨v, f, rfl, _⟩ := h; rfl
  · obtain ⟨v, f, rfl, dp, wf, hn, q⟩ := h
    have R_prenex : Room 50 _ := hr
    refine ⟨_, PSs.nox (pss_cons (ps_try_as (i := 1) (tb := fun W => tDrop (tCallS (spPrenex K) (WE W) (tCons (tVar 0) tNil))) (Wout := fun _ _ _ _ => False) rfl rfl sc_refused.nd rfl rfl ⟨rfl, by decide, Or.inl BA.g⟩ takes0
      (fun W pn xe tk _ => pss_one (ps_expr (by exact (pe_callS G_prenex R_prenex rfl g_prenex k_prenex b_prenex (fun σ => passAt tk σ) (by exact (pa_cons (pv 0) pa_nil))))))
      (fun a oe cls d pn hz hf => pss_one (ps_ret (pe_not (pe_callB (call_isE' hz hf) (by rfl) T.n_isinstance (by decide +kernel) (pa_cons (pv 1) (pa_cons (pe_glob (v := .ref (He.ga K "BadFormula")) (by rfl) BF rfl) pa_nil)))))))
      (pss_one (ps_ret pe_bl))), ?_⟩
    refine ⟨_, rfl, v, f, rfl, dp, wf, fun z => absurd (z.symm.trans hn) (by decide), fun _ H1 s1 => ?_⟩
    refine ⟨true, BA.e, fun _ a na => ?_, fun z => nomatch z⟩
    exact ⟨_, rfl, He.ga K "BadArgument", He.ga K "BadFormula", false, rfl, rfl, BA.i, rfl, kb, false, rfl, q H1 s1⟩
theorem sc_theirs : FnScope [] [] (defScope (top 100)) := ⟨rfl, rfl, rfl, by decide +kernel, rfl, by decide +kernel, by decide +kernel⟩
theorem has_theirs (D : Def K mg "_law_theirs" [] (top 100)) (T : Txt mg) (C1 : Has P w K mg base 49 "apart" ["formula"] (spApart K)) : Has P w K mg base 50 "_law_theirs" [] (spTheirs K) := D.has fun f fd F => by
  obtain ⟨f1, fd1, G_apart, g_apart, k_apart, b_apart⟩ := C1
  refine F.ok sc_theirs (fun vs H Q E h => ?_) (fun cdv A outer s H vs Q E hr h => ?_)
  · obtain ⟨rfl, _⟩ := h; rfl
  · obtain ⟨rfl, q⟩ := h
    have R_apart : Room 49 _ := hr
    refine ⟨_, PSs.nox (pss_one (ps_ret (pe_callTy call_list_of (by rfl) T.n_list (by decide +kernel) (pa_cons (pe_ix ix_tup (pe_call G_apart R_apart (by rfl) g_apart k_apart b_apart .nil pass0 (pa_cons (pe_tup (pa_cons pe_str (pa_cons (pe_tup (pa_cons pe_str (pa_cons pe_str (pa_cons pe_str pa_nil)))) (pa_cons (pe_tup (pa_cons pe_str (pa_cons (pe_tup (pa_cons (pe_tup (pa_cons pe_str (pa_cons pe_str (pa_cons pe_str pa_nil)))) (pa_cons (pe_tup (pa_cons pe_str (pa_cons pe_str (pa_cons pe_str pa_nil)))) pa_nil))) pa_nil))) pa_nil)))) pa_nil)) pe_int (fun _ _ => rfl)) pa_nil)))), ?_⟩
    refine ⟨(by show 3 ≤ sizeLine; decide), fun t1 m1 => ⟨(by show 3 ≤ sizeLine; decide), fun t2 m2 => ⟨(by show 3 ≤ sizeLine; decide), fun t3 m3 => ⟨(by show 2 ≤ sizeLine; decide), fun t4 m4 => ⟨(by show 2 ≤ sizeLine; decide), fun t5 m5 => ⟨(by show 3 ≤ sizeLine; decide), fun t6 m6 => ?_⟩⟩⟩⟩⟩⟩
    have s1 := same_upd (o := .tup [.str "x", .str "y", .str "z"]) m1
    have s2 := same_upd (o := .tup [.str "eq", .str "x", .str "y"]) m2
    have s3 := same_upd (o := .tup [.str "eq", .str "y", .str "z"]) m3
    have s4 := same_upd (o := .tup [.ref t2, .ref t3]) m4
    have s5 := same_upd (o := .tup [.str "and", .ref t4]) m5
    have s6 := same_upd (o := .tup [.str "some", .ref t1, .ref t5]) m6
    have s0 := ((((s1.trans s2).trans s3).trans s4).trans s5).trans s6
    have dF : Dp K (upd (upd (upd (upd (upd (upd H t1 (.tup [.str "x", .str "y", .str "z"])) t2 (.tup [.str "eq", .str "x", .str "y"])) t3 (.tup [.str "eq", .str "y", .str "z"])) t4 (.tup [.ref t2, .ref t3])) t5 (.tup [.str "and", .ref t4])) t6 (.tup [.str "some", .ref t1, .ref t5])) (.ref t6) theirsF.data := by
      unfold theirsF
      rw [Fm.data_mk]
      refine .tup (SqT.of upd_same) (.cons (.str _) (.cons (tS_of (as := ["x", "y", "z"]) (Same.sqt ((((s2.trans s3).trans s4).trans s5).trans s6) (SqT.of upd_same))) (.cons ?_ .nil)))
      show Dp K _ _ (Fm.mk .con [eqF "x" "y", eqF "y" "z"]).data
      rw [Fm.data_mk]
      refine .tup (Same.sqt s6 (SqT.of upd_same)) (.cons (.str _) (.cons (.tup (Same.sqt (s5.trans s6) (SqT.of upd_same)) (.cons ?_ (.cons ?_ .nil))) .nil))
      · rw [eqF_data]
        exact .tup (Same.sqt (((s3.trans s4).trans s5).trans s6) (SqT.of upd_same)) (.cons (.str _) (.cons (.str _) (.cons (.str _) .nil)))
      · rw [eqF_data]
        exact .tup (Same.sqt ((s4.trans s5).trans s6) (SqT.of upd_same)) (.cons (.str _) (.cons (.str _) (.cons (.str _) .nil)))
    refine ⟨_, theirsF, rfl, dF, theirs_wf, Occ.fr _ theirs_occ (by decide), by decide +kernel, by decide +kernel, fun H1 r g s7 dg sm nm nd _ => ?_⟩
    cases sm with
    | @mk _ _ _ qs us rr fr l p =>
      rw [Fm.data_mk] at dg
      have e0 : Hd.re (.ex ["x", "y", "z"]) ((Hd.ex ["x", "y", "z"]).args.map id) us = .ex us := rfl
      rw [e0] at dg nm nd
      obtain ⟨a, xs, rfl, hT, hx⟩ := hd_inv dg
      obtain ⟨v1, w1, rfl, g1, hx⟩ := DpAll.cons_inv (show DpAll K H1 xs (tS us :: qs.map Fm.data) from hx)
      obtain ⟨t7, rfl, ht7⟩ := tS_inv g1
      rw [Fm.allB_mk] at nm nd
      refine ⟨a, _, _, _, rfl, rfl, hT, atI_nat (j := 1) rfl, t7, _, rfl, .inr ht7, fun c nc => ?_⟩
      have sc := same_upd (o := .lst (us.map V.str)) nc
      exact q _ c us ((s0.trans s7).trans sc) (Same.none (s0.trans s7) nc) upd_same (fun v hv => nm v (List.mem_append_left _ hv)) (List.nodup_append.mp nd).1 rr.lu
end
/-! ### the law of k22 -/
def badTc : Fm := .mk (.tc ["x", "y"] ["x", "x"]) [eqF "x" "y"]
def badF (f : Fm) : Fm := .mk .no [.mk .con [f, badTc]]
theorem badTc_data : badTc.data = .tuple [.str "tc", .tuple [.str "x", .str "y"], .tuple [.str "eq", .str "x", .str "y"], .tuple [.str "x", .str "x"]] := by
  unfold badTc; rw [Fm.data_mk]; show Hd.data _ [(eqF "x" "y").data] = _; rw [eqF_data]; rfl
theorem badF_data (f : Fm) : (badF f).data = .tuple [.str "not", .tuple [.str "and", .tuple [f.data, .tuple [.str "tc", .tuple [.str "x", .str "y"], .tuple [.str "eq", .str "x", .str "y"], .tuple [.str "x", .str "x"]]]]] := by
  unfold badF
  rw [Fm.data_mk]
  show Hd.data _ [(Fm.mk .con [f, badTc]).data] = _
  rw [Fm.data_mk]
  show Hd.data _ [Hd.data _ [f.data, badTc.data]] = _
  rw [badTc_data]; rfl
theorem badF_fo (f : Fm) : (badF f).fo = false := by
  unfold badF
  rw [fo_mk]
  show (true && ((Fm.mk .con [f, badTc]).fo && true)) = false
  rw [fo_mk]
  show (true && ((true && (f.fo && (badTc.fo && true))) && true)) = false
  rw [show badTc.fo = false from by decide +kernel, Bool.false_and, Bool.and_false]
  rfl
theorem badTc_ok : badTc.Ok := by
  have n2 : Names ["x", "y"] := fun v hv => by
    have b : ((["x", "y"] : List Str).all nmB) = true := by decide +kernel
    exact nm_of (List.all_eq_true.mp b v hv)
  refine .mk ⟨.inl rfl, n2, by decide +kernel, rfl, fun v hv => n2 v ?_, rfl⟩ fun p hp => ?_
  · rcases (show v = "x" by simpa using hv) with rfl
    decide +kernel
  · rw [List.mem_singleton.mp hp]
    exact .mk ⟨n2 _ (by decide +kernel), n2 _ (by decide +kernel), rfl⟩ (fun p hp => nomatch hp)
theorem badF_ok {f : Fm} (k : f.Ok) : (badF f).Ok := by
  refine .mk (show 1 = 1 from rfl) fun p hp => ?_
  rw [List.mem_singleton.mp hp]
  refine .mk (show 2 ≤ 40 by decide) fun p hp => ?_
  rcases (show p = f ∨ p = badTc by simpa using hp) with rfl | rfl
  · exact k
  · exact badTc_ok
theorem badF_wf {f : Fm} (k : f.Wf) (d : f.dep ≤ 30) (c : f.cnt ≤ 1000) : (badF f).Wf := by
  obtain ⟨Γ, ty⟩ := k.ty
  have d1 : badTc.dep = 2 := by decide +kernel
  have c1 : badTc.cnt = 2 := by decide +kernel
  have d2 : (badF f).dep ≤ 40 := by
    unfold badF
    rw [Fm.dep_mk]
    show 1 + max (Fm.mk .con [f, badTc]).dep 0 ≤ 40
    rw [Fm.dep_mk]
    show 1 + max (1 + max f.dep (max badTc.dep 0)) 0 ≤ 40
    omega
  have c2 : (badF f).cnt ≤ 2000 := by
    unfold badF
    rw [Fm.cnt_mk]
    show 1 + ((Fm.mk .con [f, badTc]).cnt + 0) ≤ 2000
    rw [Fm.cnt_mk]
    show 1 + (1 + (f.cnt + (badTc.cnt + 0)) + 0) ≤ 2000
    omega
  have q1 : badTc.PosOk := .mk (fun n us as e => nomatch e) fun p hp => by
    rw [List.mem_singleton.mp hp]
    exact .mk (fun n us as e => nomatch e) fun p hp => nomatch hp
  have t1 : badTc.Typed Γ := .other (fun z => nomatch z) fun p hp => by
    rw [List.mem_singleton.mp hp]
    exact .other (fun z => nomatch z) fun p hp => nomatch hp
  refine ⟨badF_ok k.ok, d2, c2, ?_, Γ, ?_⟩
  · refine .mk (fun n us as e => nomatch e) fun p hp => ?_
    rw [List.mem_singleton.mp hp]
    refine .mk (fun n us as e => nomatch e) fun p hp => ?_
    rcases (show p = f ∨ p = badTc by simpa using hp) with rfl | rfl
    · exact k.pos
    · exact q1
  · refine .other (fun z => nomatch z) fun p hp => ?_
    rw [List.mem_singleton.mp hp]
    refine .other (fun z => nomatch z) fun p hp => ?_
    rcases (show p = f ∨ p = badTc by simpa using hp) with rfl | rfl
    · exact ty
    · exact t1
def spLaw (K : PySem.W.Frag) : Sp := fun vs H Q _ => ∃ (a : Addr) (ns : List Int), vs = [.ref a] ∧ SqL K H a (ns.map V.int) ∧ ns.length ≤ 63 ∧ ∀ H' : Hp, Q (.bl true) H'
theorem Gen.sz5 {ks pool : List Str} {ns : List NE} {Γ : ArE} {f : Fm} {n : Nat} (g : Gen ks pool ns Γ f n) (h : n ≤ 5) : f.dep ≤ 5 ∧ f.cnt ≤ 121 := by
  have c := g.cnt
  have d := g.dep
  have e : 3 ^ n ≤ 3 ^ 5 := Nat.pow_le_pow_right (by decide) h
  have e2 : (3 : Nat) ^ 5 = 243 := by decide
  omega
theorem Gen.wf5 {ks pool : List Str} {ns : List NE} {Γ : ArE} {f : Fm} {n : Nat} (g : Gen ks pool ns Γ f n) (h : n ≤ 5) : f.Wf := by
  have z := g.sz5 h
  exact ⟨g.ok, by omega, by omega, g.po, Γ, g.ty⟩
section
variable {P : Program} {w : World} {K : PySem.W.Frag} {mg : Str → Option Value} {base : Heap}
theorem sc_law : FnScope ["script", "draws", "n", "rows", "turn", "pool", "f", "g", "again", "values", "told", "bad", "x", "one"] ["script"] (defScope (top 101)) := ⟨rfl, rfl, rfl, by decide +kernel, rfl, by decide +kernel, by decide +kernel⟩
theorem ok_law {f : Addr} {fd : FuncData} (F : FnP K "law" (top 101) f fd) (T : Txt mg)
    (C1 : Has P w K mg base 2 "_law_numbers" ["script"] (spNumbers K)) (C2 : Has P w K mg base 2 "_law_draw" ["draws"] spDraw) (C3 : Has P w K mg base 3 "_law_names" ["draws"] (spNamesL K)) (C4 : ∀ n : Nat, Has P w K mg base (4 + 2 * n) "_law_formula" ["draws", "deep", "pool", "names", "kinds"] (spForm K n))
    (C5 : Has P w K mg base 1 "_law_rows" ["relations"] (spRows K)) (C6 : Has P w K mg base 4 "_law_world" ["draws", "n"] (spWorld K)) (C7 : Has P w K mg base 50 "_law_theirs" [] (spTheirs K)) (C8 : ∀ N, Has P w K mg base (2 + N) "_law_quantifiers" ["f"] (spQuants K N))
    (C9 : HasX (L2.CX P w) P w K mg base 50 "prenex" ["formula"] (spPrenex K)) (C10 : Has P w K mg base 47 "check_formula" ["formula"] (spCheck K)) (C11 : ∀ N, Has P w K mg base (2 + N) "_law_plain" ["f"] (spIsQf K N)) (C12 : Has P w K mg base 1 "_law_matrix" ["f"] (spMatrix K))
    (C13 : ∀ N, Has P w K mg base (2 + N) "_law_free" ["f"] (spFrees K N)) (C14 : ∀ N, Has P w K mg base (2 + N) "_law_symbols" ["f"] (spLS K N)) (C15 : ∀ N, Has P w K mg base (2 + N) "_law_cost" ["f", "n"] (spCostF K N)) (C16 : Has P w K mg base 1 "_law_with" ["values", "names", "row"] (spWith K))
    (C17 : ∀ N, Has P w K mg base (2 + N) "_law_true" ["f", "n", "rows", "values"] (spTrueF K N)) (C18 : Has P w K mg base 51 "_law_refused" ["f"] (spRefP K)) :
    FnOk P w K mg base CX0 52 f fd ["script"] (spLaw K) := by
  obtain ⟨a1, b1, G_law_numbers, g_law_numbers, k_law_numbers, b_law_numbers⟩ := C1
  obtain ⟨a2, b2, G_law_draw, g_law_draw, k_law_draw, b_law_draw⟩ := C2
  obtain ⟨a3, b3, G_law_names, g_law_names, k_law_names, b_law_names⟩ := C3
  obtain ⟨a4, b4, G_law_formula, g_law_formula, k_law_formula, b_law_formula⟩ := C4 5
  obtain ⟨a5, b5, G_law_rows, g_law_rows, k_law_rows, b_law_rows⟩ := C5
  obtain ⟨a6, b6, G_law_world, g_law_world, k_law_world, b_law_world⟩ := C6
  obtain ⟨a7, b7, G_law_theirs, g_law_theirs, k_law_theirs, b_law_theirs⟩ := C7
  obtain ⟨a8, b8, G_law_quantifiers, g_law_quantifiers, k_law_quantifiers, b_law_quantifiers⟩ := C8 40
  obtain ⟨a9, b9, G_prenex, g_prenex, k_prenex, b_prenex⟩ := C9
  obtain ⟨a10, b10, G_check_formula, g_check_formula, k_check_formula, b_check_formula⟩ := C10
  obtain ⟨a11, b11, G_law_plain, g_law_plain, k_law_plain, b_law_plain⟩ := C11 40
  obtain ⟨a12, b12, G_law_matrix, g_law_matrix, k_law_matrix, b_law_matrix⟩ := C12
  obtain ⟨a13, b13, G_law_free, g_law_free, k_law_free, b_law_free⟩ := C13 40
  obtain ⟨a14, b14, G_law_symbols, g_law_symbols, k_law_symbols, b_law_symbols⟩ := C14 40
  obtain ⟨a15, b15, G_law_cost, g_law_cost, k_law_cost, b_law_cost⟩ := C15 40
  obtain ⟨a16, b16, G_law_with, g_law_with, k_law_with, b_law_with⟩ := C16
  obtain ⟨a17, b17, G_law_true, g_law_true, k_law_true, b_law_true⟩ := C17 40
  obtain ⟨a18, b18, G_law_refused, g_law_refused, k_law_refused, b_law_refused⟩ := C18
  refine F.ok sc_law (fun vs H Q E h => ?_) (fun cdv A outer s H vs Q E hr h => ?_)
  · obtain ⟨a, ns, rfl, _⟩ := h; rfl
  · obtain ⟨a, ns, rfl, hS, hlen, q⟩ := h
    have R_law_numbers : Room 2 _ := hr.mono (by decide)
    have R_law_draw : Room 2 _ := hr.mono (by decide)
    have R_law_names : Room 3 _ := hr.mono (by decide)
    have R_law_formula : Room (4 + 2 * 5) _ := hr.mono (by decide)
    have R_law_rows : Room 1 _ := hr.mono (by decide)
    have R_law_world : Room 4 _ := hr.mono (by decide)
    have R_law_theirs : Room 50 _ := hr.mono (by decide)
    have R_law_quantifiers : Room (2 + 40) _ := hr.mono (by decide)
    have R_prenex : Room 50 _ := hr.mono (by decide)
    have R_check_formula : Room 47 _ := hr.mono (by decide)
    have R_law_plain : Room (2 + 40) _ := hr.mono (by decide)
    have R_law_matrix : Room 1 _ := hr.mono (by decide)
    have R_law_free : Room (2 + 40) _ := hr.mono (by decide)
    have R_law_symbols : Room (2 + 40) _ := hr.mono (by decide)
    have R_law_cost : Room (2 + 40) _ := hr.mono (by decide)
    have R_law_with : Room 1 _ := hr.mono (by decide)
    have R_law_true : Room (2 + 40) _ := hr.mono (by decide)
    have R_law_refused : Room 51 _ := hr
    refine ⟨_, PSs.nox (pss_cons (ps_set (i := 1) sc_law.nd rfl (Or.inr rfl) (pe_lst (pa_cons (pe_call G_law_numbers R_law_numbers (by rfl) g_law_numbers k_law_numbers b_law_numbers .nil pass0 (pa_cons (pv 0) pa_nil)) (pa_cons pe_int pa_nil)))) (pss_cons (ps_set (i := 2) sc_law.nd rfl (Or.inr rfl) (pe_op op_add pe_int (pe_op op_mod (pe_call G_law_draw R_law_draw (by rfl) g_law_draw k_law_draw b_law_draw .nil pass0 (pa_cons (pv 1) pa_nil)) pe_int))) (pss_cons (ps_set (i := 3) sc_law.nd rfl (Or.inl rfl) (pe_call G_law_rows R_law_rows (by rfl) g_law_rows k_law_rows b_law_rows .nil pass0 (pa_cons (pe_call G_law_world R_law_world (by rfl) g_law_world k_law_world b_law_world .nil pass0 (pa_cons (pv 1) (pa_cons (pv 2) pa_nil))) pa_nil))) (pss_cons (ps_for PassesOwn.never rfl (pi_range1 (by rfl) T.n_range (pa_cons pe_int pa_nil)) (pg_name (i := 4) sc_law.nd rfl (Or.inl rfl)) (pss_cons (ps_set (i := 5) sc_law.nd rfl (Or.inl rfl) (pe_ix ix_list (pe_lst (pa_cons (pe_lst (pa_cons pe_str (pa_cons pe_str (pa_cons pe_str pa_nil)))) (pa_cons (pe_lst (pa_cons pe_str (pa_cons pe_str (pa_cons pe_str pa_nil)))) (pa_cons (pe_call0 G_law_theirs R_law_theirs (by rfl) g_law_theirs k_law_theirs b_law_theirs .nil pass0) pa_nil)))) (pe_op op_mod (pe_call G_law_draw R_law_draw (by rfl) g_law_draw k_law_draw b_law_draw .nil pass0 (pa_cons (pv 1) pa_nil)) pe_int) (fun _ _ => rfl))) (pss_cons (ps_set (i := 6) sc_law.nd rfl (Or.inr rfl) (pe_call G_law_formula R_law_formula (by rfl) g_law_formula k_law_formula b_law_formula .nil pass0 (pa_cons (pv 1) (pa_cons (pe_op op_add pe_int (pe_op op_mod (pe_call G_law_draw R_law_draw (by rfl) g_law_draw k_law_draw b_law_draw .nil pass0 (pa_cons (pv 1) pa_nil)) pe_int)) (pa_cons (pv 5) (pa_cons (pe_call G_law_names R_law_names (by rfl) g_law_names k_law_names b_law_names .nil pass0 (pa_cons (pv 1) pa_nil)) (pa_cons (pe_lst (pa_cons pe_str (pa_cons pe_str pa_nil))) pa_nil))))))) (pss_cons (ps_if (pt_cmpR op_gt (pe_call G_law_quantifiers R_law_quantifiers (by rfl) g_law_quantifiers k_law_quantifiers b_law_quantifiers .nil pass0 (pa_cons (pv 6) pa_nil)) pe_int (nomark _)) (pss_one ps_continue) pss_nil) (pss_cons (ps_set (i := 7) sc_law.nd rfl (Or.inl rfl) (pe_call G_prenex R_prenex (by rfl) g_prenex k_prenex b_prenex .nil passL (pa_cons (pv 6) pa_nil))) (pss_cons (ps_if (PW.pt (pw_or (pt_cmpR op_notN (pe_call G_check_formula R_check_formula (by rfl) g_check_formula k_check_formula b_check_formula .nil pass0 (pa_cons (pv 7) pa_nil)) pe_non (nomark _)) (pw_or1 (pt_not (pt_val (pe_call G_law_plain R_law_plain (by rfl) g_law_plain k_law_plain b_law_plain .nil pass0 (pa_cons (pe_call G_law_matrix R_law_matrix (by rfl) g_law_matrix k_law_matrix b_law_matrix .nil pass0 (pa_cons (pv 7) pa_nil)) pa_nil))))))) (pss_one (ps_ret pe_bl)) pss_nil) (pss_cons (ps_if (pt_cmpR op_gt (pe_callB call_len_seq (by rfl) T.n_len PySem.boot_len (pa_cons (pe_lc (own := [("x", 12)]) rfl sc_law.nd (pi_list (pe_call G_law_free R_law_free (by rfl) g_law_free k_law_free b_law_free .nil pass0 (pa_cons (pv 7) pa_nil))) (blkOk_by (N := ["script", "draws", "n", "rows", "turn", "pool", "f", "g", "again", "values", "told", "bad", "x", "one"]) (sc := defScope (top 101)) (by decide +kernel)) (fun _ _ _ _ _ => (pg_name (i := 12) sc_law.nd rfl (Or.inl rfl))) (fun _ _ _ _ _ => (pts_one (pt_cmpR (op_notIn_seqK (K := K) rfl) (pv 12) (pe_call G_law_free R_law_free (by rfl) g_law_free k_law_free b_law_free .nil pass0 (pa_cons (pv 6) pa_nil)) (by rfl)))) (fun _ _ _ _ _ => (pv 12))) pa_nil)) pe_int (nomark _)) (pss_one (ps_ret pe_bl)) pss_nil) (pss_cons (ps_if (pt_cmpR op_gt (pe_callB call_len_seq (by rfl) T.n_len PySem.boot_len (pa_cons (pe_lc (own := [("one", 13)]) rfl sc_law.nd (pi_list (pe_call G_law_symbols R_law_symbols (by rfl) g_law_symbols k_law_symbols b_law_symbols .nil pass0 (pa_cons (pv 7) pa_nil))) (blkOk_by (N := ["script", "draws", "n", "rows", "turn", "pool", "f", "g", "again", "values", "told", "bad", "x", "one"]) (sc := defScope (top 101)) (by decide +kernel)) (fun _ _ _ _ _ => (pg_name (i := 13) sc_law.nd rfl (Or.inl rfl))) (fun _ _ _ _ _ => (pts_one (pt_cmpR (op_notInDK (K := K) rfl (hu65 hr)) (pv 13) (pe_call G_law_symbols R_law_symbols (by rfl) g_law_symbols k_law_symbols b_law_symbols .nil pass0 (pa_cons (pv 6) pa_nil)) (by rfl)))) (fun _ _ _ _ _ => (pv 13))) pa_nil)) pe_int (nomark _)) (pss_one (ps_ret pe_bl)) pss_nil) (pss_cons (ps_if (pt_cmpR op_gt (pe_call G_law_cost R_law_cost (by rfl) g_law_cost k_law_cost b_law_cost .nil pass0 (pa_cons (pv 6) (pa_cons (pv 2) pa_nil))) pe_int (nomark _)) (pss_one ps_continue) pss_nil) (pss_one (ps_for PassesOwn.never rfl (pi_range1 (by rfl) T.n_range (pa_cons pe_int pa_nil)) (pg_name (i := 8) sc_law.nd rfl (Or.inl rfl)) (pss_cons (ps_set (i := 9) sc_law.nd rfl (Or.inl rfl) (pe_call G_law_with R_law_with (by rfl) g_law_with k_law_with b_law_with .nil pass0 (pa_cons pe_dnewK (pa_cons (pv 5) (pa_cons (pe_callTy call_tuple_of (by rfl) T.n_tuple (by decide +kernel) (pa_cons (pe_lc (own := [("x", 12)]) rfl sc_law.nd (pi_list (pv 5)) (blkOk_by (N := ["script", "draws", "n", "rows", "turn", "pool", "f", "g", "again", "values", "told", "bad", "x", "one"]) (sc := defScope (top 101)) (by decide +kernel)) (fun _ _ _ _ _ => (pg_name (i := 12) sc_law.nd rfl (Or.inl rfl))) (fun _ _ _ _ _ => pts_nil) (fun _ _ _ _ _ => (pe_op op_mod (pe_call G_law_draw R_law_draw (by rfl) g_law_draw k_law_draw b_law_draw .nil pass0 (pa_cons (pv 1) pa_nil)) (pv 2)))) pa_nil)) pa_nil))))) (pss_cons (ps_asg pe_int (pg_sub (pe_dget (hu_of hr) (pv 3) pe_str (fun _ _ => rfl)) pe_int set_list)) (pss_cons (ps_set (i := 10) sc_law.nd rfl (Or.inl rfl) (pe_lst (pa_cons (pe_call G_law_true R_law_true (by rfl) g_law_true k_law_true b_law_true .nil pass0 (pa_cons (pv 6) (pa_cons (pv 2) (pa_cons (pv 3) (pa_cons (pv 9) pa_nil))))) (pa_cons (pe_call G_law_true R_law_true (by rfl) g_law_true k_law_true b_law_true .nil pass0 (pa_cons (pv 7) (pa_cons (pv 2) (pa_cons (pv 3) (pa_cons (pv 9) pa_nil))))) pa_nil)))) (pss_one (ps_if (PW.pt (pw_and (pt_cmpR op_ge (pe_ix ix_list (pe_dget (hu_of hr) (pv 3) pe_str (fun _ _ => rfl)) pe_int (fun _ _ => rfl)) pe_int (nomark _)) (pw_and1 (pt_cmpR op_ne (pe_ix ix_list (pv 10) pe_int (fun _ _ => rfl)) (pe_ix ix_list (pv 10) pe_int (fun _ _ => rfl)) (nomark _))))) (pss_one (ps_ret pe_bl)) pss_nil)))))))))))))))) (pss_cons (ps_set (i := 11) sc_law.nd rfl (Or.inl rfl) (pe_call G_law_formula R_law_formula (by rfl) g_law_formula k_law_formula b_law_formula .nil pass0 (pa_cons (pv 1) (pa_cons pe_int (pa_cons (pe_lst (pa_cons pe_str (pa_cons pe_str pa_nil))) (pa_cons (pe_call G_law_names R_law_names (by rfl) g_law_names k_law_names b_law_names .nil pass0 (pa_cons (pv 1) pa_nil)) (pa_cons (pe_lst (pa_cons pe_str (pa_cons pe_str (pa_cons pe_str (pa_cons pe_str pa_nil))))) pa_nil))))))) (pss_cons (ps_set (i := 11) sc_law.nd rfl (Or.inl rfl) (pe_tup (pa_cons pe_str (pa_cons (pe_tup (pa_cons (pv 11) (pa_cons (pe_tup (pa_cons pe_str (pa_cons (pe_tup (pa_cons pe_str (pa_cons pe_str pa_nil))) (pa_cons (pe_tup (pa_cons pe_str (pa_cons pe_str (pa_cons pe_str pa_nil)))) (pa_cons (pe_tup (pa_cons pe_str (pa_cons pe_str pa_nil))) pa_nil))))) pa_nil))) pa_nil)))) (pss_one (ps_ret (pe_call G_law_refused R_law_refused (by rfl) g_law_refused k_law_refused b_law_refused .nil pass0 (pa_cons (pe_tup (pa_cons pe_str (pa_cons (pv 11) pa_nil))) pa_nil)))))))))), ?_⟩
    refine ⟨_, rfl, a, ns, rfl, hS, hlen, fun H1 p ms s1 np hp sm => ⟨(by show 2 ≤ sizeLine; decide), fun d nd => ?_⟩⟩
    have dr0 : DrA (upd H1 d (.lst [.ref p, .int 0])) d p := ⟨0, ms, upd_same, by rw [upd_ne (ne_of_none hp nd)]; exact hp, sm⟩
    revert dr0
    generalize upd H1 d (.lst [.ref p, .int 0]) = H2
    intro dr0
    refine ⟨_, rfl, d, p, rfl, dr0, fun z1 H3 _ _ dr3 k3 => ?_⟩
    refine ⟨_, _, rfl, rfl, (by show (0 : Int) < 3; decide), _, _, rfl, rfl, ?_⟩
    obtain ⟨n, hn, n1, n4⟩ : ∃ n : Nat, 1 + z1 % 3 = (n : Int) ∧ 1 ≤ n ∧ n ≤ 4 := ⟨(1 + z1 % 3).toNat, by omega, by omega, by omega⟩
    show gName 2 (V.int (1 + z1 % 3)) _ _ _
    rw [hn]
    refine ⟨_, rfl, _, rfl, d, p, n, rfl, dr3, n1, n4, fun H4 pw ys W dr4 k4 npw hpw dW eW sW => ?_⟩
    refine ⟨pw, ys, W, rfl, hpw, dW, eW, fun H5 ra la J s5 nra nla rr hla eJ => ?_⟩
    have dr5 := dr4.same s5
    obtain ⟨nlad, nlap⟩ := dr4.ne nla
    clear sW eW dW hpw k4 npw dr4 eJ nra s5 k3 dr3
    -- what is kept from turn to turn
    refine ⟨3, rfl, by decide, by decide, for_range (n := 3) (fun i σ H => ∃ (y4 y5 y6 y7 y8 y9 y10 : Option V) (L : Int), σ = [some (.ref a), some (.ref d), some (.int (n : Nat)), some (.ref ra), y4, y5, y6, y7, y8, y9, y10, none, none, none] ∧ DrA H d p ∧ RowsR K H ra la J ∧ H la = some (.lst [.int L]))
      ⟨none, none, none, none, none, none, none, 40000, rfl, dr5, rr, hla⟩ ?_ ?_⟩
    · rintro i σ H6 hi ⟨y4, y5, y6, y7, y8, y9, y10, L, rfl, dr6, rr6, hla6⟩
      -- the pool
      refine ⟨(by show 3 ≤ sizeLine; decide), fun q1 m1 => ⟨(by show 3 ≤ sizeLine; decide), fun q2 m2 => ⟨rfl, fun H8 r8 us s8 nr8 hr8 nmU ndU lU => ⟨(by show 3 ≤ sizeLine; decide), fun q5 m5 => ?_⟩⟩⟩⟩
      have t1 := same_upd (o := .lst [.str "x", .str "y", .str "z"]) m1
      have t2 := same_upd (o := .lst [.str "x", .str "e", .str "p"]) m2
      have t5 := same_upd (o := .lst [.ref q1, .ref q2, .ref r8]) m5
      have t68 := (t1.trans t2).trans s8
      have t69 := t68.trans t5
      have nd1 := (dr6.ne m1).1
      have nd2 := ((dr6.same t1).ne m2).1
      have nd8 := (((dr6.same t1).same t2).ne nr8).1
      have nd5 := ((dr6.same t68).ne m5).1
      have dr9 := dr6.same t69
      have rr9 := rr6.kp (.of t69) hla6
      have hla9 := t69 _ _ hla6
      have c1 : (upd H8 q5 (.lst [.ref q1, .ref q2, .ref r8])) q1 = some (.lst ((["x", "y", "z"] : List Str).map V.str)) := t5 _ _ (s8 _ _ (t2 _ _ upd_same))
      have c2 : (upd H8 q5 (.lst [.ref q1, .ref q2, .ref r8])) q2 = some (.lst ((["x", "e", "p"] : List Str).map V.str)) := t5 _ _ (s8 _ _ upd_same)
      have c8 : (upd H8 q5 (.lst [.ref q1, .ref q2, .ref r8])) r8 = some (.lst (us.map V.str)) := t5 _ _ hr8
      have c5 : (upd H8 q5 (.lst [.ref q1, .ref q2, .ref r8])) q5 = some (.lst [.ref q1, .ref q2, .ref r8]) := upd_same
      clear t1 t2 t5 t68 t69 hr8 s8
      revert c1 c2 c8 c5 dr9 rr9 hla9
      generalize upd H8 q5 (.lst [.ref q1, .ref q2, .ref r8]) = H9
      intro dr9 rr9 hla9 c1 c2 c8 c5
      refine ⟨_, rfl, d, p, rfl, dr9, fun z6 H10 _ _ dr10 k10 => ?_⟩
      have rr10 := rr9.kpd dr9 k10
      have hla10 := k10 _ _ hla9 nlad
      obtain ⟨v6, hv6, hat6⟩ := atI_mod (xs := [.ref q1, .ref q2, .ref r8]) z6 (by show 0 < 3; decide)
      refine ⟨_, _, rfl, rfl, (by show (0 : Int) < 3; decide), q5, _, _, _, rfl, rfl, SqL.of (k10 _ _ c5 nd5), hat6, ?_⟩
      obtain ⟨pool, pv, hpv, nvd, pok, p3, rfl⟩ : ∃ (pool : List Str) (pv : Addr), H10 pv = some (.lst (pool.map V.str)) ∧ pv ≠ d ∧ Pool pool ∧ pool.length = 3 ∧ v6 = .ref pv := by
        have mk : ∀ l : List Str, (l.all nmB && decide l.Nodup && decide (l.length = 3)) = true → Pool l ∧ l.length = 3 := fun l b => by
          simp only [Bool.and_eq_true, decide_eq_true_eq] at b
          exact ⟨⟨fun v hv => nm_of (List.all_eq_true.mp b.1.1 v hv), b.1.2, by omega, by omega⟩, b.2⟩
        simp only [List.mem_cons, List.not_mem_nil, or_false] at hv6
        rcases hv6 with rfl | rfl | rfl
        · obtain ⟨a1, a2⟩ := mk ["x", "y", "z"] (by decide +kernel)
          exact ⟨_, q1, k10 _ _ c1 nd1, nd1, a1, a2, rfl⟩
        · obtain ⟨a1, a2⟩ := mk ["x", "e", "p"] (by decide +kernel)
          exact ⟨_, q2, k10 _ _ c2 nd2, nd2, a1, a2, rfl⟩
        · exact ⟨_, r8, k10 _ _ c8 nd8, nd8, ⟨nmU, ndU, by omega, by omega⟩, lU, rfl⟩
      clear c1 c2 c8 c5 k10 hat6 hv6 dr9 rr9 hla9 dr6 rr6 hla6
      -- the formula
      refine ⟨_, rfl, _, rfl, d, p, rfl, dr10, fun z8 H11 _ _ dr11 k11 => ?_⟩
      refine ⟨_, _, rfl, rfl, (by show (0 : Int) < 4; decide), _, _, rfl, rfl, ?_⟩
      obtain ⟨nA, hnA, n2A, n5A⟩ : ∃ n : Nat, 2 + z8 % 4 = (n : Int) ∧ 2 ≤ n ∧ n ≤ 5 := ⟨(2 + z8 % 4).toNat, by omega, by omega, by omega⟩
      refine ⟨_, rfl, _, rfl, d, p, rfl, dr11, fun H12 rn nl Γ dr12 k12 dn nok nlen nmem => ?_⟩
      have rr12 := (rr10.kpd dr10 k11).kpd dr11 k12
      have hla12 := k12 _ _ (k11 _ _ hla10 nlad) nlad
      have hpv12 := k12 _ _ (k11 _ _ hpv nvd) nvd
      refine ⟨(by show 2 ≤ sizeLine; decide), fun c nc => ?_⟩
      have tc := same_upd (o := .lst [.str "some", .str "all"]) nc
      have ncd := (dr12.ne nc).1
      have dpl : Dp K (upd H12 c (.lst [.str "some", .str "all"])) (.ref pv) (.list (pool.map PyData.str)) := .lst (SqL.of (tc _ _ hpv12)) (DpAll.of_strs _)
      have dk : Dk K (upd H12 c (.lst [.str "some", .str "all"])) (.ref c) ["some", "all"] := ⟨["some", "all"], by decide, fun x hx => ⟨by
        rcases (show x = "some" ∨ x = "all" by simpa using hx) with rfl | rfl <;> decide +kernel, hx⟩, .lst (xs := (["some", "all"] : List Str).map V.str) (SqL.of upd_same) (DpAll.of_strs _)⟩
      refine ⟨d, p, _, .ref pv, rn, .ref c, ["some", "all"], pool, nl, Γ, nA, rfl, hnA, by omega, ⟨dr12.same tc, dpl, Dp.same tc dn, dk, nok, pok, by omega⟩, fun H13 fv f dr13 k13 df gf => ?_⟩
      have dr12' := dr12.same tc
      have rr13 := (rr12.kp (.of tc) hla12).kpd dr12' k13
      have hla13 := k13 _ _ (tc _ _ hla12) nlad
      have hpv13 := k13 _ _ (tc _ _ hpv12) nvd
      clear dpl dk tc dr12' rr12 hla12 hpv12 k11 k12 k13 dr10 dr11 dr12 rr10 hla10 hpv dn
      have wf := gf.wf5 n5A
      have sz := gf.sz5 n5A
      have fo : f.fo = true := fo_kws f gf.kd
      have fr40 : Fr20 f := Occ.fr _ gf.oc (by omega)
      have sy : ∀ s, s ∈ f.syms → s.1 ∈ epq := fun s hs => by
        obtain ⟨q', hq', e1, e2⟩ := gf.sy s hs
        have := nmem q' hq'
        rw [← e1]
        simp only [namesL, List.mem_cons, List.not_mem_nil, or_false] at this
        rcases this with rfl | rfl | rfl <;> decide +kernel
      have next : ∀ (H' : Hp) (y5 y6 y7 y8 y9 y10 : Option V) (L' : Int), DrA H' d p → RowsR K H' ra la J → H' la = some (.lst [.int L']) → ∃ (y4' y5' y6' y7' y8' y9' y10' : Option V) (L'' : Int), ([some (.ref a), some (.ref d), some (.int (n : Nat)), some (.ref ra), some (.int (0 + (i : Nat))), y5, y6, y7, y8, y9, y10, none, none, none] : L2.St) = [some (.ref a), some (.ref d), some (.int (n : Nat)), some (.ref ra), y4', y5', y6', y7', y8', y9', y10', none, none, none] ∧ DrA H' d p ∧ RowsR K H' ra la J ∧ H' la = some (.lst [.int L'']) := fun H' y5 y6 y7 y8 y9 y10 L' a1 a2 a3 => ⟨_, _, _, _, _, _, _, L', rfl, a1, a2, a3⟩
      refine ⟨_, rfl, fv, f, rfl, df, wf.ok, fo, by omega, fun H14 s14 => ?_⟩
      refine ⟨_, _, rfl, rfl, _, rfl, ite2 (fun e => next H14 _ _ _ _ _ _ L (dr13.same s14) (rr13.kp (.of s14) hla13) (s14 _ _ hla13)) (fun e => ?_)⟩
      have lB : f.allB.length ≤ 20 := by
        have : ¬ ((20 : Int) < (f.allB.length : Nat)) := fun z => e (decide_eq_true z)
        omega
      clear e
      have vl := vars_len f wf.ok
      refine ⟨_, rfl, fv, f, rfl, Dp.same s14 df, wf, fun _ => ⟨fr40, lB, by omega, by omega, by omega, fun H15 gv g0 s15 sm ap nmB gfo dg => ?_⟩, fun z => absurd (z.symm.trans fo) (by decide)⟩
      have s1315 := s14.trans s15
      have g0wf := sm.wf wf
      have gl : g0.allB.length ≤ 20 := by rw [sm_lenB sm]; exact lB
      have pw := prenex_wf g0wf gfo ap nmB gl (by rw [sm.sizes.1]; omega) (by rw [sm.sizes.2]; omega)
      have gsub : ∀ x, x ∈ (prenexF g0).frees → x ∈ f.frees := fun x hx => by
        obtain ⟨y, hy, e⟩ := (sm.frees x).mp (prenex_frees g0wf.ok gfo x hx)
        rw [e]; exact hy
      have gsy : ∀ s, s ∈ (prenexF g0).syms → s ∈ f.syms := fun s hs => sm_syms sm s ((pull_left g0 g0wf.ok gfo false).sy s (wrap_syms _ hs))
      have occG : Occ (pool ++ g0.allB) (prenexF g0) := by
        refine ⟨fun x hx => ?_, fun x hx => ?_⟩
        · rcases vars_fb _ x hx with z | z
          · exact List.mem_append_left _ (gf.oc.vs x (frees_vars _ x (gsub x z)))
          · rw [prenex_allB g0wf.ok gfo] at z
            exact List.mem_append_right _ z
        · exact gf.oc.rs x (sm_rns sm x ((pull_left g0 g0wf.ok gfo false).rn x (wrap_rns _ hx)))
      have frG : Fr20 (prenexF g0) := Occ.fr _ occG (by rw [List.length_append]; omega)
      obtain ⟨Γg, tyG⟩ := pw.1.ty
      have semEq : ∀ v : Str → Nat, (prenexF g0).sem n J.rl v = f.sem n J.rl v := fun v => by
        rw [prenex_sem (by omega) J.rl g0wf.ok gfo ap v]
        exact (sm_sem sm wf.ok v v (fun x _ => rfl)).symm
      -- the result is a formula, its matrix is plain
      refine ⟨_, rfl, gv, prenexF g0, rfl, dg, pw.1, fun H16 r16 s16 e16 => ?_⟩
      subst e16
      refine ⟨rfl, _, rfl, cF (k := !decide (V.non = V.non)) (by decide) ?_⟩
      have Lf := pull_left g0 g0wf.ok gfo false
      have Bl := blks_ok (g0.pull false).1
      have bl60 : (blks (g0.pull false).1).length ≤ 60 := by
        have h1 := Bl.few
        have h2 : (g0.pull false).1.length = g0.allB.length := by rw [← pull_vars g0 g0wf.ok gfo false, List.length_map]
        omega
      refine ⟨_, rfl, gv, blks (g0.pull false).1, (g0.pull false).2, rfl, Dp.same s16 dg, Lf.ok, Lf.qf, bl60, fun mv dm => ?_⟩
      refine ⟨mv, (g0.pull false).2, rfl, dm, Lf.ok, Lf.qf, by have := Lf.dep; have := sm.sizes.1; omega, fun H17 s17 => ⟨true, rfl, iteF ?_⟩⟩
      have s1317 := (s1315.trans s16).trans s17
      have s1517 := s16.trans s17
      -- its free variables
      refine ⟨_, rfl, gv, prenexF g0, rfl, Dp.same s1517 dg, pw.1.ok, frG, by have := pw.2.1; omega, fun H18 r18 ss s18 nr18 hr18 so => ?_⟩
      refine ⟨r18, rfl, ⟨_, SqL.of hr18⟩, fun L0 nL0 => ?_⟩
      have s1318 := s1317.trans s18
      refine lc_it (walk_list (K := K) (a := r18) (xs := ss.map V.str)) (fun i H => Same H18 H ∧ H L0 = some (.lst [])) ⟨same_upd nL0, upd_same⟩ (fun i H _ ⟨s, _⟩ => SqL.of (s _ _ hr18)) ?_ ?_
      · rintro j y HA HB hj ⟨sA, hL⟩ ⟨rfl, hy⟩
        obtain ⟨x, hx, rfl⟩ := get_map hy
        have xm := (so.mem x).mp (List.mem_of_getElem? hx)
        refine ⟨rfl, _, rfl, _, rfl, fv, f, rfl, Dp.same (s1318.trans sA) df, wf.ok, fr40, by omega, fun HC rC sf sC nrC hrC soC => ?_⟩
        have xs : x ∈ sf := (soC.mem x).mpr (gsub x xm)
        exact ⟨rC, _, rfl, .inl (SqL.of hrC), rfl, flat_strs _, _, rfl, cF (k := !inV (.str x) (sf.map V.str)) (by rw [inV_str, decide_eq_true xs]; rfl) ⟨sA.trans sC, sC _ _ hL⟩⟩
      rintro H19 ⟨s19, hL19⟩
      refine ⟨L0, _, rfl, .inl (SqL.of hL19), _, _, rfl, rfl, _, rfl, cF (k := decide (((([] : List V).length : Nat) : Int) > 0)) (by decide +kernel) ?_⟩
      have s1319 := s1318.trans s19
      have s1519 := (s1517.trans s18).trans s19
      -- its symbols
      refine ⟨_, rfl, gv, prenexF g0, _, Γg, rfl, Dp.same s1519 dg, pw.1.ok, tyG, occG, by have := pw.2.1; omega, fun H20 r20 xs20 ss20 s20 nr20 hr20 ti20 so20 => ?_⟩
      refine ⟨r20, rfl, ⟨_, SqL.of hr20⟩, fun L1 nL1 => ?_⟩
      have s1320 := s1319.trans s20
      refine lc_it (walk_list (K := K) (a := r20) (xs := xs20)) (fun i H => Same H20 H ∧ H L1 = some (.lst [])) ⟨same_upd nL1, upd_same⟩ (fun i H _ ⟨s, _⟩ => SqL.of (s _ _ hr20)) ?_ ?_
      · rintro j y HA HB hj ⟨sA, hL⟩ ⟨rfl, hy⟩
        obtain ⟨t, q0, rfl, hq, ht⟩ := ti20.get hy
        have qm := (so20.mem q0).mp (List.mem_of_getElem? hq)
        refine ⟨rfl, _, rfl, _, rfl, fv, f, pool, Γ, rfl, Dp.same (s1320.trans sA) df, wf.ok, gf.ty, gf.oc, by omega, fun HC rC xsC sf sC nrC hrC tiC soC => ?_⟩
        have xs : q0 ∈ sf := (soC.mem q0).mpr (gsy q0 qm)
        have q5 : q0.1 ∈ five := gf.oc.rs _ (syms_rns _ q0 (gsy q0 qm))
        have f5 : ∀ z, z ∈ sf → z.1 ∈ five := fun z hz => gf.oc.rs _ (syms_rns _ z ((soC.mem z).mp hz))
        refine ⟨sD q0, sf.map sD, .tup (SqT.of (sC _ _ (sA _ _ ht))) (.cons (.str _) (.cons (.int _) .nil)), .lst (SqL.of hrC) (TIs.dp tiC), shaped_sD q5, shapeds_sD f5, _, rfl, ?_⟩
        rw [any_sD]
        exact cF (k := !decide (q0 ∈ sf)) (by rw [decide_eq_true xs]; rfl) ⟨sA.trans sC, sC _ _ hL⟩
      rintro H21 ⟨s21, hL21⟩
      refine ⟨L1, _, rfl, .inl (SqL.of hL21), _, _, rfl, rfl, _, rfl, cF (k := decide (((([] : List V).length : Nat) : Int) > 0)) (by decide +kernel) ?_⟩
      have s1321 := s1320.trans s21
      have s1521 := (s1519.trans s20).trans s21
      -- the cost
      refine ⟨_, rfl, _, rfl, fv, n, f, rfl, n1, by omega, Dp.same s1321 df, wf.ok, fo, by omega, fun H22 zc s22 _ _ => ?_⟩
      have s1322 := s1321.trans s22
      have s1522 := s1521.trans s22
      have dr22 := dr13.same s1322
      have rr22 := rr13.kp (.of s1322) hla13
      have hla22 := s1322 _ _ hla13
      have hpv22 := s1322 _ _ hpv13
      have df22 := Dp.same s1322 df
      have dg22 := Dp.same s1522 dg
      refine ⟨_, _, rfl, rfl, _, rfl, ite2 (fun e => next H22 _ _ _ _ _ _ L dr22 rr22 hla22) (fun e => ?_)⟩
      clear s1322 s1522 s1321 s1521 s1320 s1319 s1519 s1318 s1317 s1517 s1315 hr18 hr20 hL19 hL21 ti20 nL0 nL1 nr18 nr20 s18 s19 s20 s21 s22 dg df dr13 rr13 hla13 hpv13 s14 s15 s16 s17 dm
      have hnf := Fm.noL f
      have hng := Fm.noL (prenexF g0)
      have symG : ∀ s, s ∈ (prenexF g0).syms → s.1 ∈ epq := fun s hs => sy s (gsy s hs)
      have freeF : ∀ x, x ∈ f.frees → x ∈ ([] : List Str) ++ pool := fun x hx => gf.oc.vs x (frees_vars _ x hx)
      have freeG : ∀ x, x ∈ (prenexF g0).frees → x ∈ ([] : List Str) ++ pool := fun x hx => freeF x (gsub x hx)
      have depG := pw.2.1
      have foG : (prenexF g0).fo = true := wrap_fo (qf_fo _ (pull_left g0 g0wf.ok gfo false).qf) _
      refine ⟨2, rfl, by decide, by decide, for_range (n := 2) (fun j σ H => ∃ (y8 y9 y10 : Option V) (L : Int), σ = [some (.ref a), some (.ref d), some (.int (n : Nat)), some (.ref ra), some (.int (0 + (i : Nat))), some (.ref pv), some fv, some gv, y8, y9, y10, none, none, none] ∧ DrA H d p ∧ RowsR K H ra la J ∧ H la = some (.lst [.int L]) ∧ H pv = some (.lst (pool.map V.str)) ∧ Dp K H fv f.data ∧ Dp K H gv (prenexF g0).data)
        ⟨_, _, _, L, rfl, dr22, rr22, hla22, hpv22, df22, dg22⟩ ?_ ?_⟩
      · rintro j σ HJ hj ⟨y8, y9, y10, LJ, rfl, drJ, rrJ, hlaJ, hpvJ, dfJ, dgJ⟩
        have nvl : pv ≠ la := fun z => by
          rw [z, hlaJ] at hpvJ
          have e2 := HO.lst.inj (Option.some.inj hpvJ)
          have e3 := congrArg List.length e2
          rw [List.length_map, p3] at e3
          simp at e3
        refine fun e ne => ⟨_, rfl, _, rfl, pv, rfl, ⟨_, SqL.of (same_upd ne _ _ hpvJ)⟩, fun M nM => ?_⟩
        have te := same_upd (o := .dK []) ne
        have drE := drJ.same te
        have nMd := (drE.ne nM).1
        have nMl := (drE.ne nM).2
        have ned := (drJ.ne ne).1
        have tM := same_upd (o := .lst []) nM
        refine lc_it (walk_list (K := K) (a := pv) (xs := pool.map V.str)) (fun j H3 => ∃ r : List Nat, r.length = j ∧ DrA H3 d p ∧ Kp d (upd HJ e (.dK [])) H3 ∧ H3 M = some (.lst (rowV r)))
          ⟨[], rfl, drE.same tM, .of tM, upd_same⟩ (fun j H3 _ ⟨_, _, _, k3, _⟩ => SqL.of (k3 _ _ (te _ _ hpvJ) nvd)) ?_ ?_
        · rintro j2 y H3 H4 hj2 ⟨r, lr, dr3, k3, hM⟩ ⟨rfl, hy⟩
          obtain ⟨x, hx, rfl⟩ := get_map hy
          have jl : j2 < 3 := by
            have := (List.getElem?_eq_some_iff.mp hx).1
            omega
          refine ⟨rfl, _, rfl, d, p, rfl, dr3, fun z H5 _ _ dr5 k5 => ?_⟩
          refine ⟨_, rfl, _, _, rfl, rfl, (by show (0 : Int) < (n : Nat); omega), ?_⟩
          obtain ⟨q, hq⟩ : ∃ q : Nat, z % ((n : Nat) : Int) = (q : Int) := ⟨(z % ((n : Nat) : Int)).toNat, by
            have := Int.emod_nonneg z (b := ((n : Nat) : Int)) (by omega)
            omega⟩
          have hM5 := k5 _ _ hM nMd
          refine ⟨rowV r, hM5, small1000 (by rw [rowV, List.length_map]; omega), r ++ [q], by rw [List.length_append, lr]; rfl, dr5.kp Kp.upd ⟨nMd, nMl⟩, kp_own (k3.trans k5) nM, ?_⟩
          show upd _ _ _ M = some (.lst ((r ++ [q]).map _))
          rw [upd_same, List.map_append]
          show some (HO.lst (rowV r ++ [V.int (z % ((n : Nat) : Int))])) = _
          rw [hq]
          rfl
        rintro H5 ⟨r, lr, dr5, k5, hM5⟩
        rw [List.length_map] at lr
        refine ⟨M, rowV r, rfl, .inl ⟨SqL.of hM5, fun v nv => ?_⟩⟩
        have tv := same_upd (o := .tup (rowV r)) nv
        have k5e : Kp d HJ H5 := (Kp.of te).trans k5
        have dr6 := dr5.same tv
        have he6 := tv _ _ (k5 _ _ upd_same ned)
        have rr6 := (rrJ.kpd drJ k5e).kp (.of tv) (k5e _ _ hlaJ nlad)
        have hla6 := tv _ _ (k5e _ _ hlaJ nlad)
        have hpv6 := tv _ _ (k5e _ _ hpvJ nvd)
        have df6 := Dp.same tv (Dp.kl (Kl.dr k5e drJ) dfJ hnf)
        have dg6 := Dp.same tv (Dp.kl (Kl.dr k5e drJ) dgJ hng)
        have hv6 : SqT K (upd H5 v (.tup (rowV r))) v (rowV r) := SqT.of upd_same
        clear tv te tM k5 k5e hM5 drE nM dr5 nv rrJ hlaJ hpvJ dfJ dgJ drJ ne
        revert dr6 he6 rr6 hla6 hpv6 df6 dg6 hv6
        generalize upd H5 v (.tup (rowV r)) = H6
        intro dr6 he6 rr6 hla6 hpv6 df6 dg6 hv6
        refine ⟨e, pv, v, [], pool, fun _ => 0, r, 0, rfl, ⟨[], he6, Nat.zero_le _, fun x hx => nomatch hx⟩, .inl (SqL.of hpv6), hv6, lr, by omega, by omega, fun H7 e7 s7 _ vd7 => ?_⟩
        generalize upds (fun _ => 0) pool r = av at vd7
        have dr7 := dr6.same s7
        have rr7 := rr6.kp (.of s7) hla6
        have hla7 := s7 _ _ hla6
        have hpv7 := s7 _ _ hpv6
        have df7 := Dp.same s7 df6
        have dg7 := Dp.same s7 dg6
        clear s7 dr6 rr6 hla6 hpv6 df6 dg6 hv6 he6
        refine ⟨_, rfl, ra, _, rfl, rr7.left, la, _, _, 0, rfl, rfl, hla7, rfl, ?_⟩
        have ku : Kp la H7 (upd H7 la (.lst ([V.int LJ].set 0 (V.int 20000)))) := Kp.upd
        have kl := Kl.kp ku hla7
        have dr8 := dr7.kp ku ⟨nlad, nlap⟩
        have rr8 := rr7.kp ku hla7
        have hla8 : (upd H7 la (.lst ([V.int LJ].set 0 (V.int 20000)))) la = some (.lst [.int 20000]) := upd_same
        have hpv8 := ku _ _ hpv7 nvl
        have df8 := Dp.kl kl df7 hnf
        have dg8 := Dp.kl kl dg7 hng
        have vd8 := vd7.kl kl
        clear ku kl dr7 rr7 hla7 hpv7 df7 dg7 vd7
        revert dr8 rr8 hla8 hpv8 df8 dg8 vd8
        generalize upd H7 la (.lst ([V.int LJ].set 0 (V.int 20000))) = H8
        intro dr8 rr8 hla8 hpv8 df8 dg8 vd8
        refine ⟨_, rfl, _, rfl, _, rfl, _, rfl, fv, n, ra, e7, la, _, av, _, J, _, f, rfl, df8, wf.ok, fo, by omega, rr8, hla8, vd8, freeF, by omega, sy, n1, by omega, fun H9 b9 L9 k9 hla9 _ eq9 => ?_⟩
        have kl9 := Kl.kp k9 hla8
        refine ⟨_, rfl, _, rfl, _, rfl, _, rfl, gv, n, ra, e7, la, _, av, _, J, _, prenexF g0, rfl, Dp.kl kl9 dg8 hng, pw.1.ok, foG, depG, rr8.kp k9 hla8, hla9, vd8.kl kl9, freeG, by omega, symG, n1, by omega, fun H10 b10 L10 k10 hla10 lt10 eq10 => ?_⟩
        refine ⟨(by show 2 ≤ sizeLine; decide), fun t nt => ?_⟩
        have tt := same_upd (o := .lst [.bl b9, .bl b10]) nt
        have ht : (upd H10 t (.lst [.bl b9, .bl b10])) t = some (.lst [.bl b9, .bl b10]) := upd_same
        have k8 := (k9.trans k10).trans (.of tt)
        have kl8 := Kl.kp k8 hla8
        have dr11 := dr8.kp k8 ⟨nlad, nlap⟩
        have rr11 := rr8.kp k8 hla8
        have hla11 := tt _ _ hla10
        have hpv11 := k8 _ _ hpv8 nvl
        have df11 := Dp.kl kl8 df8 hnf
        have dg11 := Dp.kl kl8 dg8 hng
        refine ⟨_, rfl, ra, _, rfl, rr11.left, la, _, _, _, rfl, rfl, SqL.of hla11, atI_nat (j := 0) rfl, _, _, rfl, rfl, _, rfl, ite2 (fun e => ?_) (fun e => ?_)⟩
        · have l10 : 0 ≤ L10 := of_decide_eq_true e
          have same9 : b9 = b10 := by
            rw [eq9 (by omega), eq10 l10, semEq]
          refine ⟨_, rfl, t, _, _, _, rfl, rfl, SqL.of ht, atI_nat (j := 0) rfl, _, rfl, t, _, _, _, rfl, rfl, SqL.of ht, atI_nat (j := 1) rfl, rfl, _, rfl, cF (k := !decide (V.bl b9 = V.bl b10)) (nd_f (by rw [same9])) ?_⟩
          exact ⟨_, _, _, L10, rfl, dr11, rr11, hla11, hpv11, df11, dg11⟩
        · exact iteF ⟨_, _, _, L10, rfl, dr11, rr11, hla11, hpv11, df11, dg11⟩
      · rintro σ HJ ⟨y8, y9, y10, LJ, rfl, drJ, rrJ, hlaJ, _⟩
        exact next HJ _ _ _ _ _ _ LJ drJ rrJ hlaJ
    · rintro σ HJ ⟨y4, y5, y6, y7, y8, y9, y10, L, rfl, drJ, rrJ, hlaJ⟩
      refine ⟨_, rfl, (by show 2 ≤ sizeLine; decide), fun q1 m1 => ⟨_, rfl, d, p, rfl, drJ.same (same_upd m1), fun H1 rn nl Γ dr1 k1 dn nok nlen nmem => ⟨(by show 4 ≤ sizeLine; decide), fun c nc => ?_⟩⟩⟩
      have nq1 := (drJ.ne m1).1
      have ncd := (dr1.ne nc).1
      have tc := same_upd (o := .lst [.str "lfp", .str "pfp", .str "tc", .str "guess"]) nc
      have hq1 : (upd H1 c (.lst [.str "lfp", .str "pfp", .str "tc", .str "guess"])) q1 = some (.lst ((["x", "y"] : List Str).map V.str)) := tc _ _ (k1 _ _ upd_same nq1)
      have dk : Dk K (upd H1 c (.lst [.str "lfp", .str "pfp", .str "tc", .str "guess"])) (.ref c) ["lfp", "pfp", "tc", "guess"] := ⟨["lfp", "pfp", "tc", "guess"], by decide, fun x hx => ⟨by
        rcases (show x = "lfp" ∨ x = "pfp" ∨ x = "tc" ∨ x = "guess" by simpa using hx) with rfl | rfl | rfl | rfl <;> decide +kernel, hx⟩, .lst (xs := (["lfp", "pfp", "tc", "guess"] : List Str).map V.str) (SqL.of upd_same) (DpAll.of_strs _)⟩
      have po : Pool ["x", "y"] := ⟨fun v hv => nm_of (List.all_eq_true.mp (show ((["x", "y"] : List Str).all nmB) = true by decide +kernel) v hv), by decide +kernel, by decide, by decide⟩
      refine ⟨d, p, _, .ref q1, rn, .ref c, ["lfp", "pfp", "tc", "guess"], ["x", "y"], nl, Γ, 3, rfl, rfl, by decide, ⟨dr1.same tc, .lst (SqL.of hq1) (DpAll.of_strs _), Dp.same tc dn, dk, nok, po, by omega⟩, fun H2 fv f dr2 k2 df gf => ?_⟩
      have wf := gf.wf5 (by decide)
      have sz := gf.sz5 (by decide)
      refine ⟨_, rfl, (by show 2 ≤ sizeLine; decide), fun t1 n1' => ⟨(by show 3 ≤ sizeLine; decide), fun t2 n2' => ⟨(by show 2 ≤ sizeLine; decide), fun t3 n3' => ⟨(by show 4 ≤ sizeLine; decide), fun t4 n4' => ⟨(by show 2 ≤ sizeLine; decide), fun t5 n5' => ⟨(by show 2 ≤ sizeLine; decide), fun t6 n6' => ⟨_, rfl, (by show 2 ≤ sizeLine; decide), fun t7 n7' => ?_⟩⟩⟩⟩⟩⟩⟩
      have s1 := same_upd (o := .tup [.str "x", .str "y"]) n1'
      have s2 := same_upd (o := .tup [.str "eq", .str "x", .str "y"]) n2'
      have s3 := same_upd (o := .tup [.str "x", .str "x"]) n3'
      have s4 := same_upd (o := .tup [.str "tc", .ref t1, .ref t2, .ref t3]) n4'
      have s5 := same_upd (o := .tup [fv, .ref t4]) n5'
      have s6 := same_upd (o := .tup [.str "and", .ref t5]) n6'
      have s7 := same_upd (o := .tup [.str "not", .ref t6]) n7'
      have s67 := s6.trans s7
      have s57 := s5.trans s67
      have s47 := s4.trans s57
      have s37 := s3.trans s47
      have s27 := s2.trans s37
      refine ⟨.ref t7, badF f, rfl, ?_, badF_wf wf (by omega) (by omega), badF_fo f, fun H' _ => q H'⟩
      rw [badF_data]
      refine .tup (SqT.of upd_same) (.cons (.str _) (.cons (.tup (SqT.of (s7 _ _ upd_same)) (.cons (.str _) (.cons (.tup (SqT.of (s67 _ _ upd_same)) (.cons (Dp.same (s1.trans s27) df) (.cons (.tup (SqT.of (s57 _ _ upd_same)) ?_) .nil))) .nil))) .nil))
      exact .cons (.str _) (.cons (.tup (SqT.of (s27 _ _ upd_same)) (.cons (.str _) (.cons (.str _) .nil))) (.cons (.tup (SqT.of (s37 _ _ upd_same)) (.cons (.str _) (.cons (.str _) (.cons (.str _) .nil)))) (.cons (.tup (SqT.of (s47 _ _ upd_same)) (.cons (.str _) (.cons (.str _) .nil))) .nil)))
end
theorem thB_ok {K : PySem.W.Frag} {x : Str} {kvs : List (Str × He.Dv)} (h : thB K x kvs = true) : ∀ k v, (k, v) ∈ kvs.map (fun p => (p.1, p.2.v K)) → ∃ u, PySem.W.nsIn K (He.ga K x) k = some (some u) ∧ RelV v u := by
  intro k v hm
  obtain ⟨p, hp, e⟩ := List.mem_map.mp hm
  have e1 : p.1 = k := congrArg Prod.fst e
  have e2 : p.2.v K = v := congrArg Prod.snd e
  have z := List.all_eq_true.mp h p hp
  rw [← e1, ← e2]
  cases q : PySem.W.nsIn K (He.ga K x) p.1 with
  | none => rw [q] at z; cases z
  | some o =>
    rw [q] at z
    cases o with
    | none => cases z
    | some u => exact ⟨u, rfl, He.relB_ok z⟩
theorem msB_ok {K : PySem.W.Frag} {x : Str} {ks : List Str} (h : msB K x ks = true) : Miss K x ks := by
  intro k hk
  have z := List.all_eq_true.mp h k hk
  cases q : PySem.W.nsIn K (He.ga K x) k with
  | none => rw [q] at z; cases z
  | some o =>
    rw [q] at z
    cases o with
    | none => rfl
    | some u => cases z
theorem facts {P : Program} {w : World} {K : PySem.W.Frag} {h : Heap} {mg : Str → Option Value} {f : Addr} (X : K.In h) (G : h.Ns mainGlobals mg) (hfa : mg ("law" : Str) = some (.ref f)) (c : He.SaysX fas fns tabs [] exs w h K) :
    ∃ fd : FuncData, (∀ (s : Shared) (v : Value), BindsTo s fd ⟨[v], []⟩ [("script", v)]) ∧ ∀ base : Heap, K.In base → base.Ns mainGlobals mg → FnOk P w K mg base CX0 52 f fd ["script"] (spLaw K) := by
  have cd := c.t.d
  obtain ⟨fd_is_whole, F_is_whole⟩ := cd.def_ 0 (d := d_is_whole) rfl
  have g_is_whole := He.glo_ok X G (cd.fact 0 (f := .glo "is_whole") rfl)
  have D_is_whole : Def K mg "is_whole" ["value"] (top 6) := ⟨_, fd_is_whole, F_is_whole, g_is_whole, FunD.bindsN F_is_whole fun _ _ _ _ _ _ us hl => match us, hl with | [_], _ => rfl⟩
  obtain ⟨fd_is_between, F_is_between⟩ := cd.def_ 1 (d := d_is_between) rfl
  have g_is_between := He.glo_ok X G (cd.fact 1 (f := .glo "is_between") rfl)
  have D_is_between : Def K mg "is_between" ["value", "low", "high"] (top 7) := ⟨_, fd_is_between, F_is_between, g_is_between, FunD.bindsN F_is_between fun _ _ _ _ _ _ us hl => match us, hl with | [_, _, _], _ => rfl⟩
  obtain ⟨fd_is_name, F_is_name⟩ := cd.def_ 2 (d := d_is_name) rfl
  have g_is_name := He.glo_ok X G (cd.fact 2 (f := .glo "is_name") rfl)
  have D_is_name : Def K mg "is_name" ["text"] (top 13) := ⟨_, fd_is_name, F_is_name, g_is_name, FunD.bindsN F_is_name fun _ _ _ _ _ _ us hl => match us, hl with | [_], _ => rfl⟩
  obtain ⟨fd_are_variables, F_are_variables⟩ := cd.def_ 3 (d := d_are_variables) rfl
  have g_are_variables := He.glo_ok X G (cd.fact 3 (f := .glo "_are_variables") rfl)
  have D_are_variables : Def K mg "_are_variables" ["value", "counts"] (top 24) := ⟨_, fd_are_variables, F_are_variables, g_are_variables, FunD.bindsN F_are_variables fun _ _ _ _ _ _ us hl => match us, hl with | [_, _], _ => rfl⟩
  obtain ⟨fd_are_different, F_are_different⟩ := cd.def_ 4 (d := d_are_different) rfl
  have g_are_different := He.glo_ok X G (cd.fact 4 (f := .glo "are_different") rfl)
  have D_are_different : Def K mg "are_different" ["value", "counts"] (top 25) := ⟨_, fd_are_different, F_are_different, g_are_different, FunD.bindsN F_are_different fun _ _ _ _ _ _ us hl => match us, hl with | [_, _], _ => rfl⟩
  obtain ⟨fd_is_rel, F_is_rel⟩ := cd.def_ 5 (d := d_is_rel) rfl
  have g_is_rel := He.glo_ok X G (cd.fact 5 (f := .glo "_is_rel") rfl)
  have D_is_rel : Def K mg "_is_rel" ["value"] (top 26) := ⟨_, fd_is_rel, F_is_rel, g_is_rel, FunD.bindsN F_is_rel fun _ _ _ _ _ _ us hl => match us, hl with | [_], _ => rfl⟩
  obtain ⟨fd_is_comparison, F_is_comparison⟩ := cd.def_ 6 (d := d_is_comparison) rfl
  have g_is_comparison := He.glo_ok X G (cd.fact 6 (f := .glo "_is_comparison") rfl)
  have D_is_comparison : Def K mg "_is_comparison" ["value"] (top 27) := ⟨_, fd_is_comparison, F_is_comparison, g_is_comparison, FunD.bindsN F_is_comparison fun _ _ _ _ _ _ us hl => match us, hl with | [_], _ => rfl⟩
  obtain ⟨fd_is_negation, F_is_negation⟩ := cd.def_ 7 (d := d_is_negation) rfl
  have g_is_negation := He.glo_ok X G (cd.fact 7 (f := .glo "_is_negation") rfl)
  have D_is_negation : Def K mg "_is_negation" ["_value"] (top 28) := ⟨_, fd_is_negation, F_is_negation, g_is_negation, FunD.bindsN F_is_negation fun _ _ _ _ _ _ us hl => match us, hl with | [_], _ => rfl⟩
  obtain ⟨fd_is_joined, F_is_joined⟩ := cd.def_ 8 (d := d_is_joined) rfl
  have g_is_joined := He.glo_ok X G (cd.fact 8 (f := .glo "_is_joined") rfl)
  have D_is_joined : Def K mg "_is_joined" ["value"] (top 29) := ⟨_, fd_is_joined, F_is_joined, g_is_joined, FunD.bindsN F_is_joined fun _ _ _ _ _ _ us hl => match us, hl with | [_], _ => rfl⟩
  obtain ⟨fd_is_quantified, F_is_quantified⟩ := cd.def_ 9 (d := d_is_quantified) rfl
  have g_is_quantified := He.glo_ok X G (cd.fact 9 (f := .glo "_is_quantified") rfl)
  have D_is_quantified : Def K mg "_is_quantified" ["value"] (top 30) := ⟨_, fd_is_quantified, F_is_quantified, g_is_quantified, FunD.bindsN F_is_quantified fun _ _ _ _ _ _ us hl => match us, hl with | [_], _ => rfl⟩
  obtain ⟨fd_is_fixed_point, F_is_fixed_point⟩ := cd.def_ 10 (d := d_is_fixed_point) rfl
  have g_is_fixed_point := He.glo_ok X G (cd.fact 10 (f := .glo "_is_fixed_point") rfl)
  have D_is_fixed_point : Def K mg "_is_fixed_point" ["value"] (top 31) := ⟨_, fd_is_fixed_point, F_is_fixed_point, g_is_fixed_point, FunD.bindsN F_is_fixed_point fun _ _ _ _ _ _ us hl => match us, hl with | [_], _ => rfl⟩
  obtain ⟨fd_is_closure, F_is_closure⟩ := cd.def_ 11 (d := d_is_closure) rfl
  have g_is_closure := He.glo_ok X G (cd.fact 11 (f := .glo "_is_closure") rfl)
  have D_is_closure : Def K mg "_is_closure" ["value"] (top 32) := ⟨_, fd_is_closure, F_is_closure, g_is_closure, FunD.bindsN F_is_closure fun _ _ _ _ _ _ us hl => match us, hl with | [_], _ => rfl⟩
  obtain ⟨fd_is_guess, F_is_guess⟩ := cd.def_ 12 (d := d_is_guess) rfl
  have g_is_guess := He.glo_ok X G (cd.fact 12 (f := .glo "_is_guess") rfl)
  have D_is_guess : Def K mg "_is_guess" ["value"] (top 33) := ⟨_, fd_is_guess, F_is_guess, g_is_guess, FunD.bindsN F_is_guess fun _ _ _ _ _ _ us hl => match us, hl with | [_], _ => rfl⟩
  obtain ⟨fd_is_shape, F_is_shape⟩ := cd.def_ 13 (d := d_is_shape) rfl
  have g_is_shape := He.glo_ok X G (cd.fact 13 (f := .glo "is_shape") rfl)
  have D_is_shape : Def K mg "is_shape" ["value"] (top 35) := ⟨_, fd_is_shape, F_is_shape, g_is_shape, FunD.bindsN F_is_shape fun _ _ _ _ _ _ us hl => match us, hl with | [_], _ => rfl⟩
  obtain ⟨fd_inner, F_inner⟩ := cd.def_ 14 (d := d_inner) rfl
  have g_inner := He.glo_ok X G (cd.fact 14 (f := .glo "inner") rfl)
  have D_inner : Def K mg "inner" ["formula"] (top 36) := ⟨_, fd_inner, F_inner, g_inner, FunD.bindsN F_inner fun _ _ _ _ _ _ us hl => match us, hl with | [_], _ => rfl⟩
  obtain ⟨fd_with_item, F_with_item⟩ := cd.def_ 15 (d := d_with_item) rfl
  have g_with_item := He.glo_ok X G (cd.fact 15 (f := .glo "_with_item") rfl)
  have D_with_item : Def K mg "_with_item" ["formula", "at", "item"] (top 37) := ⟨_, fd_with_item, F_with_item, g_with_item, FunD.bindsN F_with_item fun _ _ _ _ _ _ us hl => match us, hl with | [_, _, _], _ => rfl⟩
  obtain ⟨fd_with_inner, F_with_inner⟩ := cd.def_ 16 (d := d_with_inner) rfl
  have g_with_inner := He.glo_ok X G (cd.fact 16 (f := .glo "with_inner") rfl)
  have D_with_inner : Def K mg "with_inner" ["formula", "changed"] (top 38) := ⟨_, fd_with_inner, F_with_inner, g_with_inner, FunD.bindsN F_with_inner fun _ _ _ _ _ _ us hl => match us, hl with | [_, _], _ => rfl⟩
  obtain ⟨fd_own, F_own⟩ := cd.def_ 17 (d := d_own) rfl
  have g_own := He.glo_ok X G (cd.fact 17 (f := .glo "own") rfl)
  have D_own : Def K mg "own" ["formula"] (top 39) := ⟨_, fd_own, F_own, g_own, FunD.bindsN F_own fun _ _ _ _ _ _ us hl => match us, hl with | [_], _ => rfl⟩
  obtain ⟨fd_with_own, F_with_own⟩ := cd.def_ 18 (d := d_with_own) rfl
  have g_with_own := He.glo_ok X G (cd.fact 18 (f := .glo "with_own") rfl)
  have D_with_own : Def K mg "with_own" ["formula", "variables"] (top 40) := ⟨_, fd_with_own, F_with_own, g_with_own, FunD.bindsN F_with_own fun _ _ _ _ _ _ us hl => match us, hl with | [_, _], _ => rfl⟩
  obtain ⟨fd_arguments, F_arguments⟩ := cd.def_ 19 (d := d_arguments) rfl
  have g_arguments := He.glo_ok X G (cd.fact 19 (f := .glo "arguments") rfl)
  have D_arguments : Def K mg "arguments" ["formula"] (top 41) := ⟨_, fd_arguments, F_arguments, g_arguments, FunD.bindsN F_arguments fun _ _ _ _ _ _ us hl => match us, hl with | [_], _ => rfl⟩
  obtain ⟨fd_with_arguments, F_with_arguments⟩ := cd.def_ 20 (d := d_with_arguments) rfl
  have g_with_arguments := He.glo_ok X G (cd.fact 20 (f := .glo "with_arguments") rfl)
  have D_with_arguments : Def K mg "with_arguments" ["formula", "variables"] (top 42) := ⟨_, fd_with_arguments, F_with_arguments, g_with_arguments, FunD.bindsN F_with_arguments fun _ _ _ _ _ _ us hl => match us, hl with | [_, _], _ => rfl⟩
  obtain ⟨fd_bound_name, F_bound_name⟩ := cd.def_ 21 (d := d_bound_name) rfl
  have g_bound_name := He.glo_ok X G (cd.fact 21 (f := .glo "bound_name") rfl)
  have D_bound_name : Def K mg "bound_name" ["formula"] (top 43) := ⟨_, fd_bound_name, F_bound_name, g_bound_name, FunD.bindsN F_bound_name fun _ _ _ _ _ _ us hl => match us, hl with | [_], _ => rfl⟩
  obtain ⟨fd_bound_arity, F_bound_arity⟩ := cd.def_ 22 (d := d_bound_arity) rfl
  have g_bound_arity := He.glo_ok X G (cd.fact 22 (f := .glo "bound_arity") rfl)
  have D_bound_arity : Def K mg "bound_arity" ["formula"] (top 44) := ⟨_, fd_bound_arity, F_bound_arity, g_bound_arity, FunD.bindsN F_bound_arity fun _ _ _ _ _ _ us hl => match us, hl with | [_], _ => rfl⟩
  obtain ⟨fd_check_shapes, F_check_shapes⟩ := cd.def_ 23 (d := d_check_shapes) rfl
  have g_check_shapes := He.glo_ok X G (cd.fact 23 (f := .glo "_check_shapes") rfl)
  have D_check_shapes : Def K mg "_check_shapes" ["value", "levels_left", "parts_left"] (top 48) := ⟨_, fd_check_shapes, F_check_shapes, g_check_shapes, FunD.bindsN F_check_shapes fun _ _ _ _ _ _ us hl => match us, hl with | [_, _, _], _ => rfl⟩
  obtain ⟨fd_arities_in, F_arities_in⟩ := cd.def_ 24 (d := d_arities_in) rfl
  have g_arities_in := He.glo_ok X G (cd.fact 24 (f := .glo "arities_in") rfl)
  have D_arities_in : Def K mg "arities_in" ["formula"] (top 49) := ⟨_, fd_arities_in, F_arities_in, g_arities_in, FunD.bindsN F_arities_in fun _ _ _ _ _ _ us hl => match us, hl with | [_], _ => rfl⟩
  obtain ⟨fd_is_positive_in, F_is_positive_in⟩ := cd.def_ 25 (d := d_is_positive_in) rfl
  have g_is_positive_in := He.glo_ok X G (cd.fact 25 (f := .glo "is_positive_in") rfl)
  have D_is_positive_in : Def K mg "is_positive_in" ["formula", "name", "sign"] (top 50) := ⟨_, fd_is_positive_in, F_is_positive_in, g_is_positive_in, FunD.bindsN F_is_positive_in fun _ _ _ _ _ _ us hl => match us, hl with | [_, _, _], _ => rfl⟩
  obtain ⟨fd_check_fixed_points, F_check_fixed_points⟩ := cd.def_ 26 (d := d_check_fixed_points) rfl
  have g_check_fixed_points := He.glo_ok X G (cd.fact 26 (f := .glo "_check_fixed_points") rfl)
  have D_check_fixed_points : Def K mg "_check_fixed_points" ["formula"] (top 51) := ⟨_, fd_check_fixed_points, F_check_fixed_points, g_check_fixed_points, FunD.bindsN F_check_fixed_points fun _ _ _ _ _ _ us hl => match us, hl with | [_], _ => rfl⟩
  obtain ⟨fd_check_formula, F_check_formula⟩ := cd.def_ 27 (d := d_check_formula) rfl
  have g_check_formula := He.glo_ok X G (cd.fact 27 (f := .glo "check_formula") rfl)
  have D_check_formula : Def K mg "check_formula" ["formula"] (top 52) := ⟨_, fd_check_formula, F_check_formula, g_check_formula, FunD.bindsN F_check_formula fun _ _ _ _ _ _ us hl => match us, hl with | [_], _ => rfl⟩
  obtain ⟨fd_within_bounds, F_within_bounds⟩ := cd.def_ 28 (d := d_within_bounds) rfl
  have g_within_bounds := He.glo_ok X G (cd.fact 28 (f := .glo "within_bounds") rfl)
  have D_within_bounds : Def K mg "within_bounds" ["formula"] (top 53) := ⟨_, fd_within_bounds, F_within_bounds, g_within_bounds, FunD.bindsN F_within_bounds fun _ _ _ _ _ _ us hl => match us, hl with | [_], _ => rfl⟩
  obtain ⟨fd_pfree, F_pfree⟩ := cd.def_ 29 (d := d_pfree) rfl
  have g_pfree := He.glo_ok X G (cd.fact 29 (f := .glo "_free") rfl)
  have D_pfree : Def K mg "_free" ["formula"] (top 54) := ⟨_, fd_pfree, F_pfree, g_pfree, FunD.bindsN F_pfree fun _ _ _ _ _ _ us hl => match us, hl with | [_], _ => rfl⟩
  obtain ⟨fd_free, F_free⟩ := cd.def_ 30 (d := d_free) rfl
  have g_free := He.glo_ok X G (cd.fact 30 (f := .glo "free") rfl)
  have D_free : Def K mg "free" ["formula"] (top 55) := ⟨_, fd_free, F_free, g_free, FunD.bindsN F_free fun _ _ _ _ _ _ us hl => match us, hl with | [_], _ => rfl⟩
  obtain ⟨fd_variables_in, F_variables_in⟩ := cd.def_ 31 (d := d_variables_in) rfl
  have g_variables_in := He.glo_ok X G (cd.fact 31 (f := .glo "variables_in") rfl)
  have D_variables_in : Def K mg "variables_in" ["formula"] (top 56) := ⟨_, fd_variables_in, F_variables_in, g_variables_in, FunD.bindsN F_variables_in fun _ _ _ _ _ _ us hl => match us, hl with | [_], _ => rfl⟩
  obtain ⟨fd_pfo, F_pfo⟩ := cd.def_ 32 (d := d_pfo) rfl
  have g_pfo := He.glo_ok X G (cd.fact 32 (f := .glo "_is_first_order") rfl)
  have D_pfo : Def K mg "_is_first_order" ["formula"] (top 57) := ⟨_, fd_pfo, F_pfo, g_pfo, FunD.bindsN F_pfo fun _ _ _ _ _ _ us hl => match us, hl with | [_], _ => rfl⟩
  obtain ⟨fd_is_first_order, F_is_first_order⟩ := cd.def_ 33 (d := d_is_first_order) rfl
  have g_is_first_order := He.glo_ok X G (cd.fact 33 (f := .glo "is_first_order") rfl)
  have D_is_first_order : Def K mg "is_first_order" ["formula"] (top 58) := ⟨_, fd_is_first_order, F_is_first_order, g_is_first_order, FunD.bindsN F_is_first_order fun _ _ _ _ _ _ us hl => match us, hl with | [_], _ => rfl⟩
  obtain ⟨fd_Names___init__, F_Names___init__⟩ := cd.def_ 34 (d := d_Names___init__) rfl
  have D_Names___init__ : DefM K "Names" "__init__" "Names.__init__" ["self", "barred", "known"] (inClass (top 60) 0) := ⟨_, fd_Names___init__, F_Names___init__, He.meth_ok (cd.fact 34 (f := .meth "Names" "__init__") rfl), FunD.bindsN F_Names___init__ fun _ _ _ _ _ _ us hl => match us, hl with | [_, _, _], _ => rfl⟩
  obtain ⟨fd_Names_fresh, F_Names_fresh⟩ := cd.def_ 35 (d := d_Names_fresh) rfl
  have D_Names_fresh : DefM K "Names" "fresh" "Names.fresh" ["self"] (inClass (top 60) 1) := ⟨_, fd_Names_fresh, F_Names_fresh, He.meth_ok (cd.fact 35 (f := .meth "Names" "fresh") rfl), FunD.bindsN F_Names_fresh fun _ _ _ _ _ _ us hl => match us, hl with | [_], _ => rfl⟩
  obtain ⟨fd_Names_instead_of, F_Names_instead_of⟩ := cd.def_ 36 (d := d_Names_instead_of) rfl
  have D_Names_instead_of : DefM K "Names" "instead_of" "Names.instead_of" ["self", "name"] (inClass (top 60) 2) := ⟨_, fd_Names_instead_of, F_Names_instead_of, He.meth_ok (cd.fact 36 (f := .meth "Names" "instead_of") rfl), FunD.bindsN F_Names_instead_of fun _ _ _ _ _ _ us hl => match us, hl with | [_, _], _ => rfl⟩
  obtain ⟨fd_renamed, F_renamed⟩ := cd.def_ 37 (d := d_renamed) rfl
  have g_renamed := He.glo_ok X G (cd.fact 37 (f := .glo "renamed") rfl)
  have D_renamed : Def K mg "renamed" ["formula", "changes", "source"] (top 61) := ⟨_, fd_renamed, F_renamed, g_renamed, FunD.bindsN F_renamed fun _ _ _ _ _ _ us hl => match us, hl with | [_, _, _], _ => rfl⟩
  obtain ⟨fd_apart, F_apart⟩ := cd.def_ 38 (d := d_apart) rfl
  have g_apart := He.glo_ok X G (cd.fact 38 (f := .glo "apart") rfl)
  have D_apart : Def K mg "apart" ["formula"] (top 64) := ⟨_, fd_apart, F_apart, g_apart, FunD.bindsN F_apart fun _ _ _ _ _ _ us hl => match us, hl with | [_], _ => rfl⟩
  obtain ⟨fd_pulled_out, F_pulled_out⟩ := cd.def_ 39 (d := d_pulled_out) rfl
  have g_pulled_out := He.glo_ok X G (cd.fact 39 (f := .glo "_pulled_out") rfl)
  have D_pulled_out : Def K mg "_pulled_out" ["formula", "negated"] (top 65) := ⟨_, fd_pulled_out, F_pulled_out, g_pulled_out, FunD.bindsN F_pulled_out fun _ _ _ _ _ _ us hl => match us, hl with | [_, _], _ => rfl⟩
  obtain ⟨fd_blocks, F_blocks⟩ := cd.def_ 40 (d := d_blocks) rfl
  have g_blocks := He.glo_ok X G (cd.fact 40 (f := .glo "_blocks") rfl)
  have D_blocks : Def K mg "_blocks" ["prefix"] (top 66) := ⟨_, fd_blocks, F_blocks, g_blocks, FunD.bindsN F_blocks fun _ _ _ _ _ _ us hl => match us, hl with | [_], _ => rfl⟩
  obtain ⟨fd_prenex, F_prenex⟩ := cd.def_ 41 (d := d_prenex) rfl
  have g_prenex := He.glo_ok X G (cd.fact 41 (f := .glo "prenex") rfl)
  have D_prenex : Def K mg "prenex" ["formula"] (top 67) := ⟨_, fd_prenex, F_prenex, g_prenex, FunD.bindsN F_prenex fun _ _ _ _ _ _ us hl => match us, hl with | [_], _ => rfl⟩
  obtain ⟨fd_law_mixed, F_law_mixed⟩ := cd.def_ 42 (d := d_law_mixed) rfl
  have g_law_mixed := He.glo_ok X G (cd.fact 42 (f := .glo "_law_mixed") rfl)
  have D_law_mixed : Def K mg "_law_mixed" ["number", "k"] (top 69) := ⟨_, fd_law_mixed, F_law_mixed, g_law_mixed, FunD.bindsN F_law_mixed fun _ _ _ _ _ _ us hl => match us, hl with | [_, _], _ => rfl⟩
  obtain ⟨fd_law_numbers, F_law_numbers⟩ := cd.def_ 43 (d := d_law_numbers) rfl
  have g_law_numbers := He.glo_ok X G (cd.fact 43 (f := .glo "_law_numbers") rfl)
  have D_law_numbers : Def K mg "_law_numbers" ["script"] (top 70) := ⟨_, fd_law_numbers, F_law_numbers, g_law_numbers, FunD.bindsN F_law_numbers fun _ _ _ _ _ _ us hl => match us, hl with | [_], _ => rfl⟩
  obtain ⟨fd_law_draw, F_law_draw⟩ := cd.def_ 44 (d := d_law_draw) rfl
  have g_law_draw := He.glo_ok X G (cd.fact 44 (f := .glo "_law_draw") rfl)
  have D_law_draw : Def K mg "_law_draw" ["draws"] (top 71) := ⟨_, fd_law_draw, F_law_draw, g_law_draw, FunD.bindsN F_law_draw fun _ _ _ _ _ _ us hl => match us, hl with | [_], _ => rfl⟩
  obtain ⟨fd_law_some_of, F_law_some_of⟩ := cd.def_ 45 (d := d_law_some_of) rfl
  have g_law_some_of := He.glo_ok X G (cd.fact 45 (f := .glo "_law_some_of") rfl)
  have D_law_some_of : Def K mg "_law_some_of" ["draws", "pool", "many"] (top 72) := ⟨_, fd_law_some_of, F_law_some_of, g_law_some_of, FunD.bindsN F_law_some_of fun _ _ _ _ _ _ us hl => match us, hl with | [_, _, _], _ => rfl⟩
  obtain ⟨fd_law_atom, F_law_atom⟩ := cd.def_ 46 (d := d_law_atom) rfl
  have g_law_atom := He.glo_ok X G (cd.fact 46 (f := .glo "_law_atom") rfl)
  have D_law_atom : Def K mg "_law_atom" ["draws", "pool", "names"] (top 73) := ⟨_, fd_law_atom, F_law_atom, g_law_atom, FunD.bindsN F_law_atom fun _ _ _ _ _ _ us hl => match us, hl with | [_, _, _], _ => rfl⟩
  obtain ⟨fd_law_within, F_law_within⟩ := cd.def_ 47 (d := d_law_within) rfl
  have g_law_within := He.glo_ok X G (cd.fact 47 (f := .glo "_law_within") rfl)
  have D_law_within : Def K mg "_law_within" ["names", "name", "arity", "mode"] (top 74) := ⟨_, fd_law_within, F_law_within, g_law_within, FunD.bindsN F_law_within fun _ _ _ _ _ _ us hl => match us, hl with | [_, _, _, _], _ => rfl⟩
  obtain ⟨fd_law_turned, F_law_turned⟩ := cd.def_ 48 (d := d_law_turned) rfl
  have g_law_turned := He.glo_ok X G (cd.fact 48 (f := .glo "_law_turned") rfl)
  have D_law_turned : Def K mg "_law_turned" ["names"] (top 75) := ⟨_, fd_law_turned, F_law_turned, g_law_turned, FunD.bindsN F_law_turned fun _ _ _ _ _ _ us hl => match us, hl with | [_], _ => rfl⟩
  obtain ⟨fd_law_barred, F_law_barred⟩ := cd.def_ 49 (d := d_law_barred) rfl
  have g_law_barred := He.glo_ok X G (cd.fact 49 (f := .glo "_law_barred") rfl)
  have D_law_barred : Def K mg "_law_barred" ["names"] (top 76) := ⟨_, fd_law_barred, F_law_barred, g_law_barred, FunD.bindsN F_law_barred fun _ _ _ _ _ _ us hl => match us, hl with | [_], _ => rfl⟩
  obtain ⟨fd_law_bound, F_law_bound⟩ := cd.def_ 50 (d := d_law_bound) rfl
  have g_law_bound := He.glo_ok X G (cd.fact 50 (f := .glo "_law_bound") rfl)
  have D_law_bound : Def K mg "_law_bound" ["draws", "deep", "pool", "names", "kinds"] (top 77) := ⟨_, fd_law_bound, F_law_bound, g_law_bound, FunD.bindsN F_law_bound fun _ _ _ _ _ _ us hl => match us, hl with | [_, _, _, _, _], _ => rfl⟩
  obtain ⟨fd_law_formula, F_law_formula⟩ := cd.def_ 51 (d := d_law_formula) rfl
  have g_law_formula := He.glo_ok X G (cd.fact 51 (f := .glo "_law_formula") rfl)
  have D_law_formula : Def K mg "_law_formula" ["draws", "deep", "pool", "names", "kinds"] (top 78) := ⟨_, fd_law_formula, F_law_formula, g_law_formula, FunD.bindsN F_law_formula fun _ _ _ _ _ _ us hl => match us, hl with | [_, _, _, _, _], _ => rfl⟩
  obtain ⟨fd_law_names, F_law_names⟩ := cd.def_ 52 (d := d_law_names) rfl
  have g_law_names := He.glo_ok X G (cd.fact 52 (f := .glo "_law_names") rfl)
  have D_law_names : Def K mg "_law_names" ["draws"] (top 79) := ⟨_, fd_law_names, F_law_names, g_law_names, FunD.bindsN F_law_names fun _ _ _ _ _ _ us hl => match us, hl with | [_], _ => rfl⟩
  obtain ⟨fd_law_parts, F_law_parts⟩ := cd.def_ 53 (d := d_law_parts) rfl
  have g_law_parts := He.glo_ok X G (cd.fact 53 (f := .glo "_law_parts") rfl)
  have D_law_parts : Def K mg "_law_parts" ["f"] (top 80) := ⟨_, fd_law_parts, F_law_parts, g_law_parts, FunD.bindsN F_law_parts fun _ _ _ _ _ _ us hl => match us, hl with | [_], _ => rfl⟩
  obtain ⟨fd_law_bound_here, F_law_bound_here⟩ := cd.def_ 54 (d := d_law_bound_here) rfl
  have g_law_bound_here := He.glo_ok X G (cd.fact 54 (f := .glo "_law_bound_here") rfl)
  have D_law_bound_here : Def K mg "_law_bound_here" ["f"] (top 81) := ⟨_, fd_law_bound_here, F_law_bound_here, g_law_bound_here, FunD.bindsN F_law_bound_here fun _ _ _ _ _ _ us hl => match us, hl with | [_], _ => rfl⟩
  obtain ⟨fd_law_own, F_law_own⟩ := cd.def_ 55 (d := d_law_own) rfl
  have g_law_own := He.glo_ok X G (cd.fact 55 (f := .glo "_law_own") rfl)
  have D_law_own : Def K mg "_law_own" ["f"] (top 82) := ⟨_, fd_law_own, F_law_own, g_law_own, FunD.bindsN F_law_own fun _ _ _ _ _ _ us hl => match us, hl with | [_], _ => rfl⟩
  obtain ⟨fd_law_free, F_law_free⟩ := cd.def_ 56 (d := d_law_free) rfl
  have g_law_free := He.glo_ok X G (cd.fact 56 (f := .glo "_law_free") rfl)
  have D_law_free : Def K mg "_law_free" ["f"] (top 83) := ⟨_, fd_law_free, F_law_free, g_law_free, FunD.bindsN F_law_free fun _ _ _ _ _ _ us hl => match us, hl with | [_], _ => rfl⟩
  obtain ⟨fd_law_symbols, F_law_symbols⟩ := cd.def_ 57 (d := d_law_symbols) rfl
  have g_law_symbols := He.glo_ok X G (cd.fact 57 (f := .glo "_law_symbols") rfl)
  have D_law_symbols : Def K mg "_law_symbols" ["f"] (top 84) := ⟨_, fd_law_symbols, F_law_symbols, g_law_symbols, FunD.bindsN F_law_symbols fun _ _ _ _ _ _ us hl => match us, hl with | [_], _ => rfl⟩
  obtain ⟨fd_law_tuples, F_law_tuples⟩ := cd.def_ 58 (d := d_law_tuples) rfl
  have g_law_tuples := He.glo_ok X G (cd.fact 58 (f := .glo "_law_tuples") rfl)
  have D_law_tuples : Def K mg "_law_tuples" ["n", "width"] (top 85) := ⟨_, fd_law_tuples, F_law_tuples, g_law_tuples, FunD.bindsN F_law_tuples fun _ _ _ _ _ _ us hl => match us, hl with | [_, _], _ => rfl⟩
  obtain ⟨fd_law_with, F_law_with⟩ := cd.def_ 59 (d := d_law_with) rfl
  have g_law_with := He.glo_ok X G (cd.fact 59 (f := .glo "_law_with") rfl)
  have D_law_with : Def K mg "_law_with" ["values", "names", "row"] (top 86) := ⟨_, fd_law_with, F_law_with, g_law_with, FunD.bindsN F_law_with fun _ _ _ _ _ _ us hl => match us, hl with | [_, _, _], _ => rfl⟩
  obtain ⟨fd_law_true, F_law_true⟩ := cd.def_ 60 (d := d_law_true) rfl
  have g_law_true := He.glo_ok X G (cd.fact 60 (f := .glo "_law_true") rfl)
  have D_law_true : Def K mg "_law_true" ["f", "n", "rows", "values"] (top 91) := ⟨_, fd_law_true, F_law_true, g_law_true, FunD.bindsN F_law_true fun _ _ _ _ _ _ us hl => match us, hl with | [_, _, _, _], _ => rfl⟩
  obtain ⟨fd_law_cost, F_law_cost⟩ := cd.def_ 61 (d := d_law_cost) rfl
  have g_law_cost := He.glo_ok X G (cd.fact 61 (f := .glo "_law_cost") rfl)
  have D_law_cost : Def K mg "_law_cost" ["f", "n"] (top 92) := ⟨_, fd_law_cost, F_law_cost, g_law_cost, FunD.bindsN F_law_cost fun _ _ _ _ _ _ us hl => match us, hl with | [_, _], _ => rfl⟩
  obtain ⟨fd_law_subset, F_law_subset⟩ := cd.def_ 62 (d := d_law_subset) rfl
  have g_law_subset := He.glo_ok X G (cd.fact 62 (f := .glo "_law_subset") rfl)
  have D_law_subset : Def K mg "_law_subset" ["draws", "rows"] (top 93) := ⟨_, fd_law_subset, F_law_subset, g_law_subset, FunD.bindsN F_law_subset fun _ _ _ _ _ _ us hl => match us, hl with | [_, _], _ => rfl⟩
  obtain ⟨fd_law_world, F_law_world⟩ := cd.def_ 63 (d := d_law_world) rfl
  have g_law_world := He.glo_ok X G (cd.fact 63 (f := .glo "_law_world") rfl)
  have D_law_world : Def K mg "_law_world" ["draws", "n"] (top 94) := ⟨_, fd_law_world, F_law_world, g_law_world, FunD.bindsN F_law_world fun _ _ _ _ _ _ us hl => match us, hl with | [_, _], _ => rfl⟩
  obtain ⟨fd_law_rows, F_law_rows⟩ := cd.def_ 64 (d := d_law_rows) rfl
  have g_law_rows := He.glo_ok X G (cd.fact 64 (f := .glo "_law_rows") rfl)
  have D_law_rows : Def K mg "_law_rows" ["relations"] (top 95) := ⟨_, fd_law_rows, F_law_rows, g_law_rows, FunD.bindsN F_law_rows fun _ _ _ _ _ _ us hl => match us, hl with | [_], _ => rfl⟩
  obtain ⟨fd_law_matrix, F_law_matrix⟩ := cd.def_ 65 (d := d_law_matrix) rfl
  have g_law_matrix := He.glo_ok X G (cd.fact 65 (f := .glo "_law_matrix") rfl)
  have D_law_matrix : Def K mg "_law_matrix" ["f"] (top 96) := ⟨_, fd_law_matrix, F_law_matrix, g_law_matrix, FunD.bindsN F_law_matrix fun _ _ _ _ _ _ us hl => match us, hl with | [_], _ => rfl⟩
  obtain ⟨fd_law_plain, F_law_plain⟩ := cd.def_ 66 (d := d_law_plain) rfl
  have g_law_plain := He.glo_ok X G (cd.fact 66 (f := .glo "_law_plain") rfl)
  have D_law_plain : Def K mg "_law_plain" ["f"] (top 97) := ⟨_, fd_law_plain, F_law_plain, g_law_plain, FunD.bindsN F_law_plain fun _ _ _ _ _ _ us hl => match us, hl with | [_], _ => rfl⟩
  obtain ⟨fd_law_refused, F_law_refused⟩ := cd.def_ 67 (d := d_law_refused) rfl
  have g_law_refused := He.glo_ok X G (cd.fact 67 (f := .glo "_law_refused") rfl)
  have D_law_refused : Def K mg "_law_refused" ["f"] (top 98) := ⟨_, fd_law_refused, F_law_refused, g_law_refused, FunD.bindsN F_law_refused fun _ _ _ _ _ _ us hl => match us, hl with | [_], _ => rfl⟩
  obtain ⟨fd_law_quantifiers, F_law_quantifiers⟩ := cd.def_ 68 (d := d_law_quantifiers) rfl
  have g_law_quantifiers := He.glo_ok X G (cd.fact 68 (f := .glo "_law_quantifiers") rfl)
  have D_law_quantifiers : Def K mg "_law_quantifiers" ["f"] (top 99) := ⟨_, fd_law_quantifiers, F_law_quantifiers, g_law_quantifiers, FunD.bindsN F_law_quantifiers fun _ _ _ _ _ _ us hl => match us, hl with | [_], _ => rfl⟩
  obtain ⟨fd_law_theirs, F_law_theirs⟩ := cd.def_ 69 (d := d_law_theirs) rfl
  have g_law_theirs := He.glo_ok X G (cd.fact 69 (f := .glo "_law_theirs") rfl)
  have D_law_theirs : Def K mg "_law_theirs" [] (top 100) := ⟨_, fd_law_theirs, F_law_theirs, g_law_theirs, FunD.bindsN F_law_theirs fun _ _ _ _ _ _ us hl => match us, hl with | [], _ => rfl⟩
  obtain ⟨fd_law, F_law⟩ := cd.def_ 70 (d := d_law) rfl
  have g_law := He.glo_ok X G (cd.fact 70 (f := .glo "law") rfl)
  have D_law : Def K mg "law" ["script"] (top 101) := ⟨_, fd_law, F_law, g_law, FunD.bindsN F_law fun _ _ _ _ _ _ us hl => match us, hl with | [_], _ => rfl⟩
  have T : Txt mg := ⟨He.free_ok X G (cd.fact 71 (f := .free "len") rfl), He.free_ok X G (cd.fact 72 (f := .free "range") rfl), He.free_ok X G (cd.fact 73 (f := .free "isinstance") rfl), He.free_ok X G (cd.fact 74 (f := .free "list") rfl), He.free_ok X G (cd.fact 75 (f := .free "tuple") rfl), He.free_ok X G (cd.fact 76 (f := .free "bool") rfl), He.free_ok X G (cd.fact 77 (f := .free "int") rfl), He.free_ok X G (cd.fact 78 (f := .free "str") rfl), He.free_ok X G (cd.fact 79 (f := .free "sorted") rfl), He.free_ok X G (cd.fact 80 (f := .free "set") rfl), He.free_ok X G (cd.fact 81 (f := .free "all") rfl), He.free_ok X G (cd.fact 82 (f := .free "any") rfl), He.free_ok X G (cd.fact 83 (f := .free "sum") rfl), He.free_ok X G (cd.fact 84 (f := .free "max") rfl), He.free_ok X G (cd.fact 85 (f := .free "min") rfl), He.free_ok X G (cd.fact 86 (f := .free "dict") rfl), He.free_ok X G (cd.fact 87 (f := .free "enumerate") rfl), He.free_ok X G (cd.fact 88 (f := .free "zip") rfl)⟩
  have c_LONGEST_NAME := He.int_ok X G (cd.fact 89 (f := .int "LONGEST_NAME" 12) rfl)
  have c_MOST_JOINED := He.int_ok X G (cd.fact 90 (f := .int "MOST_JOINED" 40) rfl)
  have c_LARGEST_GUESS := He.int_ok X G (cd.fact 91 (f := .int "LARGEST_GUESS" 3) rfl)
  have c_MOST_PARTS := He.int_ok X G (cd.fact 92 (f := .int "MOST_PARTS" 2000) rfl)
  have c_MOST_DEEP := He.int_ok X G (cd.fact 93 (f := .int "MOST_DEEP" 40) rfl)
  have c_LETTERS := He.str_ok X G (cd.fact 94 (f := .str "LETTERS" "abcdefghijklmnopqrstuvwxyz") rfl)
  have c_FIGURES := He.str_ok X G (cd.fact 95 (f := .str "FIGURES" "0123456789") rfl)
  have c_RESERVED := He.glo_ok X G (cd.fact 96 (f := .glo "RESERVED") rfl)
  have c_REL_COUNTS := He.glo_ok X G (cd.fact 97 (f := .glo "REL_COUNTS") rfl)
  have c_OWN_COUNTS := He.glo_ok X G (cd.fact 98 (f := .glo "OWN_COUNTS") rfl)
  have c_TC_COUNTS := He.glo_ok X G (cd.fact 99 (f := .glo "TC_COUNTS") rfl)
  have c_LENGTHS := He.glo_ok X G (cd.fact 100 (f := .glo "LENGTHS") rfl)
  have c_BODY_AT := He.glo_ok X G (cd.fact 101 (f := .glo "BODY_AT") rfl)
  have c_OWN_AT := He.glo_ok X G (cd.fact 102 (f := .glo "OWN_AT") rfl)
  have c_ARGUMENTS_AT := He.glo_ok X G (cd.fact 103 (f := .glo "ARGUMENTS_AT") rfl)
  have c_TESTS := He.glo_ok X G (cd.fact 104 (f := .glo "TESTS") rfl)
  have c_TURNED := He.glo_ok X G (cd.fact 105 (f := .glo "TURNED") rfl)
  have c_BadArgument := He.glo_ok X G (cd.fact 106 (f := .glo "BadArgument") rfl)
  have c_BadFormula := He.glo_ok X G (cd.fact 107 (f := .glo "BadFormula") rfl)
  have c_TooLarge := He.glo_ok X G (cd.fact 108 (f := .glo "TooLarge") rfl)
  have gC_Names := He.glo_ok X G (cd.fact 109 (f := .glo "Names") rfl)
  have cC_Names := He.cls_ok (cd.fact 110 (f := .cls "Names") rfl)
  have mC_Names := He.mkr_ok (cd.fact 111 (f := .mkr "Names") rfl)
  have nC_Names_used := He.noat_ok (cd.fact 112 (f := .noat "Names" "used") rfl)
  have nC_Names_known := He.noat_ok (cd.fact 113 (f := .noat "Names" "known") rfl)
  have nC_Names_made := He.noat_ok (cd.fact 114 (f := .noat "Names" "made") rfl)
  have n_reversed := He.free_ok X G (cd.fact 115 (f := .free "reversed") rfl)
  have t_LENGTHS := c.t.tab 0 (t := ((fun K => He.ga K "LENGTHS"), ["rel", "eq", "less", "not", "and", "or", "some", "all", "lfp", "pfp", "tc", "guess"])) rfl
  have t_BODY_AT := c.t.tab 1 (t := ((fun K => He.ga K "BODY_AT"), ["not", "some", "all", "lfp", "pfp", "tc", "guess"])) rfl
  have t_OWN_AT := c.t.tab 2 (t := ((fun K => He.ga K "OWN_AT"), ["some", "all", "lfp", "pfp", "tc"])) rfl
  have t_ARGUMENTS_AT := c.t.tab 3 (t := ((fun K => He.ga K "ARGUMENTS_AT"), ["rel", "lfp", "pfp", "tc"])) rfl
  have t_TESTS := c.t.tab 4 (t := ((fun K => He.ga K "TESTS"), ["rel", "eq", "less", "not", "and", "or", "some", "all", "lfp", "pfp", "tc", "guess"])) rfl
  have t_TURNED := c.t.tab 5 (t := ((fun K => He.ga K "TURNED"), ["and", "or", "some", "all"])) rfl
  have more0 := c.more
  obtain ⟨x_RESERVED, more1⟩ := He.ba more0
  obtain ⟨x_REL_COUNTS, more2⟩ := He.ba more1
  obtain ⟨x_OWN_COUNTS, more3⟩ := He.ba more2
  obtain ⟨x_TC_COUNTS, more4⟩ := He.ba more3
  obtain ⟨x_LENGTHS, more5⟩ := He.ba more4
  obtain ⟨x_BODY_AT, more6⟩ := He.ba more5
  obtain ⟨x_OWN_AT, more7⟩ := He.ba more6
  obtain ⟨x_ARGUMENTS_AT, more8⟩ := He.ba more7
  obtain ⟨x_TESTS, more9⟩ := He.ba more8
  obtain ⟨x_TURNED, more10⟩ := He.ba more9
  obtain ⟨m_BODY_AT, more11⟩ := He.ba more10
  obtain ⟨m_OWN_AT, more12⟩ := He.ba more11
  obtain ⟨m_ARGUMENTS_AT, more13⟩ := He.ba more12
  obtain ⟨x_BadArgument, more14⟩ := He.ba more13
  obtain ⟨x_BadFormula, more15⟩ := He.ba more14
  obtain ⟨x_TooLarge, more16⟩ := He.ba more15
  have u_BadArgument_BadFormula := more16
  have e := hfa.symm.trans g_law
  cases e
  have b := FunD.bindsA (ps := ["script"]) F_law fun _ _ _ _ _ _ us hl => match us, hl with | [_], _ => rfl
  refine ⟨fd_law, fun s v => b s [v] rfl, fun base _ _ => ?_⟩
  have h_is := has_is_name (P := P) (w := w) (base := base) D_is_name T c_LONGEST_NAME c_LETTERS c_FIGURES c_RESERVED (fun H => He.tupB_ok x_RESERVED H)
  have S : Shp K w mg := ⟨c_MOST_JOINED, c_LARGEST_GUESS, c_REL_COUNTS, fun H => He.tupB_ok x_REL_COUNTS H, c_OWN_COUNTS, fun H => He.tupB_ok x_OWN_COUNTS H, c_TC_COUNTS, fun H => He.tupB_ok x_TC_COUNTS H,
    ⟨c_LENGTHS, t_LENGTHS, thB_ok x_LENGTHS⟩, ⟨c_BODY_AT, t_BODY_AT, thB_ok x_BODY_AT⟩, ⟨c_OWN_AT, t_OWN_AT, thB_ok x_OWN_AT⟩, ⟨c_ARGUMENTS_AT, t_ARGUMENTS_AT, thB_ok x_ARGUMENTS_AT⟩, ⟨c_TESTS, t_TESTS, thB_ok x_TESTS⟩, msB_ok m_BODY_AT, msB_ok m_OWN_AT, msB_ok m_ARGUMENTS_AT⟩
  have h_inner := has_inner (P := P) (base := base) D_inner T S
  have h_own := has_own (P := P) (base := base) D_own T S
  have h_args := has_arguments (P := P) (base := base) D_arguments T S
  have h_bname := has_bound_name (P := P) (w := w) (base := base) D_bound_name
  have h_barity := has_bound_arity (P := P) (w := w) (base := base) D_bound_arity T
  have h_vars := has_are_variables D_are_variables T h_is
  have h_diff := has_are_different D_are_different T h_vars
  have h_whole := has_is_whole (P := P) (w := w) (base := base) D_is_whole T
  have h_between := has_is_between D_is_between h_whole
  have t_rel := has_is_rel D_is_rel S h_is h_vars
  have t_comp := has_is_comparison D_is_comparison h_is
  have t_neg := has_is_negation (P := P) (w := w) (base := base) D_is_negation
  have t_join := has_is_joined (P := P) (base := base) D_is_joined T S
  have t_quant := has_is_quantified D_is_quantified S h_diff
  have t_fix := has_is_fixed_point D_is_fixed_point T S h_is h_vars h_diff
  have t_clo := has_is_closure D_is_closure T S h_vars h_diff
  have t_guess := has_is_guess D_is_guess S h_is h_between
  have tests : Tests P w K mg base := by
    refine ⟨fun k => ?_, fun k => ?_⟩
    · cases k
      · exact g_is_rel
      · exact g_is_comparison
      · exact g_is_comparison
      · exact g_is_negation
      · exact g_is_joined
      · exact g_is_joined
      · exact g_is_quantified
      · exact g_is_quantified
      · exact g_is_fixed_point
      · exact g_is_fixed_point
      · exact g_is_closure
      · exact g_is_guess
    · cases k
      · exact ⟨_, t_rel⟩
      · exact ⟨_, t_comp⟩
      · exact ⟨_, t_comp⟩
      · exact ⟨_, t_neg⟩
      · exact ⟨_, t_join⟩
      · exact ⟨_, t_join⟩
      · exact ⟨_, t_quant⟩
      · exact ⟨_, t_quant⟩
      · exact ⟨_, t_fix⟩
      · exact ⟨_, t_fix⟩
      · exact ⟨_, t_clo⟩
      · exact ⟨_, t_guess⟩
  have h_shape := has_is_shape D_is_shape T S tests
  have h_shapes := has_check_shapes D_check_shapes h_shape h_inner
  have h_pos := has_is_positive D_is_positive_in h_bname h_inner
  have h_fp := has_check_fixed_points D_check_fixed_points h_pos h_inner
  have h_ar := has_arities D_arities_in T h_bname h_inner h_barity
  have h_check := has_check_formula D_check_formula c_MOST_DEEP c_MOST_PARTS h_shapes h_ar h_fp
  have h_mixed := has_mixed (P := P) (w := w) (base := base) D_law_mixed
  have h_numbers := has_numbers D_law_numbers T h_mixed
  have h_draw := has_draw D_law_draw T h_mixed
  have h_some := has_some_of D_law_some_of T h_draw
  have h_within := has_within (P := P) (w := w) (base := base) D_law_within
  have h_turned := has_turned (P := P) (w := w) (base := base) D_law_turned
  have h_barred := has_barred (P := P) (w := w) (base := base) D_law_barred
  have h_atom := has_atom D_law_atom T h_draw
  have h_form := has_formula D_law_formula T h_draw h_atom h_turned fun n C => has_bound D_law_bound T h_draw h_some h_within h_barred C
  have h_names := has_names D_law_names T h_draw
  have ND : NdC K := ⟨cC_Names, nC_Names_used, nC_Names_known, nC_Names_made⟩
  have m_init := has_n_init (P := P) (w := w) (mg := mg) (base := base) D_Names___init__ ND
  have m_fresh := has_n_fresh (P := P) (w := w) (mg := mg) (base := base) D_Names_fresh ND
  have m_inst := has_n_instead D_Names_instead_of ND m_fresh
  have h_lparts := has_law_parts (P := P) (w := w) (base := base) D_law_parts T
  have h_lbh := has_law_bound_here (P := P) (w := w) (base := base) D_law_bound_here T
  have h_lown := has_law_own (P := P) (w := w) (base := base) D_law_own T
  have h_pfree := has_pfree D_pfree T h_inner h_own h_args
  have h_free := has_free1 D_free T h_check h_pfree
  have h_vin := has_pvars D_variables_in T h_inner h_own h_args
  have h_item := has_with_item (P := P) (w := w) (base := base) D_with_item
  have h_with := has_with_inner D_with_inner T S h_item
  have h_wown := has_with_own D_with_own S h_item
  have h_wargs := has_with_args D_with_arguments S h_item
  have h_ren := has_renamed D_renamed T ND h_inner h_own h_args h_with h_wown h_wargs m_inst
  have h_apart := has_apart D_apart gC_Names (mk_init mC_Names m_init) h_free h_vin h_ren
  have h_lfree := has_law_free D_law_free T h_lparts h_lbh h_lown
  have h_lsym := has_law_symbols D_law_symbols T h_lparts
  have BF := xcB_ok c_BadFormula x_BadFormula
  have BA := xcB_ok c_BadArgument x_BadArgument
  have TL := xcB_ok c_TooLarge x_TooLarge
  have x_shapes := has_check_shapesX D_check_shapes BF h_shape h_inner
  have x_check := has_check_formulaX D_check_formula c_MOST_DEEP c_MOST_PARTS x_shapes h_ar h_fp
  have h_bounds := has_bounds D_within_bounds BF TL x_check
  have h_pplain := has_pplain D_pfo T h_inner
  have h_fo := has_w_fo D_is_first_order h_check h_pplain
  have h_pull := has_pull D_pulled_out ⟨c_TURNED, t_TURNED, thB_ok x_TURNED⟩ h_inner h_with h_own
  have h_blocks := has_blocks (P := P) (base := base) D_blocks T S
  have h_prenex := has_prenex D_prenex n_reversed BA h_fo h_apart h_pull h_blocks h_bounds
  have h_ltups := has_ltups (P := P) (w := w) (base := base) D_law_tuples T
  have h_lwith := has_lwith (P := P) (w := w) (base := base) D_law_with T
  have h_ltrue := has_ltrueF D_law_true T h_ltups h_lwith
  have h_lcost := has_lcostF D_law_cost T h_lparts h_lbh
  have h_lquant := has_lquant D_law_quantifiers T h_lparts h_lbh
  have h_lqf := has_lqf D_law_plain T h_lparts
  have h_lmat := has_lmatrix (P := P) (w := w) (base := base) D_law_matrix T
  have h_lsub := has_lsubset D_law_subset T h_draw
  have h_lworld := has_lworld D_law_world T h_lsub h_ltups
  have h_lrows := has_lrows (P := P) (w := w) (base := base) D_law_rows T
  have h_ref := has_refusedP D_law_refused T BA c_BadFormula (kitB2_ok u_BadArgument_BadFormula) h_prenex
  have h_theirs := has_theirs D_law_theirs T h_apart
  exact ok_law F_law T h_numbers h_draw h_names h_form h_lrows h_lworld h_theirs h_lquant h_prenex h_check h_lqf h_lmat h_lfree h_lsym h_lcost h_lwith h_ltrue h_ref
end SaysoV
open PySem PySem.W PySem.Calls PyProof.Rows
set_option maxHeartbeats 0 in
theorem PySem.Challenge.cw_sayso_k22_whole_prenex_forms_holds : PySem.Challenge.rw_sayso_k22_whole_prenex_forms.Holds := by
  w_on; o_law
  refine HandSHeadRun.head_any (r := OpenLaw.row PySem.Challenge.rw_sayso_k22_whole_prenex_forms) (q := view (OpenLaw.row PySem.Challenge.rw_sayso_k22_whole_prenex_forms).prog [101]) (H := SaysoV.hk) (ob := SaysoV.ob) (M := 8000) (loose := SaysoV.looseN) (d := HandSHeadRun.topDef (OpenLaw.row PySem.Challenge.rw_sayso_k22_whole_prenex_forms).prog 101) (kwd := []) SaysoV.ob_eq
    (by kernel_rfl) (fun s => by kernel_rfl) SaysoV.run (by kernel_rfl) (by kernel_rfl) (by kernel_rfl) (by rfl) (by first | assumption | decide +kernel) (by decide +kernel) ⟨rfl, rfl, rfl, rfl, rfl, by decide +kernel⟩ ?hw ?hc
  case hw => w_witness2
  case hc =>
    refine L2.walk_ofE (l := PySem.Challenge.rw_sayso_k22_whole_prenex_forms) (n := 63) (k := 52) (x := "script") (CX := L2.CX0) rfl (by decide) (by kernel_rfl) ⟨rfl, by decide, by decide⟩ ?F (fun _ _ _ _ z => z)
    intro w mg fa h Y G hmg0
    obtain ⟨K, KX, c⟩ := Y
    have hmg : mg ("law" : PySem.Str) = some (.ref fa) := by
      have e : (HandSHeadRun.topDef (OpenLaw.row PySem.Challenge.rw_sayso_k22_whole_prenex_forms).prog 101).name = ("law" : PySem.Str) := by kernel_rfl
      rw [← e]
      exact hmg0
    obtain ⟨fd, hb, hF⟩ := SaysoV.facts (P := (PySem.Challenge.rw_sayso_k22_whole_prenex_forms).prog) (w := w) KX G hmg c
    exact ⟨K, fd, SaysoV.spLaw K, KX, hb, fun H a ns hl _ hS => ⟨a, ns, rfl, hS, hl, fun _ => rfl⟩, hF⟩
