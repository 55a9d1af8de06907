import PyProof.Rows.All
import Wide.All
import OpenK.AllK
import Wide.FinOn
import HandS.ForMost
import HandS.Defaults
import HandS.More
import HandS.TupAny
import HandS.TupMul
import HandS.Exc
import HandS.ExcInit
import HandS.ExcField
import HandS.ExcIs
import HandS.TryOnly
import HandS.WordsExc
import HandS.Lambda
import HandS.EndTab
import HandS.HeadWalk
import HandS.HeadHook4
import PySem.Challenge.RW_oldmap_k01_islands_validated
import KE.GoesMore
import KE.GoesEnum
import HandS.Nested
import KE.KExcIs
import HandS.Head0
import HandS.Head1
import HandS.Head2
set_option Elab.async false
set_option linter.all false
set_option maxRecDepth 100000
set_option maxHeartbeats 0
namespace Om
open PySem PySem.Spec PyProof.Rows L2
def top (i : Nat) : Stmt := PySem.Challenge.pw_oldmap_k01_islands_validated.main.body.getD i (.Pass ⟨0, 0, 0, 0⟩)
/-- a def of the top -/
abbrev FnP (K : PySem.W.Frag) (x qual : Str) (st : Stmt) (f : Addr) (fd : FuncData) : Prop := FunD K x qual (defArgs st) (defBody st) (defScope st) [] [] f fd
/-- a def as its callers know it -/
structure Cal (P : Program) (w : World) (K : PySem.W.Frag) (mg : Str → Option Value) (base : Heap) (CX : CXT) (k : Nat) (x : Str) (ps : List Str) (sp : Sp) : Prop where
  ex : ∃ (f : Addr) (fd : FuncData), FnOk P w K mg base CX k f fd ps sp ∧ mg x = some (.ref f) ∧ PySem.W.keepIn K (.ref f) = true ∧ Binds K fd ps []
theorem pe_cal {X : Cx} {CX : CXT} {k : Nat} {x : Str} {ps : List Str} {sp : Sp} {E : XK} {e : Expr} {es : List Expr} {t : TA} {p pos : Pos} (C : Cal X.prog X.w X.K X.mg X.base CX k x ps sp) (hr : Room k X.A) (hx : Passes CX X E) (ha : PA X (e :: es) t) (hg : Gl X x := by rfl)
    (hdb : (x == ("__debug__" : Str)) = false := by decide) (he : starEach (e :: es) X.env = (false, eval e X.env) :: starEach es X.env := by rfl) (hpl : (backTo pos (starEach es X.env)).any (·.1) = false := by rfl) :
    PE X (.Call (.Name x p) (e :: es) [] pos) (tCall sp [] E t) := by
  obtain ⟨f, fd, F, hm, hk, hb⟩ := C.ex
  exact pe_call F hr hg hm hk hb .nil hx ha (hdb := hdb) (he := he) (hpl := hpl)
/-- all but two objects stay -/
def Kp (b l : Addr) (H H' : Hp) : Prop := ∀ c o, H c = some o → c ≠ b → c ≠ l → H' c = some o
theorem Kp.refl (b l : Addr) (H : Hp) : Kp b l H H := fun _ _ h _ _ => h
theorem Kp.trans {b l : Addr} {H H1 H2 : Hp} (a : Kp b l H H1) (c : Kp b l H1 H2) : Kp b l H H2 := fun x o h n1 n2 => c x o (a x o h n1 n2) n1 n2
theorem Kp.of {b l : Addr} {H H' : Hp} (a : Same H H') : Kp b l H H' := fun x o h _ _ => a x o h
theorem Kp.upd1 {b l : Addr} {H H' : Hp} {o : HO} (a : Kp b l H H') : Kp b l H (upd H' b o) := fun x u h n1 n2 => by rw [upd_ne n1]; exact a x u h n1 n2
theorem Kp.upd2 {b l : Addr} {H H' : Hp} {o : HO} (a : Kp b l H H') : Kp b l H (upd H' l o) := fun x u h n1 n2 => by rw [upd_ne n2]; exact a x u h n1 n2
theorem Same.new {H H' : Hp} {p : Addr} {o : HO} (a : Same H H') (h : H' p = none) : Same H (upd H' p o) := fun x u e => by
  rw [upd_ne (ne_of_none (a x u e) h)]
  exact a x u e
/-- the box of numbers that a law draws from -/
structure Box (H : Hp) (b l : Addr) : Prop where
  ex : ∃ (ns : List Int) (z : Int), H b = some (.lst [.ref l, .int z]) ∧ H l = some (.lst (ns.map V.int)) ∧ ns.length ≤ 63
theorem Box.ne {H : Hp} {b l : Addr} (B : Box H b l) : b ≠ l := by
  obtain ⟨ns, z, h1, h2, _⟩ := B.ex
  refine ne_of h1 h2 fun e => ?_
  have e2 : [V.ref l, V.int z] = ns.map V.int := HO.lst.inj e
  cases ns with
  | nil => cases e2
  | cons n r =>
    injection e2 with e3 _
    cases e3
theorem Box.same {H H' : Hp} {b l : Addr} (B : Box H b l) (s : Same H H') : Box H' b l := by
  obtain ⟨ns, z, h1, h2, h3⟩ := B.ex
  exact ⟨ns, z, s _ _ h1, s _ _ h2, h3⟩
def spBegun (K : PySem.W.Frag) : Sp := fun vs H Q _ => ∃ (a : Addr) (ns : List Int), vs = [.ref a] ∧ SqL K H a (ns.map V.int) ∧ ns.length ≤ 63 ∧
  ∀ (b l : Addr) (H' : Hp), H b = none → H l = none → Same H H' → Box H' b l → Q (.ref b) H'
def spTake : Sp := fun vs H Q _ => ∃ (b l : Addr) (m : Int), vs = [.ref b, .int m] ∧ Box H b l ∧ 0 < m ∧ m ≤ 1000000 ∧
  ∀ (n : Int) (H' : Hp), 0 ≤ n → n < m → Box H' b l → Kp b l H H' → Q (.int n) H'
section
variable {P : Program} {w : World} {K : PySem.W.Frag} {mg : Str → Option Value} {base : Heap}
theorem fun_binds {x qual : Str} {st : Stmt} {f : Addr} {fd : FuncData} {ps : List Str} (F : FnP K x qual st f fd)
    (h : ∀ (kV doc pm : Value) (an : Option Addr) (cdv ct : Value) (us : List Value), us.length = ps.length → bindArgs (PySem.W.fnOf x qual (defArgs st) (defBody st) (defScope st) .none kV doc pm an cdv ct) ⟨us, []⟩ = pure (ps.zip us)) : Binds K fd ps [] := FunD.bindsN F h
end
/-! ### begun -/
abbrev sBegun : Stmt := top 21
section
variable {P : Program} {w : World} {K : PySem.W.Frag} {mg : Str → Option Value} {base : Heap}
theorem scBegun : FnScope ["_law_script", "_law_stirred", "_law_cell"] ["_law_script"] (defScope sBegun) := ⟨rfl, rfl, rfl, by decide +kernel, rfl, by decide +kernel, by decide +kernel⟩
theorem ok_begun {f : Addr} {fd : FuncData} (F : FnP K "_law_begun" "_law_begun" sBegun f fd) (gint : mg "int" = none) (glist : mg "list" = none) (glen : mg "len" = none) :
    FnOk P w K mg base CX0 1 f fd ["_law_script"] (spBegun K) := by
  refine F.ok scBegun (fun vs H Q E h => ?_) (fun cdv A outer s H vs Q E hr h => ?_)
  · obtain ⟨a, ns, rfl, _⟩ := h
    rfl
  · obtain ⟨a, ns, rfl, hS, hlen, k⟩ := h
    have nd := scBegun.nd
    refine ⟨_, PSs.nox (pss_cons (ps_set (i := 1) nd rfl (.inl rfl) pe_int)
      (pss_cons (ps_for PassesOwn.never rfl (pi_list (pv 0)) (pg_name (i := 2) nd rfl (.inl rfl))
        (pss_one (ps_set (i := 1) nd rfl (.inl rfl) (pe_op op_modN (pe_callTy call_int1 (by rfl) gint boot_int (pa_cons (pe_op op_add (pe_op op_add (pe_op op_mul (pv 1) pe_int) (pe_op op_mul (pv 2) pe_int)) pe_int) pa_nil)) pe_int))))
      (pss_one (ps_ret (pe_lst (pa_cons (pe_callTy call_list_of (by rfl) glist (by decide +kernel) (pa_cons (pv 0) pa_nil))
        (pa_cons (pe_op op_mul (pv 1) (pe_callTy call_int1 (by rfl) gint boot_int (pa_cons (pe_cmpR op_gt (pe_callB call_len_seq (by rfl) glen PySem.boot_len (pa_cons (pv 0) pa_nil)) pe_int (nomark _)) pa_nil))) pa_nil))))))), ?_⟩
    refine ⟨_, rfl, a, rfl, ⟨_, hS⟩, for_list (K := K) (a := a) (xs := ns.map V.int) (fun i σ H2 => ∃ (z : Int) (v : Option V), σ = [some (.ref a), some (.int z), v] ∧ H2 = H)
      ⟨0, none, rfl, rfl⟩ (fun i σ H2 _ ⟨_, _, _, e⟩ => by rw [e]; exact hS) ?_ ?_⟩
    · rintro i y σ H2 hi ⟨z, v, rfl, rfl⟩
      obtain ⟨n, rfl⟩ : ∃ n, y = V.int n := by
        rw [List.getElem?_map] at hi
        cases e : ns[i]? with
        | none => rw [e] at hi; cases hi
        | some n => rw [e] at hi; exact ⟨n, (Option.some.inj hi).symm⟩
      refine ⟨_, rfl, _, _, rfl, rfl, .inr ⟨by decide, by decide⟩, _, rfl, _, _, rfl, rfl, .inr ⟨by decide, by decide⟩, _, _, rfl, rfl, _, _, rfl, rfl, .inl ⟨_, rfl, ?_⟩⟩
      exact ⟨_, _, rfl, rfl, (by show (2147483647 : Int) ≠ 0; decide), _, _, rfl, rfl⟩
    · rintro σ H2 ⟨z, v, rfl, rfl⟩
      refine ⟨_, rfl, a, _, rfl, .inl hS, fun l hl => ?_⟩
      have hS2 : SqL K (upd H2 l (.lst (ns.map V.int))) a (ns.map V.int) := Same.seq (Same.new (Same.refl H2) hl) hS
      refine ⟨_, rfl, _, rfl, a, _, rfl, .inl hS2, _, _, rfl, rfl, .inr ⟨_, rfl, ?_⟩⟩
      refine ⟨_, _, rfl, rfl, ?_, ?_⟩
      · refine .inr ?_
        split <;> exact ⟨by decide, by decide⟩
      · refine ⟨by show 2 ≤ sizeLine; decide, fun p hp => ?_⟩
        have npl : p ≠ l := fun e => by rw [e, upd_same] at hp; cases hp
        have hp0 : H2 p = none := by rw [upd_ne npl] at hp; exact hp
        refine k p l _ hp0 hl (Same.new (Same.new (Same.refl _) hl) hp) ⟨ns, _, upd_same, ?_, hlen⟩
        rw [upd_ne npl.symm, upd_same]
end
end Om

namespace Om
open PySem PySem.Spec PyProof.Rows L2
/-! ### data -/
theorem lay_ints : ∀ ns : List Int, PyData.canLayAll0 (ns.map PyData.int) = true
  | [] => by simp [PyData.canLayAll0]
  | n :: r => by simp [PyData.canLayAll0, PyData.canLay0, lay_ints r]
theorem dep_ints : ∀ ns : List Int, PyData.depthAll (ns.map PyData.int) = 0
  | [] => by simp [PyData.depthAll]
  | n :: r => by simp [PyData.depthAll, PyData.depth, dep_ints r]
theorem shaped_of {d : PyData} (h1 : d.canLay0 = true) (h2 : d.depth ≤ 64) : SeqAt.shaped d = true := by
  show (d.canLay0 && decide (d.depth ≤ 64)) = true
  rw [h1, decide_eq_true h2]
  rfl
theorem shaped_ints (ns : List Int) : SeqAt.shaped (.list (ns.map PyData.int)) = true :=
  shaped_of (by simp only [PyData.canLay0]; exact lay_ints ns) (by simp only [PyData.depth, dep_ints]; omega)
theorem shaped_nil : SeqAt.shaped (.list []) = true := shaped_of (by simp [PyData.canLay0, PyData.canLayAll0]) (by simp [PyData.depth, PyData.depthAll])
theorem dpAll_ints {K : PySem.W.Frag} {H : Hp} : ∀ ns : List Int, DpAll K H (ns.map V.int) (ns.map PyData.int)
  | [] => .nil
  | n :: r => .cons (.int n) (dpAll_ints r)
theorem eqv_ints_nil (ns : List Int) : PyData.eqv (.list (ns.map PyData.int)) (.list []) = ns.isEmpty := by
  cases ns <;> simp [PyData.eqv, PyData.eqvAll]
theorem fmod_pos {a m : Int} (h : 0 < m) : 0 ≤ a.fmod m ∧ a.fmod m < m := by
  rw [Int.fmod_eq_emod_of_nonneg _ (Int.le_of_lt h)]
  exact ⟨Int.emod_nonneg _ (by omega), Int.emod_lt_of_pos _ h⟩
theorem at0 {x : V} {r : List V} : atI (x :: r) 0 = some x := by
  unfold atI ixN
  rw [if_pos (by omega), if_pos (by simp)]
  rfl
theorem ix0 {x : V} {r : List V} : ixN (x :: r).length 0 = some 0 := by
  unfold ixN
  rw [if_pos (by omega), if_pos (by simp)]
  rfl
/-! ### take -/
abbrev sTake : Stmt := top 22
section
variable {P : Program} {w : World} {K : PySem.W.Frag} {mg : Str → Option Value} {base : Heap}
theorem scTake : FnScope ["_law_box", "_law_many", "_law_figure"] ["_law_box", "_law_many"] (defScope sTake) := ⟨rfl, rfl, rfl, by decide +kernel, rfl, by decide +kernel, by decide +kernel⟩
theorem ok_take {f : Addr} {fd : FuncData} (F : FnP K "_law_take" "_law_take" sTake f fd) (gint : mg "int" = none) :
    FnOk P w K mg base CX0 1 f fd ["_law_box", "_law_many"] spTake := by
  refine F.ok scTake (fun vs H Q E h => ?_) (fun cdv A outer s H vs Q E hr h => ?_)
  · obtain ⟨b, l, m, rfl, _⟩ := h
    rfl
  · obtain ⟨b, l, m, rfl, B, hm0, hm1, k⟩ := h
    have nd := scTake.nd
    have nbl := B.ne
    obtain ⟨ns, z, hb, hl, hlen⟩ := B.ex
    refine ⟨_, PSs.nox (pss_cons (ps_if (pt_cmpR (op_eqD hr.units) (pe_ix ix_list (pv 0) pe_int (fun _ _ => rfl)) (pe_lst pa_nil) (nomark _))
          (pss_cons (ps_asg (pe_op op_modN (pe_callTy call_int1 (by rfl) gint boot_int (pa_cons (pe_op op_mul (pe_ix ix_list (pv 0) pe_int (fun _ _ => rfl)) pe_int) pa_nil)) pe_int) (pg_sub (pv 0) pe_int set_list))
          (pss_one (ps_ret (pe_op op_modN (pe_callTy call_int1 (by rfl) gint boot_int (pa_cons (pe_op op_fdivN (pe_ix ix_list (pv 0) pe_int (fun _ _ => rfl)) pe_int) pa_nil)) (pv 1))))) pss_nil)
      (pss_cons (ps_set (i := 2) nd rfl (.inl rfl) (pe_ix ix_list (pe_ix ix_list (pv 0) pe_int (fun _ _ => rfl)) pe_int (fun _ _ => rfl)))
      (pss_cons (ps_asg (pe_op op_fdivN (pv 2) (pv 1)) (pg_sub (pe_ix ix_list (pv 0) pe_int (fun _ _ => rfl)) pe_int set_list))
      (pss_cons (ps_if (PW.pt (pw_or (pt_cmpR op_eq (pe_ix ix_list (pe_ix ix_list (pv 0) pe_int (fun _ _ => rfl)) pe_int (fun _ _ => rfl)) pe_int (nomark _))
            (pw_or1 (pt_cmpR op_eq (pe_ix ix_list (pe_ix ix_list (pv 0) pe_int (fun _ _ => rfl)) pe_int (fun _ _ => rfl)) (pe_un un_neg pe_int) (nomark _)))))
          (pss_one (ps_expr (pe_bm PySem.F.plainAttrs_list PySem.F.slot_list_pop PySem.F.type_list_pop mt_popAt (pe_ix ix_list (pv 0) pe_int (fun _ _ => rfl)) (pa_cons pe_int pa_nil)))) pss_nil)
      (pss_one (ps_ret (pe_op op_modN (pv 2) (pv 1)))))))), ?_⟩
    refine ⟨_, rfl, b, _, 0, _, rfl, rfl, .inl (.inl hb), rfl, by show 0 ≤ sizeLine; decide, fun e he => ?_⟩
    have ebe : b ≠ e := ne_of_none hb he
    have ele : l ≠ e := ne_of_none hl he
    have hb1 : (upd H e (.lst [])) b = some (.lst [.ref l, .int z]) := by rw [upd_ne ebe]; exact hb
    have hl1 : (upd H e (.lst [])) l = some (.lst (ns.map V.int)) := by rw [upd_ne ele]; exact hl
    have K1 : Kp b l H (upd H e (.lst [])) := Kp.of (Same.new (Same.refl H) he)
    refine ⟨_, _, .lst (.inl (.inl hl1)) (dpAll_ints ns), .lst (.inl (.inl upd_same)) .nil, shaped_ints ns, shaped_nil, _, rfl, ?_⟩
    rw [eqv_ints_nil]
    cases ns with
    | nil =>
      refine iteT ?_
      refine ⟨_, rfl, b, _, 1, _, rfl, rfl, .inl (.inl hb1), rfl, _, _, rfl, rfl, .inr ⟨by decide, by decide⟩, .inl ⟨_, rfl, ?_⟩⟩
      refine ⟨_, _, rfl, rfl, (by show (2147483647 : Int) ≠ 0; decide), _, rfl, b, _, 1, 1, rfl, rfl, hb1, rfl, ?_⟩
      refine ⟨_, rfl, b, _, 1, _, rfl, rfl, .inl (.inl upd_same), rfl, _, _, rfl, rfl, ⟨by decide, by decide⟩, .inl ⟨_, rfl, _, rfl, _, _, rfl, rfl, (by show m ≠ 0; omega), ?_⟩⟩
      refine k _ _ (fmod_pos hm0).1 (fmod_pos hm0).2 ⟨[], _, upd_same, ?_, hlen⟩ (K1.upd1)
      rw [upd_ne nbl.symm]
      exact hl1
    | cons n r =>
      refine iteF ?_
      refine ⟨_, rfl, b, _, 0, _, rfl, rfl, .inl (.inl hb1), rfl, l, _, 0, _, rfl, rfl, .inl (.inl hl1), at0, ?_⟩
      refine ⟨_, rfl, _, rfl, _, _, rfl, rfl, ⟨(by show m ≠ 0; omega), (by show m.natAbs < 1073741824; omega)⟩, _, rfl, b, _, 0, _, rfl, rfl, .inl (.inl hb1), rfl, l, _, 0, 0, rfl, rfl, hl1, ix0, ?_⟩
      have hb2 : (upd (upd H e (.lst [])) l (.lst (((n :: r).map V.int).set 0 (.int (n.fdiv m))))) b = some (.lst [.ref l, .int z]) := by rw [upd_ne nbl]; exact hb1
      have hl2 : (upd (upd H e (.lst [])) l (.lst (((n :: r).map V.int).set 0 (.int (n.fdiv m))))) l = some (.lst (((n.fdiv m) :: r).map V.int)) := upd_same
      refine ⟨_, rfl, b, _, 0, _, rfl, rfl, .inl (.inl hb2), rfl, l, _, 0, _, rfl, rfl, .inl (.inl hl2), at0, rfl, _, rfl, ?_⟩
      have fin : ∀ H3, Box H3 b l → Kp b l H H3 → Q (.int (n.fmod m)) H3 := fun H3 B3 k3 => k _ H3 (fmod_pos hm0).1 (fmod_pos hm0).2 B3 k3
      have pop : (tDrop (tBM K "list" rPopAt (tOp (rIxL K) (tVar 0) (tC (.int 0))) (tCons (tC (.int 0)) tNil))) { nx := fun σ H => (tRet (tOp (rI (fun _ j => j ≠ 0) fun i j => .int (i.fmod j)) (tVar 2) (tVar 1))) { nx := fun _ H' => Q .non H', rt := Q } σ H, rt := Q } [some (.ref b), some (.int m), some (.int n)] (upd (upd H e (.lst [])) l (.lst (((n :: r).map V.int).set 0 (.int (n.fdiv m))))) := by
        refine ⟨_, rfl, b, _, 0, _, rfl, rfl, .inl (.inl hb2), rfl, .inl ⟨rfl, _, .inl (.inl hl2)⟩, l, _, 0, 0, _, rfl, rfl, hl2, by decide, by decide, ?_, rfl, ?_⟩
        · simp [seqIndex?]
        · refine ⟨_, rfl, _, rfl, _, _, rfl, rfl, (by show m ≠ 0; omega), fin _ ⟨r, z, ?_, upd_same, ?_⟩ ?_⟩
          · rw [upd_ne nbl]; exact hb2
          · have := hlen; simp at this; omega
          · exact Kp.upd2 (Kp.upd2 K1)
      refine ite2 (fun hz => ?_) (fun hz => ?_)
      · exact iteT pop
      · refine ⟨_, rfl, b, _, 0, _, rfl, rfl, .inl (.inl hb2), rfl, l, _, 0, _, rfl, rfl, .inl (.inl hl2), at0, _, rfl, rfl, _, rfl, ?_⟩
        refine ite2 (fun hz => ?_) (fun hz => ?_)
        · exact pop
        · refine ⟨_, rfl, _, rfl, _, _, rfl, rfl, (by show m ≠ 0; omega), fin _ ⟨(n.fdiv m) :: r, z, hb2, hl2, ?_⟩ (Kp.upd2 K1)⟩
          have := hlen; simp at this ⊢; omega
end
end Om

namespace Om
open PySem PySem.Spec PyProof.Rows L2
/-! ### texts as lists of codes -/
def tx (cs : List Nat) : Str := ⟨cs.toArray⟩
theorem tx_cps (cs : List Nat) : (tx cs).cps.toList = cs := by simp [tx]
theorem tx_len (cs : List Nat) : (tx cs).length = cs.length := by simp [tx, Str.length]
theorem tx_app (a b : List Nat) : tx a ++ tx b = tx (a ++ b) := by
  show Str.append (tx a) (tx b) = tx (a ++ b)
  simp [tx, Str.append]
theorem tx_inj {a b : List Nat} (h : tx a = tx b) : a = b := by
  have e : (tx a).cps.toList = (tx b).cps.toList := by rw [h]
  rw [tx_cps, tx_cps] at e
  exact e
theorem of_tx (s : Str) : tx s.cps.toList = s := by
  obtain ⟨c⟩ := s
  simp [tx]
theorem join_tx : ∀ cs : List Nat, Str.join ⟨#[]⟩ (cs.map fun c => tx [c]) = tx cs
  | [] => rfl
  | [c] => rfl
  | c :: d :: r => by
    have ih := join_tx (d :: r)
    show tx [c] ++ (⟨#[]⟩ : Str) ++ Str.join ⟨#[]⟩ ((d :: r).map fun c => tx [c]) = tx (c :: d :: r)
    rw [ih]
    have e0 : (⟨#[]⟩ : Str) = tx [] := rfl
    rw [e0, tx_app, tx_app]
    rfl
theorem empty_tx : Str.ofString "" = (⟨#[]⟩ : Str) := by decide +kernel
def okSign (c : Nat) : Prop := c = 46 ∨ c = 126 ∨ (65 ≤ c ∧ c ≤ 90)
/-- what a law draws as rows -/
structure RowsOk (m : Nat) (rows : List (List Nat)) : Prop where
  h1 : 1 ≤ rows.length
  hm : rows.length ≤ m
  w : ∃ wd, 1 ≤ wd ∧ wd ≤ m ∧ ∀ r ∈ rows, r.length = wd ∧ ∀ c ∈ r, okSign c
def vt (r : List Nat) : V := .str (tx r)
def spRows : Sp := fun vs H Q _ => ∃ (b l : Addr) (m : Nat), vs = [.ref b, .int m] ∧ Box H b l ∧ 1 ≤ m ∧ m ≤ 12 ∧
  ∀ (p : Addr) (rows : List (List Nat)) (H' : Hp), RowsOk m rows → H p = none → H' p = some (.tup (rows.map vt)) → Box H' b l → Kp b l H H' → Q (.ref p) H'
def rJoin (K : PySem.W.Frag) : V → List V → Hp → VK → Prop := fun x xs H Q => ∃ a p, ∃ ys : List Str, x = .str a ∧ xs = [.ref p] ∧ (SqL K H p (ys.map V.str) ∨ SqT K H p (ys.map V.str)) ∧
      (ys.map (·.length)).sum + ys.length * a.length ≤ 16777216 ∧ Q (.str (Txt.join a ys)) H
theorem pe_joinK {X : Cx} {o e : Expr} {to te : TE} {apos pos : Pos} (ho : PE X o to) (he : PE X e te) (hs : starEach [e] X.env = [(false, eval e X.env)] := by rfl) (hbase : attributeBase o "join" X.env (eval o X.env) = eval o X.env := by rfl) (hline : (apos.endLine == pos.line) = true := by rfl) :
    PE X (.Call (.Attribute o "join" apos) [e] [] pos) (tM1 (rJoin X.K) to te) := pe_join ho he hs hbase hline
abbrev sRows : Stmt := top 23
/-- the scope of the i-th comprehension of a return's call -/
def retExpr (s : Stmt) : Expr := match s with
  | .Return (some e) _ => e
  | _ => .Constant .none 0 ⟨0, 0, 0, 0⟩
def arg0 (e : Expr) : Expr := match e with
  | .Call _ (a :: _) _ _ => a
  | _ => .Constant .none 0 ⟨0, 0, 0, 0⟩
def lcScope (e : Expr) : Scope := match e with
  | .ListComp _ _ sc _ => sc
  | _ => { kind := .function, names := [], isGenerator := false, isCoroutine := false }
def lcElt (e : Expr) : Expr := match e with
  | .ListComp e _ _ _ => e
  | _ => .Constant .none 0 ⟨0, 0, 0, 0⟩
def rowsLc : Expr := arg0 (retExpr ((defBody sRows).getD 2 (.Pass ⟨0, 0, 0, 0⟩)))
abbrev nRows : List Str := ["_law_box", "_law_most", "_law_height", "_law_width", "_law_signs", "_law_column", "_law_row"]
theorem scRows : FnScope nRows ["_law_box", "_law_most"] (defScope sRows) := ⟨rfl, rfl, rfl, by decide +kernel, rfl, by decide +kernel, by decide +kernel⟩
theorem blk1 : BlkOk nRows (defScope sRows) (lcScope rowsLc) [("_law_row", 6)] := blkOk_by (by decide +kernel)
/-- the scope of a comprehension within a def, as its own comprehensions see it -/
def relab (sc : Scope) (out : Scope) : Scope := { sc with names := sc.names.map fun (n, k) => if (k == NameKind.free && out.kind == .function && out.names.lookup n == some .cell) then (n, NameKind.cell) else (n, k) }
theorem blk2 : BlkOk nRows (relab (lcScope rowsLc) (defScope sRows)) (lcScope (arg0 (lcElt rowsLc))) [("_law_column", 5)] := blkOk_by (by decide +kernel)
def sg (i : Nat) : List Nat := [[46, 46, 46, 46, 126, 126, 65, 66, 75], [46, 46, 46, 46, 46, 46, 46, 46, 46, 46, 46, 126, 65, 66], [46, 46, 126, 126, 126, 126, 65], [65, 66, 75, 84, 90, 46, 46, 46, 46, 126]].getD i []
theorem sg_ok {i : Nat} (hi : i < 4) : ∀ c ∈ sg i, okSign c := by
  have : ∀ i : Fin 4, ∀ c ∈ sg i, c = 46 ∨ c = 126 ∨ (65 ≤ c ∧ c ≤ 90) := by decide
  exact this ⟨i, hi⟩
theorem sg_len {i : Nat} (hi : i < 4) : 1 ≤ (sg i).length ∧ (sg i).length ≤ 14 := by
  have : ∀ i : Fin 4, 1 ≤ (sg i).length ∧ (sg i).length ≤ 14 := by decide
  exact this ⟨i, hi⟩
def four : List V := [.str (Str.ofString "....~~ABK"), .str (Str.ofString "...........~AB"), .str (Str.ofString "..~~~~A"), .str (Str.ofString "ABKTZ....~")]
theorem four_at {n : Int} (h0 : 0 ≤ n) (h4 : n < 4) : atI four n = some (vt (sg n.toNat)) := by
  have e : n = 0 ∨ n = 1 ∨ n = 2 ∨ n = 3 := by omega
  have s0 : Str.ofString "....~~ABK" = tx (sg 0) := by decide +kernel
  have s1 : Str.ofString "...........~AB" = tx (sg 1) := by decide +kernel
  have s2 : Str.ofString "..~~~~A" = tx (sg 2) := by decide +kernel
  have s3 : Str.ofString "ABKTZ....~" = tx (sg 3) := by decide +kernel
  rcases e with rfl | rfl | rfl | rfl
  · show some (V.str _) = some (V.str _)
    rw [s0]; rfl
  · show some (V.str _) = some (V.str _)
    rw [s1]; rfl
  · show some (V.str _) = some (V.str _)
    rw [s2]; rfl
  · show some (V.str _) = some (V.str _)
    rw [s3]; rfl
theorem atI_of {α : Type} {xs : List α} {n : Int} (h0 : 0 ≤ n) (h1 : n < xs.length) : ∃ v, atI xs n = some v ∧ v ∈ xs := by
  have hj : n.toNat < xs.length := by omega
  refine ⟨xs[n.toNat], ?_, List.getElem_mem hj⟩
  have e : ((n.toNat : Nat) : Int) = n := by omega
  have z := atI_nat (xs := xs) (j := n.toNat) (v := xs[n.toNat]) (by simp [hj])
  rw [e] at z
  exact z
theorem tyes {σ : L2.St} {H : Hp} {f g : Hp → Prop} (h : f H) : tYes σ H fun b H3 => if b = true then f H3 else g H3 := by
  show (if true = true then f H else g H)
  rw [if_pos rfl]
  exact h
section
variable {P : Program} {w : World} {K : PySem.W.Frag} {mg : Str → Option Value} {base : Heap}
theorem ok_rows {f : Addr} {fd : FuncData} (F : FnP K "_law_rows" "_law_rows" sRows f fd) (T : Cal P w K mg base CX0 1 "_law_take" ["_law_box", "_law_many"] spTake)
    (grange : mg "range" = none) (gtuple : mg "tuple" = none) (glen : mg "len" = none) :
    FnOk P w K mg base CX0 2 f fd ["_law_box", "_law_most"] spRows := by
  refine F.ok scRows (fun vs H Q E h => ?_) (fun cdv A outer s H vs Q E hr h => ?_)
  · obtain ⟨b, l, m, rfl, _⟩ := h
    rfl
  · obtain ⟨b, l, m, rfl, B, hm0, hm1, k⟩ := h
    have nd := scRows.nd
    have nbl := B.ne
    refine ⟨_, PSs.nox (pss_cons (ps_asg (pe_tup (pa_cons (pe_op op_add pe_int (pe_cal T hr pass0 (pa_cons (pv 0) (pa_cons (pv 1) pa_nil)))) (pa_cons (pe_op op_add pe_int (pe_cal T hr pass0 (pa_cons (pv 0) (pa_cons (pv 1) pa_nil)))) pa_nil)))
          (pg_tup rfl (pgs_cons (pg_name (i := 2) nd rfl (.inl rfl)) (pgs_cons (pg_name (i := 3) nd rfl (.inr rfl)) pgs_nil))))
      (pss_cons (ps_set (i := 4) nd rfl (.inr rfl) (pe_ix ix_list (pe_lst (pa_cons pe_str (pa_cons pe_str (pa_cons pe_str (pa_cons pe_str pa_nil))))) (pe_cal T hr pass0 (pa_cons (pv 0) (pa_cons pe_int pa_nil))) (fun _ _ => rfl)))
      (pss_one (ps_ret (pe_callTy call_tuple_of (by rfl) gtuple (by decide +kernel) (pa_cons
        (pe_lc (own := [("_law_row", 6)]) (g := gName 6) (te := tM1 (rJoin K) _ _) rfl nd (pi_range1 rfl grange (pa_cons (pv 2) pa_nil)) blk1 (fun _ _ _ _ _ => pg_name (i := 6) nd rfl (.inl rfl)) (fun _ _ _ _ _ => pts_nil) (fun _ _ _ _ _ =>
          pe_joinK pe_str (pe_lc (own := [("_law_column", 5)]) (g := gName 5) rfl nd (pi_range1 rfl grange (pa_cons (pv 3) pa_nil)) blk2 (fun _ _ _ _ _ => pg_name (i := 5) nd rfl (.inl rfl)) (fun _ _ _ _ _ => pts_nil) (fun _ _ _ _ _ =>
            pe_ix ix_str (pv 4) (pe_cal T hr pass0 (pa_cons (pv 0) (pa_cons (pe_callB call_len_str (by rfl) glen PySem.boot_len (pa_cons (pv 4) pa_nil)) pa_nil))) (fun _ _ => rfl))))) pa_nil)))))), ?_⟩
    refine ⟨_, rfl, _, rfl, b, l, _, rfl, B, by omega, by omega, fun n1 H1 a1 a2 B1 K1 => ⟨_, _, rfl, rfl, ?_⟩⟩
    refine ⟨_, rfl, _, rfl, b, l, _, rfl, B1, by omega, by omega, fun n2 H2 b1 b2 B2 K2 => ⟨_, _, rfl, rfl, (by show 2 ≤ sizeLine; decide), fun p hp => ?_⟩⟩
    refine ⟨p, _, rfl, .inl (.inl upd_same), rfl, _, _, rfl, _, _, rfl, rfl, ?_⟩
    refine ⟨by show 4 ≤ sizeLine; decide, fun q hq => ?_⟩
    have B3 : Box (upd (upd H2 p (.tup [.int (1 + n1), .int (1 + n2)])) q (.lst four)) b l := B2.same (Same.new (Same.new (Same.refl H2) hp) hq)
    refine ⟨_, rfl, b, l, 4, rfl, B3, by decide, by decide, fun n3 H4 c1 c2 B4 K4 => ?_⟩
    obtain ⟨ns3, z3, hb3, hl3, _⟩ := B3.ex
    have K34 : Kp b l H H4 := ((K1.trans K2).trans (Kp.of (Same.new (Same.new (Same.refl H2) hp) hq))).trans K4
    have npb : q ≠ b := fun e => by
      have B2' := B2.same (Same.new (Same.refl H2) hp (o := .tup [.int (1 + n1), .int (1 + n2)]))
      obtain ⟨_, _, x1, _⟩ := B2'.ex
      rw [← e, hq] at x1; cases x1
    have npl : q ≠ l := fun e => by
      have B2' := B2.same (Same.new (Same.refl H2) hp (o := .tup [.int (1 + n1), .int (1 + n2)]))
      obtain ⟨_, _, _, x1, _⟩ := B2'.ex
      rw [← e, hq] at x1; cases x1
    have hq4 : H4 q = some (.lst four) := K4 q _ upd_same npb npl
    have i4 : n3.toNat < 4 := by omega
    refine ⟨q, _, n3, _, rfl, rfl, .inl (.inl hq4), four_at c1 c2, ?_⟩
    -- the rows
    have hwd : (1 + n2).toNat ≤ m := by omega
    refine ⟨_, rfl, _, rfl, by omega, by omega, fun D hD => lc_range (lo := 0) (n := (1 + n1).toNat) (fun j H' => ∃ rows : List (List Nat), rows.length = j ∧ (∀ r ∈ rows, r.length = (1 + n2).toNat ∧ ∀ c ∈ r, okSign c) ∧ H' D = some (.lst (rows.map vt)) ∧ Box H' b l ∧ Kp b l H4 H')
      ⟨[], rfl, by simp, upd_same, B4.same (Same.new (Same.refl _) hD), Kp.of (Same.new (Same.refl _) hD)⟩ ?_ ?_⟩
    · rintro j H' hj ⟨rows, e1, e2, e3, B5, K5⟩
      have nDb : D ≠ b := fun e => by
        obtain ⟨_, _, x1, _⟩ := B4.ex
        rw [← e, hD] at x1; cases x1
      have nDl : D ≠ l := fun e => by
        obtain ⟨_, _, _, x1, _⟩ := B4.ex
        rw [← e, hD] at x1; cases x1
      refine ⟨rfl, tyes ?_⟩
      refine ⟨⟨_, rfl⟩, _, rfl, _, rfl, by omega, by omega, fun D2 hD2 => lc_range (lo := 0) (n := (1 + n2).toNat) (fun i H6 => ∃ cs : List Nat, cs.length = i ∧ (∀ c ∈ cs, okSign c) ∧ H6 D2 = some (.lst (cs.map fun c => vt [c])) ∧ Box H6 b l ∧ Kp b l H' H6)
        ⟨[], rfl, by simp, upd_same, B5.same (Same.new (Same.refl _) hD2), Kp.of (Same.new (Same.refl _) hD2)⟩ ?_ ?_⟩
      · rintro i H6 hi ⟨cs, f1, f2, f3, B6, K6⟩
        have nb2 : D2 ≠ b := fun e => by
          obtain ⟨_, _, x1, _⟩ := B5.ex
          rw [← e, hD2] at x1; cases x1
        have nl2 : D2 ≠ l := fun e => by
          obtain ⟨_, _, _, x1, _⟩ := B5.ex
          rw [← e, hD2] at x1; cases x1
        have sl := sg_len i4
        refine ⟨rfl, tyes ?_⟩
        refine ⟨_, rfl, _, rfl, _, rfl, _, rfl, (by show (tx _).length ≤ sizeLine; rw [tx_len]; exact Nat.le_trans sl.2 (by decide)), b, l, _, rfl, B6, ?_, ?_, fun n H7 g1 g2 B7 K7 => ?_⟩
        · rw [tx_len]; omega
        · rw [tx_len]; omega
        · rw [tx_len] at g2
          obtain ⟨c, hc, hm⟩ := atI_of (xs := sg n3.toNat) g1 g2
          refine ⟨_, _, c, rfl, rfl, (by rw [tx_len]; exact Nat.le_trans sl.2 (by decide)), (by rw [tx_cps]; exact hc), ?_⟩
          have f4 := K7 D2 _ f3 nb2 nl2
          refine ⟨_, f4, ?_, cs ++ [c], by simp [f1], ?_, ?_, ?_, ?_⟩
          · rw [List.length_map, f1]
            exact Nat.lt_of_lt_of_le hi (Nat.le_trans hwd (Nat.le_trans hm1 (by decide)))
          · intro c' hc'
            rcases List.mem_append.mp hc' with h | h
            · exact f2 c' h
            · rw [List.mem_singleton.mp h]; exact sg_ok i4 c hm
          · rw [upd_same, List.map_append]; rfl
          · obtain ⟨u1, u2, u3, u4, u5⟩ := B7.ex
            exact ⟨u1, u2, by rw [upd_ne nb2.symm]; exact u3, by rw [upd_ne nl2.symm]; exact u4, u5⟩
          · intro x o hx n1' n2'
            have hne : x ≠ D2 := ne_of_none hx hD2
            rw [upd_ne hne]
            exact K7 x o (K6 x o hx n1' n2') n1' n2'
      · rintro H6 ⟨cs, f1, f2, f3, B6, K6⟩
        refine ⟨_, D2, cs.map fun c => tx [c], rfl, rfl, .inl (.inl (.inl (by rw [f3, List.map_map]; rfl))), ?_, ?_⟩
        · rw [empty_tx]
          have e5 : ∀ l : List Nat, ((l.map fun c => tx [c]).map (·.length)).sum = l.length := by
            intro l
            induction l with
            | nil => rfl
            | cons a r ih => simp only [List.map_cons, List.sum_cons, ih, tx_len, List.length_cons, List.length_nil]; omega
          rw [e5]
          show cs.length + _ * 0 ≤ _
          omega
        · rw [empty_tx, TL.join_eq, join_tx]
          have f4 := K6 D _ e3 nDb nDl
          refine ⟨_, f4, ?_, rows ++ [cs], by simp [e1], ?_, ?_, ?_, ?_⟩
          · rw [List.length_map, e1]
            exact Nat.lt_of_lt_of_le hj (Nat.le_trans (show (1 + n1).toNat ≤ 12 by omega) (by decide))
          · intro r hr'
            rcases List.mem_append.mp hr' with h | h
            · exact e2 r h
            · rw [List.mem_singleton.mp h]; exact ⟨f1, f2⟩
          · rw [upd_same, List.map_append]; rfl
          · obtain ⟨u1, u2, u3, u4, u5⟩ := B6.ex
            exact ⟨u1, u2, by rw [upd_ne nDb.symm]; exact u3, by rw [upd_ne nDl.symm]; exact u4, u5⟩
          · intro x o hx n1' n2'
            have hne : x ≠ D := ne_of_none hx hD
            rw [upd_ne hne]
            exact K6 x o (K5 x o hx n1' n2') n1' n2'
    · rintro H' ⟨rows, e1, e2, e3, B5, K5⟩
      refine ⟨D, _, rfl, .inl ⟨.inl (.inl e3), fun t ht => ?_⟩⟩
      have kall := K34.trans K5
      refine k t rows _ ⟨by omega, by omega, (1 + n2).toNat, by omega, by omega, e2⟩ ?_ upd_same (B5.same (Same.new (Same.refl _) ht)) (kall.trans (Kp.of (Same.new (Same.refl _) ht)))
      cases hh : H t with
      | none => rfl
      | some o =>
        by_cases h1 : t = b
        · obtain ⟨_, _, x1, _⟩ := B5.ex
          rw [← h1, ht] at x1; cases x1
        · by_cases h2 : t = l
          · obtain ⟨_, _, _, x1, _⟩ := B5.ex
            rw [← h2, ht] at x1; cases x1
          · have := kall t o hh h1 h2
            rw [ht] at this; cases this
end
end Om

/-! enumerate(tuple) and enumerate(text) -/
namespace PySem
open Sem (wp)
open Builtin
set_option maxHeartbeats 2000000 in
theorem om_enum_new {u : Value} {ob : Obj} {Hh : Heap → Prop} (B : Begins u ob Hh) :
    Meets (Builtin.«enumerate.__new__» ⟨[.type "enumerate", u], []⟩) (fun _ R z => Hh z.heap ∧
      R (.ok (.ret (.ref (z.heap.push ob).objs.size))) { z with heap := (z.heap.push ob).push { cls := .type "enumerate", data := .fields #[.none, .bool false, .ref z.heap.objs.size, rawInt 0, .none, .none] } }) :=
  Meets.of_wp fun pr wo Ar Re st hq => by
    obtain ⟨hp0, gg, dd, tt, oo⟩ := st
    obtain ⟨hB, hq⟩ := hq
    have hs0 := sub_enumerate
    have step : ∀ {A' : Around} {E : Value → Shared → Prop} {Q : Value → Shared → Prop}, Q (.ref hp0.objs.size) ⟨hp0.push ob, gg, dd, tt, oo⟩ → wpAny (model pr wo) A' (pyIter u) Q E ⟨hp0, gg, dd, tt, oo⟩ :=
      fun q => B.iter pr wo _ _ ⟨hp0, gg, dd, tt, oo⟩ _ hB q
    wp_walk using step
    refine wpAny_stack_any fun zz => wpAny_pure ?_
    split
    · rename_i cc _ _ _ _ _
      cases (cc == Value.type "enumerate") <;> (wp_walk using step; exact ⟨_, rfl, hq⟩)
    · wp_walk using step
      exact ⟨_, rfl, hq⟩
theorem om_enum_call {prog : Program} {w : World} {A : Around} {E : Value → Shared → Prop} {s : Shared} {u : Value} {ob : Obj} {Hh : Heap → Prop} {Q : Value → Shared → Prop} (B : Begins u ob Hh) (hB : Hh s.heap)
    (hq : ∀ h', IsEnum h' (s.heap.objs.size + 1) s.heap.objs.size 0 .none → h'.get? s.heap.objs.size = some ob → (∀ b o, s.heap.get? b = some o → h'.get? b = some o) → Q (.ref (s.heap.objs.size + 1)) { s with heap := h' }) :
    wpAny (model prog w) A (call (.type "enumerate") [u]) Q E s := by
  refine callType_new F.called_enumerate (by decide) (F.typeCall_enumerate_1 _) (F.newCall_enumerate_1 _) (fun obj => F.args_object_init_2 obj _) F.entry_enumerate_new (om_enum_new B) ⟨hB, ?_⟩
  have z1 : (s.heap.push ob).objs.size = s.heap.objs.size + 1 := Heap.size_push ..
  show _ ∧ _
  rw [z1]
  have z2 : IsEnum ((s.heap.push ob).push { cls := .type "enumerate", data := .fields #[.none, .bool false, .ref s.heap.objs.size, rawInt 0, .none, .none] }) (s.heap.objs.size + 1) s.heap.objs.size 0 .none := by
    have z3 := Heap.get?_push_size (s.heap.push ob) (o := { cls := .type "enumerate", data := .fields #[.none, .bool false, .ref s.heap.objs.size, rawInt 0, .none, .none] }) rfl
    rw [z1] at z3
    exact z3
  exact ⟨⟨_, z2, rfl⟩, hq _ z2 (Heap.get?_push_of_some _ (Heap.get?_push_size _ B.free)) fun b o x => Heap.get?_push_of_some _ (Heap.get?_push_of_some _ x)⟩
end PySem
namespace Om
open PySem PySem.Spec PyProof.Rows L2
/-- the tuple's items in new pairs -/
def IteT (K : PySem.W.Frag) (a : Addr) (xs : List V) : It :=
  ⟨fun i H => SqT K H a xs ∧ i < xs.length, fun i H v H' => ∃ T x, v = .ref T ∧ H T = none ∧ H' = upd H T (.tup [.int (i : Nat), x]) ∧ xs[i]? = some x, fun i H => SqT K H a xs ∧ xs.length = i⟩
theorem turn_enumT {P : Program} {w : World} {K : PySem.W.Frag} {elts : List Expr} {kk : Nat} {tpos : Pos} {a e it : Addr} {xs : List V} (nae : a ≠ e) (nai : a ≠ it) (nei : e ≠ it) :
    Turn P w K (.Tuple elts kk tpos) (IteT K a xs) [e, it] e (fun i h => (∃ old, IsEnum h e it ((i : Nat) : Int) old) ∧ h.IsTupleIter it a i) where
  mem := by simp
  obj := fun i h ⟨⟨old, he⟩, o, ho, hc, hd⟩ b hb => by
    rcases (show b = e ∨ b = it by simpa using hb) with rfl | rfl
    · exact ⟨_, he, fun v q => nomatch q⟩
    · exact ⟨o, ho, fun v q => by rw [hd] at q; cases q⟩
  keep := fun i h h' ⟨⟨old, he⟩, hi⟩ k => ⟨⟨old, k e (by simp) _ he⟩, hi.at fun o q => k it (by simp) o q⟩
  item := by
    intro X eP ew eK hc i pins s σ H E I hf ⟨⟨old, he⟩, hit⟩ ⟨hq, hlt⟩
    subst eP ew eK
    obtain ⟨its, rv, tu, hz⟩ := I.tuple hq
    have hx : xs[i]? = some xs[i] := by simp [hlt]
    obtain ⟨u, hu, ru⟩ := rv.get hx
    have el : e < s.heap.objs.size := Heap.lt_size he
    have il : it < s.heap.objs.size := by obtain ⟨_, q, _⟩ := hit; exact Heap.lt_size q
    have hsz : i < its.toArray.size := by
      have := rv.length
      simp
      omega
    have hd0 : X.A.in1.handled = none := I.ok.hd hc
    refine wpAny_pyNext_enum_itemD (Draws.tuple hd0 it a nai its.toArray) he ⟨hit, tu⟩ hsz nei (by simp [nei, Ne.symm nae]) fun x h' tk hx2 ho hst hT hs2 hk => ?_
    obtain rfl : x = u := by
      have e1 : its.toArray[i]? = some x := hx2
      have e2 : its.toArray[i]? = some u := by simpa using hu
      rw [e1] at e2
      exact Option.some.inj e2
    refine ⟨_, rfl, wpAny_letOwnedTupleGo_enum (s := { s with heap := h', toks := tk + 1 }) ho fun h2 he2 sb => ?_⟩
    have hT2 := (sb.2 _ (Nat.ne_of_gt el)).trans hT
    have new : ObjOk X.prog X.w (upd H s.heap.objs.size (.tup [.int (i : Nat), xs[i]])) h2 s.heap.objs.size (.tup [.int (i : Nat), xs[i]]) :=
      ⟨(show 2 ≤ sizeLine by decide), [.int i tk, x], .cons ⟨_, rfl⟩ (.cons ru .nil), _, hT2, rfl, _, rfl⟩
    have I1 : Inv X pins σ (upd H s.heap.objs.size (.tup [.int (i : Nat), xs[i]])) { s with heap := h2, toks := tk + 1 } :=
      I.turnedNew (ch := [e, it]) (fun b ob hb q => (sb.2 b (by rintro rfl; simp at hb)).trans (hk b ob (by rintro rfl; simp at hb) (by rintro rfl; simp at hb) q)) hf (Nat.le_refl _) new
    have ei : ((i + 1 : Nat) : Int) = (i : Int) + 1 := by omega
    refine ⟨.ref s.heap.objs.size, _, I1, rfl, ⟨_, _, rfl, I.hok.fresh (Nat.le_refl _), rfl, hx⟩, ⟨⟨x, by rw [ei]; exact he2⟩, hst.1.at fun o q => (sb.2 it (Ne.symm nei)).trans q⟩, fun b hb => ?_⟩
    have hlt2 : b < s.heap.objs.size := by
      rcases (show b = e ∨ b = it by simpa using hb) with rfl | rfl
      · exact el
      · exact il
    rw [upd_ne (Nat.ne_of_lt hlt2)]
    exact (hf b hb).1
  done := by
    intro X eP ew eK hc i pins s σ H E I hf ⟨⟨old, he⟩, hit⟩ ⟨hq, hle⟩
    subst eP ew eK
    obtain ⟨its, rv, tu, hz⟩ := I.tuple hq
    obtain ⟨f0, f1, f2, f3, f4, f5⟩ := hf it (by simp)
    have hl := rv.length
    have hd0 : X.A.in1.handled = none := I.ok.hd hc
    obtain rfl : i = its.toArray.size := by simp; omega
    exact wpAny_pyNext_enum_endD (Draws.tuple hd0 it a nai its.toArray) he ⟨hit, tu⟩ fun h' eb => ⟨rfl, I.turned (t' := s.toks) (fun b o hb q => eb b o hb q) f0 f1 f3 f4 f5⟩
  self := fun A i s Q E ⟨⟨_, he⟩, _⟩ h => wpAny_pyIter_enum he h
def iEnumT (K : PySem.W.Frag) (ta : TA) : TI := fun σ H R => ta σ H fun vs H1 => ∃ a xs, vs = [.ref a] ∧ SqT K H1 a xs ∧ R (IteT K a xs) H1
theorem pi_enumT {X : Cx} {e : Expr} {ta : TA} {p pos tpos : Pos} {elts : List Expr} {kk : Nat} (hg : Gl X "enumerate") (hm : X.mg "enumerate" = none) (ha : PA X [e] ta) (hs : starEach [e] X.env = [(false, eval e X.env)] := by rfl) :
    PI X (.Tuple elts kk tpos) (.Call (.Name "enumerate" p) [e] [] pos) (iEnumT X.K ta) := by
  constructor
  intro pins s σ H R I h
  refine Call_ (ld_blt I hg hm boot_enumerate (PyProof.Rows.callWith_type1 (thn (ha.run pos pins s σ H _ I h) fun us s1 ⟨vs, H1, I1, r1, a, xs, ev, hq, q⟩ => ?_) hs rfl))
  subst ev
  cases r1 with
  | cons ra rr =>
    cases rr
    cases ra
    obtain ⟨its, rv, tu, hz⟩ := I1.tuple hq
    have la : a < s1.heap.objs.size := by obtain ⟨o, ho, _⟩ := tu; exact Heap.lt_size ho
    refine om_enum_call (begins_tuple a its.toArray) tu fun h' he hi hk => wpAny_pyIter_enum he ?_
    have I2 : Inv X pins σ H1 { s1 with heap := h' } := I1.kept (t' := s1.toks) hk
    refine ⟨s1.heap.objs.size + 1, [s1.heap.objs.size + 1, s1.heap.objs.size], _, _, H1, rfl, I2, turn_enumT (a := a) (xs := xs) (Nat.ne_of_lt (Nat.lt_succ_of_lt la)) (Nat.ne_of_lt la) (Nat.succ_ne_self _), ⟨⟨.none, he⟩, _, hi, rfl, rfl⟩, fun b hb => ?_, q⟩
    have hb2 : s1.heap.objs.size ≤ b := by
      rcases (show b = s1.heap.objs.size + 1 ∨ b = s1.heap.objs.size by simpa using hb) with rfl | rfl
      · omega
      · exact Nat.le_refl _
    exact I1.fpOk hb2 (I1.hok.fresh hb2)
/-- for i, x in enumerate(t): one turn from Pv i to Pv (i + 1) -/
theorem for_enumT {K : PySem.W.Frag} {a : Addr} {xs : List V} {g : TG} {tb : TS} {D : Ends} {σ : L2.St} {H : Hp} (Pv : Nat → L2.St → Hp → Prop) (h0 : Pv 0 σ H) (hl : ∀ i σ H, i ≤ xs.length → Pv i σ H → SqT K H a xs)
    (hs : ∀ i x T σ H, xs[i]? = some x → Pv i σ H → H T = none → g (.ref T) σ (upd H T (.tup [.int (i : Nat), x])) fun σ2 H2 => tb { D with nx := Pv (i + 1), ct := Pv (i + 1), bk := D.nx } σ2 H2) (hd : ∀ σ H, Pv xs.length σ H → D.nx σ H) :
    ∃ W : Nat → Nat → L2.St → Hp → Prop, (∃ m, W 0 m σ H) ∧ ∀ i m σ H, W i m σ H → ((IteT K a xs).stop i H ∧ D.nx σ H) ∨ ((IteT K a xs).go i H ∧ ∃ Nx : L2.St → Hp → Prop, (∀ σ' H', Nx σ' H' → ∃ m', m' < m ∧ W (i + 1) m' σ' H') ∧
      ∀ x H', (IteT K a xs).yld i H x H' → g x σ H' fun σ2 H2 => tb { D with nx := Nx, ct := Nx, bk := D.nx } σ2 H2) := by
  refine ⟨fun i m σ H => m = xs.length - i ∧ i ≤ xs.length ∧ Pv i σ H, ⟨xs.length, by omega, Nat.zero_le _, h0⟩, ?_⟩
  rintro i m σ H ⟨rfl, hi, p⟩
  have q := hl i σ H hi p
  by_cases hlt : i < xs.length
  · refine .inr ⟨⟨q, hlt⟩, Pv (i + 1), fun σ' H' p' => ⟨xs.length - (i + 1), by omega, rfl, hlt, p'⟩, fun x H' hy => ?_⟩
    obtain ⟨T, y, rfl, hT, rfl, hx⟩ := hy
    exact hs i y T σ H hx p hT
  · obtain rfl : i = xs.length := by omega
    exact .inl ⟨⟨q, rfl⟩, hd σ H p⟩
end Om

/-! the first wrong sign of rows: the program's way and the law's -/
namespace Om
def okB (c : Nat) : Bool := decide (c = 46 ∨ c = 126 ∨ (65 ≤ c ∧ c ≤ 90))
theorem okB_iff (c : Nat) : okB c = true ↔ okSign c := by unfold okB okSign; exact decide_eq_true_iff
/-- the first of n columns from i on that is missing or wrong -/
def fw (r : List Nat) : Nat → Nat → Option Nat
  | 0, _ => none
  | n + 1, i => if i = r.length ∨ okB (r.getD i 0) = false then some i else fw r n (i + 1)
def fwEnd (r : List Nat) (wd : Nat) : Option Nat := if wd < r.length then some wd else none
def orElse' (a b : Option Nat) : Option Nat := match a with
  | some c => some c
  | none => b
def fwc (r : List Nat) (wd : Nat) : Option Nat := orElse' (fw r wd 0) (fwEnd r wd)
def chkF (wd : Nat) : List (List Nat) → Nat → Option (Nat × Nat)
  | [], _ => none
  | r :: rs, i => if i = 12 then some (i, 0) else match fwc r wd with
    | some c => some (i, c)
    | none => chkF wd rs (i + 1)
def wdOf (r : List Nat) : Nat := max 1 (min r.length 12)
def chk : List (List Nat) → Option (Nat × Nat)
  | [] => some (0, 0)
  | r :: rs => chkF (wdOf r) (r :: rs) 0
def dc (w0 : Nat) (r : List Nat) : Nat → Nat → Option Nat
  | 0, _ => none
  | n + 1, i => if 12 ≤ i ∨ w0 ≤ i ∨ okB (r.getD i 0) = false then some i else dc w0 r n (i + 1)
def dcEnd (w0 : Nat) (r : List Nat) : Option Nat := if r.length < w0 then some r.length else none
def dcc (w0 : Nat) (r : List Nat) : Option Nat := orElse' (dc w0 r r.length 0) (dcEnd w0 r)
def dueF (w0 : Nat) : List (List Nat) → Nat → Option (Nat × Nat)
  | [], _ => none
  | r :: rs, i => if i = 12 then some (12, 0) else match dcc w0 r with
    | some c => some (i, c)
    | none => dueF w0 rs (i + 1)
def due : List (List Nat) → Option (Nat × Nat)
  | [] => some (0, 0)
  | [] :: _ => some (0, 0)
  | (c :: r) :: rs => dueF (r.length + 1) ((c :: r) :: rs) 0
theorem row_same {r : List Nat} {w0 wd : Nat} (hwd : wd = min w0 12) (hc : w0 ≤ 12 ∨ r.length = w0) :
    ∀ (m i n k : Nat), m = wd - i → i ≤ wd → i ≤ r.length → n = wd - i → k = r.length - i → orElse' (fw r n i) (fwEnd r wd) = orElse' (dc w0 r k i) (dcEnd w0 r) := by
  intro m
  induction m with
  | zero =>
    intro i n k hm hi hr hn hk
    obtain rfl : i = wd := by omega
    obtain rfl : n = 0 := by omega
    show fwEnd r i = _
    unfold fwEnd
    by_cases hl : i < r.length
    · rw [if_pos hl]
      obtain ⟨k', rfl⟩ : ∃ k', k = k' + 1 := ⟨k - 1, by omega⟩
      unfold dc
      rw [if_pos (by omega)]
      rfl
    · rw [if_neg hl]
      obtain rfl : k = 0 := by omega
      show none = dcEnd w0 r
      unfold dcEnd
      rw [if_neg (by omega)]
  | succ m ih =>
    intro i n k hm hi hr hn hk
    obtain ⟨n', rfl⟩ : ∃ n', n = n' + 1 := ⟨n - 1, by omega⟩
    by_cases he : i = r.length
    · obtain rfl : k = 0 := by omega
      unfold fw
      rw [if_pos (.inl he)]
      show some i = dcEnd w0 r
      unfold dcEnd
      rw [if_pos (by omega), he]
    · obtain ⟨k', rfl⟩ : ∃ k', k = k' + 1 := ⟨k - 1, by omega⟩
      unfold fw dc
      by_cases hb : okB (r.getD i 0) = false
      · rw [if_pos (.inr hb), if_pos (.inr (.inr hb))]
        rfl
      · rw [if_neg (by intro h; rcases h with h | h; exact he h; exact hb h), if_neg (by intro h; rcases h with h | h | h; omega; omega; exact hb h)]
        exact ih (i + 1) n' k' (by omega) (by omega) (by omega) (by omega) (by omega)
theorem fwc_dcc {r : List Nat} {w0 : Nat} (hc : w0 ≤ 12 ∨ r.length = w0) : fwc r (min w0 12) = dcc w0 r :=
  row_same (wd := min w0 12) rfl hc _ 0 _ _ rfl (Nat.zero_le _) (Nat.zero_le _) rfl rfl
theorem chkF_dueF {w0 : Nat} (h : w0 ≤ 12) : ∀ (rs : List (List Nat)) (i : Nat), chkF (min w0 12) rs i = dueF w0 rs i
  | [], _ => rfl
  | r :: rs, i => by
    unfold chkF dueF
    by_cases hi : i = 12
    · rw [if_pos hi, if_pos hi, hi]
    · rw [if_neg hi, if_neg hi, fwc_dcc (.inl h), chkF_dueF h rs (i + 1)]
theorem chk_due : ∀ rows : List (List Nat), chk rows = due rows
  | [] => rfl
  | [] :: rs => rfl
  | (c :: r) :: rs => by
    have hw : wdOf (c :: r) = min (r.length + 1) 12 := by unfold wdOf; simp only [List.length_cons]; omega
    show chkF (wdOf (c :: r)) ((c :: r) :: rs) 0 = dueF (r.length + 1) ((c :: r) :: rs) 0
    rw [hw]
    by_cases h : r.length + 1 ≤ 12
    · exact chkF_dueF h _ 0
    · unfold chkF dueF
      rw [if_neg (by decide), if_neg (by decide), fwc_dcc (r := c :: r) (w0 := r.length + 1) (.inr rfl)]
      have hs : ∃ x, dcc (r.length + 1) (c :: r) = some x := by
        rw [← fwc_dcc (r := c :: r) (w0 := r.length + 1) (.inr rfl)]
        unfold fwc fwEnd
        cases hf : fw (c :: r) (min (r.length + 1) 12) 0 with
        | some x => exact ⟨x, rfl⟩
        | none => exact ⟨_, if_pos (by simp only [List.length_cons]; omega)⟩
      obtain ⟨x, hx⟩ := hs
      rw [hx]
/-- rows that are good -/
theorem fw_none {r : List Nat} (h : ∀ c ∈ r, okSign c) : ∀ n i, i + n ≤ r.length → fw r n i = none
  | 0, _, _ => rfl
  | n + 1, i, hi => by
    unfold fw
    have h1 : okB (r.getD i 0) = true := by
      rw [okB_iff, List.getD_eq_getElem?_getD, List.getElem?_eq_getElem (by omega)]
      exact h _ (List.getElem_mem _)
    rw [if_neg (by rintro (h | h); · omega
                   · rw [h1] at h; cases h), fw_none h n (i + 1) (by omega)]
theorem chkF_none {wd : Nat} : ∀ (rs : List (List Nat)) (i : Nat), i + rs.length ≤ 12 → (∀ r ∈ rs, r.length = wd ∧ ∀ c ∈ r, okSign c) → chkF wd rs i = none
  | [], _, _, _ => rfl
  | r :: rs, i, hi, h => by
    obtain ⟨h1, h2⟩ := h r (List.mem_cons_self ..)
    unfold chkF
    have e : fwc r wd = none := by
      unfold fwc fwEnd
      rw [fw_none h2 wd 0 (by omega), if_neg (by omega)]
      rfl
    simp only [List.length_cons] at hi
    rw [if_neg (by omega), e]
    exact chkF_none rs (i + 1) (by omega) fun r hr => h r (List.mem_cons_of_mem _ hr)
theorem chk_rows {m : Nat} {rows : List (List Nat)} (h : RowsOk m rows) (hm : m ≤ 12) : chk rows = none := by
  obtain ⟨h1, h2, wd, w1, w2, hr⟩ := h
  cases rows with
  | nil => simp at h1
  | cons r rs =>
    have e := (hr r (List.mem_cons_self ..)).1
    have hw : wdOf r = wd := by unfold wdOf; omega
    show chkF (wdOf r) (r :: rs) 0 = none
    rw [hw]
    exact chkF_none _ 0 (by omega) hr
end Om

namespace Om
open PySem PySem.Spec PyProof.Rows L2
abbrev sFwc : Stmt := top 19
abbrev sChk : Stmt := top 18
abbrev sII : Stmt := inClass (top 7) 0
abbrev sIslI : Stmt := inClass (top 16) 0
def allSigns : Str := Str.ofString ".ABCDEFGHIJKLMNOPQRSTUVWXYZ~"
theorem allSigns_cps : allSigns.cps.toList = [46, 65, 66, 67, 68, 69, 70, 71, 72, 73, 74, 75, 76, 77, 78, 79, 80, 81, 82, 83, 84, 85, 86, 87, 88, 89, 90, 126] := by decide +kernel
theorem mem_allSigns (c : Nat) : decide (c ∈ allSigns.cps.toList) = okB c := by
  rw [allSigns_cps]
  unfold okB
  apply decide_eq_decide.mpr
  simp only [List.mem_cons, List.not_mem_nil, or_false]
  omega
def optV : Option Nat → V
  | some c => .int (c : Nat)
  | none => .non
def spFwc : Sp := fun vs H Q _ => ∃ (r : List Nat) (wd : Nat), vs = [.str (tx r), .int wd] ∧ r.length ≤ 1000 ∧ wd ≤ 12 ∧ Q (optV (fwc r wd)) H
theorem small_le {n : Nat} (h : n ≤ 1000) : n ≤ sizeLine := Nat.le_of_lt (small1000 h)
theorem fw_succ (r : List Nat) (n i : Nat) : fw r (n + 1) i = if i = r.length ∨ okB (r.getD i 0) = false then some i else fw r n (i + 1) := rfl
section
variable {P : Program} {w : World} {K : PySem.W.Frag} {mg : Str → Option Value} {base : Heap}
theorem scFwc : FnScope ["signs", "width", "column"] ["signs", "width"] (defScope sFwc) := ⟨rfl, rfl, rfl, by decide +kernel, rfl, by decide +kernel, by decide +kernel⟩
theorem ok_fwc {f : Addr} {fd : FuncData} (F : FnP K "_first_wrong_column" "_first_wrong_column" sFwc f fd) (grange : mg "range" = none) (glen : mg "len" = none) (gall : ∃ t, mg "ALL_SIGNS" = some (.str allSigns t)) :
    FnOk P w K mg base CX0 1 f fd ["signs", "width"] spFwc := by
  obtain ⟨t0, gall⟩ := gall
  refine F.ok scFwc (fun vs H Q E h => ?_) (fun cdv A outer s H vs Q E hr h => ?_)
  · obtain ⟨r, wd, rfl, _⟩ := h
    rfl
  · obtain ⟨r, wd, rfl, hl, hw, k⟩ := h
    have nd := scFwc.nd
    have hl2 : (tx r).length ≤ sizeLine := by rw [tx_len]; exact small_le hl
    refine ⟨_, PSs.nox (pss_cons (ps_for PassesOwn.never rfl (pi_range1 rfl grange (pa_cons (pv 1) pa_nil)) (pg_name (i := 2) nd rfl (.inl rfl))
        (pss_one (ps_if (PW.pt (pw_or (pt_cmpR op_eq (pv 2) (pe_callB call_len_str (by rfl) glen PySem.boot_len (pa_cons (pv 0) pa_nil)) (nomark _))
            (pw_or1 (pt_cmpR op_notIn_sign (pe_ix ix_str (pv 0) (pv 2) (fun _ _ => rfl)) (pe_glob (v := .str allSigns) rfl gall ⟨_, rfl⟩) rfl)))) (pss_one (ps_ret (pv 2))) pss_nil)))
      (pss_cons (ps_if (pt_cmpR op_gt (pe_callB call_len_str (by rfl) glen PySem.boot_len (pa_cons (pv 0) pa_nil)) (pv 1) (nomark _)) (pss_one (ps_ret (pv 1))) pss_nil)
      (pss_one (ps_ret pe_non)))), ?_⟩
    refine ⟨_, rfl, _, rfl, by omega, by omega, for_range (lo := 0) (n := (wd : Int).toNat) (fun i σ H' => H' = H ∧ (∃ v, σ = [some (.str (tx r)), some (.int wd), v]) ∧ fw r wd 0 = fw r (wd - i) i ∧ i ≤ r.length) ⟨rfl, ⟨none, rfl⟩, rfl, Nat.zero_le _⟩ ?_ ?_⟩
    · rintro i σ H' hi ⟨rfl, ⟨v, rfl⟩, hf, hir⟩
      have hi' : i < wd := by omega
      obtain ⟨n, hn⟩ : ∃ n, wd - i = n + 1 := ⟨wd - i - 1, by omega⟩
      have hn2 : n = wd - (i + 1) := by omega
      rw [hn, fw_succ] at hf
      refine ⟨_, rfl, _, rfl, _, rfl, hl2, rfl, _, rfl, ?_⟩
      have e1 : decide (V.int (0 + (i : Int)) = V.int ((tx r).length : Nat)) = decide (i = r.length) := by
        rw [tx_len]
        apply decide_eq_decide.mpr
        constructor
        · intro h; injection h with h; omega
        · intro h; subst h; rw [Int.zero_add]
      have ret : (i = r.length ∨ okB (r.getD i 0) = false) → Q (.int (0 + (i : Int))) H' := fun h => by
        rw [if_pos h] at hf
        have e2 : fwc r wd = some i := by
          unfold fwc
          rw [hf]
          rfl
        rw [e2] at k
        rw [Int.zero_add]
        exact k
      show (if decide (V.int (0 + (i : Int)) = V.int ((tx r).length : Nat)) = true then _ else _)
      rw [e1]
      refine ite2 (fun hz => ?_) (fun hz => ?_)
      · refine iteT ⟨_, rfl, ?_⟩
        exact ret (.inl (of_decide_eq_true hz))
      · have hne : i ≠ r.length := fun e => hz (decide_eq_true e)
        have hlt : i < r.length := by omega
        · refine ⟨_, rfl, _, rfl, _, _, r[i], rfl, rfl, hl2, ?_, _, _, rfl, rfl, _, rfl, ?_⟩
          · rw [tx_cps, Int.zero_add]
            exact atI_nat (by simp [hlt])
          · rw [mem_allSigns]
            have e3 : r.getD i 0 = r[i] := by rw [List.getD_eq_getElem?_getD, List.getElem?_eq_getElem hlt]; rfl
            rw [e3] at ret hf
            cases hb : okB r[i] with
            | false =>
              refine iteT ⟨_, rfl, ?_⟩
              exact ret (.inr hb)
            | true =>
              refine iteF ?_
              refine ⟨rfl, ⟨_, rfl⟩, ?_, hlt⟩
              rw [hf, if_neg (by rintro (h | h); · exact hne h
                                 · rw [hb] at h; cases h), hn2]
    · rintro σ H' ⟨rfl, ⟨v, rfl⟩, hf, hir⟩
      have e0 : (wd : Int).toNat = wd := by omega
      rw [e0, Nat.sub_self] at hf
      have hf : fw r wd 0 = none := hf
      refine ⟨_, rfl, _, rfl, hl2, _, rfl, _, _, rfl, rfl, _, rfl, ?_⟩
      have e2 : fwc r wd = fwEnd r wd := by
        unfold fwc
        rw [hf]
        rfl
      rw [e2] at k
      rw [tx_len]
      refine ite2 (fun hz => ?_) (fun hz => ?_)
      · have hz' : (wd : Int) < (r.length : Nat) := of_decide_eq_true hz
        refine ⟨_, rfl, ?_⟩
        unfold fwEnd at k
        rw [if_pos (by omega)] at k
        exact k
      · have hz' : ¬ (wd : Int) < (r.length : Nat) := fun h => hz (decide_eq_true h)
        unfold fwEnd at k
        rw [if_neg (by omega)] at k
        exact k
end
end Om

namespace Om
open PySem PySem.Spec PyProof.Rows L2
/-- what the top says of InvalidIsland, at C, its __init__ at fI -/
structure IsI (K : PySem.W.Frag) (mg : Str → Option Value) (C fI : Addr) : Prop where
  oex : OexC K C
  noR : PySem.W.findIn K (.ref C) "row" = some none
  noC : PySem.W.findIn K (.ref C) "column" = some none
  iC : PySem.W.findIn K (.ref C) "__init__" = some (some (.ref fI))
  tI : PySem.W.typeIn K (.ref fI) = some (.type "function")
  gC : mg "InvalidIsland" = some (.ref C)
def xdII (x y : V) : List (Str × V) := [(("column" : Str), y), (("row" : Str), x)]
def spII (C : Addr) : Sp := fun vs H Q _ => ∃ (a : Addr) (x y : V), vs = [.ref a, x, y] ∧ H a = some (exo a C none) ∧
  ∀ dx, H dx = none → dx ≠ a → Q .non (upd (upd (upd H dx (exd dx [(("row" : Str), x)])) a (exo a C (some dx))) dx (exd dx (xdII x y)))
theorem mkII {C : Addr} {H1 : Hp} {W : XK} {x y : V} (k : ∀ d H', H1 d = none → Same H1 H' → H' d = some (.xd (xdII x y)) → W (.ref C) (some d) H') :
    [x, y].length ≤ 1000 ∧ ∀ a, H1 a = none → spII C (.ref a :: ([x, y] ++ [])) (upd H1 a (exo a C none)) (fun v H2 => v = .non ∧ ∃ (d : Addr) (fs : List (Str × V)), H2 a = some (exo a C (some d)) ∧ H2 d = some (exd d fs) ∧ H1 d = none ∧ W (.ref C) (some d) (upd (del H2 a) d (.xd fs))) (fun _ _ _ => False) := by
  refine ⟨by simp, fun a ha => ⟨a, x, y, rfl, upd_same, fun dx h1 h2 => ⟨rfl, dx, _, ?_, upd_same, ?_, ?_⟩⟩⟩
  · rw [upd_ne (Ne.symm h2), upd_same]
  · rw [upd_ne h2] at h1; exact h1
  · rw [upd_ne h2] at h1
    refine k dx _ h1 (fun c o hc => ?_) upd_same
    have n1 : c ≠ dx := ne_of_none hc h1
    have n2 : c ≠ a := ne_of_none hc ha
    rw [upd_ne n1, del_ne n2, upd_ne n1, upd_ne n2, upd_ne n1, upd_ne n2]
    exact hc
theorem Same.tup {K : PySem.W.Frag} {H H' : Hp} {a : Addr} {xs : List V} (e : Same H H') (h : SqT K H a xs) : SqT K H' a xs := by
  rcases h with (h | ⟨o, h⟩) | h
  · exact .inl (.inl (e _ _ h))
  · exact .inl (.inr ⟨o, e _ _ h⟩)
  · exact .inr h
theorem chkF_cons (wd : Nat) (r : List Nat) (rs : List (List Nat)) (i : Nat) : chkF wd (r :: rs) i = if i = 12 then some (i, 0) else match fwc r wd with
    | some c => some (i, c)
    | none => chkF wd rs (i + 1) := rfl
def spChk (K : PySem.W.Frag) (C : Addr) : Sp := fun vs H Q E => ∃ (a : Addr) (rows : List (List Nat)), vs = [.ref a] ∧ SqT K H a (rows.map vt) ∧ rows.length ≤ 1000 ∧ (∀ r ∈ rows, r.length ≤ 1000) ∧
  (chk rows = none → ∀ H', Same H H' → Q .non H') ∧ ∀ r c, chk rows = some (r, c) → ∀ d H', H d = none → Same H H' → H' d = some (.xd (xdII (.int (r : Nat)) (.int (c : Nat)))) → E (.ref C) (some d) H'
section
variable {P : Program} {w : World} {K : PySem.W.Frag} {mg : Str → Option Value} {base : Heap} {C fI : Addr}
theorem scII : FnScope ["self", "row", "column"] ["self", "row", "column"] (defScope sII) := ⟨rfl, rfl, rfl, by decide +kernel, rfl, by decide +kernel, by decide +kernel⟩
theorem ok_II {fd : FuncData} (F : FnP K "__init__" "InvalidIsland.__init__" sII fI fd) (T : IsI K mg C fI) : FnOk P w K mg base CX0 1 fI fd ["self", "row", "column"] (spII C) := by
  refine F.ok scII (fun vs H Q E h => ?_) (fun cdv A outer s H vs Q E hr h => ?_)
  · obtain ⟨a, x, y, rfl, _⟩ := h
    rfl
  · obtain ⟨a, x, y, rfl, ha, k⟩ := h
    refine ⟨_, PSs.nox (pss_cons (ps_ost (pv 0) (pv 1)) (pss_one (ps_ost (pv 0) (pv 2)))), ?_⟩
    refine ⟨_, rfl, _, rfl, a, C, rfl, T.oex, T.noR, .inl ⟨ha, fun dx h1 h2 => ?_⟩⟩
    exact ⟨_, rfl, _, rfl, a, C, rfl, T.oex, T.noC, .inr ⟨dx, _, upd_same, (by rw [upd_ne h2]; exact upd_same), by simp, k dx h1 h2⟩⟩
abbrev nChk : List Str := ["rows", "width", "row", "signs", "column"]
theorem scChk : FnScope nChk ["rows"] (defScope sChk) := ⟨rfl, rfl, rfl, by decide +kernel, rfl, by decide +kernel, by decide +kernel⟩
theorem ok_chk {f : Addr} {fd fdI : FuncData} (F : FnP K "_check_rows" "_check_rows" sChk f fd) (T : IsI K mg C fI) (FI : FnOk P w K mg base CX0 1 fI fdI ["self", "row", "column"] (spII C)) (bI : Binds K fdI ["self", "row", "column"] [])
    (G : Cal P w K mg base CX0 1 "_first_wrong_column" ["signs", "width"] spFwc) (glen : mg "len" = none) (gmax : mg "max" = none) (gmin : mg "min" = none) (genum : mg "enumerate" = none) (glg : ∃ t, mg "LARGEST" = some (.int 12 t)) :
    FnOk P w K mg base (L2.CX P w) 3 f fd ["rows"] (spChk K C) := by
  obtain ⟨t0, glg⟩ := glg
  refine F.ok scChk (fun vs H Q E h => ?_) (fun cdv A outer s H vs Q E hr h => ?_)
  · obtain ⟨a, rows, rfl, _⟩ := h
    rfl
  · obtain ⟨a, rows, rfl, hS, hl, hrl, kN, kS⟩ := h
    have nd := scChk.nd
    have hr1 : Room 1 _ := hr.mono (by decide)
    refine ⟨_, pss_cons (ps_if (pt_cmpR op_eq (pe_callB call_len_seq (by rfl) glen PySem.boot_len (pa_cons (pv 0) pa_nil)) pe_int (nomark _))
          (pss_one (ps_raise rfl (takes_of rfl rfl rfl rfl) (pmk_oex T.oex T.iC T.tI FI hr bI .nil pass0 rfl T.gC (pa_cons pe_int (pa_cons pe_int pa_nil))))) pss_nil)
      (pss_cons (ps_set (i := 1) nd rfl (.inl rfl) (pe_callB (call_max2 rfl) (by rfl) gmax (by decide +kernel) (pa_cons pe_int (pa_cons
          (pe_callB (call_min2 rfl) (by rfl) gmin (by decide +kernel) (pa_cons (pe_callB call_len_str (by rfl) glen PySem.boot_len (pa_cons (pe_ix ix_tup (pv 0) pe_int (fun _ _ => rfl)) pa_nil)) (pa_cons (pe_glob (v := .int 12) rfl glg ⟨_, rfl⟩) pa_nil))) pa_nil))))
      (pss_one (ps_for (passes_of rfl) rfl (pi_enumT rfl genum (pa_cons (pv 0) pa_nil)) (pg_tup rfl (pgs_cons (pg_name (i := 2) nd rfl (.inl rfl)) (pgs_cons (pg_name (i := 3) nd rfl (.inl rfl)) pgs_nil)))
        (pss_cons (ps_if (pt_cmpR op_eq (pv 2) (pe_glob (v := .int 12) rfl glg ⟨_, rfl⟩) (nomark _))
            (pss_one (ps_raise rfl (takes_of rfl rfl rfl rfl) (pmk_oex T.oex T.iC T.tI FI hr bI .nil pass0 rfl T.gC (pa_cons (pv 2) (pa_cons pe_int pa_nil))))) pss_nil)
        (pss_cons (ps_set (i := 4) nd rfl (.inl rfl) (pe_cal G hr1 pass0 (pa_cons (pv 3) (pa_cons (pv 1) pa_nil))))
        (pss_one (ps_if (pt_cmpR op_notN (pv 4) pe_non (nomark _))
            (pss_one (ps_raise rfl (takes_of rfl rfl rfl rfl) (pmk_oex T.oex T.iC T.tI FI hr bI .nil pass0 rfl T.gC (pa_cons (pv 2) (pa_cons (pv 4) pa_nil))))) pss_nil))))))), ?_⟩
    refine ⟨_, rfl, a, _, rfl, .inr hS, rfl, _, rfl, ?_⟩
    cases rows with
    | nil =>
      refine iteT ?_
      exact mkII (W := E) fun d H' h1 h2 h3 => kS 0 0 rfl d H' h1 h2 h3
    | cons r0 rs =>
      have hne : ¬ decide (V.int (((r0 :: rs).map vt).length : Nat) = V.int 0) = true := fun h => by
        have h := of_decide_eq_true h
        injection h with h
        simp only [List.length_map, List.length_cons] at h
        omega
      rw [if_neg hne]
      have hr0 : (tx r0).length ≤ sizeLine := by rw [tx_len]; exact small_le (hrl r0 (List.mem_cons_self ..))
      refine ⟨_, rfl, a, _, 0, _, rfl, rfl, hS, at0, _, rfl, hr0, _, _, rfl, _, _, rfl, ?_⟩
      have ew : (if (if (12 : Int) < ((tx r0).length : Nat) then (12 : Int) else ((tx r0).length : Nat)) > 1 then (if (12 : Int) < ((tx r0).length : Nat) then (12 : Int) else ((tx r0).length : Nat)) else 1) = ((wdOf r0 : Nat) : Int) := by
        rw [tx_len]
        unfold wdOf
        split <;> split <;> omega
      rw [ew]
      have hwd : wdOf r0 ≤ 12 := by unfold wdOf; omega
      refine ⟨_, rfl, a, _, rfl, hS, for_enumT (K := K) (a := a) (xs := (r0 :: rs).map vt) (fun i σ H' => Same H H' ∧ (∃ v2 v3 v4, σ = [some (.ref a), some (.int (wdOf r0 : Nat)), v2, v3, v4]) ∧ chk (r0 :: rs) = chkF (wdOf r0) ((r0 :: rs).drop i) i)
        ⟨Same.refl H, ⟨_, _, _, rfl⟩, rfl⟩ (fun i σ H' _ p => Same.tup p.1 hS) ?_ ?_⟩
      · rintro i x T1 σ H1 hx ⟨sm, ⟨v2, v3, v4, rfl⟩, hc⟩ hT1
        rw [List.getElem?_map] at hx
        cases hri : (r0 :: rs)[i]? with
        | none => rw [hri] at hx; cases hx
        | some r =>
          rw [hri] at hx
          obtain rfl : vt r = x := Option.some.inj hx
          have hlt : i < (r0 :: rs).length := (List.getElem?_eq_some_iff.mp hri).1
          have hre : (r0 :: rs)[i] = r := (List.getElem?_eq_some_iff.mp hri).2
          have hmem : r ∈ r0 :: rs := hre ▸ List.getElem_mem hlt
          rw [List.drop_eq_getElem_cons hlt, hre, chkF_cons] at hc
          have sm1 : Same H (upd H1 T1 (.tup [.int (i : Nat), vt r])) := Same.new sm hT1
          refine ⟨T1, _, rfl, .inl (.inl upd_same), rfl, _, _, rfl, _, _, rfl, rfl, ?_⟩
          refine ⟨_, rfl, rfl, _, rfl, ?_⟩
          refine ite2 (fun hz => ?_) (fun hz => ?_)
          · have hz := of_decide_eq_true hz
            injection hz with hz
            have hi : i = 12 := by omega
            rw [if_pos hi] at hc
            refine ⟨_, rfl, ?_⟩
            exact mkII (W := E) fun d H' h1 h2 h3 => kS i 0 hc d H' (Same.free sm1 h1) (sm1.trans h2) h3
          · have hi : i ≠ 12 := fun h => hz (decide_eq_true (by rw [h]; rfl))
            rw [if_neg hi] at hc
            refine ⟨_, rfl, _, rfl, r, wdOf r0, rfl, hrl r hmem, hwd, ?_⟩
            refine ⟨_, rfl, rfl, _, rfl, ?_⟩
            cases hf : fwc r (wdOf r0) with
            | none =>
              rw [hf] at hc
              refine iteF ?_
              exact ⟨sm1, ⟨_, _, _, rfl⟩, hc⟩
            | some c =>
              rw [hf] at hc
              refine iteT ⟨_, rfl, _, rfl, ?_⟩
              exact mkII (W := E) fun d H' h1 h2 h3 => kS i c hc d H' (Same.free sm1 h1) (sm1.trans h2) h3
      · rintro σ H1 ⟨sm, ⟨v2, v3, v4, rfl⟩, hc⟩
        have e0 : (r0 :: rs).drop ((r0 :: rs).map vt).length = [] := by simp
        rw [e0] at hc
        exact kN hc H1 sm
end
end Om

/-! a lambda handed to a def, its parameters all with a written default; what it raises is wished for at the slots of the def that calls it -/
namespace Om
open PySem PySem.Spec PyProof.Rows L2 LamX
/-- the function object: as the library's, its defaults dV -/
abbrev lamFd (qual : Str) (params : Arguments) (body : Expr) (scope : Scope) (cl : List (Str × Addr)) (pm : Value) (c' : Addr) (ctv dV : Value) : FuncData :=
  { PySem.W.kla_fn "<lambda>" qual params body scope cl pm (.ref c') ctv with defaults := dV }
abbrev lamOb (qual : Str) (params : Arguments) (body : Expr) (scope : Scope) (cl : List (Str × Addr)) (pm : Value) (c' : Addr) (ctv dV : Value) : Obj :=
  { cls := .type "function", data := .func (lamFd qual params body scope cl pm c' ctv dV) }
section
variable {M : Model} {A : Around} {E : Value → Shared → Prop} {s : Shared} {qual : Str} {params : Arguments} {body : Expr} {scope : Scope} {env : Env} {c P : Addr} {ps : Array Value} {pos : Pos} {fl : Nat} {mg : Str → Option Value}
  {clos : List (Str × Addr)} {Q : Value → Shared → Prop} {dV : Value}
/-- its code object is new -/
theorem tail_new (e1 : closureFor scope env = pure clos) (e2 : env.globals = mainGlobals) (e3 : s.heap.Ns mainGlobals mg) (e4 : env.code = .ref c) (e5 : PySem.W.CodeHd s.heap c P) (e6 : s.heap.get? P = some { cls := .none, data := .fields ps })
    (e7 : TriplesOk ps.toList) (e8 : codeAmong pos ps.toList = none) (e9 : mainGlobals ≠ P) (e10 : s.heap.BuiltinsAt mg P)
    (k : ∀ c' ctv h' tk, Heap.ExtBut P s.heap h' → s.heap.objs.size ≤ c' → c' < h'.objs.size → h'.CodeRec (.ref c') qual → h'.get? P = some { cls := .none, data := .fields (ps ++ #[rawInt pos.line, rawInt pos.col, .ref c']) } →
      Q (.ref h'.objs.size) { s with heap := h'.push (lamOb qual params body scope clos ((mg "__name__").getD .none) c' ctv dV), toks := tk }) :
    wpAny M A (makeTail "<lambda>" qual params (.expr body) scope env dV .none none pos fl) Q E s := by
  obtain ⟨b1, o1, g1, g2, _, g3, g4, g5, g6, g7⟩ := e10
  unfold makeTail
  rw [e1, e2]
  refine wpAny_bind (wpAny_pure ?_)
  cases clos with
  | nil =>
    simp only [List.isEmpty_nil, if_true]
    refine wpAny_bind (wpAny_pure (wpAny_bind (wpAny_functionCodeX e4 (e5.code e6 e7) (e5.tab e6) e8 fun c' h' tk x1 x2 x3 _ x4 x5 _ => ?_)))
    have G2 := e3.extBut x1 e9
    exact wpAny_bind (wpAny_builtinsFor G2 g1 g2 (x1 _ _ g3 g4) g5 g6 g7 (wpAny_bind (wpAny_nsGet G2 (wpAny_bind (wpAny_pure (wpAny_newObj_type (k c' .none h' tk x1 x2 x3 x4 x5.2) (by size_fits)))))))
  | cons q r =>
    simp only [List.isEmpty_cons, Bool.false_eq_true, if_false]
    refine wpAny_bind (wpAny_newTextTuple ?_)
    have kp : ∀ (oT : Obj) (b : Addr) (o : Obj), s.heap.get? b = some o → (s.heap.push oT).get? b = some o := fun oT b o e => Heap.get?_push_of_some _ e
    refine wpAny_bind (wpAny_functionCodeX e4 ((e5.keeps (kp _)).code (kp _ _ _ e6) e7) ((e5.keeps (kp _)).tab (kp _ _ _ e6)) e8 fun c' h' tk x1 x2 x3 _ x4 x5 _ => ?_)
    have ex : Heap.ExtBut P s.heap h' := fun b o hb e => x1 b o hb (kp _ b o e)
    have G2 := (e3.push _).extBut x1 e9
    have sz : s.heap.objs.size ≤ c' := Nat.le_trans (by rw [Heap.size_push]; omega) x2
    exact wpAny_bind (wpAny_builtinsFor G2 g1 g2 (ex _ _ g3 g4) g5 g6 g7 (wpAny_bind (wpAny_nsGet G2 (wpAny_bind (wpAny_pure (wpAny_newObj_type (k c' _ h' tk ex sz x3 x4 x5.2) (by size_fits)))))))
/-- its code object stands in the table -/
theorem tail_hit {cv : Value} (e1 : closureFor scope env = pure clos) (e2 : env.globals = mainGlobals) (e3 : s.heap.Ns mainGlobals mg) (e4 : env.code = .ref c) (e5 : PySem.W.CodeHd s.heap c P) (e6 : s.heap.get? P = some { cls := .none, data := .fields ps })
    (e7 : TriplesOk ps.toList) (e8 : codeAmong pos ps.toList = some cv) (e10 : s.heap.BuiltinsAt mg P)
    (k : ∀ (ctv : Value) (h' : Heap) (tk : Tok), (∀ b o, s.heap.get? b = some o → h'.get? b = some o) → s.heap.objs.size ≤ h'.objs.size →
      Q (.ref h'.objs.size) { s with heap := h'.push { cls := .type "function", data := .func { PySem.W.kla_fn "<lambda>" qual params body scope clos ((mg "__name__").getD .none) cv ctv with defaults := dV } }, toks := tk }) :
    wpAny M A (makeTail "<lambda>" qual params (.expr body) scope env dV .none none pos fl) Q E s := by
  obtain ⟨b1, o1, g1, g2, _, g3, g4, g5, g6, g7⟩ := e10
  unfold makeTail
  rw [e1, e2]
  refine wpAny_bind (wpAny_pure ?_)
  cases clos with
  | nil =>
    simp only [List.isEmpty_nil, if_true]
    exact wpAny_bind (wpAny_pure (wpAny_bind (wpAny_functionCode_hit e4 (e5.code e6 e7) e8 (wpAny_bind (wpAny_builtinsFor e3 g1 g2 g4 g5 g6 g7 (wpAny_bind (wpAny_nsGet e3 (wpAny_bind (wpAny_pure (wpAny_newObj_type (k .none s.heap s.toks (fun _ _ e => e) (Nat.le_refl _)) (by size_fits)))))))))))
  | cons q r =>
    simp only [List.isEmpty_cons, Bool.false_eq_true, if_false]
    have kp : ∀ (oT : Obj) (b : Addr) (o : Obj), s.heap.get? b = some o → (s.heap.push oT).get? b = some o := fun oT b o e => Heap.get?_push_of_some _ e
    exact wpAny_bind (wpAny_newTextTuple (wpAny_bind (wpAny_functionCode_hit e4 ((e5.keeps (kp _)).code (kp _ _ _ e6) e7) e8 (wpAny_bind (wpAny_builtinsFor (e3.push _) g1 g2 (kp _ _ _ g4) g5 g6 g7
      (wpAny_bind (wpAny_nsGet (e3.push _) (wpAny_bind (wpAny_pure (wpAny_newObj_type (k _ _ s.toks (kp _) (by rw [Heap.size_push]; omega)) (by size_fits)))))))))))
end
section
variable {X : Cx} {pins : List (Addr × Obj)} {σ : L2.St} {H : Hp} {s : Shared}
/-- a lambda with one parameter whose default is a written int is made -/
theorem lam_mk1 {T : List (Addr × Str)} {c P : Addr} {params : Arguments} {body : Expr} {scope : Scope} {pos p0 : Pos} {i0 : Int} {j0 : Nat} {E : Value → Shared → Prop} {Q : Value → Shared → Prop} (I : Inv X pins σ H s) (TB : TabB X.base X.mg c P) (hcode : X.env.code = .ref c)
    (hm : (P, X.env.qual ++ "<lambda>") ∈ T) (hu : ∀ p ∈ T, p.1 = P → p.2 = X.env.qual ++ "<lambda>") (hT : Tabs T H) (hdef : defaultsOf params X.env = ([eval (.Constant (.int i0) j0 p0) X.env], [])) (hfree : ∀ y ∈ scope.names, y.2 = .free → ∃ c, X.env.cells.lookup y.1 = some c)
    (k : ∀ (f c' D : Addr) (t0 : Tok) (pm ctv : Value) (H1 : Hp) (s' : Shared), Inv X pins σ H1 s' → ExtN H H1 → Tabs T H1 → s'.heap.get? f = some (lamOb (X.env.qual ++ "<lambda>") params body scope (cloFrom X.env.cells scope.names []) pm c' ctv (.ref D)) →
      s'.heap.get? D = some { cls := .type "tuple", data := .seq #[.int i0 t0] } → H1 f = none → H1 D = none → f ∉ frs X.stack → D ∉ frs X.stack → H1 c' = some (CodeO c' (X.env.qual ++ "<lambda>")) → Q (.ref f) s') (hxe : E = X.xe) :
    wpAny (model X.prog X.w) X.A (eval (.Lambda params body scope pos) X.env) Q E s := by
  subst hxe
  rw [arm_eval_Lambda, hdef]
  show wpAny _ _ (do let dv ← evalAll [eval (.Constant (.int i0) j0 p0) X.env]; let kdv ← holding dv (evalAllOpt []); makeFunction "<lambda>" (X.env.qual ++ "<lambda>") params (.expr body) scope X.env dv kdv [] pos pos.line) Q X.xe s
  refine wpAny_bind (wpAny_bind (thn ((pe_int (X := X) (i := i0) (j := j0) (pos := p0)).run pins s σ H (fun v H' => v = .int i0 ∧ H' = H) I ⟨rfl, rfl⟩) fun u s1 ⟨v, H1, I1, r1, ev, eH⟩ => ?_))
  subst ev
  rw [eH] at I1
  obtain ⟨t0, rfl⟩ := r1
  refine wpAny_bind (wpAny_holding (wpAny_pure (wpAny_pure (wpAny_bind (wpAny_holding (wpAny_pure ?_))))))
  rw [makeFunction_eq]
  simp only [List.zip_nil_right, List.filterMap_nil, List.isEmpty_nil, List.isEmpty_cons, Bool.false_eq_true, if_false, if_true, pure_bind]
  refine wpAny_bind (wpAny_newTextTuple ?_)
  have eD : (s1.heap.push { cls := .type "tuple", data := .seq [Value.int i0 t0].toArray }).get? s1.heap.objs.size = some { cls := .type "tuple", data := .seq #[.int i0 t0] } := Heap.get?_push_size _ rfl
  have I2 : Inv X pins σ H { s1 with heap := s1.heap.push { cls := .type "tuple", data := .seq [Value.int i0 t0].toArray } } := I1.kept (t' := s1.toks) fun b o e => Heap.get?_push_of_some _ e
  have nD : H s1.heap.objs.size = none := I1.hok.fresh (Nat.le_refl _)
  have frN : ∀ f, s1.heap.objs.size ≤ f → f ∉ frs X.stack := fun f hf z => by
    rcases List.mem_cons.mp (I1.stkSub _ z) with e | e
    · have q1 := I1.lt
      rw [← e] at q1
      exact Nat.lt_irrefl _ (Nat.lt_of_lt_of_le q1 hf)
    · exact I1.nofs hf e
  have frD := frN s1.heap.objs.size (Nat.le_refl _)
  have szD : s1.heap.objs.size ≤ (s1.heap.push { cls := .type "tuple", data := .seq [Value.int i0 t0].toArray }).objs.size := by rw [Heap.size_push]; omega
  generalize s1.heap.objs.size = D at eD nD frN frD szD
  generalize hs2 : ({ s1 with heap := s1.heap.push { cls := .type "tuple", data := .seq [Value.int i0 t0].toArray } } : Shared) = s2 at I2
  have eh : s2.heap = s1.heap.push { cls := .type "tuple", data := .seq [Value.int i0 t0].toArray } := by rw [← hs2]
  rw [← eh] at eD szD
  obtain ⟨ps, tP, tt, ta⟩ := hT _ hm
  have bP : s2.heap.BuiltinsAt X.mg P := TB.bm.keeps I2.bk
  have oP : s2.heap.get? P = some { cls := .none, data := .fields ps } := I2.hok P _ tP
  cases hc : codeAmong pos ps.toList with
  | none =>
    refine tail_new (mg := X.mg) (closure_ok hfree) I2.ok.glob (I2.mod.glob.keeps I2.bk) hcode (TB.code.keeps I2.bk) oP tt hc TB.gP bP fun c' ctv h' tk x1 x2 x3 x4 x5 => ?_
    obtain ⟨c2, oc, vs, t, y1, y2, y3, y4⟩ := x4
    cases y1
    have nC : H c' = none := I2.hok.fresh x2
    have sz2 : s2.heap.objs.size ≤ h'.objs.size := Nat.le_trans x2 (Nat.le_of_lt x3)
    have J := inv_table (t' := tk) (more := #[rawInt pos.line, rawInt pos.col, .ref c']) (h' := h'.push (lamOb (X.env.qual ++ "<lambda>") params body scope (cloFrom X.env.cells scope.names []) ((X.mg "__name__").getD .none) c' ctv (.ref D))) I2 tP
      (fun b o hb e => Heap.get?_push_of_some _ (x1 b o hb e)) (Heap.get?_push_of_some _ x5) x2 ⟨oc, vs, t, Heap.get?_push_of_some _ y2, y3, y4⟩
    have nPC : P ≠ c' := ne_of_none tP nC
    have eN : ExtN H (upd (upd H P (.tbl (ps ++ #[rawInt pos.line, rawInt pos.col, .ref c']))) c' (CodeO c' (X.env.qual ++ "<lambda>"))) := fun b o e n => by
      have n1 : b ≠ P := fun z => by
        rw [z, tP] at e
        exact n ps (Option.some.inj e).symm
      rw [upd_ne (ne_of_none e nC), upd_ne n1]
      exact e
    have eL : (ps ++ #[rawInt pos.line, rawInt pos.col, .ref c']).toList = ps.toList ++ [rawInt pos.line, rawInt pos.col, .ref c'] := by simp
    have eD2 : (h'.push (lamOb (X.env.qual ++ "<lambda>") params body scope (cloFrom X.env.cells scope.names []) ((X.mg "__name__").getD .none) c' ctv (.ref D))).get? D = some { cls := .type "tuple", data := .seq #[.int i0 t0] } := by
      refine Heap.get?_push_of_some _ (x1 D _ (fun z => ?_) eD)
      rw [z, tP] at nD
      cases nD
    have lD : D < s2.heap.objs.size := Heap.lt_size eD
    have nDc : D ≠ c' := Nat.ne_of_lt (Nat.lt_of_lt_of_le lD x2)
    have nDP : D ≠ P := fun z => by rw [z, tP] at nD; cases nD
    refine k h'.objs.size c' D t0 ((X.mg "__name__").getD .none) ctv _ _ J eN (fun p hp => ?_) (Heap.get?_push_size _ rfl) eD2 ?_ ?_ (frN _ (Nat.le_trans szD sz2)) frD upd_same
    · by_cases hb : p.1 = P
      · rw [hu p hp hb, hb]
        refine ⟨_, by rw [upd_ne nPC, upd_same], by rw [eL]; exact PySem.TriplesOk_snoc _ _ _ _ tt, fun p' cv hcv => ?_⟩
        rw [eL] at hcv
        rcases among_app _ tt hcv with z | z
        · obtain ⟨c0, w1, w2⟩ := ta p' cv z
          exact ⟨c0, w1, eN _ _ w2 codeO_ne⟩
        · exact ⟨c', z, upd_same⟩
      · obtain ⟨ps2, a1, a2, a3⟩ := hT p hp
        refine ⟨ps2, by rw [upd_ne (ne_of_none a1 nC), upd_ne hb]; exact a1, a2, fun p' cv hcv => ?_⟩
        obtain ⟨c0, w1, w2⟩ := a3 p' cv hcv
        exact ⟨c0, w1, eN _ _ w2 codeO_ne⟩
    · rw [upd_ne (Nat.ne_of_gt x3), upd_ne (Nat.ne_of_gt (Nat.lt_of_lt_of_le (Heap.lt_size oP) sz2))]
      exact I2.hok.fresh sz2
    · rw [upd_ne nDc, upd_ne nDP]
      exact nD
  | some cv =>
    obtain ⟨c', y1, y2⟩ := ta pos cv hc
    subst y1
    refine tail_hit (mg := X.mg) (closure_ok hfree) I2.ok.glob (I2.mod.glob.keeps I2.bk) hcode (TB.code.keeps I2.bk) oP tt hc bP fun ctv h' tk x1 x2 => ?_
    have J : Inv X pins σ H { s2 with heap := h'.push (lamOb (X.env.qual ++ "<lambda>") params body scope (cloFrom X.env.cells scope.names []) ((X.mg "__name__").getD .none) c' ctv (.ref D)), toks := tk } := I2.kept fun b o e => Heap.get?_push_of_some _ (x1 b o e)
    exact k h'.objs.size c' D t0 ((X.mg "__name__").getD .none) ctv H _ J (ExtN.refl H) hT (Heap.get?_push_size _ rfl) (Heap.get?_push_of_some _ (x1 _ _ eD)) (I2.hok.fresh x2) nD (frN _ (Nat.le_trans szD x2)) frD y2
end
end Om

namespace Om
open PySem PySem.Spec PyProof.Rows L2 LamX
/-- the lambda's names: parameters (none of the maker's names), captured ones, globals -/
structure LamG (N : List Str) (sc scope : Scope) (xs : List Str) : Prop where
  kind : scope.kind = .function
  co : scope.isCoroutine = false
  gen : scope.isGenerator = false
  own : ∀ y ∈ scope.names, y.2 ≠ .cell ∧ (y.2 = .local → y.1 ∉ N)
  free : ∀ y ∈ scope.names, y.2 = .free → sc.names.lookup y.1 = some .cell ∨ sc.names.lookup y.1 = some .free
  par : ∀ x ∈ xs, scope.names.lookup x = some .local
def lamGB (N : List Str) (sc scope : Scope) (xs : List Str) : Bool :=
  decide (scope.kind = .function) && (!scope.isCoroutine && (!scope.isGenerator && ((scope.names.all fun y => !decide (y.2 = .cell) && (!decide (y.2 = .local) || !decide (y.1 ∈ N))) &&
    ((scope.names.all fun y => !decide (y.2 = .free) || (decide (sc.names.lookup y.1 = some .cell) || decide (sc.names.lookup y.1 = some .free))) && xs.all fun x => decide (scope.names.lookup x = some .local)))))
theorem lamG_by {N : List Str} {sc scope : Scope} {xs : List Str} (h : lamGB N sc scope xs = true) : LamG N sc scope xs := by
  unfold lamGB at h
  simp only [Bool.and_eq_true, Bool.or_eq_true, Bool.not_eq_true', decide_eq_true_eq, decide_eq_false_iff_not, List.all_eq_true] at h
  obtain ⟨h1, h2, h3, h4, h5, h6⟩ := h
  refine ⟨h1, h2, h3, fun y hy => ⟨(h4 y hy).1, fun e => ?_⟩, fun y hy e => ?_, h6⟩
  · rcases (h4 y hy).2 with z | z
    · exact absurd e z
    · exact z
  · rcases h5 y hy with z | z
    · exact absurd e z
    · exact z
theorem LamG.has {X : Cx} {N : List Str} {scope : Scope} {xs : List Str} (L : LamG N X.env.scope scope xs) (ok : X.Ok) : ∀ y ∈ scope.names, y.2 = .free → ∃ c, X.env.cells.lookup y.1 = some c := fun y hy e => (L.free y hy e).elim (fun k => ok.has _ (.inl k)) fun k => ok.has _ (.inr k)
section
variable {X : Cx} {pins : List (Addr × Obj)} {σ : L2.St} {H HZ : Hp} {s s1 : Shared}
theorem lam_startG {A : Around} {outer : List Env} {E : XK} {scope : Scope} {xs : List Str} {binds : List (Str × Value)} {f c' : Addr} {h1 : Heap} {tk : Nat} (I : Inv X pins σ H s) (L : LamG X.N X.env.scope scope xs) (e0 : Env0 X.prog X.w X.K X.mg X.base A outer s1 HZ)
    (hd : A.handled = none) (un : Un (frs X.stack) [] H HZ s.heap s1.heap) (hns : h1.Ns s1.heap.objs.size fun y => binds.reverse.lookup y) (kp : ∀ b o, s1.heap.get? b = some o → h1.get? b = some o) :
    Inv (lamCx X A outer s1 HZ E scope f c') [] σ HZ { s1 with heap := h1, toks := tk } := by
  have frees := L.has I.ok
  have cm : ∀ {y c}, (cloFrom X.env.cells scope.names []).lookup y = some c → X.env.cells.lookup y = some c := fun {y c} e => by
    rcases cloFrom_mem (PySem.mem_of_lookup e) with m | ⟨z1, z2⟩
    · cases m
    · obtain ⟨c1, z3⟩ := frees _ z1 rfl
      have z3 : X.env.cells.lookup y = some c1 := z3
      obtain rfl : c = c1 := by rw [z2, z3]; rfl
      exact z3
  have lk : ∀ {y}, scope.names.lookup y = some .free → ∃ c, (cloFrom X.env.cells scope.names []).lookup y = some c := fun {y} e =>
    mem_lookup (cloFrom_has (cells := X.env.cells) (acc := []) (show (y, NameKind.free) ∈ scope.names from PySem.mem_of_lookup e))
  have cellK : ∀ {c : Addr} {v : Option Value}, H c = none → s.heap.IsCell c v → h1.IsCell c v := fun {c v} n ⟨o, z1, z2⟩ => by
    obtain ⟨sl, q⟩ := un.any z1 n (by simp)
    exact ⟨_, kp _ _ q, z2⟩
  have nx : ∀ b : Addr, b ∉ (lamCx X A outer s1 HZ E scope f c').ex := fun b z => by cases z
  have visN : ∀ (i : Nat) (y : Str), X.N[i]? = some y → Vis scope y → scope.names.lookup y = some .free := fun i y e v => by
    rcases v with z | z | z
    · exact absurd (List.mem_of_getElem? e) ((L.own _ (PySem.mem_of_lookup z)).2 rfl)
    · exact absurd rfl (L.own _ (PySem.mem_of_lookup z)).1
    · exact z
  have okC : (lamCx X A outer s1 HZ E scope f c').Ok := {
    mod := e0.mod, kind := L.kind, glob := rfl, blt := rfl, above := Nat.le_refl _
    inj := fun y z c z1 z2 => I.ok.inj y z c (cm z1) (cm z2)
    has := fun y hy => by
      rcases (show scope.names.lookup y = some .cell ∨ scope.names.lookup y = some .free from hy) with z | z
      · exact absurd rfl (L.own _ (PySem.mem_of_lookup z)).1
      · exact lk z
    cab := fun y c z _ => by cases (show false = true from z)
    hd := fun _ => hd, frames := Around.frames_deeper e0.frames, stk := .inr ⟨rfl, rfl⟩, exf := fun b z => absurd z (nx b), bs := e0.bs, bsz := e0.bsz, noex := fun b _ _ => nx b, exfs := fun b z => absurd z (nx b), funs := e0.funs, frf := e0.frf }
  exact {
    ok := okC, os := rfl, bare := e0.bare, base := Un.kept kp
    loc := ⟨_, hns, fun i y v z1 z2 z3 => by
      have fr := visN i y z1 z3
      obtain ⟨m, mn, ml⟩ := I.loc
      obtain ⟨u, r, q⟩ := ml i y v z1 z2 ((L.free _ (PySem.mem_of_lookup fr) rfl).elim (fun k => .inr (.inl k)) fun k => .inr (.inr k))
      obtain ⟨c2, y2⟩ := lk fr
      refine ⟨u, r, .inr ⟨.inr fr, c2, y2, ?_⟩⟩
      rcases q with ⟨q1, _⟩ | ⟨_, c3, q2, q3⟩
      · have q1 : X.env.scope.names.lookup y = some .local := q1
        rcases L.free _ (PySem.mem_of_lookup fr) rfl with w | w
        · rw [show X.env.scope.names.lookup y = _ from w] at q1; cases q1
        · rw [show X.env.scope.names.lookup y = _ from w] at q1; cases q1
      · rw [cm y2] at q2
        cases q2
        exact cellK (I.freeC y _ (cm y2)) q3⟩
    cell := fun y c z => let ⟨v, q⟩ := I.cell y c (cm z); ⟨v, cellK (I.freeC y c (cm z)) q⟩
    free := e0.hok.fresh (Nat.le_refl _)
    freeC := fun y c z => let ⟨v, o, q, _⟩ := I.cell y c (cm z); un.free c o q (I.freeC y c (cm z)) (by simp)
    pin := fun q hq => by cases (show q ∈ ([] : List (Addr × Obj)) ++ [] from hq)
    hok := e0.hok.kept kp
    len := I.len }
/-- x(), in the def that got the lambda (in slot 0) -/
theorem pe_actG {CXg : CXT} {Eg : XK} {Ng : List Str} {qg : Str} {sg : Scope} {g f c' : Addr} {cdg pm ctv dV : Value} {params : Arguments} {body : Expr} {scope : Scope} {xs : List Str} {binds : List (Str × Value)} {hold : List (Addr × Obj)} {k : Nat} {a : Str} {pn : List (Addr × Obj)} {xe : Value → Shared → Prop} {W : WX} {tb : XK → TE} {p1 p2 : Pos}
    (I : Inv X pins σ H s) (L : LamG X.N X.env.scope scope xs) (hf : s.heap.get? f = some (lamOb (X.env.qual ++ "<lambda>") params body scope (cloFrom X.env.cells scope.names []) pm c' ctv dV)) (hfn : H f = none) (hfr : f ∉ frs X.stack)
    (hh : ∀ p ∈ hold, s.heap.get? p.1 = some p.2 ∧ H p.1 = none ∧ p.1 ∉ frs X.stack) (hbn : ∀ s' : Shared, (∀ p ∈ hold, s'.heap.get? p.1 = some p.2) → BindsTo s' (lamFd (X.env.qual ++ "<lambda>") params body scope (cloFrom X.env.cells scope.names []) pm c' ctv dV) ⟨[], []⟩ binds)
    (hbx : ∀ y ∈ binds, y.1 ∈ xs)
    (tk : Takes ((cxOf CXg X.prog X.w X.K X.mg X.base Ng qg sg g cdg X.A X.stack s H Eg).tr pn xe) W) (hr : Room (k + 1) (X.A.deeper (envOfC qg sg s.heap.objs.size g cdg)))
    (hbody : ∀ (A : Around) (outer : List Env) (s : Shared) (H : Hp) (E : XK), Room k (A.deeper (lamEnv X scope s.heap.objs.size f c')) → PE (lamCx X A outer s H E scope f c') body (tb E))
    (hN : Ng[0]? = some a) (hv : Vis sg a) (hd : (a == ("__debug__" : Str)) = false := by decide) (hcd : (a == ("__classdict__" : Str)) = false := by decide) :
    PE ((cxOf CXg X.prog X.w X.K X.mg X.base Ng qg sg g cdg X.A X.stack s H Eg).tr pn xe) (.Call (.Name a p1) [] [] p2)
      (fun σZ HZ Q => σZ[0]? = some (some (.ref f)) ∧ HZ c' = some (CodeO c' (X.env.qual ++ "<lambda>")) ∧ ∃ E : XK, (∀ cls d H', E cls d H' → W cls d σZ H') ∧ tb E σ HZ Q) := by
  constructor
  rintro pinsZ sZ σZ HZ Q IZ ⟨hs, hc, E, hW, ht⟩
  refine wpAny_Call_Name_kw (thn ((pe_var (pos := p1) (i := 0) hN hv hd hcd).run pinsZ sZ σZ HZ (fun v H1 => v = .ref f ∧ H1 = HZ) IZ ⟨.ref f, hs, rfl, rfl⟩) fun u s1 ⟨v, H1, I1, r1, ev, eH⟩ => ?_)
  subst ev
  rw [eH] at I1
  obtain rfl : u = Value.ref f := r1
  have of1 := I1.base.keep f _ hf hfn hfr (by intro z; cases z)
  have hold1 : ∀ p ∈ hold, s1.heap.get? p.1 = some p.2 := fun p hp => let ⟨z1, z2, z3⟩ := hh p hp; I1.base.keep p.1 _ z1 z2 z3 (by intro z; cases z)
  have un : Un (frs X.stack) [] H HZ s.heap s1.heap := I1.base
  obtain ⟨⟨oc, vs, t, y1, y2, y3⟩, _, _⟩ := I1.hok c' _ hc
  have called : codeAny (model X.prog X.w) (X.A.deeper (envOfC qg sg s.heap.objs.size g cdg)) (.call (.ref f) ⟨[], []⟩) (CR (L2.CX X.prog X.w) (envOfC qg sg s.heap.objs.size g cdg :: X.stack) X.prog X.w HZ s1 Q E) s1 := by
    refine PySem.W.kla_callFunE hr.depth of1 rfl L.co L.gen rfl ⟨c', oc, vs, t, rfl, y1, y2, y3⟩ (hbn s1 hold1 _ _ _ _ (wpAny_newFunctionEnv (fun y hy => (L.own y hy).1) (fun y hy => L.par _ (hbx y hy)) (fun h1 hns hsb => ⟨I1.nolimit.fresh _ hsb, ?_⟩) L.kind))
    have kp : ∀ b o, s1.heap.get? b = some o → h1.get? b = some o := fun b o e => hsb.extBut b o (Nat.ne_of_lt (Heap.lt_size e)) (Heap.get?_push_of_some _ e)
    have J : Inv (lamCx X (X.A.deeper (envOfC qg sg s.heap.objs.size g cdg)) (envOfC qg sg s.heap.objs.size g cdg :: X.stack) s1 HZ E scope f c') [] σ HZ { s1 with heap := h1, toks := s1.toks + binds.length } := lam_startG I L I1.env0 hr.hd un hns kp
    refine PySem.W.kla_codeExpr (wpAny_mono ((hbody _ _ s1 HZ E (hr.deeper _)).run [] _ _ HZ Q J ht) (fun v s' ⟨w', H', J', rv, q⟩ => ⟨w', H', J'.os, J'.bare, J'.base, J'.hok, rv, q⟩) fun e s' hq => hq)
  refine PySem.W.callWith_F0 ⟨_, _, _, _, of1⟩ (wpAny_call (codeAny_mono called fun r s' hq => ?_))
  match r, hq with
  | .error e, hq => exact tk _ _ (XE.of_call I1 hW hq)
  | .ok (.ret u), hq => exact I1.after hq
  | .ok .next, hq => exact False.elim hq
  | .ok .brk, hq => exact False.elim hq
  | .ok .cont, hq => exact False.elim hq
end
end Om

namespace Om
open PySem PySem.Spec PyProof.Rows L2 LamX
/-- the def at g calls what it got (in slot 0, its name a); TT: what it makes of the lambda's reading -/
def GivesG (X : Cx) (Ng : List Str) (x : Str) (sg : Scope) (g : Addr) (cdg : Value) (bg : List Stmt) (a : Str) (q : Str) (TT : (XK → Hp → VK → Prop) → Hp → VK → Prop) : Prop :=
  ∀ (f c' : Addr) (s : Shared) (H : Hp) (Q : VK) (tl : XK → Hp → VK → Prop),
    (∀ (W : WX) (pn : List (Addr × Obj)) (xe : Value → Shared → Prop) (p1 p2 : Pos), Takes ((cxOf L2.CX0 X.prog X.w X.K X.mg X.base Ng x sg g cdg X.A X.stack s H L2.E0).tr pn xe) W →
      PE ((cxOf L2.CX0 X.prog X.w X.K X.mg X.base Ng x sg g cdg X.A X.stack s H L2.E0).tr pn xe) (.Call (.Name a p1) [] [] p2) (fun σZ HZ Q => σZ[0]? = some (some (.ref f)) ∧ HZ c' = some (CodeO c' q) ∧ ∃ E : XK, (∀ cls d H', E cls d H' → W cls d σZ H') ∧ tl E HZ Q)) →
    H c' = some (CodeO c' q) → Room 2 (X.A.deeper (envOfC x sg s.heap.objs.size g cdg)) → TT tl H Q →
    ∃ t, PSs (cxOf L2.CX0 X.prog X.w X.K X.mg X.base Ng x sg g cdg X.A X.stack s H L2.E0).nox bg t ∧ t { nx := fun _ H' => Q .non H', rt := Q } (L2.start Ng [.ref f]) H
section
variable {X : Cx}
/-- behind the making: the def is called with the lambda -/
theorem lam_given {T : List (Addr × Str)} {TT : (XK → Hp → VK → Prop) → Hp → VK → Prop} {x a : Str} {g f c' : Addr} {k : Nat} {pg : Arguments} {bg : List Stmt} {sg : Scope} {dG kG doc pmg cdg ctg oc pm ctv dV : Value} {an od : Option Addr} {osl : Array (Option Value)} {Ng : List Str}
    {params : Arguments} {body : Expr} {scope : Scope} {t : XK → TE} {xs : List Str} {binds : List (Str × Value)} {hold : List (Addr × Obj)} {pins : List (Addr × Obj)} {σ : L2.St} {H1 : Hp} {s' : Shared} {Q : VK} {E' : Value → Shared → Prop}
    (lk : X.K.lookup g = some ⟨oc, od, .func (PySem.W.fnOf x x pg bg sg dG kG doc pmg an cdg ctg), osl⟩) (hcg : PySem.W.codeIn X.K cdg x = true) (hb : L2.Binds X.K (PySem.W.fnOf x x pg bg sg dG kG doc pmg an cdg ctg) [a] []) (Sg : FnScope Ng [a] sg) (hNg : Ng[0]? = some a) (hva : Vis sg a)
    (hG : GivesG X Ng x sg g cdg bg a (X.env.qual ++ "<lambda>") TT) (hr : Room (k + 2) X.A) (hr3 : Room 3 X.A) (L : LamG X.N X.env.scope scope xs) (I1 : Inv X pins σ H1 s')
    (hf : s'.heap.get? f = some (lamOb (X.env.qual ++ "<lambda>") params body scope (cloFrom X.env.cells scope.names []) pm c' ctv dV)) (hfn : H1 f = none) (hfr : f ∉ frs X.stack)
    (hh : ∀ p ∈ hold, s'.heap.get? p.1 = some p.2 ∧ H1 p.1 = none ∧ p.1 ∉ frs X.stack) (hbn : ∀ s' : Shared, (∀ p ∈ hold, s'.heap.get? p.1 = some p.2) → BindsTo s' (lamFd (X.env.qual ++ "<lambda>") params body scope (cloFrom X.env.cells scope.names []) pm c' ctv dV) ⟨[], []⟩ binds)
    (hbx : ∀ y ∈ binds, y.1 ∈ xs) (hco : H1 c' = some (CodeO c' (X.env.qual ++ "<lambda>"))) (hT : TT (fun E H' Q' => t E σ H' Q') H1 Q)
    (hbody : ∀ (A : Around) (outer : List Env) (s : Shared) (H : Hp) (E : XK), Room k (A.deeper (lamEnv X scope s.heap.objs.size f c')) → PE (lamCx X A outer s H E scope f c') body (t E))
    (hd : (a == ("__debug__" : Str)) = false := by decide) (hcd : (a == ("__classdict__" : Str)) = false := by decide) :
    wpAny (model X.prog X.w) X.A (call (.ref g) [.ref f]) (EP X pins σ Q) E' s' := by
  have called : codeAny (model X.prog X.w) X.A (.call (.ref g) ⟨[.ref f], []⟩) (CR L2.CX0 X.stack X.prog X.w H1 s' Q L2.E0) s' := by
    refine run_ofS (k := k + 1) (N := Ng) (ps := [a]) (us := [.ref f]) (vs := [.ref f]) lk hcg Sg hr I1.env0 (hb s' [.ref f] I1.kIn rfl) (.cons rfl .nil) rfl fun hr' => ?_
    obtain ⟨t', z1, z2⟩ := hG f c' s' H1 Q (fun E H' Q' => t E σ H' Q') (fun W pn xe p1 p2 tk => pe_actG I1 L hf hfn hfr hh hbn hbx tk hr' hbody hNg hva hd hcd) hco (hr3.deeper _) hT
    exact ⟨t', z1.nox, z2⟩
  refine wpAny_call (codeAny_mono called fun r s2 hq => ?_)
  match r, hq with
  | .error e, hq => exact (show False from hq).elim
  | .ok (.ret u), hq => exact I1.after hq
  | .ok .next, hq => exact False.elim hq
  | .ok .brk, hq => exact False.elim hq
  | .ok .cont, hq => exact False.elim hq
/-- x(lambda: body) -/
theorem pe_lamG0 {T : List (Addr × Str)} {TT : (XK → Hp → VK → Prop) → Hp → VK → Prop} {x a : Str} {g c P : Addr} {k : Nat} {pg : Arguments} {bg : List Stmt} {sg : Scope} {dG kG doc pmg cdg ctg oc : Value} {an od : Option Addr} {osl : Array (Option Value)} {Ng : List Str}
    {params : Arguments} {body : Expr} {scope : Scope} {t : XK → TE} {p lpos pos : Pos} (hg : Gl X x) (hm : X.mg x = some (.ref g)) (hk : PySem.W.keepIn X.K (.ref g) = true)
    (lk : X.K.lookup g = some ⟨oc, od, .func (PySem.W.fnOf x x pg bg sg dG kG doc pmg an cdg ctg), osl⟩) (hcg : PySem.W.codeIn X.K cdg x = true) (hb : L2.Binds X.K (PySem.W.fnOf x x pg bg sg dG kG doc pmg an cdg ctg) [a] []) (Sg : FnScope Ng [a] sg) (hNg : Ng[0]? = some a) (hva : Vis sg a)
    (hG : GivesG X Ng x sg g cdg bg a (X.env.qual ++ "<lambda>") TT)
    (TB : TabB X.base X.mg c P) (hcode : X.env.code = .ref c) (hmT : (P, X.env.qual ++ "<lambda>") ∈ T) (hu : ∀ p ∈ T, p.1 = P → p.2 = X.env.qual ++ "<lambda>") (hr : Room (k + 2) X.A) (hr3 : Room 3 X.A) (L : LamG X.N X.env.scope scope []) (hdef : defaultsOf params X.env = ([], []))
    (hbind : ∀ (q : Str) (cl : List (Str × Addr)) (pm : Value) (c' : Addr) (ctv : Value), bindArgs (lamFd q params body scope cl pm c' ctv .none) ⟨[], []⟩ = pure [])
    (hbody : ∀ (A : Around) (outer : List Env) (s : Shared) (H : Hp) (E : XK) (f c' : Addr), Room k (A.deeper (lamEnv X scope s.heap.objs.size f c')) → PE (lamCx X A outer s H E scope f c') body (t E))
    (hdb : (x == ("__debug__" : Str)) = false := by decide) (hd : (a == ("__debug__" : Str)) = false := by decide) (hcd : (a == ("__classdict__" : Str)) = false := by decide) :
    PE X (.Call (.Name x p) [.Lambda params body scope lpos] [] pos) (tLam T TT t) := by
  constructor
  rintro pins s σ H Q I ⟨hT, h⟩
  refine wpAny_Call_Name_kw (ld_glob I hg hm (PySem.W.callWith_K (h₀ := X.base) I.ok.mod.kin hk ?_ (by rfl) (by rfl)) hdb)
  show wpAny _ _ (spliced ((false, eval (.Lambda params body scope lpos) X.env) :: backTo pos (starEach [] X.env))) _ _ s
  refine Calls.spliced_cons (lam_make2 I TB hcode hmT hu hT hdef (L.has I.ok) fun f c' pm' ctv H1 s' I1 eN T1 hf hfn hfr hco => Calls.spliced_nil ⟨I1.kIn, ?_⟩)
  exact lam_given (T := T) (dV := .none) (xs := []) (binds := []) (hold := []) lk hcg hb Sg hNg hva hG hr hr3 L I1 hf hfn hfr (fun p hp => by cases hp) (fun s' _ => BindsTo.of_eq (hbind _ _ _ _ _)) (fun y hy => by cases hy) hco (h H1 eN T1) (fun A outer s H E hr2 => hbody A outer s H E f c' hr2) hd hcd
/-- x(lambda y=i: body) -/
theorem pe_lamG1 {T : List (Addr × Str)} {TT : (XK → Hp → VK → Prop) → Hp → VK → Prop} {x a y : Str} {g c P : Addr} {k : Nat} {pg : Arguments} {bg : List Stmt} {sg : Scope} {dG kG doc pmg cdg ctg oc : Value} {an od : Option Addr} {osl : Array (Option Value)} {Ng : List Str}
    {params : Arguments} {body : Expr} {scope : Scope} {t : XK → TE} {p lpos pos p0 : Pos} {i0 : Int} {j0 : Nat} (hg : Gl X x) (hm : X.mg x = some (.ref g)) (hk : PySem.W.keepIn X.K (.ref g) = true)
    (lk : X.K.lookup g = some ⟨oc, od, .func (PySem.W.fnOf x x pg bg sg dG kG doc pmg an cdg ctg), osl⟩) (hcg : PySem.W.codeIn X.K cdg x = true) (hb : L2.Binds X.K (PySem.W.fnOf x x pg bg sg dG kG doc pmg an cdg ctg) [a] []) (Sg : FnScope Ng [a] sg) (hNg : Ng[0]? = some a) (hva : Vis sg a)
    (hG : GivesG X Ng x sg g cdg bg a (X.env.qual ++ "<lambda>") TT)
    (TB : TabB X.base X.mg c P) (hcode : X.env.code = .ref c) (hmT : (P, X.env.qual ++ "<lambda>") ∈ T) (hu : ∀ p ∈ T, p.1 = P → p.2 = X.env.qual ++ "<lambda>") (hr : Room (k + 2) X.A) (hr3 : Room 3 X.A) (L : LamG X.N X.env.scope scope [y]) (hdef : defaultsOf params X.env = ([eval (.Constant (.int i0) j0 p0) X.env], []))
    (hbind : ∀ (q : Str) (cl : List (Str × Addr)) (pm : Value) (c' : Addr) (ctv : Value) (D : Addr) (v : Value), ∃ kk : Option (Array Value) → Sem (List (Str × Value)), bindArgs (lamFd q params body scope cl pm c' ctv (.ref D)) ⟨[], []⟩ = seqItems? (.ref D) >>= kk ∧ kk (some #[v]) = pure [(y, v)])
    (hbody : ∀ (A : Around) (outer : List Env) (s : Shared) (H : Hp) (E : XK) (f c' : Addr), Room k (A.deeper (lamEnv X scope s.heap.objs.size f c')) → PE (lamCx X A outer s H E scope f c') body (t E))
    (hdb : (x == ("__debug__" : Str)) = false := by decide) (hd : (a == ("__debug__" : Str)) = false := by decide) (hcd : (a == ("__classdict__" : Str)) = false := by decide) :
    PE X (.Call (.Name x p) [.Lambda params body scope lpos] [] pos) (tLam T TT t) := by
  constructor
  rintro pins s σ H Q I ⟨hT, h⟩
  refine wpAny_Call_Name_kw (ld_glob I hg hm (PySem.W.callWith_K (h₀ := X.base) I.ok.mod.kin hk ?_ (by rfl) (by rfl)) hdb)
  show wpAny _ _ (spliced ((false, eval (.Lambda params body scope lpos) X.env) :: backTo pos (starEach [] X.env))) _ _ s
  refine Calls.spliced_cons (lam_mk1 I TB hcode hmT hu hT hdef (L.has I.ok) (fun f c' D t0 pm' ctv H1 s' I1 eN T1 hf hD hfn hDn hfr hDr hco => Calls.spliced_nil ⟨I1.kIn, ?_⟩) rfl)
  refine lam_given (T := T) (dV := .ref D) (xs := [y]) (binds := [(y, .int i0 t0)]) (hold := [(D, { cls := .type "tuple", data := .seq #[.int i0 t0] })]) lk hcg hb Sg hNg hva hG hr hr3 L I1 hf hfn hfr (fun p hp => ?_) (fun s2 hs2 => ?_) (fun z hz => ?_) hco (h H1 eN T1) (fun A outer s H E hr2 => hbody A outer s H E f c' hr2) hd hcd
  · rw [List.mem_singleton.mp hp]
    exact ⟨hD, hDn, hDr⟩
  · obtain ⟨kk, z1, z2⟩ := hbind (X.env.qual ++ "<lambda>") (cloFrom X.env.cells scope.names []) pm' c' ctv D (.int i0 t0)
    intro M A' E2 Q2 hq
    rw [z1]
    refine wpAny_bind (wpAny_seqItems (hs2 _ (List.mem_singleton.mpr rfl)) rfl ?_)
    rw [z2]
    exact wpAny_pure hq
  · rw [List.mem_singleton.mp hz]
    exact List.mem_singleton.mpr rfl
end
end Om

namespace Om
open PySem PySem.Spec PyProof.Rows L2 LamX
/-! ### xs.count(y), the items flat -/
def rCntF (K : PySem.W.Frag) : V → List V → Hp → VK → Prop := fun x vs H Q => ∃ (p : Addr) (ys : List V) (y : V), x = .ref p ∧ vs = [y] ∧ SqL K H p ys ∧ flatV y = true ∧ ys.all flatV = true ∧ Q (.int ((ys.countP fun z => eqV z y) : Nat)) H
theorem cnt_flat {y : V} {uy : Value} : ∀ {ys : List V} {us : List Value}, Vals ys us → ys.all flatV = true → us.countP (eqU y) = ys.countP fun z => eqV z y
  | _, _, .nil, _ => rfl
  | v :: vs, u :: us, .cons r rr, hf => by
    simp only [List.all_cons, Bool.and_eq_true] at hf
    rw [List.countP_cons, List.countP_cons, cnt_flat (uy := uy) rr hf.2, eqU_of r hf.1]
theorem mt_countF {X : Cx} : MtR X "list.count" (rCntF X.K) := by
  rintro pins s σ H x xs v us Q I rx rxs ⟨p, ys, y, rfl, rfl, hs, fy, fys, q⟩
  cases rx
  cases rxs with
  | @cons _ uy _ ut ry rt =>
    cases rt
    obtain ⟨its, rv, ⟨⟨cls, dd, data, sl⟩, n, ho, hc, hdn, hd⟩, hlen⟩ := I.list hs
    simp only at hc hd
    subst hc hd
    refine call_meets PySem.F.slot_list_count ⟨_, ho, rfl⟩ PySem.F.entry_list_count (PySem.F.args_list_count_2 _ _) (SeqAt.list_countAt p its.toArray n dd sl uy (eqU y)) ⟨ho, fun u' hu' => mem_eqAt ry fy rv fys u' (by simpa using hu'), ?_⟩
    have ec : its.toArray.toList.countP (eqU y) = ys.countP fun z => eqV z y := cnt_flat (uy := uy) rv fys
    refine ⟨.int ((ys.countP fun z => eqV z y) : Nat), H, I.tok _, ⟨s.toks, ?_⟩, q⟩
    show Value.int ((its.toArray.toList.countP (eqU y) : Nat) : Int) s.toks = _
    rw [ec]
/-! ### isinstance(e, C), e the exception that the suite holds, of an own class -/
def rIsX (K : PySem.W.Frag) (a : Addr) (cls : Value) (d : Option Addr) : List V → Hp → VK → Prop := fun xs H Q => ∃ (D : Addr) (c : V) (cv : Value) (b : Bool), cls = .ref D ∧ ExcC K D ∧ xs = [.ref a, c] ∧ (∀ u, RelV c u → u = cv) ∧ PySem.W.kitOne K (.ref D) cv = some b ∧
  (∀ dd, d = some dd → ∃ fs, H dd = some (.xd fs)) ∧ Q (.bl b) H
theorem call_isX {X : Cx} {a : Addr} {cls : Value} {d : Option Addr} {oe : Obj} {pn : List (Addr × Obj)} (hz : Zc cls d oe) (hf : ∃ vs, oe.data = .fields vs) : CallR (X.suite a ((a, oe) :: pn)) (.builtin "isinstance") (rIsX X.K a cls d) := by
  rintro pins s σ H xs us Q I r ⟨D, c, cv, b, rfl, C, rfl, hcv, e, hd, q⟩
  cases r with
  | cons rx rr =>
    cases rr with
    | cons rt rr =>
      cases rr
      cases rx
      obtain rfl := hcv _ rt
      obtain ⟨hget, _⟩ := I.pin (a, oe) (List.mem_append.mpr (.inl List.mem_cons_self))
      obtain ⟨vs, hv⟩ := hf
      have no : PySem.W.notCls oe = true := by unfold PySem.W.notCls; rw [hv]
      have J : ∃ od, PySem.W.InstAt s.heap a oe D od := by
        cases d with
        | none => exact ⟨none, hget, hz.1, no, by rw [hz.2]; trivial⟩
        | some dd =>
          obtain ⟨fs, hx⟩ := hd dd rfl
          obtain ⟨mA, ⟨o, es, ep, ho, _⟩, _⟩ := I.hok dd _ hx
          exact ⟨some o, hget, hz.1, no, by rw [hz.2]; exact ho⟩
      obtain ⟨od, J⟩ := J
      have hcl : (PySem.W.clsIn X.K D).isSome = true := by
        obtain ⟨cd, hc, _⟩ := PySem.W.any_some C.hd
        rw [hc]
        rfl
      exact PySem.W.kia_one (PySem.W.kitx_exc (ox := oe) (od := od) hcl C.hg C.hk C.hs C.ha C.hn C.ht C.hm) I.kIn J e (fun z => nomatch z) fun tk => ⟨.bl b, H, I.kept (t' := tk) fun _ _ z => z, rfl, q⟩
end Om

namespace Om
open PySem PySem.Spec PyProof.Rows L2 LamX
abbrev sErr : Stmt := top 24
def nmE : Nat → Str
  | 0 => "InvalidIsland"
  | 1 => "InvalidMap"
  | 2 => "InvalidNumber"
  | 3 => "NoBeginning"
  | 4 => "NoWay"
  | 5 => "TooMany"
  | _ => "UnknownCell"
/-- what the top says of the errors' classes -/
structure ErrF (K : PySem.W.Frag) (mg : Str → Option Value) (C : Nat → Addr) (CM : Addr) : Prop where
  gM : mg "MapError" = some (.ref CM)
  g : ∀ i, i < 7 → mg (nmE i) = some (.ref (C i))
  exm : ∀ i, i < 7 → PySem.W.exmOne K (.ref (C i)) (.ref CM) = some true
  exc : ∀ i, i < 7 → ExcC K (C i)
  kit : ∀ i j, i < 7 → j < 7 → PySem.W.kitOne K (.ref (C i)) (.ref (C j)) = some (decide (j = i))
  kitV : ∀ i, i < 7 → PySem.W.kitOne K (.ref (C i)) (.type "ValueError") = some true
  xf0 : XfC K (C 0)
  noR : PySem.W.findIn K (.ref (C 0)) "row" = some none
  noC : PySem.W.findIn K (.ref (C 0)) "column" = some none
  xf1 : XfC K (C 1)
  noI : PySem.W.findIn K (.ref (C 1)) "index" = some none
  gi : mg "isinstance" = none
  gv : mg "ValueError" = none
/-- what _law_error makes of an error -/
inductive ErrOut (C : Nat → Addr) (Q : VK) : Value → Option Addr → Hp → Prop
  | isl {d : Addr} {x y : V} {H' : Hp} : H' d = some (.xd (xdII x y)) → (∀ p H2, H' p = none → Same H' H2 → H2 p = some (.tup [.str "InvalidIsland", x, y]) → Q (.ref p) H2) → ErrOut C Q (.ref (C 0)) (some d) H'
  | chart {d : Addr} {x : V} {H' : Hp} : H' d = some (.xd [(("index" : Str), x)]) → (∀ p H2, H' p = none → Same H' H2 → H2 p = some (.tup [.str "InvalidMap", x]) → Q (.ref p) H2) → ErrOut C Q (.ref (C 1)) (some d) H'
  | other {j : Nat} {H' : Hp} : 2 ≤ j → j < 7 → (∀ H2, Same H' H2 → Q (.str (nmE j)) H2) → ErrOut C Q (.ref (C j)) none H'
def TErr (C : Nat → Addr) : (XK → Hp → VK → Prop) → Hp → VK → Prop := fun tl H Q => tl (ErrOut C Q) H fun _ H' => Q (.str "") H'
/-! rules whose reading names the written part apart from the context -/
theorem isX_K {X : Cx} {K : PySem.W.Frag} {a : Addr} {cls : Value} {d : Option Addr} {oe : Obj} {pn : List (Addr × Obj)} (hK : X.K = K) (hz : Zc cls d oe) (hf : ∃ vs, oe.data = .fields vs) : CallR (X.suite a ((a, oe) :: pn)) (.builtin "isinstance") (rIsX K a cls d) := by
  subst hK
  exact call_isX hz hf
theorem bm_K {X : Cx} {K : PySem.W.Frag} {T id : String} {name : Str} {r : V → List V → Hp → VK → Prop} {o e : Expr} {es : List Expr} {to : TE} {t : TA} {apos cpos : Pos} (hK : X.K = K) (pa : PlainAttrs T) (slot : Slot T name id) (hty : typeOf (.builtin id) = pure (.type "method_descriptor")) (hm : MtR X id r) (ho : PE X o to) (ha : PA X (e :: es) t)
    (hbase : attributeBase o name X.env (eval o X.env) = eval o X.env := by rfl)
    (hfew : ((backTo cpos (starEach (e :: es) X.env)).all (fun x => !x.1) && (backToKw cpos (keywordEach [] X.env)).all (fun x => x.1.isSome) && decide ((e :: es).length + ([] : List Keyword).length + (if ([] : List Keyword).isEmpty then 0 else 1) < 30)) = true := by rfl)
    (hline : (apos.endLine == cpos.line) = true := by rfl) (hs : starEach (e :: es) X.env = (false, eval e X.env) :: starEach es X.env := by rfl) (hplain : (backTo cpos (starEach es X.env)).any (·.1) = false := by rfl) :
    PE X (.Call (.Attribute o name apos) (e :: es) [] cpos) (tBM K T r to t) := by
  subst hK
  exact pe_bm pa slot hty hm ho ha hbase hfew hline hs hplain
theorem cnt_K {X : Cx} {K : PySem.W.Frag} (hK : X.K = K) : MtR X "list.count" (rCntF K) := by
  subst hK
  exact mt_countF
theorem index_K {X : Cx} {K : PySem.W.Frag} (hK : X.K = K) : MtR X "list.index" (rIndex K) := by
  subst hK
  exact mt_index
theorem ixl_K {X : Cx} {K : PySem.W.Frag} (hK : X.K = K) : IxR X (rIxL K) := by
  subst hK
  exact ix_list
abbrev nErr : List Str := ["_law_work", "error", "_law_kinds", "_law_names", "_law_name"]
theorem scErr : FnScope nErr ["_law_work"] (defScope sErr) := ⟨rfl, rfl, rfl, by decide +kernel, rfl, by decide +kernel, by decide +kernel⟩
theorem iteT' {b : Bool} {A B : Prop} (h : b = true) (a : A) : if b = true then A else B := by
  rw [h, if_pos rfl]
  exact a
theorem iteF' {b : Bool} {A B : Prop} (h : b = false) (a : B) : if b = true then A else B := by
  rw [h, if_neg Bool.false_ne_true]
  exact a
def ksV (j : Nat) : List V := [.bl (decide (0 = j)), .bl (decide (1 = j)), .bl (decide (2 = j)), .bl (decide (3 = j)), .bl (decide (4 = j)), .bl (decide (5 = j)), .bl (decide (6 = j))]
def nmsV : List V := [.str (nmE 0), .str (nmE 1), .str (nmE 2), .str (nmE 3), .str (nmE 4), .str (nmE 5), .str (nmE 6)]
theorem ksV_flat (j : Nat) : (ksV j).all flatV = true := rfl
theorem ksV_count {j : Nat} (h : j < 7) : ((ksV j).countP fun z => eqV z (.bl true)) = 1 := by
  have e : ∀ j : Fin 7, ((ksV j).countP fun z => eqV z (.bl true)) = 1 := by decide
  exact e ⟨j, h⟩
theorem ksV_at {j : Nat} (h : j < 7) : (ksV j)[j]? = some (.bl true) := by
  have e : ∀ j : Fin 7, (ksV j)[j.val]? = some (.bl true) := by decide
  exact e ⟨j, h⟩
theorem ksV_ahead {j : Nat} (h : j < 7) {m : Nat} {z : V} (hm : m < j) (hz : (ksV j)[m]? = some z) : eqV z (.bl true) = false := by
  have e : ∀ j m : Fin 7, m.val < j.val → ((ksV j)[m.val]?.map fun z => eqV z (.bl true)) = some false := by decide
  have e2 := e ⟨j, h⟩ ⟨m, by omega⟩ hm
  rw [hz] at e2
  exact Option.some.inj e2
theorem nmsV_at {j : Nat} (h : j < 7) : atI nmsV ((j : Nat) : Int) = some (.str (nmE j)) := by
  refine atI_nat ?_
  have e : j = 0 ∨ j = 1 ∨ j = 2 ∨ j = 3 ∨ j = 4 ∨ j = 5 ∨ j = 6 := by omega
  rcases e with rfl | rfl | rfl | rfl | rfl | rfl | rfl <;> rfl
theorem nmE_inj {j : Nat} (h : j < 7) : (nmE j = nmE 0 ↔ j = 0) ∧ (nmE j = nmE 1 ↔ j = 1) := by
  have e : j = 0 ∨ j = 1 ∨ j = 2 ∨ j = 3 ∨ j = 4 ∨ j = 5 ∨ j = 6 := by omega
  rcases e with rfl | rfl | rfl | rfl | rfl | rfl | rfl <;> decide +kernel
section
variable {X : Cx} {C : Nat → Addr} {CM g : Addr} {cdg : Value} {q : Str}
theorem err_gives (T : ErrF X.K X.mg C CM) : GivesG X nErr "_law_error" (defScope sErr) g cdg (defBody sErr) "_law_work" q (TErr C) := by
  intro f c' s H Q tl act hc hr h
  have nd := scErr.nd
  refine ⟨_, pss_cons (ps_try_as (X := (cxOf L2.CX0 X.prog X.w X.K X.mg X.base nErr "_law_error" (defScope sErr) g cdg X.A X.stack s H L2.E0).nox) (i := 1) (c := .ref CM)
      (tb := fun W D σ H => σ[0]? = some (some (.ref f)) ∧ H c' = some (CodeO c' q) ∧ ∃ E : XK, (∀ cls d H', E cls d H' → W cls d σ H') ∧ tl E H (fun _ H' => D.nx σ H'))
      rfl rfl nd rfl rfl ⟨rfl, by decide, .inl T.gM⟩ L2.takes0 (fun W pn xe tk _ => ?_)
      (fun a oe cls d pn hz hf =>
        pss_cons (ps_set (i := 2) nd rfl (.inl rfl) (pe_lst (pa_cons (pe_callB (isX_K (K := X.K) rfl hz hf) (by rfl) T.gi (by decide +kernel) (pa_cons (pv 1) (pa_cons (pe_glob (v := .ref (C 0)) rfl (T.g 0 (by decide)) rfl) pa_nil)))
            (pa_cons (pe_callB (isX_K (K := X.K) rfl hz hf) (by rfl) T.gi (by decide +kernel) (pa_cons (pv 1) (pa_cons (pe_glob (v := .ref (C 1)) rfl (T.g 1 (by decide)) rfl) pa_nil)))
            (pa_cons (pe_callB (isX_K (K := X.K) rfl hz hf) (by rfl) T.gi (by decide +kernel) (pa_cons (pv 1) (pa_cons (pe_glob (v := .ref (C 2)) rfl (T.g 2 (by decide)) rfl) pa_nil))) pa_nil)))))
        (pss_cons (ps_set (i := 2) nd rfl (.inl rfl) (pe_op op_cat (pv 2) (pe_lst (pa_cons (pe_callB (isX_K (K := X.K) rfl hz hf) (by rfl) T.gi (by decide +kernel) (pa_cons (pv 1) (pa_cons (pe_glob (v := .ref (C 3)) rfl (T.g 3 (by decide)) rfl) pa_nil)))
            (pa_cons (pe_callB (isX_K (K := X.K) rfl hz hf) (by rfl) T.gi (by decide +kernel) (pa_cons (pv 1) (pa_cons (pe_glob (v := .ref (C 4)) rfl (T.g 4 (by decide)) rfl) pa_nil)))
            (pa_cons (pe_callB (isX_K (K := X.K) rfl hz hf) (by rfl) T.gi (by decide +kernel) (pa_cons (pv 1) (pa_cons (pe_glob (v := .ref (C 5)) rfl (T.g 5 (by decide)) rfl) pa_nil))) pa_nil))))))
        (pss_cons (ps_set (i := 2) nd rfl (.inl rfl) (pe_op op_cat (pv 2) (pe_lst (pa_cons (pe_callB (isX_K (K := X.K) rfl hz hf) (by rfl) T.gi (by decide +kernel) (pa_cons (pv 1) (pa_cons (pe_glob (v := .ref (C 6)) rfl (T.g 6 (by decide)) rfl) pa_nil))) pa_nil))))
        (pss_cons (ps_set (i := 3) nd rfl (.inl rfl) (pe_lst (pa_cons pe_str (pa_cons pe_str (pa_cons pe_str (pa_cons pe_str (pa_cons pe_str (pa_cons pe_str (pa_cons pe_str pa_nil)))))))))
        (pss_cons (ps_if (PW.pt (pw_or (pt_cmpR op_ne (bm_K (K := X.K) rfl PySem.F.plainAttrs_list PySem.F.slot_list_count PySem.F.type_list_count (cnt_K (K := X.K) rfl) (pv 2) (pa_cons pe_bl pa_nil)) pe_int (nomark _))
            (pw_or1 (pt_not (pt_val (pe_callB (isX_K (K := X.K) rfl hz hf) (by rfl) T.gi (by decide +kernel) (pa_cons (pv 1) (pa_cons (pe_bltn (v := .ty "ValueError") (by rfl) T.gv (by decide +kernel) rfl) pa_nil)))))))) (pss_one (ps_ret pe_str)) pss_nil)
        (pss_cons (ps_set (i := 4) nd rfl (.inl rfl) (pe_ix (ixl_K (K := X.K) rfl) (pv 3) (bm_K (K := X.K) rfl PySem.F.plainAttrs_list PySem.F.slot_list_index PySem.F.type_list_index (index_K (K := X.K) rfl) (pv 2) (pa_cons pe_bl pa_nil)) (fun _ _ => rfl)))
        (pss_cons (ps_if (pt_cmpR op_eq (pv 4) pe_str (nomark _)) (pss_one (ps_ret (pe_tup (pa_cons (pv 4) (pa_cons (pe_xf T.xf0 T.noR hz hf (pv 1)) (pa_cons (pe_xf T.xf0 T.noC hz hf (pv 1)) pa_nil)))))) pss_nil)
        (pss_one (ps_ret (pe_ifExp (pt_cmpR op_eq (pv 4) pe_str (nomark _)) (pe_tup (pa_cons (pv 4) (pa_cons (pe_xf T.xf1 T.noI hz hf (pv 1)) pa_nil))) (pv 4))))))))))))
      (pss_one (ps_ret pe_str)), ?_⟩
  · refine ⟨fun pins s' σ H' D I h' => ?_⟩
    obtain ⟨h1, h2, h3⟩ := h'
    exact (pss_one (ps_expr (act W pn xe _ _ tk))).run pins s' σ H' D I ⟨h1, h2, h3⟩
  · refine ⟨rfl, hc, ErrOut C Q, fun cls d H' out => ?_, h⟩
    have key : ∃ j, j < 7 ∧ cls = .ref (C j) ∧ (∀ dd, d = some dd → ∃ fs, H' dd = some (.xd fs)) ∧
        ((j = 0 ∧ ∃ dd x y, d = some dd ∧ H' dd = some (.xd (xdII x y)) ∧ ∀ p H2, H' p = none → Same H' H2 → H2 p = some (.tup [.str "InvalidIsland", x, y]) → Q (.ref p) H2) ∨
         (j = 1 ∧ ∃ dd x, d = some dd ∧ H' dd = some (.xd [(("index" : Str), x)]) ∧ ∀ p H2, H' p = none → Same H' H2 → H2 p = some (.tup [.str "InvalidMap", x]) → Q (.ref p) H2) ∨
         (2 ≤ j ∧ ∀ H2, Same H' H2 → Q (.str (nmE j)) H2)) := by
      cases out with
      | isl h1 h2 => exact ⟨0, by decide, rfl, fun dd e => by cases e; exact ⟨_, h1⟩, .inl ⟨rfl, _, _, _, rfl, h1, h2⟩⟩
      | chart h1 h2 => exact ⟨1, by decide, rfl, fun dd e => by cases e; exact ⟨_, h1⟩, .inr (.inl ⟨rfl, _, _, rfl, h1, h2⟩)⟩
      | other h1 h2 h3 => exact ⟨_, h2, rfl, fun dd e => (nomatch e), .inr (.inr ⟨h1, h3⟩)⟩
    obtain ⟨j, hj, ej, hd, fin⟩ := key
    refine ⟨true, by rw [ej]; exact T.exm j hj, fun _ a ha => ?_, fun z => by cases z⟩
    -- the kinds
    refine ⟨_, rfl, C j, _, _, _, ej, T.exc j hj, rfl, fun u r => r, T.kit j 0 hj (by decide), hd, _, rfl, C j, _, _, _, ej, T.exc j hj, rfl, fun u r => r, T.kit j 1 hj (by decide), hd,
      _, rfl, C j, _, _, _, ej, T.exc j hj, rfl, fun u r => r, T.kit j 2 hj (by decide), hd, (by show 3 ≤ sizeLine; decide), fun p1 hp1 => ?_⟩
    have S1 : Same H' (upd H' p1 (.lst [.bl (decide (0 = j)), .bl (decide (1 = j)), .bl (decide (2 = j))])) := Same.new (Same.refl _) hp1
    have hd1 : ∀ dd, d = some dd → ∃ fs, (upd H' p1 (.lst [.bl (decide (0 = j)), .bl (decide (1 = j)), .bl (decide (2 = j))])) dd = some (.xd fs) := fun dd e => let ⟨fs, z⟩ := hd dd e; ⟨fs, S1 _ _ z⟩
    refine ⟨_, rfl, _, rfl, C j, _, _, _, ej, T.exc j hj, rfl, fun u r => r, T.kit j 3 hj (by decide), hd1, _, rfl, C j, _, _, _, ej, T.exc j hj, rfl, fun u r => r, T.kit j 4 hj (by decide), hd1,
      _, rfl, C j, _, _, _, ej, T.exc j hj, rfl, fun u r => r, T.kit j 5 hj (by decide), hd1, (by show 3 ≤ sizeLine; decide), fun p2 hp2 => ?_⟩
    have k1 : (upd H' p1 (.lst [.bl (decide (0 = j)), .bl (decide (1 = j)), .bl (decide (2 = j))])) p1 = some (.lst [.bl (decide (0 = j)), .bl (decide (1 = j)), .bl (decide (2 = j))]) := upd_same
    generalize (upd H' p1 (.lst [.bl (decide (0 = j)), .bl (decide (1 = j)), .bl (decide (2 = j))])) = H1 at S1 hd1 hp2 k1 ⊢
    have k1' := (Same.new (Same.refl H1) hp2 (o := .lst [.bl (decide (3 = j)), .bl (decide (4 = j)), .bl (decide (5 = j))])) _ _ k1
    refine ⟨p1, p2, _, _, rfl, rfl, k1', upd_same, (by show 3 + 3 ≤ sizeLine; decide), fun p3 hp3 => ?_⟩
    have S3 := S1.trans (Same.new (Same.new (Same.refl H1) hp2 (o := .lst [.bl (decide (3 = j)), .bl (decide (4 = j)), .bl (decide (5 = j))])) hp3 (o := .lst ([.bl (decide (0 = j)), .bl (decide (1 = j)), .bl (decide (2 = j))] ++ [.bl (decide (3 = j)), .bl (decide (4 = j)), .bl (decide (5 = j))])))
    have k3 : (upd (upd H1 p2 (.lst [.bl (decide (3 = j)), .bl (decide (4 = j)), .bl (decide (5 = j))])) p3 (.lst ([.bl (decide (0 = j)), .bl (decide (1 = j)), .bl (decide (2 = j))] ++ [.bl (decide (3 = j)), .bl (decide (4 = j)), .bl (decide (5 = j))]))) p3 = _ := upd_same
    generalize (upd (upd H1 p2 (.lst [.bl (decide (3 = j)), .bl (decide (4 = j)), .bl (decide (5 = j))])) p3 (.lst ([.bl (decide (0 = j)), .bl (decide (1 = j)), .bl (decide (2 = j))] ++ [.bl (decide (3 = j)), .bl (decide (4 = j)), .bl (decide (5 = j))]))) = H3 at S3 k3 ⊢
    have hd3 : ∀ dd, d = some dd → ∃ fs, H3 dd = some (.xd fs) := fun dd e => let ⟨fs, z⟩ := hd dd e; ⟨fs, S3 _ _ z⟩
    refine ⟨_, rfl, _, rfl, C j, _, _, _, ej, T.exc j hj, rfl, fun u r => r, T.kit j 6 hj (by decide), hd3, (by show 1 ≤ sizeLine; decide), fun p4 hp4 => ?_⟩
    have k3' := (Same.new (Same.refl H3) hp4 (o := .lst [.bl (decide (6 = j))])) _ _ k3
    refine ⟨p3, p4, _, _, rfl, rfl, k3', upd_same, (by show 6 + 1 ≤ sizeLine; decide), fun p5 hp5 => ?_⟩
    have S5 := S3.trans (Same.new (Same.new (Same.refl H3) hp4 (o := .lst [.bl (decide (6 = j))])) hp5 (o := .lst (ksV j)))
    have k5 : (upd (upd H3 p4 (.lst [.bl (decide (6 = j))])) p5 (.lst (ksV j))) p5 = some (.lst (ksV j)) := upd_same
    show (fun (Hx : Hp) => _) (upd (upd H3 p4 (.lst [.bl (decide (6 = j))])) p5 (.lst (ksV j)))
    generalize (upd (upd H3 p4 (.lst [.bl (decide (6 = j))])) p5 (.lst (ksV j))) = H5 at S5 k5 ⊢
    -- the names
    refine ⟨by show 7 ≤ sizeLine; decide, fun p6 hp6 => ?_⟩
    have S6 := S5.trans (Same.new (Same.refl H5) hp6 (o := .lst nmsV))
    have k6 : (upd H5 p6 (.lst nmsV)) p6 = some (.lst nmsV) := upd_same
    have k56 : (upd H5 p6 (.lst nmsV)) p5 = some (.lst (ksV j)) := Same.new (Same.refl H5) hp6 _ _ k5
    show (fun (Hx : Hp) => _) (upd H5 p6 (.lst nmsV))
    generalize (upd H5 p6 (.lst nmsV)) = H6 at S6 k6 k56 ⊢
    have hd6 : ∀ dd, d = some dd → ∃ fs, H6 dd = some (.xd fs) := fun dd e => let ⟨fs, z⟩ := hd dd e; ⟨fs, S6 _ _ z⟩
    refine ⟨_, rfl, .inl ⟨rfl, _, .inl (.inl k56)⟩, p5, _, _, rfl, rfl, .inl (.inl k56), rfl, ksV_flat j, rfl, _, rfl, ?_⟩
    rw [ksV_count hj]
    refine iteNS rfl ?_
    refine ⟨_, rfl, C j, _, _, _, ej, T.exc j hj, rfl, fun u r => r, T.kitV j hj, hd6, _, rfl, ?_⟩
    refine ⟨_, rfl, _, rfl, .inl ⟨rfl, _, .inl (.inl k56)⟩, p5, _, _, j, _, rfl, rfl, .inl (.inl k56), rfl, ksV_flat j, ksV_at hj, rfl, fun m z hm hz => ksV_ahead hj hm hz, ?_⟩
    refine ⟨p6, _, _, _, rfl, rfl, .inl (.inl k6), nmsV_at hj, ?_⟩
    refine ⟨_, rfl, rfl, _, rfl, ?_⟩
    rcases fin with ⟨rfl, dd, x, y, ed, hx, k⟩ | ⟨rfl, dd, x, ed, hx, k⟩ | ⟨h2, k⟩
    · have lr : List.lookup ("row" : Str) (xdII x y) = some x := by
        unfold xdII
        rw [lookup_put, if_neg (by decide +kernel), lookup_put, if_pos rfl]
      have lc : List.lookup ("column" : Str) (xdII x y) = some y := by
        unfold xdII
        rw [lookup_put, if_pos rfl]
      refine iteT' (decide_eq_true rfl) ?_
      refine ⟨_, rfl, _, rfl, rfl, ej, dd, _, x, ed, S6 _ _ hx, lr, _, rfl, rfl, ej, dd, _, y, ed, S6 _ _ hx, lc, (by show 3 ≤ sizeLine; decide), fun p hp => ?_⟩
      exact k p _ (Same.free S6 hp) (S6.trans (Same.new (Same.refl _) hp)) upd_same
    · refine iteF' (decide_eq_false (by decide +kernel)) ?_
      refine ⟨_, rfl, rfl, _, rfl, ?_⟩
      refine iteT' (decide_eq_true rfl) ?_
      have li : List.lookup ("index" : Str) [(("index" : Str), x)] = some x := by rw [lookup_put, if_pos rfl]
      refine ⟨_, rfl, _, rfl, rfl, ej, dd, _, x, ed, S6 _ _ hx, li, (by show 2 ≤ sizeLine; decide), fun p hp => ?_⟩
      exact k p _ (Same.free S6 hp) (S6.trans (Same.new (Same.refl _) hp)) upd_same
    · have n0 : ¬ V.str (nmE j) = V.str (Str.ofString "InvalidIsland") := fun e => by
        injection e with e
        have := (nmE_inj hj).1.mp e
        omega
      have n1 : ¬ V.str (nmE j) = V.str (Str.ofString "InvalidMap") := fun e => by
        injection e with e
        have := (nmE_inj hj).2.mp e
        omega
      refine iteF' (decide_eq_false n0) ?_
      refine ⟨_, rfl, rfl, _, rfl, ?_⟩
      refine iteF' (decide_eq_false n1) ?_
      exact ⟨_, rfl, k _ S6⟩
end
end Om

namespace Om
open PySem PySem.Spec PyProof.Rows L2 LamX
abbrev sDue : Stmt := top 25
def lawSigns : Str := Str.ofString ".~ABCDEFGHIJKLMNOPQRSTUVWXYZ"
theorem lawSigns_cps : lawSigns.cps.toList = [46, 126, 65, 66, 67, 68, 69, 70, 71, 72, 73, 74, 75, 76, 77, 78, 79, 80, 81, 82, 83, 84, 85, 86, 87, 88, 89, 90] := by decide +kernel
theorem mem_lawSigns (c : Nat) : decide (c ∈ lawSigns.cps.toList) = okB c := by
  rw [lawSigns_cps]
  unfold okB
  apply decide_eq_decide.mpr
  simp only [List.mem_cons, List.not_mem_nil, or_false]
  omega
/-! ### rows as data -/
def dt (r : List Nat) : PyData := .str (tx r)
def Lo (rows : List (List Nat)) : Prop := ∀ r ∈ rows, ∀ c ∈ r, c < 1000
theorem dpAll_rows {K : PySem.W.Frag} {H : Hp} : ∀ rows : List (List Nat), DpAll K H (rows.map vt) (rows.map dt)
  | [] => .nil
  | r :: rs => .cons (.str _) (dpAll_rows rs)
theorem strOk_tx {r : List Nat} (h : ∀ c ∈ r, c < 1000) : PyData.strOk (tx r) = true := by
  unfold PyData.strOk
  rw [Array.all_eq_true']
  intro c hc
  have hc' : c ∈ r := by
    have : c ∈ (tx r).cps.toList := by simpa using hc
    rwa [tx_cps] at this
  have := h c hc'
  exact decide_eq_true (by omega)
theorem lay_rows : ∀ {rows : List (List Nat)}, Lo rows → PyData.canLayAll0 (rows.map dt) = true
  | [], _ => by simp [PyData.canLayAll0]
  | r :: rs, h => by
    have h1 : PyData.strOk (tx r) = true := strOk_tx (h r (List.mem_cons_self ..))
    simp only [List.map_cons, PyData.canLayAll0, dt, PyData.canLay0, h1, lay_rows (rows := rs) fun r hr => h r (List.mem_cons_of_mem _ hr), Bool.and_self]
theorem dep_rows : ∀ rows : List (List Nat), PyData.depthAll (rows.map dt) = 0
  | [] => by simp [PyData.depthAll]
  | r :: rs => by simp [PyData.depthAll, PyData.depth, dt, dep_rows rs]
theorem shaped_rows {rows : List (List Nat)} (h : Lo rows) : SeqAt.shaped (.tuple (rows.map dt)) = true :=
  shaped_of (by simp only [PyData.canLay0]; exact lay_rows h) (by simp only [PyData.depth, dep_rows]; omega)
theorem shaped_tnil : SeqAt.shaped (.tuple []) = true := shaped_of (by simp [PyData.canLay0, PyData.canLayAll0]) (by simp [PyData.depth, PyData.depthAll])
theorem eqv_rows_nil (rows : List (List Nat)) : PyData.eqv (.tuple (rows.map dt)) (.tuple []) = rows.isEmpty := by
  cases rows <;> simp [PyData.eqv, PyData.eqvAll]
theorem dueF_cons (w0 : Nat) (r : List Nat) (rs : List (List Nat)) (i : Nat) : dueF w0 (r :: rs) i = if i = 12 then some (12, 0) else match dcc w0 r with
    | some c => some (i, c)
    | none => dueF w0 rs (i + 1) := rfl
theorem dc_succ (w0 : Nat) (r : List Nat) (n i : Nat) : dc w0 r (n + 1) i = if 12 ≤ i ∨ w0 ≤ i ∨ okB (r.getD i 0) = false then some i else dc w0 r n (i + 1) := rfl
def ansII (r c : Nat) : List V := [.str "InvalidIsland", .int (r : Nat), .int (c : Nat)]
def spDue (K : PySem.W.Frag) : Sp := fun vs H Q _ => ∃ (a : Addr) (rows : List (List Nat)), vs = [.ref a] ∧ SqT K H a (rows.map vt) ∧ rows.length ≤ 1000 ∧ (∀ r ∈ rows, r.length ≤ 1000) ∧ Lo rows ∧
  (due rows = none → ∀ H', Same H H' → Q (.str "") H') ∧ ∀ r c, due rows = some (r, c) → ∀ p H', H p = none → Same H H' → H' p = some (.tup (ansII r c)) → Q (.ref p) H'
section
variable {P : Program} {w : World} {K : PySem.W.Frag} {mg : Str → Option Value} {base : Heap}
theorem scDue : FnScope ["_law_rows_here", "_law_row", "_law_column"] ["_law_rows_here"] (defScope sDue) := ⟨rfl, rfl, rfl, by decide +kernel, rfl, by decide +kernel, by decide +kernel⟩
theorem ok_due {f : Addr} {fd : FuncData} (F : FnP K "_law_due" "_law_due" sDue f fd) (grange : mg "range" = none) (glen : mg "len" = none) : FnOk P w K mg base CX0 1 f fd ["_law_rows_here"] (spDue K) := by
  refine F.ok scDue (fun vs H Q E h => ?_) (fun cdv A outer s H vs Q E hr h => ?_)
  · obtain ⟨a, rows, rfl, _⟩ := h
    rfl
  · obtain ⟨a, rows, rfl, hS, hl, hrl, hlo, kN, kS⟩ := h
    have nd := scDue.nd
    refine ⟨_, PSs.nox (pss_cons (ps_if (PW.pt (pw_or (pt_cmpR (op_eqD hr.units) (pv 0) (pe_tup pa_nil) (nomark _)) (pw_or1 (pt_cmpR op_eq (pe_ix ix_tup (pv 0) pe_int (fun _ _ => rfl)) pe_str (nomark _)))))
          (pss_one (ps_ret (pe_tup (pa_cons pe_str (pa_cons pe_int (pa_cons pe_int pa_nil)))))) pss_nil)
      (pss_cons (ps_for PassesOwn.never rfl (pi_range1 rfl grange (pa_cons (pe_callB call_len_seq (by rfl) glen PySem.boot_len (pa_cons (pv 0) pa_nil)) pa_nil)) (pg_name (i := 1) nd rfl (.inl rfl))
        (pss_cons (ps_if (pt_cmpR op_eq (pv 1) pe_int (nomark _)) (pss_one (ps_ret (pe_tup (pa_cons pe_str (pa_cons pe_int (pa_cons pe_int pa_nil)))))) pss_nil)
        (pss_cons (ps_for PassesOwn.never rfl (pi_range1 rfl grange (pa_cons (pe_callB call_len_str (by rfl) glen PySem.boot_len (pa_cons (pe_ix ix_tup (pv 0) (pv 1) (fun _ _ => rfl)) pa_nil)) pa_nil)) (pg_name (i := 2) nd rfl (.inl rfl))
          (pss_one (ps_if (PW.pt (pw_or (pt_cmpR op_ge (pv 2) pe_int (nomark _)) (pw_or (pt_cmpR op_ge (pv 2) (pe_callB call_len_str (by rfl) glen PySem.boot_len (pa_cons (pe_ix ix_tup (pv 0) pe_int (fun _ _ => rfl)) pa_nil)) (nomark _))
              (pw_or1 (pt_cmpR op_notIn_sign (pe_ix ix_str (pe_ix ix_tup (pv 0) (pv 1) (fun _ _ => rfl)) (pv 2) (fun _ _ => rfl)) pe_str rfl)))))
            (pss_one (ps_ret (pe_tup (pa_cons pe_str (pa_cons (pv 1) (pa_cons (pv 2) pa_nil)))))) pss_nil)))
        (pss_one (ps_if (pt_cmpR op_lt (pe_callB call_len_str (by rfl) glen PySem.boot_len (pa_cons (pe_ix ix_tup (pv 0) (pv 1) (fun _ _ => rfl)) pa_nil)) (pe_callB call_len_str (by rfl) glen PySem.boot_len (pa_cons (pe_ix ix_tup (pv 0) pe_int (fun _ _ => rfl)) pa_nil)) (nomark _))
          (pss_one (ps_ret (pe_tup (pa_cons pe_str (pa_cons (pv 1) (pa_cons (pe_callB call_len_str (by rfl) glen PySem.boot_len (pa_cons (pe_ix ix_tup (pv 0) (pv 1) (fun _ _ => rfl)) pa_nil)) pa_nil)))))) pss_nil)))))
      (pss_one (ps_ret pe_str)))), ?_⟩
    refine ⟨_, rfl, by show 0 ≤ sizeLine; decide, fun e he => ?_⟩
    have S1 : Same H (upd H e (.tup [])) := Same.new (Same.refl H) he
    refine ⟨_, _, .tup (Same.tup S1 hS) (dpAll_rows rows), .tup (.inl (.inl upd_same)) .nil, shaped_rows hlo, shaped_tnil, _, rfl, ?_⟩
    rw [eqv_rows_nil]
    generalize (upd H e (.tup [])) = H1 at S1 ⊢
    have hS1 := Same.tup S1 hS
    have fin : ∀ {H2 : Hp} {r c : Nat}, Same H H2 → due rows = some (r, c) → ∀ p, H2 p = none → Q (.ref p) (upd H2 p (.tup (ansII r c))) := fun s2 e p hp => kS _ _ e p _ (Same.free s2 hp) (Same.new s2 hp) upd_same
    cases rows with
    | nil =>
      refine iteT (iteT ?_)
      exact ⟨by show 3 ≤ sizeLine; decide, fun p hp => fin S1 rfl p hp⟩
    | cons r0 rs =>
      refine iteF ?_
      refine ⟨_, rfl, a, _, 0, _, rfl, rfl, hS1, at0, rfl, _, rfl, ?_⟩
      cases r0 with
      | nil =>
        refine iteT' (decide_eq_true (by show V.str (tx []) = V.str (Str.ofString ""); rw [empty_tx]; rfl)) ?_
        exact ⟨by show 3 ≤ sizeLine; decide, fun p hp => fin S1 rfl p hp⟩
      | cons c0 r0 =>
        refine iteF' (decide_eq_false fun z => ?_) ?_
        · have z : V.str (tx (c0 :: r0)) = V.str (Str.ofString "") := z
          injection z with z
          rw [empty_tx] at z
          have z2 := congrArg (fun t : Str => t.cps.toList) z
          simp only [tx_cps] at z2
          cases z2
        -- the rows
        have hr0 : (tx (c0 :: r0)).length ≤ sizeLine := by rw [tx_len]; exact small_le (hrl _ (List.mem_cons_self ..))
        have row0 : ∀ {H2 : Hp}, Same H H2 → SqT K H2 a (((c0 :: r0) :: rs).map vt) := fun s2 => Same.tup s2 hS
        refine ⟨_, rfl, a, _, rfl, .inr hS1, _, rfl, by omega, (by rw [List.length_map]; omega), for_range (lo := 0) (fun i σ H' => Same H H' ∧ (∃ v1 v2, σ = [some (.ref a), v1, v2]) ∧ due ((c0 :: r0) :: rs) = dueF (r0.length + 1) (((c0 :: r0) :: rs).drop i) i ∧ i ≤ ((c0 :: r0) :: rs).length)
          ⟨S1, ⟨_, _, rfl⟩, rfl, Nat.zero_le _⟩ ?_ ?_⟩
        · rintro i σ H2 hi ⟨s2, ⟨v1, v2, rfl⟩, hc, hil⟩
          have hlt : i < ((c0 :: r0) :: rs).length := by rw [List.length_map] at hi; omega
          rw [List.drop_eq_getElem_cons hlt] at hc
          generalize hr : ((c0 :: r0) :: rs)[i] = r at hc
          have hmem : r ∈ (c0 :: r0) :: rs := hr ▸ List.getElem_mem hlt
          have hat : atI (((c0 :: r0) :: rs).map vt) (0 + (i : Int)) = some (vt r) := by
            rw [Int.zero_add]
            refine atI_nat ?_
            rw [List.getElem?_map, List.getElem?_eq_getElem hlt, hr]
            rfl
          have hrz : (tx r).length ≤ sizeLine := by rw [tx_len]; exact small_le (hrl r hmem)
          rw [dueF_cons] at hc
          refine ⟨_, rfl, rfl, _, rfl, ?_⟩
          refine ite2 (fun hz => ?_) (fun hz => ?_)
          · have hz := of_decide_eq_true hz
            injection hz with hz
            rw [if_pos (by omega)] at hc
            exact ⟨by show 3 ≤ sizeLine; decide, fun p hp => fin s2 hc p hp⟩
          · have hi12 : i ≠ 12 := fun h => hz (decide_eq_true (by rw [h]; rfl))
            rw [if_neg hi12] at hc
            -- the columns
            have hat0 : ∀ {H2 : Hp}, Same H H2 → SqT K H2 a (((c0 :: r0) :: rs).map vt) := row0
            have fin1 : ∀ {H3 : Hp} {c : Nat}, Same H H3 → dcc (r0.length + 1) r = some c → ∀ (u : Int), u = (c : Nat) → ∀ p, H3 p = none → Q (.ref p) (upd H3 p (.tup [.str "InvalidIsland", .int (0 + (i : Int)), .int u])) := fun s3 e u eu p hp => by
              rw [e] at hc
              have z := fin s3 hc p hp
              unfold ansII at z
              rw [Int.zero_add, eu]
              exact z
            refine ⟨_, rfl, _, rfl, a, _, _, _, rfl, rfl, row0 s2, hat, _, rfl, hrz, _, rfl, by omega, (by rw [tx_len]; have := hrl r hmem; omega), for_range (lo := 0) (fun j σ' H3 => Same H H3 ∧ (∃ v, σ' = [some (.ref a), some (.int (0 + (i : Int))), v]) ∧
              dcc (r0.length + 1) r = orElse' (dc (r0.length + 1) r (r.length - j) j) (dcEnd (r0.length + 1) r) ∧ j ≤ r.length) ⟨s2, ⟨_, rfl⟩, rfl, Nat.zero_le _⟩ ?_ ?_⟩
            · rintro j σ' H3 hj ⟨s3, ⟨v3, rfl⟩, hd, hjl⟩
              have hjlt : j < r.length := by rw [tx_len] at hj; omega
              obtain ⟨n, hn⟩ : ∃ n, r.length - j = n + 1 := ⟨r.length - j - 1, by omega⟩
              have hn2 : n = r.length - (j + 1) := by omega
              rw [hn, dc_succ] at hd
              have ret : (12 ≤ j ∨ r0.length + 1 ≤ j ∨ okB (r.getD j 0) = false) → ∀ p, H3 p = none → Q (.ref p) (upd H3 p (.tup [.str "InvalidIsland", .int (0 + (i : Int)), .int (0 + (j : Int))])) := fun h p hp => by
                rw [if_pos h] at hd
                exact fin1 s3 hd _ (by omega) p hp
              have e3 : r.getD j 0 = r[j] := by rw [List.getD_eq_getElem?_getD, List.getElem?_eq_getElem hjlt]; rfl
              refine ⟨_, rfl, _, _, rfl, rfl, _, rfl, ?_⟩
              refine ite2 (fun hz => iteT ?_) (fun hz => ?_)
              · have hz := of_decide_eq_true hz
                exact ⟨_, rfl, _, rfl, (by show 3 ≤ sizeLine; decide), fun p hp => ret (.inl (by omega)) p hp⟩
              · have n1 : ¬ (12 : Int) ≤ 0 + (j : Int) := fun h => hz (decide_eq_true h)
                refine ⟨_, rfl, _, rfl, a, _, 0, _, rfl, rfl, row0 s3, at0, _, rfl, hr0, _, _, rfl, rfl, _, rfl, ?_⟩
                refine ite2 (fun hz => iteT ?_) (fun hz => ?_)
                · have hz := of_decide_eq_true hz
                  rw [tx_len] at hz
                  simp only [List.length_cons] at hz
                  exact ⟨_, rfl, _, rfl, (by show 3 ≤ sizeLine; decide), fun p hp => ret (.inr (.inl (by omega))) p hp⟩
                · have n2 : ¬ (((tx (c0 :: r0)).length : Nat) : Int) ≤ 0 + (j : Int) := fun h => hz (decide_eq_true h)
                  rw [tx_len] at n2
                  simp only [List.length_cons] at n2
                  refine ⟨_, rfl, _, rfl, a, _, _, _, rfl, rfl, row0 s3, hat, _, rfl, _, _, r[j], rfl, rfl, hrz, (by rw [tx_cps, Int.zero_add]; exact atI_nat (by simp [hjlt])), _, _, rfl, rfl, _, rfl, ?_⟩
                  show (if (!decide (r[j] ∈ lawSigns.cps.toList)) = true then _ else _)
                  rw [mem_lawSigns]
                  cases hb : okB r[j] with
                  | false =>
                    refine iteT ?_
                    exact ⟨_, rfl, _, rfl, (by show 3 ≤ sizeLine; decide), fun p hp => ret (.inr (.inr (by rw [e3]; exact hb))) p hp⟩
                  | true =>
                    refine iteF ?_
                    refine ⟨s3, ⟨_, rfl⟩, ?_, hjlt⟩
                    rw [hd, if_neg (by rw [e3, hb]; rintro (h | h | h); · omega
                                       · omega
                                       · cases h), hn2]
            · rintro σ' H3 ⟨s3, ⟨v3, rfl⟩, hd, hjl⟩
              have e0 : (((tx r).length : Nat) : Int).toNat = r.length := by rw [tx_len]; omega
              rw [e0, Nat.sub_self] at hd
              have hd : dcc (r0.length + 1) r = dcEnd (r0.length + 1) r := hd
              unfold dcEnd at hd
              refine ⟨_, rfl, _, rfl, a, _, _, _, rfl, rfl, row0 s3, hat, _, rfl, hrz, _, rfl, a, _, 0, _, rfl, rfl, row0 s3, at0, _, rfl, hr0, _, _, rfl, rfl, _, rfl, ?_⟩
              rw [tx_len, tx_len]
              refine ite2 (fun hz => ?_) (fun hz => ?_)
              · have hz := of_decide_eq_true hz
                simp only [List.length_cons] at hz
                rw [if_pos (by omega)] at hd
                exact ⟨_, rfl, _, rfl, _, rfl, a, _, _, _, rfl, rfl, row0 s3, hat, _, rfl, hrz, (by show 3 ≤ sizeLine; decide), fun p hp => fin1 s3 hd _ (by rw [tx_len]) p hp⟩
              · have n1 : ¬ ((r.length : Nat) : Int) < (((c0 :: r0).length : Nat) : Int) := fun h => hz (decide_eq_true h)
                simp only [List.length_cons] at n1
                rw [if_neg (by omega)] at hd
                rw [hd] at hc
                exact ⟨s3, ⟨_, _, rfl⟩, hc, hlt⟩
        · rintro σ H2 ⟨s2, ⟨v1, v2, rfl⟩, hc, hil⟩
          have e0 : ((c0 :: r0) :: rs).drop ((((((c0 :: r0) :: rs).map vt).length : Nat) : Int)).toNat = [] := by simp
          rw [e0] at hc
          exact kN hc H2 s2
end
end Om

namespace Om
open PySem PySem.Spec PyProof.Rows L2 LamX
/-! ### a text of some signs, several times -/
theorem foldl_rep (cs : List Nat) : ∀ (n : Nat) (acc : List Nat), (List.replicate n cs.toArray).foldl (· ++ ·) acc.toArray = (acc ++ (List.replicate n cs).flatten).toArray
  | 0, acc => by simp
  | n + 1, acc => by
    rw [List.replicate_succ, List.foldl_cons]
    have e : acc.toArray ++ cs.toArray = (acc ++ cs).toArray := by simp
    rw [e, foldl_rep cs n (acc ++ cs), List.replicate_succ, List.flatten_cons, List.append_assoc]
def rMulS : R2 := fun x y H Q => ∃ (cs : List Nat) (k : Int), x = .str (tx cs) ∧ y = .int k ∧ cs ≠ [] ∧ cs.length ≤ 1000 ∧ 2 ≤ k ∧ k ≤ 1000 ∧ Q (.str (tx (List.replicate k.toNat cs).flatten)) H
theorem op_mulS {X : Cx} : OpR X (binaryOp .Mult) rMulS := by
  rintro pins s σ H x y v u Q I rx ry ⟨cs, k, rfl, rfl, hne, hl, h2, h3, q⟩
  obtain ⟨t, rfl⟩ := rx
  obtain ⟨t', rfl⟩ := ry
  have hk : (List.replicate k.toNat cs).flatten.length ≤ 1000000 := by
    rw [PyProof.Rows.lm_len_rep_flat]
    have a1 : k.toNat * cs.length ≤ 1000 * 1000 := Nat.mul_le_mul (by omega) hl
    omega
  have hm : (tx cs).length * k.toNat ≤ 1000000 := by
    rw [tx_len]
    have a1 : cs.length * k.toNat ≤ 1000 * 1000 := Nat.mul_le_mul hl (by omega)
    omega
  have n1 : ¬ k < 1 := by omega
  have n2 : (k == 1 || (tx cs).length == 0) = false := by
    rw [tx_len, Bool.or_eq_false_iff]
    refine ⟨by simpa using (show ¬ k = 1 by omega), ?_⟩
    cases cs with
    | nil => exact absurd rfl hne
    | cons a r => rfl
  refine PySem.P.mul_str ?_ (fun _ _ => ?_) (fun _ _ => ?_) ?_
  · rw [decide_eq_false (show ¬ k < -(2 ^ 63 : Int) by omega), decide_eq_false (show ¬ k ≥ 2 ^ 63 by omega)]
    rfl
  · have e1 : (1000 : Int) ≤ (2 ^ 63 - 1) / k := by
      rw [Int.le_ediv_iff_mul_le (by omega)]
      have : 1000 * k ≤ 1000 * 1000 := Int.mul_le_mul_of_nonneg_left h3 (by omega)
      omega
    rw [tx_len]
    omega
  · refine decide_eq_false (show ¬ (tx cs).length * k.toNat > sizeLine from Nat.not_lt.mpr (Nat.le_trans hm (by decide)))
  · rw [if_neg n1, if_neg (by rw [n2]; exact Bool.false_ne_true)]
    have e2 : (⟨(List.replicate k.toNat (tx cs).cps).foldl (· ++ ·) #[]⟩ : Str) = tx (List.replicate k.toNat cs).flatten := by
      have := foldl_rep cs k.toNat []
      unfold tx
      rw [← List.nil_append (List.replicate k.toNat cs).flatten, ← this]
    rw [e2]
    exact ⟨by rw [tx_len]; exact Nat.le_trans hk (by decide), .str (tx (List.replicate k.toNat cs).flatten), H, I.tok _, ⟨_, rfl⟩, q⟩
/-! ### the island is made -/
/-- what the top says of Island, at CI -/
structure IslF (K : PySem.W.Frag) (mg : Str → Option Value) (CI fN : Addr) : Prop where
  cl : Cls K CI
  nR : NoAttr K CI "_rows"
  made : Mk K CI fN
  gI : mg "Island" = some (.ref CI)
def islFs (a : Addr) : List (Str × V) := putF "_rows" (.ref a) []
def spIsl (K : PySem.W.Frag) (CI C0 : Addr) : Sp := fun vs H Q E => ∃ (p dx a : Addr) (rows : List (List Nat)), vs = [.ref p, .ref a] ∧ H p = some (.ins CI dx []) ∧ SqT K H a (rows.map vt) ∧ rows.length ≤ 1000 ∧ (∀ r ∈ rows, r.length ≤ 1000) ∧
  (chk rows = none → ∀ H', (∀ b o, H b = some o → b ≠ p → H' b = some o) → H' p = some (.ins CI dx (islFs a)) → Q .non H') ∧
  ∀ r c, chk rows = some (r, c) → ∀ d H', H d = none → Same H H' → H' d = some (.xd (xdII (.int (r : Nat)) (.int (c : Nat)))) → E (.ref C0) (some d) H'
section
variable {P : Program} {w : World} {K : PySem.W.Frag} {mg : Str → Option Value} {base : Heap} {CI C0 fN : Addr}
theorem scIsl : FnScope ["self", "rows"] ["self", "rows"] (defScope sIslI) := ⟨rfl, rfl, rfl, by decide +kernel, rfl, by decide +kernel, by decide +kernel⟩
theorem ok_isl {fd : FuncData} (F : FnP K "__init__" "Island.__init__" sIslI fN fd) (T : IslF K mg CI fN) (G : Cal P w K mg base (L2.CX P w) 3 "_check_rows" ["rows"] (spChk K C0)) (gtuple : mg "tuple" = none) :
    FnOk P w K mg base (L2.CX P w) 4 fN fd ["self", "rows"] (spIsl K CI C0) := by
  refine F.ok scIsl (fun vs H Q E h => ?_) (fun cdv A outer s H vs Q E hr h => ?_)
  · obtain ⟨p, dx, a, rows, rfl, _⟩ := h
    rfl
  · obtain ⟨p, dx, a, rows, rfl, hp, hS, hl, hrl, kN, kS⟩ := h
    refine ⟨_, pss_cons (ps_expr (pe_cal G hr (E := E) (passes_call (W := fun cls d _ H => E cls d H) (takes_of rfl rfl rfl rfl) fun _ _ _ _ h => h) (pa_cons (pv 1) pa_nil)))
      (pss_one (ps_fld (pv 0) (pe_callTy call_tuple_of (by rfl) gtuple (by decide +kernel) (pa_cons (pv 1) pa_nil)) rfl)), ?_⟩
    refine ⟨_, rfl, a, rows, rfl, hS, hl, hrl, fun e H1 s1 => ?_, fun r c e d H' h1 h2 h3 => kS r c e d H' h1 h2 h3⟩
    refine ⟨_, rfl, a, _, rfl, .inr ⟨Same.tup s1 hS, ?_⟩⟩
    refine ⟨_, rfl, p, CI, dx, [], rfl, s1 _ _ hp, T.cl, T.nR, by decide, ?_⟩
    exact kN e _ (fun b o hb n => by rw [upd_ne n]; exact s1 _ _ hb) upd_same
end
end Om

namespace Om
open PySem PySem.Spec PyProof.Rows L2 LamX
/-! ### what stays from step to step of a law -/
/-- all but tables and the box stay -/
def Lv (b l : Addr) (H H' : Hp) : Prop := ∀ c o, H c = some o → (∀ ps, o ≠ .tbl ps) → c ≠ b → c ≠ l → H' c = some o
theorem Lv.refl (b l : Addr) (H : Hp) : Lv b l H H := fun _ _ h _ _ _ => h
theorem Lv.trans {b l : Addr} {H H1 H2 : Hp} (u : Lv b l H H1) (v : Lv b l H1 H2) : Lv b l H H2 := fun c o h n n1 n2 => v c o (u c o h n n1 n2) n n1 n2
theorem Kp.lv {b l : Addr} {H H' : Hp} (k : Kp b l H H') : Lv b l H H' := fun c o h _ n1 n2 => k c o h n1 n2
theorem lv_ext {b l : Addr} {H H' : Hp} (k : ExtN H H') : Lv b l H H' := fun c o h n _ _ => k c o h n
theorem lv_same {b l : Addr} {H H' : Hp} (k : Same H H') : Lv b l H H' := fun c o h _ _ _ => k c o h
theorem Lv.tup {K : PySem.W.Frag} {b l a : Addr} {H H' : Hp} {xs : List V} (v : Lv b l H H') (B : Box H b l) (h : SqT K H a xs) : SqT K H' a xs := by
  obtain ⟨ns, z, h1, h2, _⟩ := B.ex
  rcases h with (h | ⟨o, h⟩) | h
  · exact .inl (.inl (v _ _ h (fun ps e => by cases e) (ne_of h h1 fun e => by cases e) (ne_of h h2 fun e => by cases e)))
  · exact .inl (.inr ⟨o, v _ _ h (fun ps e => by cases e) (ne_of h h1 fun e => by cases e) (ne_of h h2 fun e => by cases e)⟩)
  · exact .inr h
theorem Box.ext {b l : Addr} {H H' : Hp} (B : Box H b l) (k : ExtN H H') : Box H' b l := by
  obtain ⟨ns, z, h1, h2, h3⟩ := B.ex
  exact ⟨ns, z, k _ _ h1 (fun ps e => by cases e), k _ _ h2 (fun ps e => by cases e), h3⟩
theorem tabs_kp {T : List (Addr × Str)} {b l : Addr} {H H' : Hp} (t : Tabs T H) (B : Box H b l) (k : Kp b l H H') : Tabs T H' := fun p hp => by
  obtain ⟨ns, z, h1, h2, _⟩ := B.ex
  obtain ⟨ps, q1, q2, q3⟩ := t p hp
  refine ⟨ps, k _ _ q1 (ne_of q1 h1 fun e => by cases e) (ne_of q1 h2 fun e => by cases e), q2, fun pos cv hc => ?_⟩
  obtain ⟨c, e1, e2⟩ := q3 pos cv hc
  exact ⟨c, e1, k _ _ e2 (ne_of e2 h1 fun e => by unfold CodeO at e; cases e) (ne_of e2 h2 fun e => by unfold CodeO at e; cases e)⟩
/-! ### tuples cut and put together -/
theorem catA_read {K : PySem.W.Frag} {a b : Addr} {xs ys : List V} {H : Hp} {Q : VK} (hx : SqT K H a xs) (hy : SqT K H b ys) (hl : xs.length + ys.length ≤ sizeLine) (k : ∀ p H', Same H H' → SqT K H' p (xs ++ ys) → Q (.ref p) H') : rCatA K (.ref a) (.ref b) H Q :=
  ⟨a, b, xs, ys, rfl, rfl, hx, hy, hl, fun e => k b H (Same.refl H) (by rw [e]; exact hy), fun _ e => k a H (Same.refl H) (by rw [e, List.append_nil]; exact hx), fun _ _ p hp => k p _ (Same.new (Same.refl H) hp) (.inl (.inl upd_same))⟩
theorem slA_read {K : PySem.W.Frag} {a : Addr} {xs : List V} {lo hi : Option Int} {H : Hp} {Q : VK} (hx : SqT K H a xs) (k : ∀ p H', Same H H' → SqT K H' p (cutV xs lo hi) → Q (.ref p) H') : rSlA K (.ref a) lo hi H Q := by
  refine ⟨a, xs, rfl, hx, fun ⟨e1, e2⟩ => k a H (Same.refl H) ?_, fun _ p hp => k p _ (Same.new (Same.refl H) hp) (.inl (.inl upd_same))⟩
  unfold cutV
  rw [e1, e2, List.drop_zero, Nat.sub_zero, List.take_length]
  exact hx
/-! ### rows with some bound -/
structure Good (rows : List (List Nat)) : Prop where
  len : rows.length ≤ 900
  row : ∀ r ∈ rows, r.length ≤ 1000 ∧ ∀ c ∈ r, c < 1000
theorem Good.lens {rows : List (List Nat)} (g : Good rows) : ∀ r ∈ rows, r.length ≤ 1000 := fun r h => (g.row r h).1
theorem Good.lo {rows : List (List Nat)} (g : Good rows) : Lo rows := fun r h => (g.row r h).2
theorem Good.le {rows : List (List Nat)} (g : Good rows) : rows.length ≤ 1000 := Nat.le_trans g.len (by decide)
theorem RowsOk.good {m : Nat} {rows : List (List Nat)} (h : RowsOk m rows) (hm : m ≤ 12) : Good rows := by
  obtain ⟨h1, h2, wd, w1, w2, hr⟩ := h
  refine ⟨by omega, fun r hr' => ⟨by have := (hr r hr').1; omega, fun c hc => ?_⟩⟩
  rcases (hr r hr').2 c hc with e | e | e <;> omega
theorem cutV_rows (rows : List (List Nat)) (lo hi : Option Int) : ∃ rs : List (List Nat), cutV (rows.map vt) lo hi = rs.map vt ∧ rs.length ≤ rows.length ∧ ∀ r ∈ rs, r ∈ rows := by
  refine ⟨(rows.drop (HT.sIx (rows.map vt).length 0 lo)).take (HT.sIx (rows.map vt).length (rows.map vt).length hi - HT.sIx (rows.map vt).length 0 lo), ?_, ?_, fun r h => List.mem_of_mem_drop (List.mem_of_mem_take h)⟩
  · unfold cutV
    rw [List.map_take, List.map_drop]
  · rw [List.length_take, List.length_drop]
    omega
theorem cutS_tx (r : List Nat) (lo hi : Option Int) : ∃ q : List Nat, cutS (tx r) lo hi = tx q ∧ q.length ≤ r.length ∧ ∀ c ∈ q, c ∈ r := by
  refine ⟨_, rfl, ?_, fun c h => ?_⟩
  · rw [List.length_take, List.length_drop, tx_cps]
    omega
  · have := List.mem_of_mem_drop (List.mem_of_mem_take h)
    rwa [tx_cps] at this
/-! ### the answers of _law_error and of _law_due -/
def Res (H : Hp) (v : V) : Option (Nat × Nat) → Prop
  | none => v = .str ""
  | some (r, c) => ∃ p, v = .ref p ∧ H p = some (.tup (ansII r c))
def dRes : Option (Nat × Nat) → PyData
  | none => .str ""
  | some (r, c) => .tuple [.str "InvalidIsland", .int (r : Nat), .int (c : Nat)]
theorem lay_dRes (o : Option (Nat × Nat)) : (dRes o).canLay0 = true := by
  cases o with
  | none => decide +kernel
  | some p =>
    obtain ⟨r, c⟩ := p
    have e : PyData.strOk ("InvalidIsland" : Str) = true := by decide +kernel
    simp only [dRes, PyData.canLay0, PyData.canLayAll0, e, Bool.and_self]
theorem shaped_dRes (o : Option (Nat × Nat)) : SeqAt.shaped (dRes o) = true := by
  refine shaped_of (lay_dRes o) ?_
  cases o with
  | none => decide +kernel
  | some p => simp [dRes, PyData.depth, PyData.depthAll]
theorem eqv_dRes (o : Option (Nat × Nat)) : PyData.eqv (dRes o) (dRes o) = true := PySem.SeqAt.eqv_refl _ (lay_dRes o)
theorem Res.dp {K : PySem.W.Frag} {H : Hp} {v : V} {o : Option (Nat × Nat)} (h : Res H v o) : Dp K H v (dRes o) := by
  cases o with
  | none =>
    obtain rfl : v = .str "" := h
    exact .str _
  | some p =>
    obtain ⟨r, c⟩ := p
    obtain ⟨q, rfl, hq⟩ := h
    exact .tup (.inl (.inl hq)) (.cons (.str _) (.cons (.int _) (.cons (.int _) .nil)))
theorem Res.same {H H' : Hp} {v : V} {o : Option (Nat × Nat)} (h : Res H v o) (s : Same H H') : Res H' v o := by
  cases o with
  | none => exact h
  | some p =>
    obtain ⟨r, c⟩ := p
    obtain ⟨q, rfl, hq⟩ := h
    exact ⟨q, rfl, s _ _ hq⟩
theorem Res.ext {H H' : Hp} {v : V} {o : Option (Nat × Nat)} (h : Res H v o) (s : ExtN H H') : Res H' v o := by
  cases o with
  | none => exact h
  | some p =>
    obtain ⟨r, c⟩ := p
    obtain ⟨q, rfl, hq⟩ := h
    exact ⟨q, rfl, s _ _ hq fun ps e => by cases e⟩
theorem due_read {K : PySem.W.Frag} {a : Addr} {rows : List (List Nat)} {H : Hp} {Q : VK} {E : XK} (hS : SqT K H a (rows.map vt)) (g : Good rows) (k : ∀ v H', Same H H' → Res H' v (due rows) → Q v H') : spDue K ([.ref a] ++ []) H Q E :=
  ⟨a, rows, rfl, hS, g.le, g.lens, g.lo, fun e H' s => k _ H' s (by rw [e]; rfl), fun r c e p H' hp s h => k _ H' s (by rw [e]; exact ⟨p, rfl, h⟩)⟩
/-- _law_error(lambda: Island(x)), x rows -/
theorem err_isl {K : PySem.W.Frag} {CI : Addr} {C : Nat → Addr} {σ : L2.St} {H : Hp} {Q : VK} {ta : TA} {rows : List (List Nat)} (g : Good rows) (hta : ∀ Qa : List V → Hp → Prop, (∀ a H', Same H H' → SqT K H' a (rows.map vt) → Qa [.ref a] H') → ta σ H Qa)
    (k : ∀ v H', Same H H' → Res H' v (chk rows) → Q v H') : TErr C (fun E H' Q' => tMake CI (spIsl K CI (C 0)) [] E ta σ H' Q') H Q := by
  show ta σ H fun vs H1 => ∀ x dx, H1 x = none → H1 dx = none → dx ≠ x → spIsl K CI (C 0) (.ref x :: (vs ++ [])) (upd (upd H1 dx (.own x)) x (.ins CI dx [])) (fun v H2 => v = .non ∧ Q (.str "") H2) (ErrOut C Q)
  refine hta _ fun a H1 s1 hS x dx hx hdx hne => ?_
  have s2 : Same H1 (upd (upd H1 dx (.own x)) x (.ins CI dx [])) := fun c o hc => by
    rw [upd_ne (ne_of_none hc hx), upd_ne (ne_of_none hc hdx)]
    exact hc
  refine ⟨x, dx, a, rows, rfl, upd_same, Same.tup s2 hS, g.le, g.lens, fun e H2 k1 k2 => ⟨rfl, k _ H2 (fun c o hc => ?_) (by rw [e]; rfl)⟩, fun r c e d H2 h1 h2 h3 => ErrOut.isl h3 fun p H3 h4 h5 h6 => k _ H3 ((s1.trans (s2.trans h2)).trans h5) (by rw [e]; exact ⟨p, rfl, h6⟩)⟩
  exact k1 c o (s2 c o (s1 c o hc)) (ne_of_none (s1 c o hc) hx)
end Om

namespace Om
open PySem PySem.Spec PyProof.Rows L2 LamX
abbrev sLaw : Stmt := top 26
abbrev nLaw : List Str := ["_law_script", "_law_box", "_law_turn", "_law_row", "_law_column", "_law_text", "_law_sign", "_law_wrong", "_law_many", "_law_rows_here", "_law_some"]
theorem scLaw : FnScope nLaw ["_law_script"] (defScope sLaw) := ⟨rfl, rfl, rfl, by decide +kernel, rfl, by decide +kernel, by decide +kernel⟩
/-- the names of the law's lambdas -/
def lsc (l : List (Str × NameKind)) : Scope := { kind := .function, names := l, isGenerator := false, isCoroutine := false, more := [] }
theorem lg9 : LamG nLaw (defScope sLaw) (lsc [("_law_rows_here", .free), ("Island", .globalImplicit)]) [] := lamG_by (by decide +kernel)
theorem lg10 : LamG nLaw (defScope sLaw) (lsc [("_law_some", .free), ("Island", .globalImplicit)]) [] := lamG_by (by decide +kernel)
theorem lg8 : LamG nLaw (defScope sLaw) (lsc [("_law_many", .free), ("Island", .globalImplicit)]) [] := lamG_by (by decide +kernel)
theorem lg0 : LamG nLaw (defScope sLaw) (lsc [("Island", .globalImplicit)]) [] := lamG_by (by decide +kernel)
theorem lg1 : LamG nLaw (defScope sLaw) (lsc [("_law_a", .local), ("Island", .globalImplicit)]) ["_law_a"] := lamG_by (by decide +kernel)
def lamQ : Str := (envOfC "law" (defScope sLaw) 0 0 .none).qual ++ "<lambda>"
def TT1 (Pt : Addr) : List (Addr × Str) := [(Pt, lamQ)]
def spLaw (K : PySem.W.Frag) (Pt : Addr) : Sp := fun vs H Q _ => ∃ (a : Addr) (ns : List Int), vs = [.ref a] ∧ SqL K H a (ns.map V.int) ∧ ns.length ≤ 63 ∧ H Pt = some (.tbl #[]) ∧ ∀ H', Q (.bl true) H'
theorem noPart {σ : L2.St} {H : Hp} {Q : Option Int → Hp → Prop} (h : Q none H) : tNoPart σ H Q := h
theorem nilArgs {σ : L2.St} {H : Hp} {Q : List V → Hp → Prop} (h : Q [] H) : tNil σ H Q := h
theorem two_at {n : Int} (h0 : 0 ≤ n) (h2 : n < 2) : ∃ m : Nat, atI [V.int 4, V.int 12] n = some (.int (m : Nat)) ∧ 1 ≤ m ∧ m ≤ 12 := by
  have e : n = 0 ∨ n = 1 := by omega
  rcases e with rfl | rfl
  · exact ⟨4, rfl, by decide, by decide⟩
  · exact ⟨12, rfl, by decide, by decide⟩
def six : List V := [.str (Str.ofString "a"), .str (Str.ofString " "), .str (Str.ofString "#"), .str (Str.ofString "!"), .str (Str.ofString "Z"), .str (Str.ofString "")]
def sixC (i : Nat) : List Nat := [[97], [32], [35], [33], [90], []].getD i []
theorem six_at {n : Int} (h0 : 0 ≤ n) (h6 : n < 6) : ∃ z : List Nat, atI six n = some (vt z) ∧ z.length ≤ 1 ∧ ∀ c ∈ z, c < 1000 := by
  have e : n = 0 ∨ n = 1 ∨ n = 2 ∨ n = 3 ∨ n = 4 ∨ n = 5 := by omega
  have s0 : Str.ofString "a" = tx [97] := by decide +kernel
  have s1 : Str.ofString " " = tx [32] := by decide +kernel
  have s2 : Str.ofString "#" = tx [35] := by decide +kernel
  have s3 : Str.ofString "!" = tx [33] := by decide +kernel
  have s4 : Str.ofString "Z" = tx [90] := by decide +kernel
  have s5 : Str.ofString "" = tx [] := by decide +kernel
  rcases e with rfl | rfl | rfl | rfl | rfl | rfl
  · exact ⟨[97], (by show some (V.str _) = some (V.str _); rw [s0]), by decide, by decide⟩
  · exact ⟨[32], (by show some (V.str _) = some (V.str _); rw [s1]), by decide, by decide⟩
  · exact ⟨[35], (by show some (V.str _) = some (V.str _); rw [s2]), by decide, by decide⟩
  · exact ⟨[33], (by show some (V.str _) = some (V.str _); rw [s3]), by decide, by decide⟩
  · exact ⟨[90], (by show some (V.str _) = some (V.str _); rw [s4]), by decide, by decide⟩
  · exact ⟨[], (by show some (V.str _) = some (V.str _); rw [s5]), by decide, by decide⟩
theorem repT_K {X : Cx} {K : PySem.W.Frag} (hK : X.K = K) : OpR X (binaryOp .Mult) (rRepT K) := by
  subst hK
  exact op_repT
section
variable {P : Program} {w : World} {K : PySem.W.Frag} {mg : Str → Option Value} {base : Heap} {C : Nat → Addr} {CM CI fN c Pt gE : Addr}
theorem ok_law {f : Addr} {fd fdE fdN : FuncData} (F : FnP K "law" "law" sLaw f fd) (hcd : ∀ cd, fd.code = cd → cd = .ref c) (TB : TabB base mg c Pt)
    (BEG : Cal P w K mg base CX0 1 "_law_begun" ["_law_script"] (spBegun K)) (TAKE : Cal P w K mg base CX0 1 "_law_take" ["_law_box", "_law_many"] spTake) (ROWS : Cal P w K mg base CX0 2 "_law_rows" ["_law_box", "_law_most"] spRows)
    (DUE : Cal P w K mg base CX0 1 "_law_due" ["_law_rows_here"] (spDue K)) (FE : FnP K "_law_error" "_law_error" sErr gE fdE) (bE : Binds K fdE ["_law_work"] []) (hgE : mg "_law_error" = some (.ref gE)) (TE : ErrF K mg C CM)
    (TI : IslF K mg CI fN) (GI : FnOk P w K mg base (L2.CX P w) 4 fN fdN ["self", "rows"] (spIsl K CI (C 0))) (bI : Binds K fdN ["self", "rows"] [])
    (grange : mg "range" = none) (glen : mg "len" = none) : FnOk P w K mg base CX0 8 f fd ["_law_script"] (spLaw K Pt) := by
  obtain ⟨oc, od, dV, kV, doc, pm, an, cdv, ct, osl, rfl, lk, hcdv, _, _⟩ := F.ex
  obtain ⟨ocE, odE, dE, kE, docE, pmE, anE, cdE, ctE, oslE, rfl, lkE, hcE, _, _⟩ := FE.ex
  obtain rfl : cdv = .ref c := hcd _ rfl
  refine fn_of (k := 7) lk hcdv scLaw (fun vs H Q E h => ?_) (fun A outer s H vs Q E hr h => ?_)
  · obtain ⟨a, ns, rfl, _⟩ := h
    rfl
  · obtain ⟨a, ns, rfl, hS, hlen, hP, k⟩ := h
    have nd := scLaw.nd
    have hr1 : Room 1 _ := hr.mono (by decide)
    have hr2 : Room 2 _ := hr.mono (by decide)
    have hr3 : Room 3 _ := hr.mono (by decide)
    have hu : ∀ p ∈ TT1 Pt, p.1 = Pt → p.2 = lamQ := fun p hp _ => by rw [List.mem_singleton.mp hp]
    have hm : (Pt, lamQ) ∈ TT1 Pt := List.mem_singleton.mpr rfl
    refine ⟨_, PSs.nox (pss_cons (ps_set (i := 1) nd rfl (.inl rfl) (pe_cal BEG hr1 pass0 (pa_cons (pv 0) pa_nil)))
        (pss_cons (ps_for PassesOwn.never rfl (pi_range1 rfl grange (pa_cons pe_int pa_nil)) (pg_name (i := 2) nd rfl (.inl rfl)) (pss_cons (ps_set (i := 9) nd rfl (.inr rfl) (pe_cal ROWS hr2 pass0 (pa_cons (pv 1) (pa_cons (pe_ix ix_list (pe_lst (pa_cons pe_int (pa_cons pe_int pa_nil))) (pe_cal TAKE hr1 pass0 (pa_cons (pv 1) (pa_cons pe_int pa_nil))) (fun _ _ => rfl)) pa_nil))))
        (pss_cons (ps_if (pt_cmpR op_ne (pe_lamG0 (T := TT1 Pt) (TT := TErr C) (k := 5) rfl hgE FE.kp lkE hcE bE scErr rfl (.inl rfl) (err_gives TE) TB rfl hm hu hr hr3 lg9 rfl (fun _ _ _ _ _ => rfl)
            (fun A outer s H E f c' hrb => pe_make TI.made GI hrb rfl TI.gI bI .nil (passes_call (W := fun cls d _ H => E cls d H) (takes_of rfl rfl rfl rfl) fun _ _ _ _ h => h) (pa_cons (pv 9) pa_nil))) pe_str (nomark _)) (pss_one (ps_ret pe_bl)) pss_nil)
        (pss_cons (ps_par (i := 3) (j := 4) rfl nd rfl rfl (by decide) rfl rfl (pa_cons (pe_cal TAKE hr1 pass0 (pa_cons (pv 1) (pa_cons (pe_callB call_len_seq (by rfl) glen PySem.boot_len (pa_cons (pv 9) pa_nil)) pa_nil))) (pa_cons (pe_cal TAKE hr1 pass0 (pa_cons (pv 1) (pa_cons (pe_op op_add (pe_callB call_len_str (by rfl) glen PySem.boot_len (pa_cons (pe_ix ix_tup (pv 9) pe_int (fun _ _ => rfl)) pa_nil)) pe_int) pa_nil))) pa_nil)) (by rfl))
        (pss_cons (ps_set (i := 5) nd rfl (.inl rfl) (pe_ix ix_tup (pv 9) (pv 3) (fun _ _ => rfl)))
        (pss_cons (ps_set (i := 6) nd rfl (.inl rfl) (pe_ix ix_list (pe_lst (pa_cons pe_str (pa_cons pe_str (pa_cons pe_str (pa_cons pe_str (pa_cons pe_str (pa_cons pe_str pa_nil))))))) (pe_cal TAKE hr1 pass0 (pa_cons (pv 1) (pa_cons pe_int pa_nil))) (fun _ _ => rfl)))
        (pss_cons (ps_set (i := 7) nd rfl (.inl rfl) (pe_lst (pa_cons (pe_op op_add_str (pe_op op_add_str (pe_slice sl_str (pv 5) po_none (po_some (pv 4))) (pv 6)) (pe_slice sl_str (pv 5) (po_some (pe_op op_add (pv 4) pe_int)) po_none)) (pa_cons (pe_slice sl_str (pv 5) po_none (po_some (pv 4))) (pa_cons (pe_op op_add_str (pv 5) pe_str) pa_nil)))))
        (pss_cons (ps_set (i := 10) nd rfl (.inr rfl) (pe_op op_catA (pe_op op_catA (pe_slice sl_tupA (pv 9) po_none (po_some (pv 3))) (pe_tup (pa_cons (pe_ix ix_list (pv 7) (pe_cal TAKE hr1 pass0 (pa_cons (pv 1) (pa_cons pe_int pa_nil))) (fun _ _ => rfl)) pa_nil))) (pe_slice sl_tupA (pv 9) (po_some (pe_op op_add (pv 3) pe_int)) po_none)))
        (pss_one (ps_if (pt_cmpR (op_neD hr.units) (pe_lamG0 (T := TT1 Pt) (TT := TErr C) (k := 5) rfl hgE FE.kp lkE hcE bE scErr rfl (.inl rfl) (err_gives TE) TB rfl hm hu hr hr3 lg10 rfl (fun _ _ _ _ _ => rfl)
            (fun A outer s H E f c' hrb => pe_make TI.made GI hrb rfl TI.gI bI .nil (passes_call (W := fun cls d _ H => E cls d H) (takes_of rfl rfl rfl rfl) fun _ _ _ _ h => h) (pa_cons (pv 10) pa_nil))) (pe_cal DUE hr1 pass0 (pa_cons (pv 10) pa_nil)) (nomark _)) (pss_one (ps_ret pe_bl)) pss_nil))))))))))
        (pss_cons (ps_for PassesOwn.never rfl (pi_tup (pe_tup (pa_cons pe_int (pa_cons pe_int (pa_cons pe_int pa_nil))))) (pg_name (i := 8) nd rfl (.inr rfl)) (pss_cons (ps_if (pt_cmpR (op_neD hr.units) (pe_lamG0 (T := TT1 Pt) (TT := TErr C) (k := 5) rfl hgE FE.kp lkE hcE bE scErr rfl (.inl rfl) (err_gives TE) TB rfl hm hu hr hr3 lg8 rfl (fun _ _ _ _ _ => rfl)
            (fun A outer s H E f c' hrb => pe_make TI.made GI hrb rfl TI.gI bI .nil (passes_call (W := fun cls d _ H => E cls d H) (takes_of rfl rfl rfl rfl) fun _ _ _ _ h => h) (pa_cons (pe_op (repT_K (K := K) rfl) (pe_tup (pa_cons pe_str pa_nil)) (pv 8)) pa_nil))) (pe_cal DUE hr1 pass0 (pa_cons (pe_op (repT_K (K := K) rfl) (pe_tup (pa_cons pe_str pa_nil)) (pv 8)) pa_nil)) (nomark _)) (pss_one (ps_ret pe_bl)) pss_nil)
        (pss_one (ps_if (pt_cmpR (op_neD hr.units) (pe_lamG0 (T := TT1 Pt) (TT := TErr C) (k := 5) rfl hgE FE.kp lkE hcE bE scErr rfl (.inl rfl) (err_gives TE) TB rfl hm hu hr hr3 lg8 rfl (fun _ _ _ _ _ => rfl)
            (fun A outer s H E f c' hrb => pe_make TI.made GI hrb rfl TI.gI bI .nil (passes_call (W := fun cls d _ H => E cls d H) (takes_of rfl rfl rfl rfl) fun _ _ _ _ h => h) (pa_cons (pe_tup (pa_cons (pe_op op_mulS pe_str (pv 8)) (pa_cons (pe_op op_mulS pe_str (pv 8)) pa_nil))) pa_nil))) (pe_cal DUE hr1 pass0 (pa_cons (pe_tup (pa_cons (pe_op op_mulS pe_str (pv 8)) (pa_cons (pe_op op_mulS pe_str (pv 8)) pa_nil))) pa_nil)) (nomark _)) (pss_one (ps_ret pe_bl)) pss_nil))))
        (pss_one (ps_ret (pe_chain (op_eqD hr.units) (op_eqD hr.units) (pe_lamG0 (T := TT1 Pt) (TT := TErr C) (k := 5) rfl hgE FE.kp lkE hcE bE scErr rfl (.inl rfl) (err_gives TE) TB rfl hm hu hr hr3 lg0 rfl (fun _ _ _ _ _ => rfl)
            (fun A outer s H E f c' hrb => pe_make TI.made GI hrb rfl TI.gI bI .nil (passes_call (W := fun cls d _ H => E cls d H) (takes_of rfl rfl rfl rfl) fun _ _ _ _ h => h) (pa_cons (pe_tup pa_nil) pa_nil))) (pe_lamG1 (T := TT1 Pt) (TT := TErr C) (k := 5) rfl hgE FE.kp lkE hcE bE scErr rfl (.inl rfl) (err_gives TE) TB rfl hm hu hr hr3 lg1 rfl (fun _ _ _ _ _ _ _ => ⟨_, rfl, rfl⟩)
            (fun A outer s H E f c' hrb => pe_make TI.made GI hrb rfl TI.gI bI .nil (passes_call (W := fun cls d _ H => E cls d H) (takes_of rfl rfl rfl rfl) fun _ _ _ _ h => h) (pa_cons (pe_tup (pa_cons pe_str (pa_cons pe_str pa_nil))) pa_nil))) (pe_tup (pa_cons pe_str (pa_cons pe_int (pa_cons pe_int pa_nil)))))))))), ?_⟩
    refine ⟨_, rfl, a, ns, rfl, hS, hlen, fun b l H1 nb nl s1 B1 => ?_⟩
    have T1 : Tabs (TT1 Pt) H1 := fun p hp => by
      rw [List.mem_singleton.mp hp]
      exact TabS.nil (s1 _ _ hP)
    refine ⟨6, rfl, by decide, by decide, for_range (lo := 0) (n := (6 : Int).toNat) (fun i σ H' => Tabs (TT1 Pt) H' ∧ Box H' b l ∧ ∃ v2 v3 v4 v5 v6 v7 v8 v9 v10, σ = [some (.ref a), some (.ref b), v2, v3, v4, v5, v6, v7, v8, v9, v10])
      ⟨T1, B1, none, none, none, none, none, none, none, none, none, rfl⟩ ?_ ?_⟩
    · rintro i σ H2 hi ⟨T2, B2, v2, v3, v4, v5, v6, v7, v8, v9, v10, rfl⟩
      -- the rows
      refine ⟨_, rfl, by show 2 ≤ sizeLine; decide, fun q hq => ?_⟩
      have B2' := B2.same (Same.new (Same.refl H2) hq (o := .lst [.int 4, .int 12]))
      have T2' := T2.ext (Same.new (Same.refl H2) hq (o := .lst [.int 4, .int 12]))
      refine ⟨_, rfl, b, l, 2, rfl, B2', by decide, by decide, fun n H3 c1 c2 B3 K3 => ?_⟩
      obtain ⟨m, hm1, hm2, hm3⟩ := two_at c1 c2
      have qb : q ≠ b := fun e => by
        obtain ⟨_, _, x1, _⟩ := B2.ex
        rw [← e, hq] at x1; cases x1
      have ql : q ≠ l := fun e => by
        obtain ⟨_, _, _, x1, _⟩ := B2.ex
        rw [← e, hq] at x1; cases x1
      refine ⟨q, _, n, _, rfl, rfl, .inl (.inl (K3 q _ upd_same qb ql)), hm1, b, l, m, rfl, B3, hm2, hm3, fun p rows H4 ok hp0 hp B4 K4 => ?_⟩
      have T4 := tabs_kp (tabs_kp T2' B2' K3) B3 K4
      have g := ok.good hm3
      have hR : SqT K H4 p (rows.map vt) := .inl (.inl hp)
      -- no error
      refine ⟨T4, fun H5 eN T5 => ?_⟩
      refine err_isl (rows := rows) g (fun Qa h => ⟨.ref p, rfl, h p H5 (Same.refl _) ((lv_ext (b := b) (l := l) eN).tup B4 hR)⟩) fun v H6 s6 res => ?_
      rw [chk_rows ok hm3] at res
      obtain rfl : v = .str "" := res
      refine ⟨rfl, _, rfl, ?_⟩
      refine iteF' (by show (!decide (V.str (Str.ofString "") = V.str (Str.ofString ""))) = false; rw [decide_eq_true rfl]; rfl) ?_
      have L6 : Lv b l H4 H6 := (lv_ext eN).trans (lv_same s6)
      have B6 := (B4.ext eN).same s6
      have T6 := T5.ext s6
      have hR6 := L6.tup B4 hR
      obtain ⟨wd, w1, w2, hrow⟩ := ok.w
      have hlen1 : 1 ≤ (rows.map vt).length := by rw [List.length_map]; exact ok.h1
      have hlen2 : (rows.map vt).length ≤ 12 := by rw [List.length_map]; exact Nat.le_trans ok.hm hm3
      have at_ : ∀ {x : Int}, 0 ≤ x → x < (rows.map vt).length → ∃ r, atI (rows.map vt) x = some (vt r) ∧ r ∈ rows := fun {x} y0 y1 => by
        obtain ⟨v, z1, z2⟩ := atI_of (xs := rows.map vt) y0 y1
        obtain ⟨r, z3, rfl⟩ := List.mem_map.mp z2
        exact ⟨r, z1, z3⟩
      obtain ⟨r0, ha0, hm0⟩ := at_ (x := 0) (by decide) (by omega)
      have hl0 : (tx r0).length = wd := by rw [tx_len]; exact (hrow r0 hm0).1
      refine ⟨_, rfl, _, rfl, p, _, rfl, .inr hR6, b, l, _, rfl, B6, by omega, by omega, fun n1 H7 d1 d2 B7 K7 => ?_⟩
      have hR7 := K7.lv.tup B6 hR6
      have T7 := tabs_kp T6 B6 K7
      refine ⟨_, rfl, _, rfl, p, _, 0, _, rfl, rfl, hR7, ha0, _, rfl, (by rw [hl0]; exact Nat.le_trans w2 (Nat.le_trans hm3 (by decide))), _, _, rfl, rfl, b, l, _, rfl, B7, by omega, by omega, fun n2 H8 e1 e2 B8 K8 => ?_⟩
      have hR8 := K8.lv.tup B7 hR7
      have T8 := tabs_kp T7 B7 K8
      refine ⟨_, _, rfl, ?_⟩
      -- text, sign
      obtain ⟨r, har, hmr⟩ := at_ d1 d2
      have hlr : r.length ≤ 12 := by have := (hrow r hmr).1; omega
      have hlr2 : (tx r).length ≤ sizeLine := by rw [tx_len]; exact Nat.le_trans hlr (by decide)
      refine ⟨_, rfl, _, rfl, p, _, n1, _, rfl, rfl, hR8, har, ?_⟩
      refine ⟨by show 6 ≤ sizeLine; decide, fun q2 hq2 => ?_⟩
      have B8' := B8.same (Same.new (Same.refl H8) hq2 (o := .lst six))
      refine ⟨_, rfl, b, l, 6, rfl, B8', by decide, by decide, fun n3 H9 f1 f2 B9 K9 => ?_⟩
      have L9 := (lv_same (b := b) (l := l) (Same.new (Same.refl H8) hq2 (o := .lst six))).trans K9.lv
      have T9 := tabs_kp (T8.ext (Same.new (Same.refl H8) hq2 (o := .lst six))) B8' K9
      have hR9 := L9.tup B8 hR8
      have q2b : q2 ≠ b := fun e => by
        obtain ⟨_, _, x1, _⟩ := B8.ex
        rw [← e, hq2] at x1; cases x1
      have q2l : q2 ≠ l := fun e => by
        obtain ⟨_, _, _, x1, _⟩ := B8.ex
        rw [← e, hq2] at x1; cases x1
      obtain ⟨z, hz1, hz2, hz3⟩ := six_at f1 f2
      refine ⟨q2, _, n3, _, rfl, rfl, .inl (.inl (K9 q2 _ upd_same q2b q2l)), hz1, ?_⟩
      -- the wrong texts
      obtain ⟨x1, ex1, lx1, cx1⟩ := cutS_tx r none (some n2)
      obtain ⟨x2, ex2, lx2, cx2⟩ := cutS_tx r (some (n2 + 1)) none
      have small : ∀ {k : Nat}, k ≤ 100 → k ≤ sizeLine := fun {k} h => Nat.le_trans h (by decide)
      have edot : Str.ofString "." = tx [46] := by decide +kernel
      refine ⟨_, rfl, _, rfl, _, rfl, tx r, rfl, hlr2, _, rfl, _, _, rfl, rfl, ?_, ?_⟩
      · rw [ex1, tx_len, tx_len]
        exact small (by omega)
      refine ⟨_, rfl, _, rfl, _, _, rfl, rfl, _, rfl, tx r, rfl, hlr2, _, _, rfl, rfl, ?_, ?_⟩
      · rw [ex1, ex2, tx_app, tx_len, tx_len]
        exact small (by simp; omega)
      refine ⟨_, rfl, _, rfl, _, rfl, tx r, rfl, hlr2, _, rfl, _, _, rfl, rfl, ?_, by show 3 ≤ sizeLine; decide, fun q3 hq3 => ?_⟩
      · rw [tx_len, edot, tx_len]
        exact small (by simp; omega)
      rw [ex1, ex2, edot, tx_app, tx_app, tx_app]
      have hwr : ∀ y ∈ [vt (x1 ++ z ++ x2), vt x1, vt (r ++ [46])], ∃ q : List Nat, y = vt q ∧ q.length ≤ 1000 ∧ ∀ c ∈ q, c < 1000 := fun y hy => by
        have lo : ∀ c ∈ r, c < 1000 := (g.row r hmr).2
        simp only [List.mem_cons, List.not_mem_nil, or_false] at hy
        rcases hy with rfl | rfl | rfl
        · refine ⟨_, rfl, by simp; omega, fun c hc => ?_⟩
          simp only [List.mem_append] at hc
          rcases hc with (hc | hc) | hc
          · exact lo c (cx1 c hc)
          · exact hz3 c hc
          · exact lo c (cx2 c hc)
        · exact ⟨_, rfl, by omega, fun c hc => lo c (cx1 c hc)⟩
        · refine ⟨_, rfl, by simp; omega, fun c hc => ?_⟩
          simp only [List.mem_append, List.mem_singleton] at hc
          rcases hc with hc | hc
          · exact lo c hc
          · omega
      show (fun (Hx : Hp) => _) (upd H9 q3 (.lst [vt (x1 ++ z ++ x2), vt x1, vt (r ++ [46])]))
      have S10 := Same.new (Same.refl H9) hq3 (o := .lst [vt (x1 ++ z ++ x2), vt x1, vt (r ++ [46])])
      have k10 : (upd H9 q3 (.lst [vt (x1 ++ z ++ x2), vt x1, vt (r ++ [46])])) q3 = some (.lst [vt (x1 ++ z ++ x2), vt x1, vt (r ++ [46])]) := upd_same
      have q3b : q3 ≠ b := fun e => by
        obtain ⟨_, _, x1, _⟩ := B9.ex
        rw [← e, hq3] at x1; cases x1
      have q3l : q3 ≠ l := fun e => by
        obtain ⟨_, _, _, x1, _⟩ := B9.ex
        rw [← e, hq3] at x1; cases x1
      generalize (upd H9 q3 (.lst [vt (x1 ++ z ++ x2), vt x1, vt (r ++ [46])])) = H10 at S10 k10 ⊢
      have B10 := B9.same S10
      have T10 := T9.ext S10
      have hR10 := Same.tup S10 hR9
      -- the rows with one exchanged
      obtain ⟨ra, ea, la, ma⟩ := cutV_rows rows none (some n1)
      obtain ⟨rb, eb, lb, mb⟩ := cutV_rows rows (some (n1 + 1)) none
      refine ⟨_, rfl, _, rfl, _, rfl, slA_read hR10 fun p1 H11 s11 hp1 => ?_⟩
      rw [ea] at hp1
      have B11 := B10.same s11
      refine ⟨_, rfl, _, rfl, b, l, 3, rfl, B11, by decide, by decide, fun n4 H12 g1 g2 B12 K12 => ?_⟩
      obtain ⟨y, hy1, hy2⟩ := atI_of (xs := [vt (x1 ++ z ++ x2), vt x1, vt (r ++ [46])]) g1 g2
      obtain ⟨wq, rfl, wl, wc⟩ := hwr y hy2
      have k12 := K12 q3 _ (s11 _ _ k10) q3b q3l
      refine ⟨q3, _, n4, _, rfl, rfl, .inl (.inl k12), hy1, by show 1 ≤ sizeLine; decide, fun p2 hp2 => ?_⟩
      have T12 := tabs_kp (T10.ext s11) B11 K12
      have s13 := Same.new (Same.refl H12) hp2 (o := .tup [vt wq])
      refine catA_read (xs := ra.map vt) (ys := [vt wq]) (Same.tup s13 (K12.lv.tup B11 hp1)) (.inl (.inl upd_same)) (by rw [List.length_map]; exact small (by have := ok.hm; simp; omega)) fun p3 H14 s14 hp3 => ?_
      have hR14 := Same.tup (s13.trans s14) (K12.lv.tup B11 (Same.tup s11 hR10))
      have B14 := B12.same (s13.trans s14)
      have T14 := T12.ext (s13.trans s14)
      refine ⟨_, rfl, _, rfl, _, _, rfl, rfl, _, rfl, ?_⟩
      refine noPart ?_
      refine slA_read hR14 fun p4 H15 s15 hp4 => ?_
      rw [eb] at hp4
      refine catA_read (xs := ra.map vt ++ [vt wq]) (ys := rb.map vt) (Same.tup s15 hp3) hp4 (by simp only [List.length_append, List.length_map, List.length_cons, List.length_nil]; exact small (by have := ok.hm; omega)) fun p5 H16 s16 hp5 => ?_
      have en : ra.map vt ++ [vt wq] ++ rb.map vt = (ra ++ [wq] ++ rb).map vt := by simp
      rw [en] at hp5
      have g5 : Good (ra ++ [wq] ++ rb) := by
        refine ⟨by have := ok.hm; simp; omega, fun r' hr' => ?_⟩
        simp only [List.mem_append, List.mem_singleton] at hr'
        rcases hr' with (hr' | rfl) | hr'
        · exact g.row r' (ma r' hr')
        · exact ⟨wl, wc⟩
        · exact g.row r' (mb r' hr')
      have B16 := B14.same (s15.trans s16)
      have T16 := T14.ext (s15.trans s16)
      refine ⟨T16, fun H17 eN2 T17 => ?_⟩
      have hp17 := (lv_ext (b := b) (l := l) eN2).tup B16 hp5
      refine err_isl (rows := ra ++ [wq] ++ rb) g5 (fun Qa h => ⟨_, rfl, h p5 H17 (Same.refl _) hp17⟩) fun v1 H18 s18 res1 => ?_
      refine ⟨_, rfl, nilArgs ?_⟩
      refine due_read (rows := ra ++ [wq] ++ rb) (Same.tup s18 hp17) g5 fun v2 H19 s19 res2 => ?_
      rw [chk_due] at res1
      refine ⟨_, _, (res1.same s19).dp, res2.dp, shaped_dRes _, shaped_dRes _, _, rfl, ?_⟩
      rw [eqv_dRes]
      refine iteF ?_
      exact ⟨T17.ext (s18.trans s19), (B16.ext eN2).same (s18.trans s19), _, _, _, _, _, _, _, _, _, rfl⟩
    · rintro σ H2 ⟨T2, B2, v2, v3, v4, v5, v6, v7, v8, v9, v10, rfl⟩
      refine ⟨by show 3 ≤ sizeLine; decide, fun q hq => ?_⟩
      have S3 := Same.new (Same.refl H2) hq (o := .tup [.int 11, .int 12, .int 13])
      refine ⟨q, rfl, ⟨_, .inl (.inl upd_same)⟩, for_tup (K := K) (a := q) (xs := [.int 11, .int 12, .int 13]) (fun i σ H' => Tabs (TT1 Pt) H' ∧ Box H' b l ∧ SqT K H' q [.int 11, .int 12, .int 13] ∧ ∃ v2 v3 v4 v5 v6 v7 v8 v9 v10, σ = [some (.ref a), some (.ref b), v2, v3, v4, v5, v6, v7, v8, v9, v10])
        ⟨T2.ext S3, B2.same S3, .inl (.inl upd_same), _, _, _, _, _, _, _, _, _, rfl⟩ (fun i σ H' _ p => p.2.2.1) ?_ ?_⟩
      · rintro i x σ H3 hx ⟨T3, B3, hq3, v2, v3, v4, v5, v6, v7, v8, v9, v10, rfl⟩
        obtain ⟨m, rfl, hm1, hm2⟩ : ∃ m : Int, x = .int m ∧ 2 ≤ m ∧ m ≤ 100 := by
          have hx := List.mem_of_getElem? hx
          simp only [List.mem_cons, List.not_mem_nil, or_false] at hx
          rcases hx with rfl | rfl | rfl <;> exact ⟨_, rfl, by decide, by decide⟩
        have hm3 : m.toNat ≤ 100 := by omega
        -- rows of one sign
        have g1 : Good (List.replicate m.toNat [46]) := ⟨by rw [List.length_replicate]; omega, fun r hr => by
          rw [(List.mem_replicate.mp hr).2]
          exact ⟨by decide, by decide⟩⟩
        have edot : Str.ofString "." = tx [46] := by decide +kernel
        have e1 : (List.replicate m.toNat [V.str (Str.ofString ".")]).flatten = (List.replicate m.toNat [46]).map vt := by
          rw [edot, List.map_replicate]
          induction m.toNat with
          | zero => rfl
          | succ n ih => rw [List.replicate_succ, List.flatten_cons, ih, List.replicate_succ]; rfl
        refine ⟨T3, fun H4 eN T4 => ?_⟩
        refine err_isl (rows := List.replicate m.toNat [46]) g1 (fun Qa h => ⟨by show 1 ≤ sizeLine; decide, fun t ht => ⟨_, rfl, t, m, _, rfl, rfl, .inl (.inl upd_same), by simp, hm1, by omega, by simp, fun p hp => nilArgs (h p _ (Same.new (Same.new (Same.refl _) ht) hp) (.inl (.inl (by rw [upd_same, e1]))))⟩⟩) fun u1 H5 s5 res1 => ?_
        refine ⟨by show 1 ≤ sizeLine; decide, fun t ht => ⟨_, rfl, t, m, _, rfl, rfl, .inl (.inl upd_same), by simp, hm1, by omega, by simp, fun p hp => nilArgs ?_⟩⟩
        refine due_read (rows := List.replicate m.toNat [46]) (.inl (.inl (by rw [upd_same, e1]))) g1 fun u2 H6 s6 res2 => ?_
        rw [chk_due] at res1
        have s56 := (Same.new (Same.new (Same.refl H5) ht) hp).trans s6
        refine ⟨_, _, (res1.same s56).dp, res2.dp, shaped_dRes _, shaped_dRes _, _, rfl, ?_⟩
        rw [eqv_dRes]
        refine iteF ?_
        have T6 := T4.ext (s5.trans s56)
        have L6 : Lv b l H3 H6 := (lv_ext eN).trans (lv_same (s5.trans s56))
        have B6 := (B3.ext eN).same (s5.trans s56)
        -- rows of many signs
        have eA : Str.ofString "A" = tx [65] := by decide +kernel
        have eW : Str.ofString "~" = tx [126] := by decide +kernel
        have fl : ∀ x : Nat, (List.replicate m.toNat [x]).flatten = List.replicate m.toNat x := fun x => by
          induction m.toNat with
          | zero => rfl
          | succ n ih => rw [List.replicate_succ, List.flatten_cons, ih, List.replicate_succ]; rfl
        have g2 : Good [List.replicate m.toNat 65, List.replicate m.toNat 126] := ⟨by simp, fun r hr => by
          simp only [List.mem_cons, List.not_mem_nil, or_false] at hr
          rcases hr with rfl | rfl
          · exact ⟨by rw [List.length_replicate]; omega, fun c hc => by rw [(List.mem_replicate.mp hc).2]; decide⟩
          · exact ⟨by rw [List.length_replicate]; omega, fun c hc => by rw [(List.mem_replicate.mp hc).2]; decide⟩⟩
        have two : ∀ {H7 : Hp} {p : Addr}, H7 p = some (.tup [.str (tx (List.replicate m.toNat [65]).flatten), .str (tx (List.replicate m.toNat [126]).flatten)]) → SqT K H7 p ([List.replicate m.toNat 65, List.replicate m.toNat 126].map vt) := fun {H7 p} h => by
          rw [fl, fl] at h
          exact .inl (.inl h)
        refine ⟨T6, fun H7 eN2 T7 => ?_⟩
        refine err_isl (rows := [List.replicate m.toNat 65, List.replicate m.toNat 126]) g2 (fun Qa h => ⟨_, rfl, [65], m, congrArg V.str eA, rfl, by decide, by decide, hm1, by omega, _, rfl, [126], m, congrArg V.str eW, rfl, by decide, by decide, hm1, by omega, by show 2 ≤ sizeLine; decide, fun p hp => nilArgs (h p _ (Same.new (Same.refl _) hp) (two upd_same))⟩) fun u3 H8 s8 res3 => ?_
        refine ⟨_, rfl, [65], m, congrArg V.str eA, rfl, by decide, by decide, hm1, by omega, _, rfl, [126], m, congrArg V.str eW, rfl, by decide, by decide, hm1, by omega, by show 2 ≤ sizeLine; decide, fun p2 hp2 => nilArgs ?_⟩
        refine due_read (rows := [List.replicate m.toNat 65, List.replicate m.toNat 126]) (two upd_same) g2 fun u4 H9 s9 res4 => ?_
        rw [chk_due] at res3
        have s89 := (Same.new (Same.refl H8) hp2).trans s9
        refine ⟨_, _, (res3.same s89).dp, res4.dp, shaped_dRes _, shaped_dRes _, _, rfl, ?_⟩
        rw [eqv_dRes]
        refine iteF ?_
        have L9 := L6.trans ((lv_ext eN2).trans (lv_same (s8.trans s89)))
        exact ⟨T7.ext (s8.trans s89), (B6.ext eN2).same (s8.trans s89), L9.tup B3 hq3, _, _, _, _, _, _, _, _, _, rfl⟩
      · rintro σ H3 ⟨T3, B3, hq3, v2, v3, v4, v5, v6, v7, v8, v9, v10, rfl⟩
        have g1 : Good [] := ⟨by decide, by simp⟩
        have g2 : Good [[], []] := ⟨by decide, by simp⟩
        have e0 : Str.ofString "" = tx [] := by decide +kernel
        refine ⟨T3, fun H4 eN T4 => ?_⟩
        refine err_isl (rows := []) g1 (fun Qa h => ⟨by show 0 ≤ sizeLine; decide, fun t ht => nilArgs (h t _ (Same.new (Same.refl _) ht) (.inl (.inl upd_same)))⟩) fun u1 H5 s5 res1 => ?_
        refine ⟨T4.ext s5, fun H6 eN2 T6 => ?_⟩
        refine err_isl (rows := [[], []]) g2 (fun Qa h => ⟨by show 2 ≤ sizeLine; decide, fun t ht => nilArgs (h t _ (Same.new (Same.refl _) ht) (.inl (.inl (by rw [upd_same, e0]; rfl))))⟩) fun u2 H7 s7 res2 => ?_
        have c1 : chk [] = some (0, 0) := rfl
        have c2 : chk [[], []] = some (0, 0) := by decide
        rw [c1] at res1
        rw [c2] at res2
        refine ⟨_, _, ((res1.ext eN2).same s7).dp, res2.dp, shaped_dRes _, shaped_dRes _, _, rfl, ?_⟩
        rw [eqv_dRes]
        refine iteT ?_
        refine ⟨by show 3 ≤ sizeLine; decide, fun p hp => ?_⟩
        have res3 : Res (upd H7 p (.tup (ansII 0 0))) (.ref p) (some (0, 0)) := ⟨p, rfl, upd_same⟩
        refine ⟨_, _, (res2.same (Same.new (Same.refl _) hp)).dp, res3.dp, shaped_dRes _, shaped_dRes _, ?_⟩
        rw [eqv_dRes]
        exact k _
end
end Om

namespace Om
open PySem PySem.Spec PyProof.Rows L2 LamX He
/-! ### facts of the top by own Bools -/
def oexB (K : PySem.W.Frag) (C : Addr) : Bool := (match K.lookup C with
  | some ⟨.type t, _, .cls cd, sl⟩ => decide (t = "type") && (cd.hasDict && (!cd.hasDel && ((match cd.mro with
    | .ref c :: bm => decide (c = C) && PySem.HandSPX.refsVE bm
    | _ => false) && (match sl.toList with
    | [_, _, _, _, some (.builtin n), _] => decide (n = "ValueError.__new__")
    | _ => false))))
  | _ => false) && (eqO (PySem.W.findIn K (.ref C) "__setattr__") (some (some (.builtin "object.__setattr__"))) && (decide (PySem.W.subIn K (.ref C) (.type "BaseException") = some true) && (decide (PySem.W.typeIn K (.ref C) = some (.type "type")) && PySem.W.keepIn K (.ref C))))
theorem oexB_ok {K : PySem.W.Frag} {C : Addr} (h : oexB K C = true) : OexC K C := by
  obtain ⟨h1, h2⟩ := ba h
  obtain ⟨h2, h3⟩ := ba h2
  obtain ⟨h3, h4⟩ := ba h3
  obtain ⟨h4, h5⟩ := ba h4
  refine ⟨?_, eqO_ok h2, of_decide_eq_true h3, of_decide_eq_true h4, h5⟩
  clear h h2 h3 h4 h5
  cases e : K.lookup C with
  | none => rw [e] at h1; cases h1
  | some o =>
    rw [e] at h1
    obtain ⟨oc, od, dt, sl⟩ := o
    cases oc with
    | type t =>
      cases dt with
      | cls cd =>
        obtain ⟨a1, a2⟩ := ba h1
        obtain ⟨a2, a3⟩ := ba a2
        obtain ⟨a3, a4⟩ := ba a3
        obtain ⟨a4, a5⟩ := ba a4
        obtain ⟨nm, bs, mro, ns, qn, hd, sn, sb, ab, col, del⟩ := cd
        have e1 : t = "type" := of_decide_eq_true a1
        have e2 : hd = true := a2
        have e3 : del = false := by
          have a3 : (!del) = true := a3
          cases del with
          | true => cases a3
          | false => rfl
        clear a1 a2 a3 h1
        subst e1 e2 e3
        cases mro with
        | nil => cases a4
        | cons v bm =>
          cases v with
          | ref c =>
            obtain ⟨b1, b2⟩ := ba (show (decide (c = C) && PySem.HandSPX.refsVE bm) = true from a4)
            have e4 : c = C := of_decide_eq_true b1
            clear b1 a4
            subst e4
            obtain ⟨sl⟩ := sl
            split at a5
            · rename_i q
              have e5 := of_decide_eq_true a5
              have e6 : sl = _ := q
              subst e5 e6
              exact ⟨_, _, _, _, _, _, _, _, _, _, _, _, _, _, _, rfl, b2⟩
            · cases a5
          | _ => cases a4
      | _ => cases h1
    | _ => cases dt <;> cases h1
def excCB (K : PySem.W.Frag) (D : Addr) : Bool := xfB K D && (eqO (PySem.W.findIn K (.ref D) "__class__") (some (some (.builtin "object.__class__"))) && (eqO (PySem.W.specialIn K (.builtin "object.__class__") "__get__") (some (some (.builtin "getset_descriptor.__get__"))) &&
  (decide (PySem.W.takesIn K (.builtin "object.__class__") = some true) && decide (PySem.W.mroIn K D (.type "object") = some true))))
theorem excCB_ok {K : PySem.W.Frag} {D : Addr} (h : excCB K D = true) : ExcC K D := by
  obtain ⟨h1, h2⟩ := ba h
  obtain ⟨h2, h3⟩ := ba h2
  obtain ⟨h3, h4⟩ := ba h3
  obtain ⟨h4, h5⟩ := ba h4
  obtain ⟨x1, x2, x3, x4⟩ := xfB_ok h1
  exact ⟨x1, x2, x3, x4, eqO_ok h2, eqO_ok h3, of_decide_eq_true h4, of_decide_eq_true h5⟩
abbrev Ce (K : PySem.W.Frag) (i : Nat) : Addr := ga K (nmE i)
def kitB7 (K : PySem.W.Frag) : Bool := (List.range 7).all fun i => decide (PySem.W.kitOne K (.ref (Ce K i)) (.type "ValueError") = some true) && (excCB K (Ce K i) && (decide (PySem.W.exmOne K (.ref (Ce K i)) (.ref (ga K "MapError")) = some true) && (List.range 7).all fun j => decide (PySem.W.kitOne K (.ref (Ce K i)) (.ref (Ce K j)) = some (decide (j = i)))))
/-- what is looked at of the errors -/
def exB (K : PySem.W.Frag) : Bool := kitB7 K && (oexB K (ga K "InvalidIsland") && (eqO (PySem.W.findIn K (.ref (ga K "InvalidIsland")) "__init__") (some (some (.ref (ma K (ga K "InvalidIsland") "__init__")))) && (decide (PySem.W.typeIn K (.ref (ma K (ga K "InvalidIsland") "__init__")) = some (.type "function")))))
def fa : List Fa := [.free "int", .free "list", .free "len", .free "range", .free "tuple", .free "max", .free "min", .free "enumerate", .free "isinstance", .free "ValueError", .str "ALL_SIGNS" allSigns, .int "LARGEST" 12,
  .glo "MapError", .glo "InvalidIsland", .glo "InvalidMap", .glo "InvalidNumber", .glo "NoBeginning", .glo "NoWay", .glo "TooMany", .glo "UnknownCell", .glo "Island", .glo "_check_rows", .glo "_first_wrong_column", .glo "_law_begun", .glo "_law_take", .glo "_law_rows", .glo "_law_error", .glo "_law_due", .glo "law",
  .cls "Island", .mkr "Island", .noat "Island" "_rows", .noat "InvalidIsland" "row", .noat "InvalidIsland" "column", .noat "InvalidMap" "index"]
def dG (x : Str) (st : Stmt) : He.DefD := ⟨(x, none), x, x, defArgs st, defBody st, defScope st, [], []⟩
def fnD : List He.DefD := [dG "_law_begun" (top 21), dG "_law_take" (top 22), dG "_law_rows" (top 23), dG "_law_error" (top 24), dG "_law_due" (top 25), dG "law" (top 26), dG "_check_rows" (top 18), dG "_first_wrong_column" (top 19),
  ⟨("Island", some "__init__"), "__init__", "Island.__init__", defArgs sIslI, defBody sIslI, defScope sIslI, [], []⟩, ⟨("InvalidIsland", some "__init__"), "__init__", "InvalidIsland.__init__", defArgs sII, defBody sII, defScope sII, [], []⟩]
def tfD : List He.Defn := [("law", none)]
abbrev R : PySem.W.OpenRow := PySem.W.OpenLaw.row PySem.Challenge.rw_oldmap_k01_islands_validated
abbrev hk : PySem.W.Hook := He.hookX 6 fa fnD [] tfD exB
def ob (s : PySem.W.SharedT) : He.AlX := He.obsX 6 fa fnD [] tfD exB (HandSHeadRun.getT s)
theorem ob_eq (s : PySem.W.SharedT) : ob s = hk.obs s.abs := He.obsX_eq (HandSHeadRun.getT_eq s)
def loose : List Str := ["_wall", "WATER", "ALL_SIGNS", "in_range", "MapError", "InvalidIsland", "InvalidMap", "InvalidNumber", "UnknownCell", "NoBeginning", "NoWay", "TooMany", "LARGEST", "Island", "_lies_within", "_check_rows", "_first_wrong_column",
  "_law_begun", "_law_take", "_law_rows", "_law_error", "_law_due"]
theorem run (w : World) : HandSHeadRun.RunEq R (PySem.W.view R.prog [26]) hk ob 6000 loose w := by
  intro os
  kernel_rfl
end Om

namespace Om
open PySem PySem.Spec PyProof.Rows L2 LamX He
theorem lt7 {i : Nat} (h : i < 7) : i ∈ List.range 7 := List.mem_range.mpr h
theorem kit7 {K : PySem.W.Frag} (h : kitB7 K = true) {i : Nat} (hi : i < 7) : PySem.W.kitOne K (.ref (Ce K i)) (.type "ValueError") = some true ∧ ExcC K (Ce K i) ∧ PySem.W.exmOne K (.ref (Ce K i)) (.ref (ga K "MapError")) = some true ∧ ∀ j, j < 7 → PySem.W.kitOne K (.ref (Ce K i)) (.ref (Ce K j)) = some (decide (j = i)) := by
  have h1 := List.all_eq_true.mp h i (lt7 hi)
  obtain ⟨a, b⟩ := ba h1
  obtain ⟨b, c⟩ := ba b
  obtain ⟨c, d⟩ := ba c
  exact ⟨of_decide_eq_true a, excCB_ok b, of_decide_eq_true c, fun j hj => of_decide_eq_true (List.all_eq_true.mp d j (lt7 hj))⟩
theorem glo7 {fa : List Fa} {fn : List He.DefD} {K : PySem.W.Frag} {h : Heap} {mg : Str → Option Value} (X : K.In h) (G : h.Ns mainGlobals mg) (d : SaysD fa fn K) (hm : ∀ i, i < 7 → Fa.glo (nmE i) ∈ fa) (i : Nat) (hi : i < 7) : mg (nmE i) = some (.ref (Ce K i)) := glo_ok X G (d.facts (hm i hi))
theorem inFa : ∀ i, i < 7 → Fa.glo (nmE i) ∈ fa := fun i hi => by
  have e : i = 0 ∨ i = 1 ∨ i = 2 ∨ i = 3 ∨ i = 4 ∨ i = 5 ∨ i = 6 := by omega
  rcases e with rfl | rfl | rfl | rfl | rfl | rfl | rfl <;> simp [fa, nmE]
theorem law_at {w : World} {K : PySem.W.Frag} {h : Heap} {mg : Str → Option Value} {f : Addr} (X : K.In h) (G : h.Ns mainGlobals mg) (hfa : mg ("law" : Str) = some (.ref f)) (c : He.SaysX fa fnD [] tfD exB w h K) :
    LawAtS PySem.Challenge.rw_oldmap_k01_islands_validated w K CX0 8 63 "_law_script" mg f h := by
  have d := c.t.d
  obtain ⟨fdBeg, FBeg⟩ := d.def_ 0 (d := dG "_law_begun" (top 21)) rfl
  obtain ⟨fdTk, FTk⟩ := d.def_ 1 (d := dG "_law_take" (top 22)) rfl
  obtain ⟨fdRw, FRw⟩ := d.def_ 2 (d := dG "_law_rows" (top 23)) rfl
  obtain ⟨fdE, FE⟩ := d.def_ 3 (d := dG "_law_error" (top 24)) rfl
  obtain ⟨fdDue, FDue⟩ := d.def_ 4 (d := dG "_law_due" (top 25)) rfl
  obtain ⟨fd, F⟩ := d.def_ 5 (d := dG "law" (top 26)) rfl
  obtain ⟨fdChk, FChk⟩ := d.def_ 6 (d := dG "_check_rows" (top 18)) rfl
  obtain ⟨fdFwc, FFwc⟩ := d.def_ 7 (d := dG "_first_wrong_column" (top 19)) rfl
  obtain ⟨fdN, FN⟩ := d.def_ 8 rfl
  obtain ⟨fdI, FI⟩ := d.def_ 9 rfl
  have e := hfa.symm.trans (glo_ok X G (d.fact 28 (f := .glo "law") rfl))
  cases e
  -- names
  have gint := free_ok X G (d.fact 0 (f := .free "int") rfl)
  have glist := free_ok X G (d.fact 1 (f := .free "list") rfl)
  have glen := free_ok X G (d.fact 2 (f := .free "len") rfl)
  have grange := free_ok X G (d.fact 3 (f := .free "range") rfl)
  have gtuple := free_ok X G (d.fact 4 (f := .free "tuple") rfl)
  have gmax := free_ok X G (d.fact 5 (f := .free "max") rfl)
  have gmin := free_ok X G (d.fact 6 (f := .free "min") rfl)
  have genum := free_ok X G (d.fact 7 (f := .free "enumerate") rfl)
  have gisi := free_ok X G (d.fact 8 (f := .free "isinstance") rfl)
  have gve := free_ok X G (d.fact 9 (f := .free "ValueError") rfl)
  have gall := str_ok X G (d.fact 10 (f := .str "ALL_SIGNS" allSigns) rfl)
  have glg := int_ok X G (d.fact 11 (f := .int "LARGEST" 12) rfl)
  have gM := glo_ok X G (d.fact 12 (f := .glo "MapError") rfl)
  have gII := glo_ok X G (d.fact 13 (f := .glo "InvalidIsland") rfl)
  have gI := glo_ok X G (d.fact 20 (f := .glo "Island") rfl)
  have gChk := glo_ok X G (d.fact 21 (f := .glo "_check_rows") rfl)
  have gFwc := glo_ok X G (d.fact 22 (f := .glo "_first_wrong_column") rfl)
  have gBeg := glo_ok X G (d.fact 23 (f := .glo "_law_begun") rfl)
  have gTk := glo_ok X G (d.fact 24 (f := .glo "_law_take") rfl)
  have gRw := glo_ok X G (d.fact 25 (f := .glo "_law_rows") rfl)
  have gE := glo_ok X G (d.fact 26 (f := .glo "_law_error") rfl)
  have gDue := glo_ok X G (d.fact 27 (f := .glo "_law_due") rfl)
  have isl : IslF K mg (ga K "Island") (ma K (ga K "Island") "__init__") := ⟨cls_ok (d.fact 29 (f := .cls "Island") rfl), noat_ok (d.fact 31 (f := .noat "Island" "_rows") rfl), mkr_ok (d.fact 30 (f := .mkr "Island") rfl), gI⟩
  obtain ⟨x1, x2⟩ := ba c.more
  obtain ⟨x2, x3⟩ := ba x2
  obtain ⟨x3, x4⟩ := ba x3
  have nR := noat_ok (d.fact 32 (f := .noat "InvalidIsland" "row") rfl)
  have nC := noat_ok (d.fact 33 (f := .noat "InvalidIsland" "column") rfl)
  have nI := noat_ok (d.fact 34 (f := .noat "InvalidMap" "index") rfl)
  have isi : IsI K mg (ga K "InvalidIsland") (ma K (ga K "InvalidIsland") "__init__") := ⟨oexB_ok x2, nR, nC, eqO_ok x3, of_decide_eq_true x4, gII⟩
  have xf : ∀ i, i < 7 → XfC K (Ce K i) := fun i hi => by
    obtain ⟨y1, y2, y3, y4, y5, y6, y7, y8⟩ := (kit7 x1 hi).2.1
    exact ⟨y1, y2, y3, y4⟩
  have er : ErrF K mg (Ce K) (ga K "MapError") := ⟨gM, glo7 X G d inFa, fun i hi => (kit7 x1 hi).2.2.1, fun i hi => (kit7 x1 hi).2.1, fun i j hi hj => (kit7 x1 hi).2.2.2 j hj, fun i hi => (kit7 x1 hi).1, xf 0 (by decide), nR, nC, xf 1 (by decide), nI, gisi, gve⟩
  -- bindings
  have bBeg : Binds K fdBeg ["_law_script"] [] := FunD.bindsN FBeg fun _ _ _ _ _ _ us hl => match us, hl with | [_], _ => rfl
  have bTk : Binds K fdTk ["_law_box", "_law_many"] [] := FunD.bindsN FTk fun _ _ _ _ _ _ us hl => match us, hl with | [_, _], _ => rfl
  have bRw : Binds K fdRw ["_law_box", "_law_most"] [] := FunD.bindsN FRw fun _ _ _ _ _ _ us hl => match us, hl with | [_, _], _ => rfl
  have bE : Binds K fdE ["_law_work"] [] := FunD.bindsN FE fun _ _ _ _ _ _ us hl => match us, hl with | [_], _ => rfl
  have bDue : Binds K fdDue ["_law_rows_here"] [] := FunD.bindsN FDue fun _ _ _ _ _ _ us hl => match us, hl with | [_], _ => rfl
  have bChk : Binds K fdChk ["rows"] [] := FunD.bindsN FChk fun _ _ _ _ _ _ us hl => match us, hl with | [_], _ => rfl
  have bFwc : Binds K fdFwc ["signs", "width"] [] := FunD.bindsN FFwc fun _ _ _ _ _ _ us hl => match us, hl with | [_, _], _ => rfl
  have bN : Binds K fdN ["self", "rows"] [] := FunD.bindsN FN fun _ _ _ _ _ _ us hl => match us, hl with | [_, _], _ => rfl
  have bI : Binds K fdI ["self", "row", "column"] [] := FunD.bindsN FI fun _ _ _ _ _ _ us hl => match us, hl with | [_, _, _], _ => rfl
  have bL := FunD.bindsA (ps := ["_law_script"]) F fun _ _ _ _ _ _ us hl => match us, hl with | [_], _ => rfl
  -- the code object
  have hcd : ∀ cd, fd.code = cd → cd = .ref (cT K ("law", none)).1 := by
    obtain ⟨oc, od, dV, kV, doc, pm, an, cdv, ct, osl, rfl, lk, hcdv, _, _⟩ := F.ex
    obtain ⟨c', rfl⟩ := codeIn_ref hcdv
    intro cd hcd
    have e1 := codeOf_eq (p := ("law", none)) lk rfl
    subst hcd
    show Value.ref c' = .ref (codeOf K ("law", none))
    rw [e1]
  have hmem : (("law", none) : He.Defn) ∈ tfD := List.mem_singleton.mpr rfl
  refine ⟨fd, [cT K ("law", none)], spLaw K (cT K ("law", none)).2, fun p hp => ?_, fun p hp => ?_, fun p hp => ?_, fun s u => bL s [u] rfl, fun H a ns hl _ hT hS => ⟨a, ns, rfl, hS, hl, hT _ (List.mem_singleton.mpr rfl), fun _ => rfl⟩, fun base KB GB TB => ?_⟩
  · rw [List.mem_singleton.mp hp]
    exact c.empty _ hmem
  · rw [List.mem_singleton.mp hp]
    exact c.out _ hmem
  · rw [List.mem_singleton.mp hp]
    exact PySem.W.codeHd_of_K X (c.hd _ hmem)
  · have kBeg : Cal PySem.Challenge.rw_oldmap_k01_islands_validated.prog w K mg base CX0 1 "_law_begun" ["_law_script"] (spBegun K) := ⟨_, _, ok_begun FBeg gint glist glen, gBeg, FBeg.kp, bBeg⟩
    have kTk : Cal PySem.Challenge.rw_oldmap_k01_islands_validated.prog w K mg base CX0 1 "_law_take" ["_law_box", "_law_many"] spTake := ⟨_, _, ok_take FTk gint, gTk, FTk.kp, bTk⟩
    have kRw : Cal PySem.Challenge.rw_oldmap_k01_islands_validated.prog w K mg base CX0 2 "_law_rows" ["_law_box", "_law_most"] spRows := ⟨_, _, ok_rows FRw kTk grange gtuple glen, gRw, FRw.kp, bRw⟩
    have kDue : Cal PySem.Challenge.rw_oldmap_k01_islands_validated.prog w K mg base CX0 1 "_law_due" ["_law_rows_here"] (spDue K) := ⟨_, _, ok_due FDue grange glen, gDue, FDue.kp, bDue⟩
    have kFwc : Cal PySem.Challenge.rw_oldmap_k01_islands_validated.prog w K mg base CX0 1 "_first_wrong_column" ["signs", "width"] spFwc := ⟨_, _, ok_fwc FFwc grange glen gall, gFwc, FFwc.kp, bFwc⟩
    have kChk : Cal PySem.Challenge.rw_oldmap_k01_islands_validated.prog w K mg base (L2.CX _ w) 3 "_check_rows" ["rows"] (spChk K (ga K "InvalidIsland")) := ⟨_, _, ok_chk FChk isi (ok_II FI isi) bI kFwc glen gmax gmin genum glg, gChk, FChk.kp, bChk⟩
    exact ok_law F hcd (TB _ (List.mem_singleton.mpr rfl)) kBeg kTk kRw kDue FE bE gE er isl (ok_isl FN isl kChk gtuple) bN grange glen
end Om
open PySem PySem.W PySem.Calls PyProof.Rows
theorem PySem.Challenge.cw_oldmap_k01_islands_validated_holds : PySem.Challenge.rw_oldmap_k01_islands_validated.Holds := by
  w_on; o_law
  refine HandSHeadRun.head_any (r := OpenLaw.row PySem.Challenge.rw_oldmap_k01_islands_validated) (q := view (OpenLaw.row PySem.Challenge.rw_oldmap_k01_islands_validated).prog [26]) (H := Om.hk) (ob := Om.ob) (M := 6000) (loose := Om.loose) (d := HandSHeadRun.topDef (OpenLaw.row PySem.Challenge.rw_oldmap_k01_islands_validated).prog 26) (kwd := []) Om.ob_eq
    (by kernel_rfl) (fun s => by kernel_rfl) Om.run (by kernel_rfl) (by kernel_rfl) (by kernel_rfl) (by rfl) (by first | assumption | decide +kernel) (by decide +kernel) ⟨rfl, rfl, rfl, rfl, rfl, by decide +kernel⟩ ?hw ?hc
  case hw => w_witness2
  case hc =>
    refine LamX.walk_ofTsE (l := PySem.Challenge.rw_oldmap_k01_islands_validated) (n := 63) (k := 8) (x := "_law_script") (CX := fun _ => L2.CX0) rfl (by decide) (by kernel_rfl) ⟨rfl, by decide, by decide⟩ ?F (fun _ _ _ _ _ z => z)
    intro w mg fa h Y G hmg0
    obtain ⟨K, KX, c⟩ := Y
    have hmg : mg ("law" : PySem.Str) = some (.ref fa) := by
      have e : (HandSHeadRun.topDef (OpenLaw.row PySem.Challenge.rw_oldmap_k01_islands_validated).prog 26).name = ("law" : PySem.Str) := by kernel_rfl
      rw [← e]
      exact hmg0
    exact ⟨K, KX, Om.law_at KX G hmg c⟩
