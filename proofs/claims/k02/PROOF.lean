import PyProof.Rows.All
import Wide.All
import OpenK.AllK
import Wide.FinOn
import HandS.ForMost
import HandS.Defaults
import HandS.More
import HandS.TupAny
import HandS.TupMul
import HandS.Exc
import HandS.ExcInit
import HandS.ExcField
import HandS.ExcIs
import HandS.TryOnly
import HandS.WordsExc
import HandS.Lambda
import HandS.EndTab
import HandS.HeadWalk
import HandS.HeadHook4
import PySem.Challenge.RW_oldmap_k02_whole_islands_asked
import KE.GoesMore
import KE.GoesEnum
import HandS.Nested
import KE.KExcIs
import HandS.Property
import HandS.OwnEq
import HandS.IsInst
import HandS.Walk
import HandS.ExcOwn
import PyProof.ExcBaseAll.ValueError
import HandS.Style
import PyProof.Rows.TupMore
import HandS.TupSets
import HandS.SetTxt0
import PyProof.CollectStr
import PyProof.Rows.SortStr
import HandS.ExcValue
import HandS.Deep
import HandS.Head0
import HandS.Head1
import HandS.Head2
set_option Elab.async false
set_option linter.all false
set_option maxRecDepth 100000
set_option maxHeartbeats 0
namespace Om
open PySem PySem.Spec PyProof.Rows L2
def top (i : Nat) : Stmt := PySem.Challenge.pw_oldmap_k02_whole_islands_asked.main.body.getD i (.Pass ⟨0, 0, 0, 0⟩)
/-- a def of the top -/
abbrev FnP (K : PySem.W.Frag) (x qual : Str) (st : Stmt) (f : Addr) (fd : FuncData) : Prop := FunD K x qual (defArgs st) (defBody st) (defScope st) [] [] f fd
/-- a def as its callers know it -/
structure Cal (P : Program) (w : World) (K : PySem.W.Frag) (mg : Str → Option Value) (base : Heap) (CX : CXT) (k : Nat) (x : Str) (ps : List Str) (sp : Sp) : Prop where
  ex : ∃ (f : Addr) (fd : FuncData), FnOk P w K mg base CX k f fd ps sp ∧ mg x = some (.ref f) ∧ PySem.W.keepIn K (.ref f) = true ∧ Binds K fd ps []
theorem pe_cal {X : Cx} {CX : CXT} {k : Nat} {x : Str} {ps : List Str} {sp : Sp} {E : XK} {e : Expr} {es : List Expr} {t : TA} {p pos : Pos} (C : Cal X.prog X.w X.K X.mg X.base CX k x ps sp) (hr : Room k X.A) (hx : Passes CX X E) (ha : PA X (e :: es) t) (hg : Gl X x := by rfl)
    (hdb : (x == ("__debug__" : Str)) = false := by decide) (he : starEach (e :: es) X.env = (false, eval e X.env) :: starEach es X.env := by rfl) (hpl : (backTo pos (starEach es X.env)).any (·.1) = false := by rfl) :
    PE X (.Call (.Name x p) (e :: es) [] pos) (tCall sp [] E t) := by
  obtain ⟨f, fd, F, hm, hk, hb⟩ := C.ex
  exact pe_call F hr hg hm hk hb .nil hx ha (hdb := hdb) (he := he) (hpl := hpl)
/-- all but two objects stay -/
def Kp (b l : Addr) (H H' : Hp) : Prop := ∀ c o, H c = some o → c ≠ b → c ≠ l → H' c = some o
theorem Kp.refl (b l : Addr) (H : Hp) : Kp b l H H := fun _ _ h _ _ => h
theorem Kp.trans {b l : Addr} {H H1 H2 : Hp} (a : Kp b l H H1) (c : Kp b l H1 H2) : Kp b l H H2 := fun x o h n1 n2 => c x o (a x o h n1 n2) n1 n2
theorem Kp.of {b l : Addr} {H H' : Hp} (a : Same H H') : Kp b l H H' := fun x o h _ _ => a x o h
theorem Kp.upd1 {b l : Addr} {H H' : Hp} {o : HO} (a : Kp b l H H') : Kp b l H (upd H' b o) := fun x u h n1 n2 => by rw [upd_ne n1]; exact a x u h n1 n2
theorem Kp.upd2 {b l : Addr} {H H' : Hp} {o : HO} (a : Kp b l H H') : Kp b l H (upd H' l o) := fun x u h n1 n2 => by rw [upd_ne n2]; exact a x u h n1 n2
theorem Same.new {H H' : Hp} {p : Addr} {o : HO} (a : Same H H') (h : H' p = none) : Same H (upd H' p o) := fun x u e => by
  rw [upd_ne (ne_of_none (a x u e) h)]
  exact a x u e
/-- the box of numbers that a law draws from -/
structure Box (H : Hp) (b l : Addr) : Prop where
  ex : ∃ (ns : List Int) (z : Int), H b = some (.lst [.ref l, .int z]) ∧ H l = some (.lst (ns.map V.int)) ∧ ns.length ≤ 63
theorem Box.ne {H : Hp} {b l : Addr} (B : Box H b l) : b ≠ l := by
  obtain ⟨ns, z, h1, h2, _⟩ := B.ex
  refine ne_of h1 h2 fun e => ?_
  have e2 : [V.ref l, V.int z] = ns.map V.int := HO.lst.inj e
  cases ns with
  | nil => cases e2
  | cons n r =>
    injection e2 with e3 _
    cases e3
theorem Box.same {H H' : Hp} {b l : Addr} (B : Box H b l) (s : Same H H') : Box H' b l := by
  obtain ⟨ns, z, h1, h2, h3⟩ := B.ex
  exact ⟨ns, z, s _ _ h1, s _ _ h2, h3⟩
def spBegun (K : PySem.W.Frag) : Sp := fun vs H Q _ => ∃ (a : Addr) (ns : List Int), vs = [.ref a] ∧ SqL K H a (ns.map V.int) ∧ ns.length ≤ 63 ∧
  ∀ (b l : Addr) (H' : Hp), H b = none → H l = none → Same H H' → Box H' b l → Q (.ref b) H'
def spTake : Sp := fun vs H Q _ => ∃ (b l : Addr) (m : Int), vs = [.ref b, .int m] ∧ Box H b l ∧ 0 < m ∧ m ≤ 1000000 ∧
  ∀ (n : Int) (H' : Hp), 0 ≤ n → n < m → Box H' b l → Kp b l H H' → Q (.int n) H'
section
variable {P : Program} {w : World} {K : PySem.W.Frag} {mg : Str → Option Value} {base : Heap}
theorem fun_binds {x qual : Str} {st : Stmt} {f : Addr} {fd : FuncData} {ps : List Str} (F : FnP K x qual st f fd)
    (h : ∀ (kV doc pm : Value) (an : Option Addr) (cdv ct : Value) (us : List Value), us.length = ps.length → bindArgs (PySem.W.fnOf x qual (defArgs st) (defBody st) (defScope st) .none kV doc pm an cdv ct) ⟨us, []⟩ = pure (ps.zip us)) : Binds K fd ps [] := FunD.bindsN F h
end
/-! ### begun -/
abbrev sBegun : Stmt := top 21
section
variable {P : Program} {w : World} {K : PySem.W.Frag} {mg : Str → Option Value} {base : Heap}
theorem scBegun : FnScope ["_law_script", "_law_stirred", "_law_cell"] ["_law_script"] (defScope sBegun) := ⟨rfl, rfl, rfl, by decide +kernel, rfl, by decide +kernel, by decide +kernel⟩
theorem ok_begun {f : Addr} {fd : FuncData} (F : FnP K "_law_begun" "_law_begun" sBegun f fd) (gint : mg "int" = none) (glist : mg "list" = none) (glen : mg "len" = none) :
    FnOk P w K mg base CX0 1 f fd ["_law_script"] (spBegun K) := by
  refine F.ok scBegun (fun vs H Q E h => ?_) (fun cdv A outer s H vs Q E hr h => ?_)
  · obtain ⟨a, ns, rfl, _⟩ := h
    rfl
  · obtain ⟨a, ns, rfl, hS, hlen, k⟩ := h
    have nd := scBegun.nd
    refine ⟨_, PSs.nox (pss_cons (ps_set (i := 1) nd rfl (.inl rfl) pe_int)
      (pss_cons (ps_for PassesOwn.never rfl (pi_list (pv 0)) (pg_name (i := 2) nd rfl (.inl rfl))
        (pss_one (ps_set (i := 1) nd rfl (.inl rfl) (pe_op op_modN (pe_callTy call_int1 (by rfl) gint boot_int (pa_cons (pe_op op_add (pe_op op_add (pe_op op_mul (pv 1) pe_int) (pe_op op_mul (pv 2) pe_int)) pe_int) pa_nil)) pe_int))))
      (pss_one (ps_ret (pe_lst (pa_cons (pe_callTy call_list_of (by rfl) glist (by decide +kernel) (pa_cons (pv 0) pa_nil))
        (pa_cons (pe_op op_mul (pv 1) (pe_callTy call_int1 (by rfl) gint boot_int (pa_cons (pe_cmpR op_gt (pe_callB call_len_seq (by rfl) glen PySem.boot_len (pa_cons (pv 0) pa_nil)) pe_int (nomark _)) pa_nil))) pa_nil))))))), ?_⟩
    refine ⟨_, rfl, a, rfl, ⟨_, hS⟩, for_list (K := K) (a := a) (xs := ns.map V.int) (fun i σ H2 => ∃ (z : Int) (v : Option V), σ = [some (.ref a), some (.int z), v] ∧ H2 = H)
      ⟨0, none, rfl, rfl⟩ (fun i σ H2 _ ⟨_, _, _, e⟩ => by rw [e]; exact hS) ?_ ?_⟩
    · rintro i y σ H2 hi ⟨z, v, rfl, rfl⟩
      obtain ⟨n, rfl⟩ : ∃ n, y = V.int n := by
        rw [List.getElem?_map] at hi
        cases e : ns[i]? with
        | none => rw [e] at hi; cases hi
        | some n => rw [e] at hi; exact ⟨n, (Option.some.inj hi).symm⟩
      refine ⟨_, rfl, _, _, rfl, rfl, .inr ⟨by decide, by decide⟩, _, rfl, _, _, rfl, rfl, .inr ⟨by decide, by decide⟩, _, _, rfl, rfl, _, _, rfl, rfl, .inl ⟨_, rfl, ?_⟩⟩
      exact ⟨_, _, rfl, rfl, (by show (2147483647 : Int) ≠ 0; decide), _, _, rfl, rfl⟩
    · rintro σ H2 ⟨z, v, rfl, rfl⟩
      refine ⟨_, rfl, a, _, rfl, .inl hS, fun l hl => ?_⟩
      have hS2 : SqL K (upd H2 l (.lst (ns.map V.int))) a (ns.map V.int) := Same.seq (Same.new (Same.refl H2) hl) hS
      refine ⟨_, rfl, _, rfl, a, _, rfl, .inl hS2, _, _, rfl, rfl, .inr ⟨_, rfl, ?_⟩⟩
      refine ⟨_, _, rfl, rfl, ?_, ?_⟩
      · refine .inr ?_
        split <;> exact ⟨by decide, by decide⟩
      · refine ⟨by show 2 ≤ sizeLine; decide, fun p hp => ?_⟩
        have npl : p ≠ l := fun e => by rw [e, upd_same] at hp; cases hp
        have hp0 : H2 p = none := by rw [upd_ne npl] at hp; exact hp
        refine k p l _ hp0 hl (Same.new (Same.new (Same.refl _) hl) hp) ⟨ns, _, upd_same, ?_, hlen⟩
        rw [upd_ne npl.symm, upd_same]
end
end Om

namespace Om
open PySem PySem.Spec PyProof.Rows L2
/-! ### data -/
theorem lay_ints : ∀ ns : List Int, PyData.canLayAll0 (ns.map PyData.int) = true
  | [] => by simp [PyData.canLayAll0]
  | n :: r => by simp [PyData.canLayAll0, PyData.canLay0, lay_ints r]
theorem dep_ints : ∀ ns : List Int, PyData.depthAll (ns.map PyData.int) = 0
  | [] => by simp [PyData.depthAll]
  | n :: r => by simp [PyData.depthAll, PyData.depth, dep_ints r]
theorem shaped_of {d : PyData} (h1 : d.canLay0 = true) (h2 : d.depth ≤ 64) : SeqAt.shaped d = true := by
  show (d.canLay0 && decide (d.depth ≤ 64)) = true
  rw [h1, decide_eq_true h2]
  rfl
theorem shaped_ints (ns : List Int) : SeqAt.shaped (.list (ns.map PyData.int)) = true :=
  shaped_of (by simp only [PyData.canLay0]; exact lay_ints ns) (by simp only [PyData.depth, dep_ints]; omega)
theorem shaped_nil : SeqAt.shaped (.list []) = true := shaped_of (by simp [PyData.canLay0, PyData.canLayAll0]) (by simp [PyData.depth, PyData.depthAll])
theorem dpAll_ints {K : PySem.W.Frag} {H : Hp} : ∀ ns : List Int, DpAll K H (ns.map V.int) (ns.map PyData.int)
  | [] => .nil
  | n :: r => .cons (.int n) (dpAll_ints r)
theorem eqv_ints_nil (ns : List Int) : PyData.eqv (.list (ns.map PyData.int)) (.list []) = ns.isEmpty := by
  cases ns <;> simp [PyData.eqv, PyData.eqvAll]
theorem fmod_pos {a m : Int} (h : 0 < m) : 0 ≤ a.fmod m ∧ a.fmod m < m := by
  rw [Int.fmod_eq_emod_of_nonneg _ (Int.le_of_lt h)]
  exact ⟨Int.emod_nonneg _ (by omega), Int.emod_lt_of_pos _ h⟩
theorem at0 {x : V} {r : List V} : atI (x :: r) 0 = some x := by
  unfold atI ixN
  rw [if_pos (by omega), if_pos (by simp)]
  rfl
theorem ix0 {x : V} {r : List V} : ixN (x :: r).length 0 = some 0 := by
  unfold ixN
  rw [if_pos (by omega), if_pos (by simp)]
  rfl
/-! ### take -/
abbrev sTake : Stmt := top 22
section
variable {P : Program} {w : World} {K : PySem.W.Frag} {mg : Str → Option Value} {base : Heap}
theorem scTake : FnScope ["_law_box", "_law_many", "_law_figure"] ["_law_box", "_law_many"] (defScope sTake) := ⟨rfl, rfl, rfl, by decide +kernel, rfl, by decide +kernel, by decide +kernel⟩
theorem ok_take {f : Addr} {fd : FuncData} (F : FnP K "_law_take" "_law_take" sTake f fd) (gint : mg "int" = none) :
    FnOk P w K mg base CX0 1 f fd ["_law_box", "_law_many"] spTake := by
  refine F.ok scTake (fun vs H Q E h => ?_) (fun cdv A outer s H vs Q E hr h => ?_)
  · obtain ⟨b, l, m, rfl, _⟩ := h
    rfl
  · obtain ⟨b, l, m, rfl, B, hm0, hm1, k⟩ := h
    have nd := scTake.nd
    have nbl := B.ne
    obtain ⟨ns, z, hb, hl, hlen⟩ := B.ex
    refine ⟨_, PSs.nox (pss_cons (ps_if (pt_cmpR (op_eqD hr.units) (pe_ix ix_list (pv 0) pe_int (fun _ _ => rfl)) (pe_lst pa_nil) (nomark _))
          (pss_cons (ps_asg (pe_op op_modN (pe_callTy call_int1 (by rfl) gint boot_int (pa_cons (pe_op op_mul (pe_ix ix_list (pv 0) pe_int (fun _ _ => rfl)) pe_int) pa_nil)) pe_int) (pg_sub (pv 0) pe_int set_list))
          (pss_one (ps_ret (pe_op op_modN (pe_callTy call_int1 (by rfl) gint boot_int (pa_cons (pe_op op_fdivN (pe_ix ix_list (pv 0) pe_int (fun _ _ => rfl)) pe_int) pa_nil)) (pv 1))))) pss_nil)
      (pss_cons (ps_set (i := 2) nd rfl (.inl rfl) (pe_ix ix_list (pe_ix ix_list (pv 0) pe_int (fun _ _ => rfl)) pe_int (fun _ _ => rfl)))
      (pss_cons (ps_asg (pe_op op_fdivN (pv 2) (pv 1)) (pg_sub (pe_ix ix_list (pv 0) pe_int (fun _ _ => rfl)) pe_int set_list))
      (pss_cons (ps_if (PW.pt (pw_or (pt_cmpR op_eq (pe_ix ix_list (pe_ix ix_list (pv 0) pe_int (fun _ _ => rfl)) pe_int (fun _ _ => rfl)) pe_int (nomark _))
            (pw_or1 (pt_cmpR op_eq (pe_ix ix_list (pe_ix ix_list (pv 0) pe_int (fun _ _ => rfl)) pe_int (fun _ _ => rfl)) (pe_un un_neg pe_int) (nomark _)))))
          (pss_one (ps_expr (pe_bm PySem.F.plainAttrs_list PySem.F.slot_list_pop PySem.F.type_list_pop mt_popAt (pe_ix ix_list (pv 0) pe_int (fun _ _ => rfl)) (pa_cons pe_int pa_nil)))) pss_nil)
      (pss_one (ps_ret (pe_op op_modN (pv 2) (pv 1)))))))), ?_⟩
    refine ⟨_, rfl, b, _, 0, _, rfl, rfl, .inl (.inl hb), rfl, by show 0 ≤ sizeLine; decide, fun e he => ?_⟩
    have ebe : b ≠ e := ne_of_none hb he
    have ele : l ≠ e := ne_of_none hl he
    have hb1 : (upd H e (.lst [])) b = some (.lst [.ref l, .int z]) := by rw [upd_ne ebe]; exact hb
    have hl1 : (upd H e (.lst [])) l = some (.lst (ns.map V.int)) := by rw [upd_ne ele]; exact hl
    have K1 : Kp b l H (upd H e (.lst [])) := Kp.of (Same.new (Same.refl H) he)
    refine ⟨_, _, .lst (.inl (.inl hl1)) (dpAll_ints ns), .lst (.inl (.inl upd_same)) .nil, shaped_ints ns, shaped_nil, _, rfl, ?_⟩
    rw [eqv_ints_nil]
    cases ns with
    | nil =>
      refine iteT ?_
      refine ⟨_, rfl, b, _, 1, _, rfl, rfl, .inl (.inl hb1), rfl, _, _, rfl, rfl, .inr ⟨by decide, by decide⟩, .inl ⟨_, rfl, ?_⟩⟩
      refine ⟨_, _, rfl, rfl, (by show (2147483647 : Int) ≠ 0; decide), _, rfl, b, _, 1, 1, rfl, rfl, hb1, rfl, ?_⟩
      refine ⟨_, rfl, b, _, 1, _, rfl, rfl, .inl (.inl upd_same), rfl, _, _, rfl, rfl, ⟨by decide, by decide⟩, .inl ⟨_, rfl, _, rfl, _, _, rfl, rfl, (by show m ≠ 0; omega), ?_⟩⟩
      refine k _ _ (fmod_pos hm0).1 (fmod_pos hm0).2 ⟨[], _, upd_same, ?_, hlen⟩ (K1.upd1)
      rw [upd_ne nbl.symm]
      exact hl1
    | cons n r =>
      refine iteF ?_
      refine ⟨_, rfl, b, _, 0, _, rfl, rfl, .inl (.inl hb1), rfl, l, _, 0, _, rfl, rfl, .inl (.inl hl1), at0, ?_⟩
      refine ⟨_, rfl, _, rfl, _, _, rfl, rfl, ⟨(by show m ≠ 0; omega), (by show m.natAbs < 1073741824; omega)⟩, _, rfl, b, _, 0, _, rfl, rfl, .inl (.inl hb1), rfl, l, _, 0, 0, rfl, rfl, hl1, ix0, ?_⟩
      have hb2 : (upd (upd H e (.lst [])) l (.lst (((n :: r).map V.int).set 0 (.int (n.fdiv m))))) b = some (.lst [.ref l, .int z]) := by rw [upd_ne nbl]; exact hb1
      have hl2 : (upd (upd H e (.lst [])) l (.lst (((n :: r).map V.int).set 0 (.int (n.fdiv m))))) l = some (.lst (((n.fdiv m) :: r).map V.int)) := upd_same
      refine ⟨_, rfl, b, _, 0, _, rfl, rfl, .inl (.inl hb2), rfl, l, _, 0, _, rfl, rfl, .inl (.inl hl2), at0, rfl, _, rfl, ?_⟩
      have fin : ∀ H3, Box H3 b l → Kp b l H H3 → Q (.int (n.fmod m)) H3 := fun H3 B3 k3 => k _ H3 (fmod_pos hm0).1 (fmod_pos hm0).2 B3 k3
      have pop : (tDrop (tBM K "list" rPopAt (tOp (rIxL K) (tVar 0) (tC (.int 0))) (tCons (tC (.int 0)) tNil))) { nx := fun σ H => (tRet (tOp (rI (fun _ j => j ≠ 0) fun i j => .int (i.fmod j)) (tVar 2) (tVar 1))) { nx := fun _ H' => Q .non H', rt := Q } σ H, rt := Q } [some (.ref b), some (.int m), some (.int n)] (upd (upd H e (.lst [])) l (.lst (((n :: r).map V.int).set 0 (.int (n.fdiv m))))) := by
        refine ⟨_, rfl, b, _, 0, _, rfl, rfl, .inl (.inl hb2), rfl, .inl ⟨rfl, _, .inl (.inl hl2)⟩, l, _, 0, 0, _, rfl, rfl, hl2, by decide, by decide, ?_, rfl, ?_⟩
        · simp [seqIndex?]
        · refine ⟨_, rfl, _, rfl, _, _, rfl, rfl, (by show m ≠ 0; omega), fin _ ⟨r, z, ?_, upd_same, ?_⟩ ?_⟩
          · rw [upd_ne nbl]; exact hb2
          · have := hlen; simp at this; omega
          · exact Kp.upd2 (Kp.upd2 K1)
      refine ite2 (fun hz => ?_) (fun hz => ?_)
      · exact iteT pop
      · refine ⟨_, rfl, b, _, 0, _, rfl, rfl, .inl (.inl hb2), rfl, l, _, 0, _, rfl, rfl, .inl (.inl hl2), at0, _, rfl, rfl, _, rfl, ?_⟩
        refine ite2 (fun hz => ?_) (fun hz => ?_)
        · exact pop
        · refine ⟨_, rfl, _, rfl, _, _, rfl, rfl, (by show m ≠ 0; omega), fin _ ⟨(n.fdiv m) :: r, z, hb2, hl2, ?_⟩ (Kp.upd2 K1)⟩
          have := hlen; simp at this ⊢; omega
end
end Om

namespace Om
open PySem PySem.Spec PyProof.Rows L2
/-! ### texts as lists of codes -/
def tx (cs : List Nat) : Str := ⟨cs.toArray⟩
theorem tx_cps (cs : List Nat) : (tx cs).cps.toList = cs := by simp [tx]
theorem tx_len (cs : List Nat) : (tx cs).length = cs.length := by simp [tx, Str.length]
theorem tx_app (a b : List Nat) : tx a ++ tx b = tx (a ++ b) := by
  show Str.append (tx a) (tx b) = tx (a ++ b)
  simp [tx, Str.append]
theorem tx_inj {a b : List Nat} (h : tx a = tx b) : a = b := by
  have e : (tx a).cps.toList = (tx b).cps.toList := by rw [h]
  rw [tx_cps, tx_cps] at e
  exact e
theorem of_tx (s : Str) : tx s.cps.toList = s := by
  obtain ⟨c⟩ := s
  simp [tx]
theorem join_tx : ∀ cs : List Nat, Str.join ⟨#[]⟩ (cs.map fun c => tx [c]) = tx cs
  | [] => rfl
  | [c] => rfl
  | c :: d :: r => by
    have ih := join_tx (d :: r)
    show tx [c] ++ (⟨#[]⟩ : Str) ++ Str.join ⟨#[]⟩ ((d :: r).map fun c => tx [c]) = tx (c :: d :: r)
    rw [ih]
    have e0 : (⟨#[]⟩ : Str) = tx [] := rfl
    rw [e0, tx_app, tx_app]
    rfl
theorem empty_tx : Str.ofString "" = (⟨#[]⟩ : Str) := by decide +kernel
def okSign (c : Nat) : Prop := c = 46 ∨ c = 126 ∨ (65 ≤ c ∧ c ≤ 90)
/-- what a law draws as rows -/
structure RowsOk (m : Nat) (rows : List (List Nat)) : Prop where
  h1 : 1 ≤ rows.length
  hm : rows.length ≤ m
  w : ∃ wd, 1 ≤ wd ∧ wd ≤ m ∧ ∀ r ∈ rows, r.length = wd ∧ ∀ c ∈ r, okSign c
def vt (r : List Nat) : V := .str (tx r)
def spRows : Sp := fun vs H Q _ => ∃ (b l : Addr) (m : Nat), vs = [.ref b, .int m] ∧ Box H b l ∧ 1 ≤ m ∧ m ≤ 12 ∧
  ∀ (p : Addr) (rows : List (List Nat)) (H' : Hp), RowsOk m rows → H p = none → H' p = some (.tup (rows.map vt)) → Box H' b l → Kp b l H H' → Q (.ref p) H'
def rJoin (K : PySem.W.Frag) : V → List V → Hp → VK → Prop := fun x xs H Q => ∃ a p, ∃ ys : List Str, x = .str a ∧ xs = [.ref p] ∧ (SqL K H p (ys.map V.str) ∨ SqT K H p (ys.map V.str)) ∧
      (ys.map (·.length)).sum + ys.length * a.length ≤ 16777216 ∧ Q (.str (Txt.join a ys)) H
theorem pe_joinK {X : Cx} {o e : Expr} {to te : TE} {apos pos : Pos} (ho : PE X o to) (he : PE X e te) (hs : starEach [e] X.env = [(false, eval e X.env)] := by rfl) (hbase : attributeBase o "join" X.env (eval o X.env) = eval o X.env := by rfl) (hline : (apos.endLine == pos.line) = true := by rfl) :
    PE X (.Call (.Attribute o "join" apos) [e] [] pos) (tM1 (rJoin X.K) to te) := pe_join ho he hs hbase hline
abbrev sRows : Stmt := top 24
/-- the scope of the i-th comprehension of a return's call -/
def retExpr (s : Stmt) : Expr := match s with
  | .Return (some e) _ => e
  | _ => .Constant .none 0 ⟨0, 0, 0, 0⟩
def arg0 (e : Expr) : Expr := match e with
  | .Call _ (a :: _) _ _ => a
  | _ => .Constant .none 0 ⟨0, 0, 0, 0⟩
def lcScope (e : Expr) : Scope := match e with
  | .ListComp _ _ sc _ => sc
  | _ => { kind := .function, names := [], isGenerator := false, isCoroutine := false }
def lcElt (e : Expr) : Expr := match e with
  | .ListComp e _ _ _ => e
  | _ => .Constant .none 0 ⟨0, 0, 0, 0⟩
def rowsLc : Expr := arg0 (retExpr ((defBody sRows).getD 2 (.Pass ⟨0, 0, 0, 0⟩)))
abbrev nRows : List Str := ["_law_box", "_law_most", "_law_height", "_law_width", "_law_signs", "_law_column", "_law_row"]
theorem scRows : FnScope nRows ["_law_box", "_law_most"] (defScope sRows) := ⟨rfl, rfl, rfl, by decide +kernel, rfl, by decide +kernel, by decide +kernel⟩
theorem blk1 : BlkOk nRows (defScope sRows) (lcScope rowsLc) [("_law_row", 6)] := blkOk_by (by decide +kernel)
/-- the scope of a comprehension within a def, as its own comprehensions see it -/
def relab (sc : Scope) (out : Scope) : Scope := { sc with names := sc.names.map fun (n, k) => if (k == NameKind.free && out.kind == .function && out.names.lookup n == some .cell) then (n, NameKind.cell) else (n, k) }
theorem blk2 : BlkOk nRows (relab (lcScope rowsLc) (defScope sRows)) (lcScope (arg0 (lcElt rowsLc))) [("_law_column", 5)] := blkOk_by (by decide +kernel)
def sg (i : Nat) : List Nat := [[46, 46, 46, 46, 126, 126, 65, 66, 75], [46, 46, 46, 46, 46, 46, 46, 46, 46, 46, 46, 126, 65, 66], [46, 46, 126, 126, 126, 126, 65], [65, 66, 75, 84, 90, 46, 46, 46, 46, 126]].getD i []
theorem sg_ok {i : Nat} (hi : i < 4) : ∀ c ∈ sg i, okSign c := by
  have : ∀ i : Fin 4, ∀ c ∈ sg i, c = 46 ∨ c = 126 ∨ (65 ≤ c ∧ c ≤ 90) := by decide
  exact this ⟨i, hi⟩
theorem sg_len {i : Nat} (hi : i < 4) : 1 ≤ (sg i).length ∧ (sg i).length ≤ 14 := by
  have : ∀ i : Fin 4, 1 ≤ (sg i).length ∧ (sg i).length ≤ 14 := by decide
  exact this ⟨i, hi⟩
def four : List V := [.str (Str.ofString "....~~ABK"), .str (Str.ofString "...........~AB"), .str (Str.ofString "..~~~~A"), .str (Str.ofString "ABKTZ....~")]
theorem four_at {n : Int} (h0 : 0 ≤ n) (h4 : n < 4) : atI four n = some (vt (sg n.toNat)) := by
  have e : n = 0 ∨ n = 1 ∨ n = 2 ∨ n = 3 := by omega
  have s0 : Str.ofString "....~~ABK" = tx (sg 0) := by decide +kernel
  have s1 : Str.ofString "...........~AB" = tx (sg 1) := by decide +kernel
  have s2 : Str.ofString "..~~~~A" = tx (sg 2) := by decide +kernel
  have s3 : Str.ofString "ABKTZ....~" = tx (sg 3) := by decide +kernel
  rcases e with rfl | rfl | rfl | rfl
  · show some (V.str _) = some (V.str _)
    rw [s0]; rfl
  · show some (V.str _) = some (V.str _)
    rw [s1]; rfl
  · show some (V.str _) = some (V.str _)
    rw [s2]; rfl
  · show some (V.str _) = some (V.str _)
    rw [s3]; rfl
theorem atI_of {α : Type} {xs : List α} {n : Int} (h0 : 0 ≤ n) (h1 : n < xs.length) : ∃ v, atI xs n = some v ∧ v ∈ xs := by
  have hj : n.toNat < xs.length := by omega
  refine ⟨xs[n.toNat], ?_, List.getElem_mem hj⟩
  have e : ((n.toNat : Nat) : Int) = n := by omega
  have z := atI_nat (xs := xs) (j := n.toNat) (v := xs[n.toNat]) (by simp [hj])
  rw [e] at z
  exact z
theorem tyes {σ : L2.St} {H : Hp} {f g : Hp → Prop} (h : f H) : tYes σ H fun b H3 => if b = true then f H3 else g H3 := by
  show (if true = true then f H else g H)
  rw [if_pos rfl]
  exact h
section
variable {P : Program} {w : World} {K : PySem.W.Frag} {mg : Str → Option Value} {base : Heap}
theorem ok_rows {f : Addr} {fd : FuncData} (F : FnP K "_law_rows" "_law_rows" sRows f fd) (T : Cal P w K mg base CX0 1 "_law_take" ["_law_box", "_law_many"] spTake)
    (grange : mg "range" = none) (gtuple : mg "tuple" = none) (glen : mg "len" = none) :
    FnOk P w K mg base CX0 2 f fd ["_law_box", "_law_most"] spRows := by
  refine F.ok scRows (fun vs H Q E h => ?_) (fun cdv A outer s H vs Q E hr h => ?_)
  · obtain ⟨b, l, m, rfl, _⟩ := h
    rfl
  · obtain ⟨b, l, m, rfl, B, hm0, hm1, k⟩ := h
    have nd := scRows.nd
    have nbl := B.ne
    refine ⟨_, PSs.nox (pss_cons (ps_asg (pe_tup (pa_cons (pe_op op_add pe_int (pe_cal T hr pass0 (pa_cons (pv 0) (pa_cons (pv 1) pa_nil)))) (pa_cons (pe_op op_add pe_int (pe_cal T hr pass0 (pa_cons (pv 0) (pa_cons (pv 1) pa_nil)))) pa_nil)))
          (pg_tup rfl (pgs_cons (pg_name (i := 2) nd rfl (.inl rfl)) (pgs_cons (pg_name (i := 3) nd rfl (.inr rfl)) pgs_nil))))
      (pss_cons (ps_set (i := 4) nd rfl (.inr rfl) (pe_ix ix_list (pe_lst (pa_cons pe_str (pa_cons pe_str (pa_cons pe_str (pa_cons pe_str pa_nil))))) (pe_cal T hr pass0 (pa_cons (pv 0) (pa_cons pe_int pa_nil))) (fun _ _ => rfl)))
      (pss_one (ps_ret (pe_callTy call_tuple_of (by rfl) gtuple (by decide +kernel) (pa_cons
        (pe_lc (own := [("_law_row", 6)]) (g := gName 6) (te := tM1 (rJoin K) _ _) rfl nd (pi_range1 rfl grange (pa_cons (pv 2) pa_nil)) blk1 (fun _ _ _ _ _ => pg_name (i := 6) nd rfl (.inl rfl)) (fun _ _ _ _ _ => pts_nil) (fun _ _ _ _ _ =>
          pe_joinK pe_str (pe_lc (own := [("_law_column", 5)]) (g := gName 5) rfl nd (pi_range1 rfl grange (pa_cons (pv 3) pa_nil)) blk2 (fun _ _ _ _ _ => pg_name (i := 5) nd rfl (.inl rfl)) (fun _ _ _ _ _ => pts_nil) (fun _ _ _ _ _ =>
            pe_ix ix_str (pv 4) (pe_cal T hr pass0 (pa_cons (pv 0) (pa_cons (pe_callB call_len_str (by rfl) glen PySem.boot_len (pa_cons (pv 4) pa_nil)) pa_nil))) (fun _ _ => rfl))))) pa_nil)))))), ?_⟩
    refine ⟨_, rfl, _, rfl, b, l, _, rfl, B, by omega, by omega, fun n1 H1 a1 a2 B1 K1 => ⟨_, _, rfl, rfl, ?_⟩⟩
    refine ⟨_, rfl, _, rfl, b, l, _, rfl, B1, by omega, by omega, fun n2 H2 b1 b2 B2 K2 => ⟨_, _, rfl, rfl, (by show 2 ≤ sizeLine; decide), fun p hp => ?_⟩⟩
    refine ⟨p, _, rfl, .inl (.inl upd_same), rfl, _, _, rfl, _, _, rfl, rfl, ?_⟩
    refine ⟨by show 4 ≤ sizeLine; decide, fun q hq => ?_⟩
    have B3 : Box (upd (upd H2 p (.tup [.int (1 + n1), .int (1 + n2)])) q (.lst four)) b l := B2.same (Same.new (Same.new (Same.refl H2) hp) hq)
    refine ⟨_, rfl, b, l, 4, rfl, B3, by decide, by decide, fun n3 H4 c1 c2 B4 K4 => ?_⟩
    obtain ⟨ns3, z3, hb3, hl3, _⟩ := B3.ex
    have K34 : Kp b l H H4 := ((K1.trans K2).trans (Kp.of (Same.new (Same.new (Same.refl H2) hp) hq))).trans K4
    have npb : q ≠ b := fun e => by
      have B2' := B2.same (Same.new (Same.refl H2) hp (o := .tup [.int (1 + n1), .int (1 + n2)]))
      obtain ⟨_, _, x1, _⟩ := B2'.ex
      rw [← e, hq] at x1; cases x1
    have npl : q ≠ l := fun e => by
      have B2' := B2.same (Same.new (Same.refl H2) hp (o := .tup [.int (1 + n1), .int (1 + n2)]))
      obtain ⟨_, _, _, x1, _⟩ := B2'.ex
      rw [← e, hq] at x1; cases x1
    have hq4 : H4 q = some (.lst four) := K4 q _ upd_same npb npl
    have i4 : n3.toNat < 4 := by omega
    refine ⟨q, _, n3, _, rfl, rfl, .inl (.inl hq4), four_at c1 c2, ?_⟩
    -- the rows
    have hwd : (1 + n2).toNat ≤ m := by omega
    refine ⟨_, rfl, _, rfl, by omega, by omega, fun D hD => lc_range (lo := 0) (n := (1 + n1).toNat) (fun j H' => ∃ rows : List (List Nat), rows.length = j ∧ (∀ r ∈ rows, r.length = (1 + n2).toNat ∧ ∀ c ∈ r, okSign c) ∧ H' D = some (.lst (rows.map vt)) ∧ Box H' b l ∧ Kp b l H4 H')
      ⟨[], rfl, by simp, upd_same, B4.same (Same.new (Same.refl _) hD), Kp.of (Same.new (Same.refl _) hD)⟩ ?_ ?_⟩
    · rintro j H' hj ⟨rows, e1, e2, e3, B5, K5⟩
      have nDb : D ≠ b := fun e => by
        obtain ⟨_, _, x1, _⟩ := B4.ex
        rw [← e, hD] at x1; cases x1
      have nDl : D ≠ l := fun e => by
        obtain ⟨_, _, _, x1, _⟩ := B4.ex
        rw [← e, hD] at x1; cases x1
      refine ⟨rfl, tyes ?_⟩
      refine ⟨⟨_, rfl⟩, _, rfl, _, rfl, by omega, by omega, fun D2 hD2 => lc_range (lo := 0) (n := (1 + n2).toNat) (fun i H6 => ∃ cs : List Nat, cs.length = i ∧ (∀ c ∈ cs, okSign c) ∧ H6 D2 = some (.lst (cs.map fun c => vt [c])) ∧ Box H6 b l ∧ Kp b l H' H6)
        ⟨[], rfl, by simp, upd_same, B5.same (Same.new (Same.refl _) hD2), Kp.of (Same.new (Same.refl _) hD2)⟩ ?_ ?_⟩
      · rintro i H6 hi ⟨cs, f1, f2, f3, B6, K6⟩
        have nb2 : D2 ≠ b := fun e => by
          obtain ⟨_, _, x1, _⟩ := B5.ex
          rw [← e, hD2] at x1; cases x1
        have nl2 : D2 ≠ l := fun e => by
          obtain ⟨_, _, _, x1, _⟩ := B5.ex
          rw [← e, hD2] at x1; cases x1
        have sl := sg_len i4
        refine ⟨rfl, tyes ?_⟩
        refine ⟨_, rfl, _, rfl, _, rfl, _, rfl, (by show (tx _).length ≤ sizeLine; rw [tx_len]; exact Nat.le_trans sl.2 (by decide)), b, l, _, rfl, B6, ?_, ?_, fun n H7 g1 g2 B7 K7 => ?_⟩
        · rw [tx_len]; omega
        · rw [tx_len]; omega
        · rw [tx_len] at g2
          obtain ⟨c, hc, hm⟩ := atI_of (xs := sg n3.toNat) g1 g2
          refine ⟨_, _, c, rfl, rfl, (by rw [tx_len]; exact Nat.le_trans sl.2 (by decide)), (by rw [tx_cps]; exact hc), ?_⟩
          have f4 := K7 D2 _ f3 nb2 nl2
          refine ⟨_, f4, ?_, cs ++ [c], by simp [f1], ?_, ?_, ?_, ?_⟩
          · rw [List.length_map, f1]
            exact Nat.lt_of_lt_of_le hi (Nat.le_trans hwd (Nat.le_trans hm1 (by decide)))
          · intro c' hc'
            rcases List.mem_append.mp hc' with h | h
            · exact f2 c' h
            · rw [List.mem_singleton.mp h]; exact sg_ok i4 c hm
          · rw [upd_same, List.map_append]; rfl
          · obtain ⟨u1, u2, u3, u4, u5⟩ := B7.ex
            exact ⟨u1, u2, by rw [upd_ne nb2.symm]; exact u3, by rw [upd_ne nl2.symm]; exact u4, u5⟩
          · intro x o hx n1' n2'
            have hne : x ≠ D2 := ne_of_none hx hD2
            rw [upd_ne hne]
            exact K7 x o (K6 x o hx n1' n2') n1' n2'
      · rintro H6 ⟨cs, f1, f2, f3, B6, K6⟩
        refine ⟨_, D2, cs.map fun c => tx [c], rfl, rfl, .inl (.inl (.inl (by rw [f3, List.map_map]; rfl))), ?_, ?_⟩
        · rw [empty_tx]
          have e5 : ∀ l : List Nat, ((l.map fun c => tx [c]).map (·.length)).sum = l.length := by
            intro l
            induction l with
            | nil => rfl
            | cons a r ih => simp only [List.map_cons, List.sum_cons, ih, tx_len, List.length_cons, List.length_nil]; omega
          rw [e5]
          show cs.length + _ * 0 ≤ _
          omega
        · rw [empty_tx, TL.join_eq, join_tx]
          have f4 := K6 D _ e3 nDb nDl
          refine ⟨_, f4, ?_, rows ++ [cs], by simp [e1], ?_, ?_, ?_, ?_⟩
          · rw [List.length_map, e1]
            exact Nat.lt_of_lt_of_le hj (Nat.le_trans (show (1 + n1).toNat ≤ 12 by omega) (by decide))
          · intro r hr'
            rcases List.mem_append.mp hr' with h | h
            · exact e2 r h
            · rw [List.mem_singleton.mp h]; exact ⟨f1, f2⟩
          · rw [upd_same, List.map_append]; rfl
          · obtain ⟨u1, u2, u3, u4, u5⟩ := B6.ex
            exact ⟨u1, u2, by rw [upd_ne nDb.symm]; exact u3, by rw [upd_ne nDl.symm]; exact u4, u5⟩
          · intro x o hx n1' n2'
            have hne : x ≠ D := ne_of_none hx hD
            rw [upd_ne hne]
            exact K6 x o (K5 x o hx n1' n2') n1' n2'
    · rintro H' ⟨rows, e1, e2, e3, B5, K5⟩
      refine ⟨D, _, rfl, .inl ⟨.inl (.inl e3), fun t ht => ?_⟩⟩
      have kall := K34.trans K5
      refine k t rows _ ⟨by omega, by omega, (1 + n2).toNat, by omega, by omega, e2⟩ ?_ upd_same (B5.same (Same.new (Same.refl _) ht)) (kall.trans (Kp.of (Same.new (Same.refl _) ht)))
      cases hh : H t with
      | none => rfl
      | some o =>
        by_cases h1 : t = b
        · obtain ⟨_, _, x1, _⟩ := B5.ex
          rw [← h1, ht] at x1; cases x1
        · by_cases h2 : t = l
          · obtain ⟨_, _, _, x1, _⟩ := B5.ex
            rw [← h2, ht] at x1; cases x1
          · have := kall t o hh h1 h2
            rw [ht] at this; cases this
end
end Om

/-! enumerate(tuple) and enumerate(text) -/
namespace PySem
open Sem (wp)
open Builtin
set_option maxHeartbeats 2000000 in
theorem om_enum_new {u : Value} {ob : Obj} {Hh : Heap → Prop} (B : Begins u ob Hh) :
    Meets (Builtin.«enumerate.__new__» ⟨[.type "enumerate", u], []⟩) (fun _ R z => Hh z.heap ∧
      R (.ok (.ret (.ref (z.heap.push ob).objs.size))) { z with heap := (z.heap.push ob).push { cls := .type "enumerate", data := .fields #[.none, .bool false, .ref z.heap.objs.size, rawInt 0, .none, .none] } }) :=
  Meets.of_wp fun pr wo Ar Re st hq => by
    obtain ⟨hp0, gg, dd, tt, oo⟩ := st
    obtain ⟨hB, hq⟩ := hq
    have hs0 := sub_enumerate
    have step : ∀ {A' : Around} {E : Value → Shared → Prop} {Q : Value → Shared → Prop}, Q (.ref hp0.objs.size) ⟨hp0.push ob, gg, dd, tt, oo⟩ → wpAny (model pr wo) A' (pyIter u) Q E ⟨hp0, gg, dd, tt, oo⟩ :=
      fun q => B.iter pr wo _ _ ⟨hp0, gg, dd, tt, oo⟩ _ hB q
    wp_walk using step
    refine wpAny_stack_any fun zz => wpAny_pure ?_
    split
    · rename_i cc _ _ _ _ _
      cases (cc == Value.type "enumerate") <;> (wp_walk using step; exact ⟨_, rfl, hq⟩)
    · wp_walk using step
      exact ⟨_, rfl, hq⟩
theorem om_enum_call {prog : Program} {w : World} {A : Around} {E : Value → Shared → Prop} {s : Shared} {u : Value} {ob : Obj} {Hh : Heap → Prop} {Q : Value → Shared → Prop} (B : Begins u ob Hh) (hB : Hh s.heap)
    (hq : ∀ h', IsEnum h' (s.heap.objs.size + 1) s.heap.objs.size 0 .none → h'.get? s.heap.objs.size = some ob → (∀ b o, s.heap.get? b = some o → h'.get? b = some o) → Q (.ref (s.heap.objs.size + 1)) { s with heap := h' }) :
    wpAny (model prog w) A (call (.type "enumerate") [u]) Q E s := by
  refine callType_new F.called_enumerate (by decide) (F.typeCall_enumerate_1 _) (F.newCall_enumerate_1 _) (fun obj => F.args_object_init_2 obj _) F.entry_enumerate_new (om_enum_new B) ⟨hB, ?_⟩
  have z1 : (s.heap.push ob).objs.size = s.heap.objs.size + 1 := Heap.size_push ..
  show _ ∧ _
  rw [z1]
  have z2 : IsEnum ((s.heap.push ob).push { cls := .type "enumerate", data := .fields #[.none, .bool false, .ref s.heap.objs.size, rawInt 0, .none, .none] }) (s.heap.objs.size + 1) s.heap.objs.size 0 .none := by
    have z3 := Heap.get?_push_size (s.heap.push ob) (o := { cls := .type "enumerate", data := .fields #[.none, .bool false, .ref s.heap.objs.size, rawInt 0, .none, .none] }) rfl
    rw [z1] at z3
    exact z3
  exact ⟨⟨_, z2, rfl⟩, hq _ z2 (Heap.get?_push_of_some _ (Heap.get?_push_size _ B.free)) fun b o x => Heap.get?_push_of_some _ (Heap.get?_push_of_some _ x)⟩
end PySem
namespace Om
open PySem PySem.Spec PyProof.Rows L2
/-- the tuple's items in new pairs -/
def IteT (K : PySem.W.Frag) (a : Addr) (xs : List V) : It :=
  ⟨fun i H => SqT K H a xs ∧ i < xs.length, fun i H v H' => ∃ T x, v = .ref T ∧ H T = none ∧ H' = upd H T (.tup [.int (i : Nat), x]) ∧ xs[i]? = some x, fun i H => SqT K H a xs ∧ xs.length = i⟩
theorem turn_enumT {P : Program} {w : World} {K : PySem.W.Frag} {elts : List Expr} {kk : Nat} {tpos : Pos} {a e it : Addr} {xs : List V} (nae : a ≠ e) (nai : a ≠ it) (nei : e ≠ it) :
    Turn P w K (.Tuple elts kk tpos) (IteT K a xs) [e, it] e (fun i h => (∃ old, IsEnum h e it ((i : Nat) : Int) old) ∧ h.IsTupleIter it a i) where
  mem := by simp
  obj := fun i h ⟨⟨old, he⟩, o, ho, hc, hd⟩ b hb => by
    rcases (show b = e ∨ b = it by simpa using hb) with rfl | rfl
    · exact ⟨_, he, fun v q => nomatch q⟩
    · exact ⟨o, ho, fun v q => by rw [hd] at q; cases q⟩
  keep := fun i h h' ⟨⟨old, he⟩, hi⟩ k => ⟨⟨old, k e (by simp) _ he⟩, hi.at fun o q => k it (by simp) o q⟩
  item := by
    intro X eP ew eK hc i pins s σ H E I hf ⟨⟨old, he⟩, hit⟩ ⟨hq, hlt⟩
    subst eP ew eK
    obtain ⟨its, rv, tu, hz⟩ := I.tuple hq
    have hx : xs[i]? = some xs[i] := by simp [hlt]
    obtain ⟨u, hu, ru⟩ := rv.get hx
    have el : e < s.heap.objs.size := Heap.lt_size he
    have il : it < s.heap.objs.size := by obtain ⟨_, q, _⟩ := hit; exact Heap.lt_size q
    have hsz : i < its.toArray.size := by
      have := rv.length
      simp
      omega
    have hd0 : X.A.in1.handled = none := I.ok.hd hc
    refine wpAny_pyNext_enum_itemD (Draws.tuple hd0 it a nai its.toArray) he ⟨hit, tu⟩ hsz nei (by simp [nei, Ne.symm nae]) fun x h' tk hx2 ho hst hT hs2 hk => ?_
    obtain rfl : x = u := by
      have e1 : its.toArray[i]? = some x := hx2
      have e2 : its.toArray[i]? = some u := by simpa using hu
      rw [e1] at e2
      exact Option.some.inj e2
    refine ⟨_, rfl, wpAny_letOwnedTupleGo_enum (s := { s with heap := h', toks := tk + 1 }) ho fun h2 he2 sb => ?_⟩
    have hT2 := (sb.2 _ (Nat.ne_of_gt el)).trans hT
    have new : ObjOk X.prog X.w (upd H s.heap.objs.size (.tup [.int (i : Nat), xs[i]])) h2 s.heap.objs.size (.tup [.int (i : Nat), xs[i]]) :=
      ⟨(show 2 ≤ sizeLine by decide), [.int i tk, x], .cons ⟨_, rfl⟩ (.cons ru .nil), _, hT2, rfl, _, rfl⟩
    have I1 : Inv X pins σ (upd H s.heap.objs.size (.tup [.int (i : Nat), xs[i]])) { s with heap := h2, toks := tk + 1 } :=
      I.turnedNew (ch := [e, it]) (fun b ob hb q => (sb.2 b (by rintro rfl; simp at hb)).trans (hk b ob (by rintro rfl; simp at hb) (by rintro rfl; simp at hb) q)) hf (Nat.le_refl _) new
    have ei : ((i + 1 : Nat) : Int) = (i : Int) + 1 := by omega
    refine ⟨.ref s.heap.objs.size, _, I1, rfl, ⟨_, _, rfl, I.hok.fresh (Nat.le_refl _), rfl, hx⟩, ⟨⟨x, by rw [ei]; exact he2⟩, hst.1.at fun o q => (sb.2 it (Ne.symm nei)).trans q⟩, fun b hb => ?_⟩
    have hlt2 : b < s.heap.objs.size := by
      rcases (show b = e ∨ b = it by simpa using hb) with rfl | rfl
      · exact el
      · exact il
    rw [upd_ne (Nat.ne_of_lt hlt2)]
    exact (hf b hb).1
  done := by
    intro X eP ew eK hc i pins s σ H E I hf ⟨⟨old, he⟩, hit⟩ ⟨hq, hle⟩
    subst eP ew eK
    obtain ⟨its, rv, tu, hz⟩ := I.tuple hq
    obtain ⟨f0, f1, f2, f3, f4, f5⟩ := hf it (by simp)
    have hl := rv.length
    have hd0 : X.A.in1.handled = none := I.ok.hd hc
    obtain rfl : i = its.toArray.size := by simp; omega
    exact wpAny_pyNext_enum_endD (Draws.tuple hd0 it a nai its.toArray) he ⟨hit, tu⟩ fun h' eb => ⟨rfl, I.turned (t' := s.toks) (fun b o hb q => eb b o hb q) f0 f1 f3 f4 f5⟩
  self := fun A i s Q E ⟨⟨_, he⟩, _⟩ h => wpAny_pyIter_enum he h
def iEnumT (K : PySem.W.Frag) (ta : TA) : TI := fun σ H R => ta σ H fun vs H1 => ∃ a xs, vs = [.ref a] ∧ SqT K H1 a xs ∧ R (IteT K a xs) H1
theorem pi_enumT {X : Cx} {e : Expr} {ta : TA} {p pos tpos : Pos} {elts : List Expr} {kk : Nat} (hg : Gl X "enumerate") (hm : X.mg "enumerate" = none) (ha : PA X [e] ta) (hs : starEach [e] X.env = [(false, eval e X.env)] := by rfl) :
    PI X (.Tuple elts kk tpos) (.Call (.Name "enumerate" p) [e] [] pos) (iEnumT X.K ta) := by
  constructor
  intro pins s σ H R I h
  refine Call_ (ld_blt I hg hm boot_enumerate (PyProof.Rows.callWith_type1 (thn (ha.run pos pins s σ H _ I h) fun us s1 ⟨vs, H1, I1, r1, a, xs, ev, hq, q⟩ => ?_) hs rfl))
  subst ev
  cases r1 with
  | cons ra rr =>
    cases rr
    cases ra
    obtain ⟨its, rv, tu, hz⟩ := I1.tuple hq
    have la : a < s1.heap.objs.size := by obtain ⟨o, ho, _⟩ := tu; exact Heap.lt_size ho
    refine om_enum_call (begins_tuple a its.toArray) tu fun h' he hi hk => wpAny_pyIter_enum he ?_
    have I2 : Inv X pins σ H1 { s1 with heap := h' } := I1.kept (t' := s1.toks) hk
    refine ⟨s1.heap.objs.size + 1, [s1.heap.objs.size + 1, s1.heap.objs.size], _, _, H1, rfl, I2, turn_enumT (a := a) (xs := xs) (Nat.ne_of_lt (Nat.lt_succ_of_lt la)) (Nat.ne_of_lt la) (Nat.succ_ne_self _), ⟨⟨.none, he⟩, _, hi, rfl, rfl⟩, fun b hb => ?_, q⟩
    have hb2 : s1.heap.objs.size ≤ b := by
      rcases (show b = s1.heap.objs.size + 1 ∨ b = s1.heap.objs.size by simpa using hb) with rfl | rfl
      · omega
      · exact Nat.le_refl _
    exact I1.fpOk hb2 (I1.hok.fresh hb2)
/-- for i, x in enumerate(t): one turn from Pv i to Pv (i + 1) -/
theorem for_enumT {K : PySem.W.Frag} {a : Addr} {xs : List V} {g : TG} {tb : TS} {D : Ends} {σ : L2.St} {H : Hp} (Pv : Nat → L2.St → Hp → Prop) (h0 : Pv 0 σ H) (hl : ∀ i σ H, i ≤ xs.length → Pv i σ H → SqT K H a xs)
    (hs : ∀ i x T σ H, xs[i]? = some x → Pv i σ H → H T = none → g (.ref T) σ (upd H T (.tup [.int (i : Nat), x])) fun σ2 H2 => tb { D with nx := Pv (i + 1), ct := Pv (i + 1), bk := D.nx } σ2 H2) (hd : ∀ σ H, Pv xs.length σ H → D.nx σ H) :
    ∃ W : Nat → Nat → L2.St → Hp → Prop, (∃ m, W 0 m σ H) ∧ ∀ i m σ H, W i m σ H → ((IteT K a xs).stop i H ∧ D.nx σ H) ∨ ((IteT K a xs).go i H ∧ ∃ Nx : L2.St → Hp → Prop, (∀ σ' H', Nx σ' H' → ∃ m', m' < m ∧ W (i + 1) m' σ' H') ∧
      ∀ x H', (IteT K a xs).yld i H x H' → g x σ H' fun σ2 H2 => tb { D with nx := Nx, ct := Nx, bk := D.nx } σ2 H2) := by
  refine ⟨fun i m σ H => m = xs.length - i ∧ i ≤ xs.length ∧ Pv i σ H, ⟨xs.length, by omega, Nat.zero_le _, h0⟩, ?_⟩
  rintro i m σ H ⟨rfl, hi, p⟩
  have q := hl i σ H hi p
  by_cases hlt : i < xs.length
  · refine .inr ⟨⟨q, hlt⟩, Pv (i + 1), fun σ' H' p' => ⟨xs.length - (i + 1), by omega, rfl, hlt, p'⟩, fun x H' hy => ?_⟩
    obtain ⟨T, y, rfl, hT, rfl, hx⟩ := hy
    exact hs i y T σ H hx p hT
  · obtain rfl : i = xs.length := by omega
    exact .inl ⟨⟨q, rfl⟩, hd σ H p⟩
end Om

/-! the first wrong sign of rows: the program's way and the law's -/
namespace Om
def okB (c : Nat) : Bool := decide (c = 46 ∨ c = 126 ∨ (65 ≤ c ∧ c ≤ 90))
theorem okB_iff (c : Nat) : okB c = true ↔ okSign c := by unfold okB okSign; exact decide_eq_true_iff
/-- the first of n columns from i on that is missing or wrong -/
def fw (r : List Nat) : Nat → Nat → Option Nat
  | 0, _ => none
  | n + 1, i => if i = r.length ∨ okB (r.getD i 0) = false then some i else fw r n (i + 1)
def fwEnd (r : List Nat) (wd : Nat) : Option Nat := if wd < r.length then some wd else none
def orElse' (a b : Option Nat) : Option Nat := match a with
  | some c => some c
  | none => b
def fwc (r : List Nat) (wd : Nat) : Option Nat := orElse' (fw r wd 0) (fwEnd r wd)
def chkF (wd : Nat) : List (List Nat) → Nat → Option (Nat × Nat)
  | [], _ => none
  | r :: rs, i => if i = 12 then some (i, 0) else match fwc r wd with
    | some c => some (i, c)
    | none => chkF wd rs (i + 1)
def wdOf (r : List Nat) : Nat := max 1 (min r.length 12)
def chk : List (List Nat) → Option (Nat × Nat)
  | [] => some (0, 0)
  | r :: rs => chkF (wdOf r) (r :: rs) 0
def dc (w0 : Nat) (r : List Nat) : Nat → Nat → Option Nat
  | 0, _ => none
  | n + 1, i => if 12 ≤ i ∨ w0 ≤ i ∨ okB (r.getD i 0) = false then some i else dc w0 r n (i + 1)
def dcEnd (w0 : Nat) (r : List Nat) : Option Nat := if r.length < w0 then some r.length else none
def dcc (w0 : Nat) (r : List Nat) : Option Nat := orElse' (dc w0 r r.length 0) (dcEnd w0 r)
def dueF (w0 : Nat) : List (List Nat) → Nat → Option (Nat × Nat)
  | [], _ => none
  | r :: rs, i => if i = 12 then some (12, 0) else match dcc w0 r with
    | some c => some (i, c)
    | none => dueF w0 rs (i + 1)
def due : List (List Nat) → Option (Nat × Nat)
  | [] => some (0, 0)
  | [] :: _ => some (0, 0)
  | (c :: r) :: rs => dueF (r.length + 1) ((c :: r) :: rs) 0
theorem row_same {r : List Nat} {w0 wd : Nat} (hwd : wd = min w0 12) (hc : w0 ≤ 12 ∨ r.length = w0) :
    ∀ (m i n k : Nat), m = wd - i → i ≤ wd → i ≤ r.length → n = wd - i → k = r.length - i → orElse' (fw r n i) (fwEnd r wd) = orElse' (dc w0 r k i) (dcEnd w0 r) := by
  intro m
  induction m with
  | zero =>
    intro i n k hm hi hr hn hk
    obtain rfl : i = wd := by omega
    obtain rfl : n = 0 := by omega
    show fwEnd r i = _
    unfold fwEnd
    by_cases hl : i < r.length
    · rw [if_pos hl]
      obtain ⟨k', rfl⟩ : ∃ k', k = k' + 1 := ⟨k - 1, by omega⟩
      unfold dc
      rw [if_pos (by omega)]
      rfl
    · rw [if_neg hl]
      obtain rfl : k = 0 := by omega
      show none = dcEnd w0 r
      unfold dcEnd
      rw [if_neg (by omega)]
  | succ m ih =>
    intro i n k hm hi hr hn hk
    obtain ⟨n', rfl⟩ : ∃ n', n = n' + 1 := ⟨n - 1, by omega⟩
    by_cases he : i = r.length
    · obtain rfl : k = 0 := by omega
      unfold fw
      rw [if_pos (.inl he)]
      show some i = dcEnd w0 r
      unfold dcEnd
      rw [if_pos (by omega), he]
    · obtain ⟨k', rfl⟩ : ∃ k', k = k' + 1 := ⟨k - 1, by omega⟩
      unfold fw dc
      by_cases hb : okB (r.getD i 0) = false
      · rw [if_pos (.inr hb), if_pos (.inr (.inr hb))]
        rfl
      · rw [if_neg (by intro h; rcases h with h | h; exact he h; exact hb h), if_neg (by intro h; rcases h with h | h | h; omega; omega; exact hb h)]
        exact ih (i + 1) n' k' (by omega) (by omega) (by omega) (by omega) (by omega)
theorem fwc_dcc {r : List Nat} {w0 : Nat} (hc : w0 ≤ 12 ∨ r.length = w0) : fwc r (min w0 12) = dcc w0 r :=
  row_same (wd := min w0 12) rfl hc _ 0 _ _ rfl (Nat.zero_le _) (Nat.zero_le _) rfl rfl
theorem chkF_dueF {w0 : Nat} (h : w0 ≤ 12) : ∀ (rs : List (List Nat)) (i : Nat), chkF (min w0 12) rs i = dueF w0 rs i
  | [], _ => rfl
  | r :: rs, i => by
    unfold chkF dueF
    by_cases hi : i = 12
    · rw [if_pos hi, if_pos hi, hi]
    · rw [if_neg hi, if_neg hi, fwc_dcc (.inl h), chkF_dueF h rs (i + 1)]
theorem chk_due : ∀ rows : List (List Nat), chk rows = due rows
  | [] => rfl
  | [] :: rs => rfl
  | (c :: r) :: rs => by
    have hw : wdOf (c :: r) = min (r.length + 1) 12 := by unfold wdOf; simp only [List.length_cons]; omega
    show chkF (wdOf (c :: r)) ((c :: r) :: rs) 0 = dueF (r.length + 1) ((c :: r) :: rs) 0
    rw [hw]
    by_cases h : r.length + 1 ≤ 12
    · exact chkF_dueF h _ 0
    · unfold chkF dueF
      rw [if_neg (by decide), if_neg (by decide), fwc_dcc (r := c :: r) (w0 := r.length + 1) (.inr rfl)]
      have hs : ∃ x, dcc (r.length + 1) (c :: r) = some x := by
        rw [← fwc_dcc (r := c :: r) (w0 := r.length + 1) (.inr rfl)]
        unfold fwc fwEnd
        cases hf : fw (c :: r) (min (r.length + 1) 12) 0 with
        | some x => exact ⟨x, rfl⟩
        | none => exact ⟨_, if_pos (by simp only [List.length_cons]; omega)⟩
      obtain ⟨x, hx⟩ := hs
      rw [hx]
/-- rows that are good -/
theorem fw_none {r : List Nat} (h : ∀ c ∈ r, okSign c) : ∀ n i, i + n ≤ r.length → fw r n i = none
  | 0, _, _ => rfl
  | n + 1, i, hi => by
    unfold fw
    have h1 : okB (r.getD i 0) = true := by
      rw [okB_iff, List.getD_eq_getElem?_getD, List.getElem?_eq_getElem (by omega)]
      exact h _ (List.getElem_mem _)
    rw [if_neg (by rintro (h | h); · omega
                   · rw [h1] at h; cases h), fw_none h n (i + 1) (by omega)]
theorem chkF_none {wd : Nat} : ∀ (rs : List (List Nat)) (i : Nat), i + rs.length ≤ 12 → (∀ r ∈ rs, r.length = wd ∧ ∀ c ∈ r, okSign c) → chkF wd rs i = none
  | [], _, _, _ => rfl
  | r :: rs, i, hi, h => by
    obtain ⟨h1, h2⟩ := h r (List.mem_cons_self ..)
    unfold chkF
    have e : fwc r wd = none := by
      unfold fwc fwEnd
      rw [fw_none h2 wd 0 (by omega), if_neg (by omega)]
      rfl
    simp only [List.length_cons] at hi
    rw [if_neg (by omega), e]
    exact chkF_none rs (i + 1) (by omega) fun r hr => h r (List.mem_cons_of_mem _ hr)
theorem chk_rows {m : Nat} {rows : List (List Nat)} (h : RowsOk m rows) (hm : m ≤ 12) : chk rows = none := by
  obtain ⟨h1, h2, wd, w1, w2, hr⟩ := h
  cases rows with
  | nil => simp at h1
  | cons r rs =>
    have e := (hr r (List.mem_cons_self ..)).1
    have hw : wdOf r = wd := by unfold wdOf; omega
    show chkF (wdOf r) (r :: rs) 0 = none
    rw [hw]
    exact chkF_none _ 0 (by omega) hr
end Om

namespace Om
open PySem PySem.Spec PyProof.Rows L2
abbrev sFwc : Stmt := top 19
abbrev sChk : Stmt := top 18
abbrev sII : Stmt := inClass (top 7) 0
abbrev sIslI : Stmt := inClass (top 16) 0
def allSigns : Str := Str.ofString ".ABCDEFGHIJKLMNOPQRSTUVWXYZ~"
theorem allSigns_cps : allSigns.cps.toList = [46, 65, 66, 67, 68, 69, 70, 71, 72, 73, 74, 75, 76, 77, 78, 79, 80, 81, 82, 83, 84, 85, 86, 87, 88, 89, 90, 126] := by decide +kernel
theorem mem_allSigns (c : Nat) : decide (c ∈ allSigns.cps.toList) = okB c := by
  rw [allSigns_cps]
  unfold okB
  apply decide_eq_decide.mpr
  simp only [List.mem_cons, List.not_mem_nil, or_false]
  omega
def optV : Option Nat → V
  | some c => .int (c : Nat)
  | none => .non
def spFwc : Sp := fun vs H Q _ => ∃ (r : List Nat) (wd : Nat), vs = [.str (tx r), .int wd] ∧ r.length ≤ 1000 ∧ wd ≤ 12 ∧ Q (optV (fwc r wd)) H
theorem small_le {n : Nat} (h : n ≤ 1000) : n ≤ sizeLine := Nat.le_of_lt (small1000 h)
theorem fw_succ (r : List Nat) (n i : Nat) : fw r (n + 1) i = if i = r.length ∨ okB (r.getD i 0) = false then some i else fw r n (i + 1) := rfl
section
variable {P : Program} {w : World} {K : PySem.W.Frag} {mg : Str → Option Value} {base : Heap}
theorem scFwc : FnScope ["signs", "width", "column"] ["signs", "width"] (defScope sFwc) := ⟨rfl, rfl, rfl, by decide +kernel, rfl, by decide +kernel, by decide +kernel⟩
theorem ok_fwc {f : Addr} {fd : FuncData} (F : FnP K "_first_wrong_column" "_first_wrong_column" sFwc f fd) (grange : mg "range" = none) (glen : mg "len" = none) (gall : ∃ t, mg "ALL_SIGNS" = some (.str allSigns t)) :
    FnOk P w K mg base CX0 1 f fd ["signs", "width"] spFwc := by
  obtain ⟨t0, gall⟩ := gall
  refine F.ok scFwc (fun vs H Q E h => ?_) (fun cdv A outer s H vs Q E hr h => ?_)
  · obtain ⟨r, wd, rfl, _⟩ := h
    rfl
  · obtain ⟨r, wd, rfl, hl, hw, k⟩ := h
    have nd := scFwc.nd
    have hl2 : (tx r).length ≤ sizeLine := by rw [tx_len]; exact small_le hl
    refine ⟨_, PSs.nox (pss_cons (ps_for PassesOwn.never rfl (pi_range1 rfl grange (pa_cons (pv 1) pa_nil)) (pg_name (i := 2) nd rfl (.inl rfl))
        (pss_one (ps_if (PW.pt (pw_or (pt_cmpR op_eq (pv 2) (pe_callB call_len_str (by rfl) glen PySem.boot_len (pa_cons (pv 0) pa_nil)) (nomark _))
            (pw_or1 (pt_cmpR op_notIn_sign (pe_ix ix_str (pv 0) (pv 2) (fun _ _ => rfl)) (pe_glob (v := .str allSigns) rfl gall ⟨_, rfl⟩) rfl)))) (pss_one (ps_ret (pv 2))) pss_nil)))
      (pss_cons (ps_if (pt_cmpR op_gt (pe_callB call_len_str (by rfl) glen PySem.boot_len (pa_cons (pv 0) pa_nil)) (pv 1) (nomark _)) (pss_one (ps_ret (pv 1))) pss_nil)
      (pss_one (ps_ret pe_non)))), ?_⟩
    refine ⟨_, rfl, _, rfl, by omega, by omega, for_range (lo := 0) (n := (wd : Int).toNat) (fun i σ H' => H' = H ∧ (∃ v, σ = [some (.str (tx r)), some (.int wd), v]) ∧ fw r wd 0 = fw r (wd - i) i ∧ i ≤ r.length) ⟨rfl, ⟨none, rfl⟩, rfl, Nat.zero_le _⟩ ?_ ?_⟩
    · rintro i σ H' hi ⟨rfl, ⟨v, rfl⟩, hf, hir⟩
      have hi' : i < wd := by omega
      obtain ⟨n, hn⟩ : ∃ n, wd - i = n + 1 := ⟨wd - i - 1, by omega⟩
      have hn2 : n = wd - (i + 1) := by omega
      rw [hn, fw_succ] at hf
      refine ⟨_, rfl, _, rfl, _, rfl, hl2, rfl, _, rfl, ?_⟩
      have e1 : decide (V.int (0 + (i : Int)) = V.int ((tx r).length : Nat)) = decide (i = r.length) := by
        rw [tx_len]
        apply decide_eq_decide.mpr
        constructor
        · intro h; injection h with h; omega
        · intro h; subst h; rw [Int.zero_add]
      have ret : (i = r.length ∨ okB (r.getD i 0) = false) → Q (.int (0 + (i : Int))) H' := fun h => by
        rw [if_pos h] at hf
        have e2 : fwc r wd = some i := by
          unfold fwc
          rw [hf]
          rfl
        rw [e2] at k
        rw [Int.zero_add]
        exact k
      show (if decide (V.int (0 + (i : Int)) = V.int ((tx r).length : Nat)) = true then _ else _)
      rw [e1]
      refine ite2 (fun hz => ?_) (fun hz => ?_)
      · refine iteT ⟨_, rfl, ?_⟩
        exact ret (.inl (of_decide_eq_true hz))
      · have hne : i ≠ r.length := fun e => hz (decide_eq_true e)
        have hlt : i < r.length := by omega
        · refine ⟨_, rfl, _, rfl, _, _, r[i], rfl, rfl, hl2, ?_, _, _, rfl, rfl, _, rfl, ?_⟩
          · rw [tx_cps, Int.zero_add]
            exact atI_nat (by simp [hlt])
          · rw [mem_allSigns]
            have e3 : r.getD i 0 = r[i] := by rw [List.getD_eq_getElem?_getD, List.getElem?_eq_getElem hlt]; rfl
            rw [e3] at ret hf
            cases hb : okB r[i] with
            | false =>
              refine iteT ⟨_, rfl, ?_⟩
              exact ret (.inr hb)
            | true =>
              refine iteF ?_
              refine ⟨rfl, ⟨_, rfl⟩, ?_, hlt⟩
              rw [hf, if_neg (by rintro (h | h); · exact hne h
                                 · rw [hb] at h; cases h), hn2]
    · rintro σ H' ⟨rfl, ⟨v, rfl⟩, hf, hir⟩
      have e0 : (wd : Int).toNat = wd := by omega
      rw [e0, Nat.sub_self] at hf
      have hf : fw r wd 0 = none := hf
      refine ⟨_, rfl, _, rfl, hl2, _, rfl, _, _, rfl, rfl, _, rfl, ?_⟩
      have e2 : fwc r wd = fwEnd r wd := by
        unfold fwc
        rw [hf]
        rfl
      rw [e2] at k
      rw [tx_len]
      refine ite2 (fun hz => ?_) (fun hz => ?_)
      · have hz' : (wd : Int) < (r.length : Nat) := of_decide_eq_true hz
        refine ⟨_, rfl, ?_⟩
        unfold fwEnd at k
        rw [if_pos (by omega)] at k
        exact k
      · have hz' : ¬ (wd : Int) < (r.length : Nat) := fun h => hz (decide_eq_true h)
        unfold fwEnd at k
        rw [if_neg (by omega)] at k
        exact k
end
end Om

namespace Om
open PySem PySem.Spec PyProof.Rows L2
/-- what the top says of InvalidIsland, at C, its __init__ at fI -/
structure IsI (K : PySem.W.Frag) (mg : Str → Option Value) (C fI : Addr) : Prop where
  oex : OexC K C
  noR : PySem.W.findIn K (.ref C) "row" = some none
  noC : PySem.W.findIn K (.ref C) "column" = some none
  iC : PySem.W.findIn K (.ref C) "__init__" = some (some (.ref fI))
  tI : PySem.W.typeIn K (.ref fI) = some (.type "function")
  gC : mg "InvalidIsland" = some (.ref C)
def xdII (x y : V) : List (Str × V) := [(("column" : Str), y), (("row" : Str), x)]
def spII (C : Addr) : Sp := fun vs H Q _ => ∃ (a : Addr) (x y : V), vs = [.ref a, x, y] ∧ H a = some (exo a C none) ∧
  ∀ dx, H dx = none → dx ≠ a → Q .non (upd (upd (upd H dx (exd dx [(("row" : Str), x)])) a (exo a C (some dx))) dx (exd dx (xdII x y)))
theorem mkII {C : Addr} {H1 : Hp} {W : XK} {x y : V} (k : ∀ d H', H1 d = none → Same H1 H' → H' d = some (.xd (xdII x y)) → W (.ref C) (some d) H') :
    [x, y].length ≤ 1000 ∧ ∀ a, H1 a = none → spII C (.ref a :: ([x, y] ++ [])) (upd H1 a (exo a C none)) (fun v H2 => v = .non ∧ ∃ (d : Addr) (fs : List (Str × V)), H2 a = some (exo a C (some d)) ∧ H2 d = some (exd d fs) ∧ H1 d = none ∧ W (.ref C) (some d) (upd (del H2 a) d (.xd fs))) (fun _ _ _ => False) := by
  refine ⟨by simp, fun a ha => ⟨a, x, y, rfl, upd_same, fun dx h1 h2 => ⟨rfl, dx, _, ?_, upd_same, ?_, ?_⟩⟩⟩
  · rw [upd_ne (Ne.symm h2), upd_same]
  · rw [upd_ne h2] at h1; exact h1
  · rw [upd_ne h2] at h1
    refine k dx _ h1 (fun c o hc => ?_) upd_same
    have n1 : c ≠ dx := ne_of_none hc h1
    have n2 : c ≠ a := ne_of_none hc ha
    rw [upd_ne n1, del_ne n2, upd_ne n1, upd_ne n2, upd_ne n1, upd_ne n2]
    exact hc
theorem Same.tup {K : PySem.W.Frag} {H H' : Hp} {a : Addr} {xs : List V} (e : Same H H') (h : SqT K H a xs) : SqT K H' a xs := by
  rcases h with (h | ⟨o, h⟩) | h
  · exact .inl (.inl (e _ _ h))
  · exact .inl (.inr ⟨o, e _ _ h⟩)
  · exact .inr h
theorem chkF_cons (wd : Nat) (r : List Nat) (rs : List (List Nat)) (i : Nat) : chkF wd (r :: rs) i = if i = 12 then some (i, 0) else match fwc r wd with
    | some c => some (i, c)
    | none => chkF wd rs (i + 1) := rfl
def spChk (K : PySem.W.Frag) (C : Addr) : Sp := fun vs H Q E => ∃ (a : Addr) (rows : List (List Nat)), vs = [.ref a] ∧ SqT K H a (rows.map vt) ∧ rows.length ≤ 1000 ∧ (∀ r ∈ rows, r.length ≤ 1000) ∧
  (chk rows = none → ∀ H', Same H H' → Q .non H') ∧ ∀ r c, chk rows = some (r, c) → ∀ d H', H d = none → Same H H' → H' d = some (.xd (xdII (.int (r : Nat)) (.int (c : Nat)))) → E (.ref C) (some d) H'
section
variable {P : Program} {w : World} {K : PySem.W.Frag} {mg : Str → Option Value} {base : Heap} {C fI : Addr}
theorem scII : FnScope ["self", "row", "column"] ["self", "row", "column"] (defScope sII) := ⟨rfl, rfl, rfl, by decide +kernel, rfl, by decide +kernel, by decide +kernel⟩
theorem ok_II {fd : FuncData} (F : FnP K "__init__" "InvalidIsland.__init__" sII fI fd) (T : IsI K mg C fI) : FnOk P w K mg base CX0 1 fI fd ["self", "row", "column"] (spII C) := by
  refine F.ok scII (fun vs H Q E h => ?_) (fun cdv A outer s H vs Q E hr h => ?_)
  · obtain ⟨a, x, y, rfl, _⟩ := h
    rfl
  · obtain ⟨a, x, y, rfl, ha, k⟩ := h
    refine ⟨_, PSs.nox (pss_cons (ps_ost (pv 0) (pv 1)) (pss_one (ps_ost (pv 0) (pv 2)))), ?_⟩
    refine ⟨_, rfl, _, rfl, a, C, rfl, T.oex, T.noR, .inl ⟨ha, fun dx h1 h2 => ?_⟩⟩
    exact ⟨_, rfl, _, rfl, a, C, rfl, T.oex, T.noC, .inr ⟨dx, _, upd_same, (by rw [upd_ne h2]; exact upd_same), by simp, k dx h1 h2⟩⟩
abbrev nChk : List Str := ["rows", "width", "row", "signs", "column"]
theorem scChk : FnScope nChk ["rows"] (defScope sChk) := ⟨rfl, rfl, rfl, by decide +kernel, rfl, by decide +kernel, by decide +kernel⟩
theorem ok_chk {f : Addr} {fd fdI : FuncData} (F : FnP K "_check_rows" "_check_rows" sChk f fd) (T : IsI K mg C fI) (FI : FnOk P w K mg base CX0 1 fI fdI ["self", "row", "column"] (spII C)) (bI : Binds K fdI ["self", "row", "column"] [])
    (G : Cal P w K mg base CX0 1 "_first_wrong_column" ["signs", "width"] spFwc) (glen : mg "len" = none) (gmax : mg "max" = none) (gmin : mg "min" = none) (genum : mg "enumerate" = none) (glg : ∃ t, mg "LARGEST" = some (.int 12 t)) :
    FnOk P w K mg base (L2.CX P w) 3 f fd ["rows"] (spChk K C) := by
  obtain ⟨t0, glg⟩ := glg
  refine F.ok scChk (fun vs H Q E h => ?_) (fun cdv A outer s H vs Q E hr h => ?_)
  · obtain ⟨a, rows, rfl, _⟩ := h
    rfl
  · obtain ⟨a, rows, rfl, hS, hl, hrl, kN, kS⟩ := h
    have nd := scChk.nd
    have hr1 : Room 1 _ := hr.mono (by decide)
    refine ⟨_, pss_cons (ps_if (pt_cmpR op_eq (pe_callB call_len_seq (by rfl) glen PySem.boot_len (pa_cons (pv 0) pa_nil)) pe_int (nomark _))
          (pss_one (ps_raise rfl (takes_of rfl rfl rfl rfl) (pmk_oex T.oex T.iC T.tI FI hr bI .nil pass0 rfl T.gC (pa_cons pe_int (pa_cons pe_int pa_nil))))) pss_nil)
      (pss_cons (ps_set (i := 1) nd rfl (.inl rfl) (pe_callB (call_max2 rfl) (by rfl) gmax (by decide +kernel) (pa_cons pe_int (pa_cons
          (pe_callB (call_min2 rfl) (by rfl) gmin (by decide +kernel) (pa_cons (pe_callB call_len_str (by rfl) glen PySem.boot_len (pa_cons (pe_ix ix_tup (pv 0) pe_int (fun _ _ => rfl)) pa_nil)) (pa_cons (pe_glob (v := .int 12) rfl glg ⟨_, rfl⟩) pa_nil))) pa_nil))))
      (pss_one (ps_for (passes_of rfl) rfl (pi_enumT rfl genum (pa_cons (pv 0) pa_nil)) (pg_tup rfl (pgs_cons (pg_name (i := 2) nd rfl (.inl rfl)) (pgs_cons (pg_name (i := 3) nd rfl (.inl rfl)) pgs_nil)))
        (pss_cons (ps_if (pt_cmpR op_eq (pv 2) (pe_glob (v := .int 12) rfl glg ⟨_, rfl⟩) (nomark _))
            (pss_one (ps_raise rfl (takes_of rfl rfl rfl rfl) (pmk_oex T.oex T.iC T.tI FI hr bI .nil pass0 rfl T.gC (pa_cons (pv 2) (pa_cons pe_int pa_nil))))) pss_nil)
        (pss_cons (ps_set (i := 4) nd rfl (.inl rfl) (pe_cal G hr1 pass0 (pa_cons (pv 3) (pa_cons (pv 1) pa_nil))))
        (pss_one (ps_if (pt_cmpR op_notN (pv 4) pe_non (nomark _))
            (pss_one (ps_raise rfl (takes_of rfl rfl rfl rfl) (pmk_oex T.oex T.iC T.tI FI hr bI .nil pass0 rfl T.gC (pa_cons (pv 2) (pa_cons (pv 4) pa_nil))))) pss_nil))))))), ?_⟩
    refine ⟨_, rfl, a, _, rfl, .inr hS, rfl, _, rfl, ?_⟩
    cases rows with
    | nil =>
      refine iteT ?_
      exact mkII (W := E) fun d H' h1 h2 h3 => kS 0 0 rfl d H' h1 h2 h3
    | cons r0 rs =>
      have hne : ¬ decide (V.int (((r0 :: rs).map vt).length : Nat) = V.int 0) = true := fun h => by
        have h := of_decide_eq_true h
        injection h with h
        simp only [List.length_map, List.length_cons] at h
        omega
      rw [if_neg hne]
      have hr0 : (tx r0).length ≤ sizeLine := by rw [tx_len]; exact small_le (hrl r0 (List.mem_cons_self ..))
      refine ⟨_, rfl, a, _, 0, _, rfl, rfl, hS, at0, _, rfl, hr0, _, _, rfl, _, _, rfl, ?_⟩
      have ew : (if (if (12 : Int) < ((tx r0).length : Nat) then (12 : Int) else ((tx r0).length : Nat)) > 1 then (if (12 : Int) < ((tx r0).length : Nat) then (12 : Int) else ((tx r0).length : Nat)) else 1) = ((wdOf r0 : Nat) : Int) := by
        rw [tx_len]
        unfold wdOf
        split <;> split <;> omega
      rw [ew]
      have hwd : wdOf r0 ≤ 12 := by unfold wdOf; omega
      refine ⟨_, rfl, a, _, rfl, hS, for_enumT (K := K) (a := a) (xs := (r0 :: rs).map vt) (fun i σ H' => Same H H' ∧ (∃ v2 v3 v4, σ = [some (.ref a), some (.int (wdOf r0 : Nat)), v2, v3, v4]) ∧ chk (r0 :: rs) = chkF (wdOf r0) ((r0 :: rs).drop i) i)
        ⟨Same.refl H, ⟨_, _, _, rfl⟩, rfl⟩ (fun i σ H' _ p => Same.tup p.1 hS) ?_ ?_⟩
      · rintro i x T1 σ H1 hx ⟨sm, ⟨v2, v3, v4, rfl⟩, hc⟩ hT1
        rw [List.getElem?_map] at hx
        cases hri : (r0 :: rs)[i]? with
        | none => rw [hri] at hx; cases hx
        | some r =>
          rw [hri] at hx
          obtain rfl : vt r = x := Option.some.inj hx
          have hlt : i < (r0 :: rs).length := (List.getElem?_eq_some_iff.mp hri).1
          have hre : (r0 :: rs)[i] = r := (List.getElem?_eq_some_iff.mp hri).2
          have hmem : r ∈ r0 :: rs := hre ▸ List.getElem_mem hlt
          rw [List.drop_eq_getElem_cons hlt, hre, chkF_cons] at hc
          have sm1 : Same H (upd H1 T1 (.tup [.int (i : Nat), vt r])) := Same.new sm hT1
          refine ⟨T1, _, rfl, .inl (.inl upd_same), rfl, _, _, rfl, _, _, rfl, rfl, ?_⟩
          refine ⟨_, rfl, rfl, _, rfl, ?_⟩
          refine ite2 (fun hz => ?_) (fun hz => ?_)
          · have hz := of_decide_eq_true hz
            injection hz with hz
            have hi : i = 12 := by omega
            rw [if_pos hi] at hc
            refine ⟨_, rfl, ?_⟩
            exact mkII (W := E) fun d H' h1 h2 h3 => kS i 0 hc d H' (Same.free sm1 h1) (sm1.trans h2) h3
          · have hi : i ≠ 12 := fun h => hz (decide_eq_true (by rw [h]; rfl))
            rw [if_neg hi] at hc
            refine ⟨_, rfl, _, rfl, r, wdOf r0, rfl, hrl r hmem, hwd, ?_⟩
            refine ⟨_, rfl, rfl, _, rfl, ?_⟩
            cases hf : fwc r (wdOf r0) with
            | none =>
              rw [hf] at hc
              refine iteF ?_
              exact ⟨sm1, ⟨_, _, _, rfl⟩, hc⟩
            | some c =>
              rw [hf] at hc
              refine iteT ⟨_, rfl, _, rfl, ?_⟩
              exact mkII (W := E) fun d H' h1 h2 h3 => kS i c hc d H' (Same.free sm1 h1) (sm1.trans h2) h3
      · rintro σ H1 ⟨sm, ⟨v2, v3, v4, rfl⟩, hc⟩
        have e0 : (r0 :: rs).drop ((r0 :: rs).map vt).length = [] := by simp
        rw [e0] at hc
        exact kN hc H1 sm
end
end Om

/-! a lambda handed to a def, its parameters all with a written default; what it raises is wished for at the slots of the def that calls it -/
namespace Om
open PySem PySem.Spec PyProof.Rows L2 LamX
/-- the function object: as the library's, its defaults dV -/
abbrev lamFd (qual : Str) (params : Arguments) (body : Expr) (scope : Scope) (cl : List (Str × Addr)) (pm : Value) (c' : Addr) (ctv dV : Value) : FuncData :=
  { PySem.W.kla_fn "<lambda>" qual params body scope cl pm (.ref c') ctv with defaults := dV }
abbrev lamOb (qual : Str) (params : Arguments) (body : Expr) (scope : Scope) (cl : List (Str × Addr)) (pm : Value) (c' : Addr) (ctv dV : Value) : Obj :=
  { cls := .type "function", data := .func (lamFd qual params body scope cl pm c' ctv dV) }
section
variable {M : Model} {A : Around} {E : Value → Shared → Prop} {s : Shared} {qual : Str} {params : Arguments} {body : Expr} {scope : Scope} {env : Env} {c P : Addr} {ps : Array Value} {pos : Pos} {fl : Nat} {mg : Str → Option Value}
  {clos : List (Str × Addr)} {Q : Value → Shared → Prop} {dV : Value}
/-- its code object is new -/
theorem tail_new (e1 : closureFor scope env = pure clos) (e2 : env.globals = mainGlobals) (e3 : s.heap.Ns mainGlobals mg) (e4 : env.code = .ref c) (e5 : PySem.W.CodeHd s.heap c P) (e6 : s.heap.get? P = some { cls := .none, data := .fields ps })
    (e7 : TriplesOk ps.toList) (e8 : codeAmong pos ps.toList = none) (e9 : mainGlobals ≠ P) (e10 : s.heap.BuiltinsAt mg P)
    (k : ∀ c' ctv h' tk, Heap.ExtBut P s.heap h' → s.heap.objs.size ≤ c' → c' < h'.objs.size → h'.CodeRec (.ref c') qual → h'.get? P = some { cls := .none, data := .fields (ps ++ #[rawInt pos.line, rawInt pos.col, .ref c']) } →
      Q (.ref h'.objs.size) { s with heap := h'.push (lamOb qual params body scope clos ((mg "__name__").getD .none) c' ctv dV), toks := tk }) :
    wpAny M A (makeTail "<lambda>" qual params (.expr body) scope env dV .none none pos fl) Q E s := by
  obtain ⟨b1, o1, g1, g2, _, g3, g4, g5, g6, g7⟩ := e10
  unfold makeTail
  rw [e1, e2]
  refine wpAny_bind (wpAny_pure ?_)
  cases clos with
  | nil =>
    simp only [List.isEmpty_nil, if_true]
    refine wpAny_bind (wpAny_pure (wpAny_bind (wpAny_functionCodeX e4 (e5.code e6 e7) (e5.tab e6) e8 fun c' h' tk x1 x2 x3 _ x4 x5 _ => ?_)))
    have G2 := e3.extBut x1 e9
    exact wpAny_bind (wpAny_builtinsFor G2 g1 g2 (x1 _ _ g3 g4) g5 g6 g7 (wpAny_bind (wpAny_nsGet G2 (wpAny_bind (wpAny_pure (wpAny_newObj_type (k c' .none h' tk x1 x2 x3 x4 x5.2) (by size_fits)))))))
  | cons q r =>
    simp only [List.isEmpty_cons, Bool.false_eq_true, if_false]
    refine wpAny_bind (wpAny_newTextTuple ?_)
    have kp : ∀ (oT : Obj) (b : Addr) (o : Obj), s.heap.get? b = some o → (s.heap.push oT).get? b = some o := fun oT b o e => Heap.get?_push_of_some _ e
    refine wpAny_bind (wpAny_functionCodeX e4 ((e5.keeps (kp _)).code (kp _ _ _ e6) e7) ((e5.keeps (kp _)).tab (kp _ _ _ e6)) e8 fun c' h' tk x1 x2 x3 _ x4 x5 _ => ?_)
    have ex : Heap.ExtBut P s.heap h' := fun b o hb e => x1 b o hb (kp _ b o e)
    have G2 := (e3.push _).extBut x1 e9
    have sz : s.heap.objs.size ≤ c' := Nat.le_trans (by rw [Heap.size_push]; omega) x2
    exact wpAny_bind (wpAny_builtinsFor G2 g1 g2 (ex _ _ g3 g4) g5 g6 g7 (wpAny_bind (wpAny_nsGet G2 (wpAny_bind (wpAny_pure (wpAny_newObj_type (k c' _ h' tk ex sz x3 x4 x5.2) (by size_fits)))))))
/-- its code object stands in the table -/
theorem tail_hit {cv : Value} (e1 : closureFor scope env = pure clos) (e2 : env.globals = mainGlobals) (e3 : s.heap.Ns mainGlobals mg) (e4 : env.code = .ref c) (e5 : PySem.W.CodeHd s.heap c P) (e6 : s.heap.get? P = some { cls := .none, data := .fields ps })
    (e7 : TriplesOk ps.toList) (e8 : codeAmong pos ps.toList = some cv) (e10 : s.heap.BuiltinsAt mg P)
    (k : ∀ (ctv : Value) (h' : Heap) (tk : Tok), (∀ b o, s.heap.get? b = some o → h'.get? b = some o) → s.heap.objs.size ≤ h'.objs.size →
      Q (.ref h'.objs.size) { s with heap := h'.push { cls := .type "function", data := .func { PySem.W.kla_fn "<lambda>" qual params body scope clos ((mg "__name__").getD .none) cv ctv with defaults := dV } }, toks := tk }) :
    wpAny M A (makeTail "<lambda>" qual params (.expr body) scope env dV .none none pos fl) Q E s := by
  obtain ⟨b1, o1, g1, g2, _, g3, g4, g5, g6, g7⟩ := e10
  unfold makeTail
  rw [e1, e2]
  refine wpAny_bind (wpAny_pure ?_)
  cases clos with
  | nil =>
    simp only [List.isEmpty_nil, if_true]
    exact wpAny_bind (wpAny_pure (wpAny_bind (wpAny_functionCode_hit e4 (e5.code e6 e7) e8 (wpAny_bind (wpAny_builtinsFor e3 g1 g2 g4 g5 g6 g7 (wpAny_bind (wpAny_nsGet e3 (wpAny_bind (wpAny_pure (wpAny_newObj_type (k .none s.heap s.toks (fun _ _ e => e) (Nat.le_refl _)) (by size_fits)))))))))))
  | cons q r =>
    simp only [List.isEmpty_cons, Bool.false_eq_true, if_false]
    have kp : ∀ (oT : Obj) (b : Addr) (o : Obj), s.heap.get? b = some o → (s.heap.push oT).get? b = some o := fun oT b o e => Heap.get?_push_of_some _ e
    exact wpAny_bind (wpAny_newTextTuple (wpAny_bind (wpAny_functionCode_hit e4 ((e5.keeps (kp _)).code (kp _ _ _ e6) e7) e8 (wpAny_bind (wpAny_builtinsFor (e3.push _) g1 g2 (kp _ _ _ g4) g5 g6 g7
      (wpAny_bind (wpAny_nsGet (e3.push _) (wpAny_bind (wpAny_pure (wpAny_newObj_type (k _ _ s.toks (kp _) (by rw [Heap.size_push]; omega)) (by size_fits)))))))))))
end
section
variable {X : Cx} {pins : List (Addr × Obj)} {σ : L2.St} {H : Hp} {s : Shared}
/-- a lambda with one parameter whose default is a written int is made -/
theorem lam_mk1 {T : List (Addr × Str)} {c P : Addr} {params : Arguments} {body : Expr} {scope : Scope} {pos p0 : Pos} {i0 : Int} {j0 : Nat} {E : Value → Shared → Prop} {Q : Value → Shared → Prop} (I : Inv X pins σ H s) (TB : TabB X.base X.mg c P) (hcode : X.env.code = .ref c)
    (hm : (P, X.env.qual ++ "<lambda>") ∈ T) (hu : ∀ p ∈ T, p.1 = P → p.2 = X.env.qual ++ "<lambda>") (hT : Tabs T H) (hdef : defaultsOf params X.env = ([eval (.Constant (.int i0) j0 p0) X.env], [])) (hfree : ∀ y ∈ scope.names, y.2 = .free → ∃ c, X.env.cells.lookup y.1 = some c)
    (k : ∀ (f c' D : Addr) (t0 : Tok) (pm ctv : Value) (H1 : Hp) (s' : Shared), Inv X pins σ H1 s' → ExtN H H1 → Tabs T H1 → s'.heap.get? f = some (lamOb (X.env.qual ++ "<lambda>") params body scope (cloFrom X.env.cells scope.names []) pm c' ctv (.ref D)) →
      s'.heap.get? D = some { cls := .type "tuple", data := .seq #[.int i0 t0] } → H1 f = none → H1 D = none → f ∉ frs X.stack → D ∉ frs X.stack → H1 c' = some (CodeO c' (X.env.qual ++ "<lambda>")) → Q (.ref f) s') (hxe : E = X.xe) :
    wpAny (model X.prog X.w) X.A (eval (.Lambda params body scope pos) X.env) Q E s := by
  subst hxe
  rw [arm_eval_Lambda, hdef]
  show wpAny _ _ (do let dv ← evalAll [eval (.Constant (.int i0) j0 p0) X.env]; let kdv ← holding dv (evalAllOpt []); makeFunction "<lambda>" (X.env.qual ++ "<lambda>") params (.expr body) scope X.env dv kdv [] pos pos.line) Q X.xe s
  refine wpAny_bind (wpAny_bind (thn ((pe_int (X := X) (i := i0) (j := j0) (pos := p0)).run pins s σ H (fun v H' => v = .int i0 ∧ H' = H) I ⟨rfl, rfl⟩) fun u s1 ⟨v, H1, I1, r1, ev, eH⟩ => ?_))
  subst ev
  rw [eH] at I1
  obtain ⟨t0, rfl⟩ := r1
  refine wpAny_bind (wpAny_holding (wpAny_pure (wpAny_pure (wpAny_bind (wpAny_holding (wpAny_pure ?_))))))
  rw [makeFunction_eq]
  simp only [List.zip_nil_right, List.filterMap_nil, List.isEmpty_nil, List.isEmpty_cons, Bool.false_eq_true, if_false, if_true, pure_bind]
  refine wpAny_bind (wpAny_newTextTuple ?_)
  have eD : (s1.heap.push { cls := .type "tuple", data := .seq [Value.int i0 t0].toArray }).get? s1.heap.objs.size = some { cls := .type "tuple", data := .seq #[.int i0 t0] } := Heap.get?_push_size _ rfl
  have I2 : Inv X pins σ H { s1 with heap := s1.heap.push { cls := .type "tuple", data := .seq [Value.int i0 t0].toArray } } := I1.kept (t' := s1.toks) fun b o e => Heap.get?_push_of_some _ e
  have nD : H s1.heap.objs.size = none := I1.hok.fresh (Nat.le_refl _)
  have frN : ∀ f, s1.heap.objs.size ≤ f → f ∉ frs X.stack := fun f hf z => by
    rcases List.mem_cons.mp (I1.stkSub _ z) with e | e
    · have q1 := I1.lt
      rw [← e] at q1
      exact Nat.lt_irrefl _ (Nat.lt_of_lt_of_le q1 hf)
    · exact I1.nofs hf e
  have frD := frN s1.heap.objs.size (Nat.le_refl _)
  have szD : s1.heap.objs.size ≤ (s1.heap.push { cls := .type "tuple", data := .seq [Value.int i0 t0].toArray }).objs.size := by rw [Heap.size_push]; omega
  generalize s1.heap.objs.size = D at eD nD frN frD szD
  generalize hs2 : ({ s1 with heap := s1.heap.push { cls := .type "tuple", data := .seq [Value.int i0 t0].toArray } } : Shared) = s2 at I2
  have eh : s2.heap = s1.heap.push { cls := .type "tuple", data := .seq [Value.int i0 t0].toArray } := by rw [← hs2]
  rw [← eh] at eD szD
  obtain ⟨ps, tP, tt, ta⟩ := hT _ hm
  have bP : s2.heap.BuiltinsAt X.mg P := TB.bm.keeps I2.bk
  have oP : s2.heap.get? P = some { cls := .none, data := .fields ps } := I2.hok P _ tP
  cases hc : codeAmong pos ps.toList with
  | none =>
    refine tail_new (mg := X.mg) (closure_ok hfree) I2.ok.glob (I2.mod.glob.keeps I2.bk) hcode (TB.code.keeps I2.bk) oP tt hc TB.gP bP fun c' ctv h' tk x1 x2 x3 x4 x5 => ?_
    obtain ⟨c2, oc, vs, t, y1, y2, y3, y4⟩ := x4
    cases y1
    have nC : H c' = none := I2.hok.fresh x2
    have sz2 : s2.heap.objs.size ≤ h'.objs.size := Nat.le_trans x2 (Nat.le_of_lt x3)
    have J := inv_table (t' := tk) (more := #[rawInt pos.line, rawInt pos.col, .ref c']) (h' := h'.push (lamOb (X.env.qual ++ "<lambda>") params body scope (cloFrom X.env.cells scope.names []) ((X.mg "__name__").getD .none) c' ctv (.ref D))) I2 tP
      (fun b o hb e => Heap.get?_push_of_some _ (x1 b o hb e)) (Heap.get?_push_of_some _ x5) x2 ⟨oc, vs, t, Heap.get?_push_of_some _ y2, y3, y4⟩
    have nPC : P ≠ c' := ne_of_none tP nC
    have eN : ExtN H (upd (upd H P (.tbl (ps ++ #[rawInt pos.line, rawInt pos.col, .ref c']))) c' (CodeO c' (X.env.qual ++ "<lambda>"))) := fun b o e n => by
      have n1 : b ≠ P := fun z => by
        rw [z, tP] at e
        exact n ps (Option.some.inj e).symm
      rw [upd_ne (ne_of_none e nC), upd_ne n1]
      exact e
    have eL : (ps ++ #[rawInt pos.line, rawInt pos.col, .ref c']).toList = ps.toList ++ [rawInt pos.line, rawInt pos.col, .ref c'] := by simp
    have eD2 : (h'.push (lamOb (X.env.qual ++ "<lambda>") params body scope (cloFrom X.env.cells scope.names []) ((X.mg "__name__").getD .none) c' ctv (.ref D))).get? D = some { cls := .type "tuple", data := .seq #[.int i0 t0] } := by
      refine Heap.get?_push_of_some _ (x1 D _ (fun z => ?_) eD)
      rw [z, tP] at nD
      cases nD
    have lD : D < s2.heap.objs.size := Heap.lt_size eD
    have nDc : D ≠ c' := Nat.ne_of_lt (Nat.lt_of_lt_of_le lD x2)
    have nDP : D ≠ P := fun z => by rw [z, tP] at nD; cases nD
    refine k h'.objs.size c' D t0 ((X.mg "__name__").getD .none) ctv _ _ J eN (fun p hp => ?_) (Heap.get?_push_size _ rfl) eD2 ?_ ?_ (frN _ (Nat.le_trans szD sz2)) frD upd_same
    · by_cases hb : p.1 = P
      · rw [hu p hp hb, hb]
        refine ⟨_, by rw [upd_ne nPC, upd_same], by rw [eL]; exact PySem.TriplesOk_snoc _ _ _ _ tt, fun p' cv hcv => ?_⟩
        rw [eL] at hcv
        rcases among_app _ tt hcv with z | z
        · obtain ⟨c0, w1, w2⟩ := ta p' cv z
          exact ⟨c0, w1, eN _ _ w2 codeO_ne⟩
        · exact ⟨c', z, upd_same⟩
      · obtain ⟨ps2, a1, a2, a3⟩ := hT p hp
        refine ⟨ps2, by rw [upd_ne (ne_of_none a1 nC), upd_ne hb]; exact a1, a2, fun p' cv hcv => ?_⟩
        obtain ⟨c0, w1, w2⟩ := a3 p' cv hcv
        exact ⟨c0, w1, eN _ _ w2 codeO_ne⟩
    · rw [upd_ne (Nat.ne_of_gt x3), upd_ne (Nat.ne_of_gt (Nat.lt_of_lt_of_le (Heap.lt_size oP) sz2))]
      exact I2.hok.fresh sz2
    · rw [upd_ne nDc, upd_ne nDP]
      exact nD
  | some cv =>
    obtain ⟨c', y1, y2⟩ := ta pos cv hc
    subst y1
    refine tail_hit (mg := X.mg) (closure_ok hfree) I2.ok.glob (I2.mod.glob.keeps I2.bk) hcode (TB.code.keeps I2.bk) oP tt hc bP fun ctv h' tk x1 x2 => ?_
    have J : Inv X pins σ H { s2 with heap := h'.push (lamOb (X.env.qual ++ "<lambda>") params body scope (cloFrom X.env.cells scope.names []) ((X.mg "__name__").getD .none) c' ctv (.ref D)), toks := tk } := I2.kept fun b o e => Heap.get?_push_of_some _ (x1 b o e)
    exact k h'.objs.size c' D t0 ((X.mg "__name__").getD .none) ctv H _ J (ExtN.refl H) hT (Heap.get?_push_size _ rfl) (Heap.get?_push_of_some _ (x1 _ _ eD)) (I2.hok.fresh x2) nD (frN _ (Nat.le_trans szD x2)) frD y2
end
end Om

namespace Om
open PySem PySem.Spec PyProof.Rows L2 LamX
/-- the lambda's names: parameters (none of the maker's names), captured ones, globals -/
structure LamG (N : List Str) (sc scope : Scope) (xs : List Str) : Prop where
  kind : scope.kind = .function
  co : scope.isCoroutine = false
  gen : scope.isGenerator = false
  own : ∀ y ∈ scope.names, y.2 ≠ .cell ∧ (y.2 = .local → y.1 ∉ N)
  free : ∀ y ∈ scope.names, y.2 = .free → sc.names.lookup y.1 = some .cell ∨ sc.names.lookup y.1 = some .free
  par : ∀ x ∈ xs, scope.names.lookup x = some .local
def lamGB (N : List Str) (sc scope : Scope) (xs : List Str) : Bool :=
  decide (scope.kind = .function) && (!scope.isCoroutine && (!scope.isGenerator && ((scope.names.all fun y => !decide (y.2 = .cell) && (!decide (y.2 = .local) || !decide (y.1 ∈ N))) &&
    ((scope.names.all fun y => !decide (y.2 = .free) || (decide (sc.names.lookup y.1 = some .cell) || decide (sc.names.lookup y.1 = some .free))) && xs.all fun x => decide (scope.names.lookup x = some .local)))))
theorem lamG_by {N : List Str} {sc scope : Scope} {xs : List Str} (h : lamGB N sc scope xs = true) : LamG N sc scope xs := by
  unfold lamGB at h
  simp only [Bool.and_eq_true, Bool.or_eq_true, Bool.not_eq_true', decide_eq_true_eq, decide_eq_false_iff_not, List.all_eq_true] at h
  obtain ⟨h1, h2, h3, h4, h5, h6⟩ := h
  refine ⟨h1, h2, h3, fun y hy => ⟨(h4 y hy).1, fun e => ?_⟩, fun y hy e => ?_, h6⟩
  · rcases (h4 y hy).2 with z | z
    · exact absurd e z
    · exact z
  · rcases h5 y hy with z | z
    · exact absurd e z
    · exact z
theorem LamG.has {X : Cx} {N : List Str} {scope : Scope} {xs : List Str} (L : LamG N X.env.scope scope xs) (ok : X.Ok) : ∀ y ∈ scope.names, y.2 = .free → ∃ c, X.env.cells.lookup y.1 = some c := fun y hy e => (L.free y hy e).elim (fun k => ok.has _ (.inl k)) fun k => ok.has _ (.inr k)
section
variable {X : Cx} {pins : List (Addr × Obj)} {σ : L2.St} {H HZ : Hp} {s s1 : Shared}
theorem lam_startG {A : Around} {outer : List Env} {E : XK} {scope : Scope} {xs : List Str} {binds : List (Str × Value)} {f c' : Addr} {h1 : Heap} {tk : Nat} (I : Inv X pins σ H s) (L : LamG X.N X.env.scope scope xs) (e0 : Env0 X.prog X.w X.K X.mg X.base A outer s1 HZ)
    (hd : A.handled = none) (un : Un (frs X.stack) [] H HZ s.heap s1.heap) (hns : h1.Ns s1.heap.objs.size fun y => binds.reverse.lookup y) (kp : ∀ b o, s1.heap.get? b = some o → h1.get? b = some o) :
    Inv (lamCx X A outer s1 HZ E scope f c') [] σ HZ { s1 with heap := h1, toks := tk } := by
  have frees := L.has I.ok
  have cm : ∀ {y c}, (cloFrom X.env.cells scope.names []).lookup y = some c → X.env.cells.lookup y = some c := fun {y c} e => by
    rcases cloFrom_mem (PySem.mem_of_lookup e) with m | ⟨z1, z2⟩
    · cases m
    · obtain ⟨c1, z3⟩ := frees _ z1 rfl
      have z3 : X.env.cells.lookup y = some c1 := z3
      obtain rfl : c = c1 := by rw [z2, z3]; rfl
      exact z3
  have lk : ∀ {y}, scope.names.lookup y = some .free → ∃ c, (cloFrom X.env.cells scope.names []).lookup y = some c := fun {y} e =>
    mem_lookup (cloFrom_has (cells := X.env.cells) (acc := []) (show (y, NameKind.free) ∈ scope.names from PySem.mem_of_lookup e))
  have cellK : ∀ {c : Addr} {v : Option Value}, H c = none → s.heap.IsCell c v → h1.IsCell c v := fun {c v} n ⟨o, z1, z2⟩ => by
    obtain ⟨sl, q⟩ := un.any z1 n (by simp)
    exact ⟨_, kp _ _ q, z2⟩
  have nx : ∀ b : Addr, b ∉ (lamCx X A outer s1 HZ E scope f c').ex := fun b z => by cases z
  have visN : ∀ (i : Nat) (y : Str), X.N[i]? = some y → Vis scope y → scope.names.lookup y = some .free := fun i y e v => by
    rcases v with z | z | z
    · exact absurd (List.mem_of_getElem? e) ((L.own _ (PySem.mem_of_lookup z)).2 rfl)
    · exact absurd rfl (L.own _ (PySem.mem_of_lookup z)).1
    · exact z
  have okC : (lamCx X A outer s1 HZ E scope f c').Ok := {
    mod := e0.mod, kind := L.kind, glob := rfl, blt := rfl, above := Nat.le_refl _
    inj := fun y z c z1 z2 => I.ok.inj y z c (cm z1) (cm z2)
    has := fun y hy => by
      rcases (show scope.names.lookup y = some .cell ∨ scope.names.lookup y = some .free from hy) with z | z
      · exact absurd rfl (L.own _ (PySem.mem_of_lookup z)).1
      · exact lk z
    cab := fun y c z _ => by cases (show false = true from z)
    hd := fun _ => hd, frames := Around.frames_deeper e0.frames, stk := .inr ⟨rfl, rfl⟩, exf := fun b z => absurd z (nx b), bs := e0.bs, bsz := e0.bsz, noex := fun b _ _ => nx b, exfs := fun b z => absurd z (nx b), funs := e0.funs, frf := e0.frf }
  exact {
    ok := okC, os := rfl, bare := e0.bare, base := Un.kept kp
    loc := ⟨_, hns, fun i y v z1 z2 z3 => by
      have fr := visN i y z1 z3
      obtain ⟨m, mn, ml⟩ := I.loc
      obtain ⟨u, r, q⟩ := ml i y v z1 z2 ((L.free _ (PySem.mem_of_lookup fr) rfl).elim (fun k => .inr (.inl k)) fun k => .inr (.inr k))
      obtain ⟨c2, y2⟩ := lk fr
      refine ⟨u, r, .inr ⟨.inr fr, c2, y2, ?_⟩⟩
      rcases q with ⟨q1, _⟩ | ⟨_, c3, q2, q3⟩
      · have q1 : X.env.scope.names.lookup y = some .local := q1
        rcases L.free _ (PySem.mem_of_lookup fr) rfl with w | w
        · rw [show X.env.scope.names.lookup y = _ from w] at q1; cases q1
        · rw [show X.env.scope.names.lookup y = _ from w] at q1; cases q1
      · rw [cm y2] at q2
        cases q2
        exact cellK (I.freeC y _ (cm y2)) q3⟩
    cell := fun y c z => let ⟨v, q⟩ := I.cell y c (cm z); ⟨v, cellK (I.freeC y c (cm z)) q⟩
    free := e0.hok.fresh (Nat.le_refl _)
    freeC := fun y c z => let ⟨v, o, q, _⟩ := I.cell y c (cm z); un.free c o q (I.freeC y c (cm z)) (by simp)
    pin := fun q hq => by cases (show q ∈ ([] : List (Addr × Obj)) ++ [] from hq)
    hok := e0.hok.kept kp
    len := I.len }
/-- x(), in the def that got the lambda (in slot 0) -/
theorem pe_actG {CXg : CXT} {Eg : XK} {Ng : List Str} {qg : Str} {sg : Scope} {g f c' : Addr} {cdg pm ctv dV : Value} {params : Arguments} {body : Expr} {scope : Scope} {xs : List Str} {binds : List (Str × Value)} {hold : List (Addr × Obj)} {k : Nat} {a : Str} {pn : List (Addr × Obj)} {xe : Value → Shared → Prop} {W : WX} {tb : XK → TE} {p1 p2 : Pos}
    (I : Inv X pins σ H s) (L : LamG X.N X.env.scope scope xs) (hf : s.heap.get? f = some (lamOb (X.env.qual ++ "<lambda>") params body scope (cloFrom X.env.cells scope.names []) pm c' ctv dV)) (hfn : H f = none) (hfr : f ∉ frs X.stack)
    (hh : ∀ p ∈ hold, s.heap.get? p.1 = some p.2 ∧ H p.1 = none ∧ p.1 ∉ frs X.stack) (hbn : ∀ s' : Shared, (∀ p ∈ hold, s'.heap.get? p.1 = some p.2) → BindsTo s' (lamFd (X.env.qual ++ "<lambda>") params body scope (cloFrom X.env.cells scope.names []) pm c' ctv dV) ⟨[], []⟩ binds)
    (hbx : ∀ y ∈ binds, y.1 ∈ xs)
    (tk : Takes ((cxOf CXg X.prog X.w X.K X.mg X.base Ng qg sg g cdg X.A X.stack s H Eg).tr pn xe) W) (hr : Room (k + 1) (X.A.deeper (envOfC qg sg s.heap.objs.size g cdg)))
    (hbody : ∀ (A : Around) (outer : List Env) (s : Shared) (H : Hp) (E : XK), Room k (A.deeper (lamEnv X scope s.heap.objs.size f c')) → PE (lamCx X A outer s H E scope f c') body (tb E))
    (hN : Ng[0]? = some a) (hv : Vis sg a) (hd : (a == ("__debug__" : Str)) = false := by decide) (hcd : (a == ("__classdict__" : Str)) = false := by decide) :
    PE ((cxOf CXg X.prog X.w X.K X.mg X.base Ng qg sg g cdg X.A X.stack s H Eg).tr pn xe) (.Call (.Name a p1) [] [] p2)
      (fun σZ HZ Q => σZ[0]? = some (some (.ref f)) ∧ HZ c' = some (CodeO c' (X.env.qual ++ "<lambda>")) ∧ ∃ E : XK, (∀ cls d H', E cls d H' → W cls d σZ H') ∧ tb E σ HZ Q) := by
  constructor
  rintro pinsZ sZ σZ HZ Q IZ ⟨hs, hc, E, hW, ht⟩
  refine wpAny_Call_Name_kw (thn ((pe_var (pos := p1) (i := 0) hN hv hd hcd).run pinsZ sZ σZ HZ (fun v H1 => v = .ref f ∧ H1 = HZ) IZ ⟨.ref f, hs, rfl, rfl⟩) fun u s1 ⟨v, H1, I1, r1, ev, eH⟩ => ?_)
  subst ev
  rw [eH] at I1
  obtain rfl : u = Value.ref f := r1
  have of1 := I1.base.keep f _ hf hfn hfr (by intro z; cases z)
  have hold1 : ∀ p ∈ hold, s1.heap.get? p.1 = some p.2 := fun p hp => let ⟨z1, z2, z3⟩ := hh p hp; I1.base.keep p.1 _ z1 z2 z3 (by intro z; cases z)
  have un : Un (frs X.stack) [] H HZ s.heap s1.heap := I1.base
  obtain ⟨⟨oc, vs, t, y1, y2, y3⟩, _, _⟩ := I1.hok c' _ hc
  have called : codeAny (model X.prog X.w) (X.A.deeper (envOfC qg sg s.heap.objs.size g cdg)) (.call (.ref f) ⟨[], []⟩) (CR (L2.CX X.prog X.w) (envOfC qg sg s.heap.objs.size g cdg :: X.stack) X.prog X.w HZ s1 Q E) s1 := by
    refine PySem.W.kla_callFunE hr.depth of1 rfl L.co L.gen rfl ⟨c', oc, vs, t, rfl, y1, y2, y3⟩ (hbn s1 hold1 _ _ _ _ (wpAny_newFunctionEnv (fun y hy => (L.own y hy).1) (fun y hy => L.par _ (hbx y hy)) (fun h1 hns hsb => ⟨I1.nolimit.fresh _ hsb, ?_⟩) L.kind))
    have kp : ∀ b o, s1.heap.get? b = some o → h1.get? b = some o := fun b o e => hsb.extBut b o (Nat.ne_of_lt (Heap.lt_size e)) (Heap.get?_push_of_some _ e)
    have J : Inv (lamCx X (X.A.deeper (envOfC qg sg s.heap.objs.size g cdg)) (envOfC qg sg s.heap.objs.size g cdg :: X.stack) s1 HZ E scope f c') [] σ HZ { s1 with heap := h1, toks := s1.toks + binds.length } := lam_startG I L I1.env0 hr.hd un hns kp
    refine PySem.W.kla_codeExpr (wpAny_mono ((hbody _ _ s1 HZ E (hr.deeper _)).run [] _ _ HZ Q J ht) (fun v s' ⟨w', H', J', rv, q⟩ => ⟨w', H', J'.os, J'.bare, J'.base, J'.hok, rv, q⟩) fun e s' hq => hq)
  refine PySem.W.callWith_F0 ⟨_, _, _, _, of1⟩ (wpAny_call (codeAny_mono called fun r s' hq => ?_))
  match r, hq with
  | .error e, hq => exact tk _ _ (XE.of_call I1 hW hq)
  | .ok (.ret u), hq => exact I1.after hq
  | .ok .next, hq => exact False.elim hq
  | .ok .brk, hq => exact False.elim hq
  | .ok .cont, hq => exact False.elim hq
end
end Om

namespace Om
open PySem PySem.Spec PyProof.Rows L2 LamX
/-- the def at g calls what it got (in slot 0, its name a); TT: what it makes of the lambda's reading -/
def GivesG (X : Cx) (Ng : List Str) (x : Str) (sg : Scope) (g : Addr) (cdg : Value) (bg : List Stmt) (a : Str) (q : Str) (TT : (XK → Hp → VK → Prop) → Hp → VK → Prop) : Prop :=
  ∀ (f c' : Addr) (s : Shared) (H : Hp) (Q : VK) (tl : XK → Hp → VK → Prop),
    (∀ (W : WX) (pn : List (Addr × Obj)) (xe : Value → Shared → Prop) (p1 p2 : Pos), Takes ((cxOf L2.CX0 X.prog X.w X.K X.mg X.base Ng x sg g cdg X.A X.stack s H L2.E0).tr pn xe) W →
      PE ((cxOf L2.CX0 X.prog X.w X.K X.mg X.base Ng x sg g cdg X.A X.stack s H L2.E0).tr pn xe) (.Call (.Name a p1) [] [] p2) (fun σZ HZ Q => σZ[0]? = some (some (.ref f)) ∧ HZ c' = some (CodeO c' q) ∧ ∃ E : XK, (∀ cls d H', E cls d H' → W cls d σZ H') ∧ tl E HZ Q)) →
    H c' = some (CodeO c' q) → Room 2 (X.A.deeper (envOfC x sg s.heap.objs.size g cdg)) → TT tl H Q →
    ∃ t, PSs (cxOf L2.CX0 X.prog X.w X.K X.mg X.base Ng x sg g cdg X.A X.stack s H L2.E0).nox bg t ∧ t { nx := fun _ H' => Q .non H', rt := Q } (L2.start Ng [.ref f]) H
section
variable {X : Cx}
/-- behind the making: the def is called with the lambda -/
theorem lam_given {T : List (Addr × Str)} {TT : (XK → Hp → VK → Prop) → Hp → VK → Prop} {x a : Str} {g f c' : Addr} {k : Nat} {pg : Arguments} {bg : List Stmt} {sg : Scope} {dG kG doc pmg cdg ctg oc pm ctv dV : Value} {an od : Option Addr} {osl : Array (Option Value)} {Ng : List Str}
    {params : Arguments} {body : Expr} {scope : Scope} {t : XK → TE} {xs : List Str} {binds : List (Str × Value)} {hold : List (Addr × Obj)} {pins : List (Addr × Obj)} {σ : L2.St} {H1 : Hp} {s' : Shared} {Q : VK} {E' : Value → Shared → Prop}
    (lk : X.K.lookup g = some ⟨oc, od, .func (PySem.W.fnOf x x pg bg sg dG kG doc pmg an cdg ctg), osl⟩) (hcg : PySem.W.codeIn X.K cdg x = true) (hb : L2.Binds X.K (PySem.W.fnOf x x pg bg sg dG kG doc pmg an cdg ctg) [a] []) (Sg : FnScope Ng [a] sg) (hNg : Ng[0]? = some a) (hva : Vis sg a)
    (hG : GivesG X Ng x sg g cdg bg a (X.env.qual ++ "<lambda>") TT) (hr : Room (k + 2) X.A) (hr3 : Room 3 X.A) (L : LamG X.N X.env.scope scope xs) (I1 : Inv X pins σ H1 s')
    (hf : s'.heap.get? f = some (lamOb (X.env.qual ++ "<lambda>") params body scope (cloFrom X.env.cells scope.names []) pm c' ctv dV)) (hfn : H1 f = none) (hfr : f ∉ frs X.stack)
    (hh : ∀ p ∈ hold, s'.heap.get? p.1 = some p.2 ∧ H1 p.1 = none ∧ p.1 ∉ frs X.stack) (hbn : ∀ s' : Shared, (∀ p ∈ hold, s'.heap.get? p.1 = some p.2) → BindsTo s' (lamFd (X.env.qual ++ "<lambda>") params body scope (cloFrom X.env.cells scope.names []) pm c' ctv dV) ⟨[], []⟩ binds)
    (hbx : ∀ y ∈ binds, y.1 ∈ xs) (hco : H1 c' = some (CodeO c' (X.env.qual ++ "<lambda>"))) (hT : TT (fun E H' Q' => t E σ H' Q') H1 Q)
    (hbody : ∀ (A : Around) (outer : List Env) (s : Shared) (H : Hp) (E : XK), Room k (A.deeper (lamEnv X scope s.heap.objs.size f c')) → PE (lamCx X A outer s H E scope f c') body (t E))
    (hd : (a == ("__debug__" : Str)) = false := by decide) (hcd : (a == ("__classdict__" : Str)) = false := by decide) :
    wpAny (model X.prog X.w) X.A (call (.ref g) [.ref f]) (EP X pins σ Q) E' s' := by
  have called : codeAny (model X.prog X.w) X.A (.call (.ref g) ⟨[.ref f], []⟩) (CR L2.CX0 X.stack X.prog X.w H1 s' Q L2.E0) s' := by
    refine run_ofS (k := k + 1) (N := Ng) (ps := [a]) (us := [.ref f]) (vs := [.ref f]) lk hcg Sg hr I1.env0 (hb s' [.ref f] I1.kIn rfl) (.cons rfl .nil) rfl fun hr' => ?_
    obtain ⟨t', z1, z2⟩ := hG f c' s' H1 Q (fun E H' Q' => t E σ H' Q') (fun W pn xe p1 p2 tk => pe_actG I1 L hf hfn hfr hh hbn hbx tk hr' hbody hNg hva hd hcd) hco (hr3.deeper _) hT
    exact ⟨t', z1.nox, z2⟩
  refine wpAny_call (codeAny_mono called fun r s2 hq => ?_)
  match r, hq with
  | .error e, hq => exact (show False from hq).elim
  | .ok (.ret u), hq => exact I1.after hq
  | .ok .next, hq => exact False.elim hq
  | .ok .brk, hq => exact False.elim hq
  | .ok .cont, hq => exact False.elim hq
/-- x(lambda: body) -/
theorem pe_lamG0 {T : List (Addr × Str)} {TT : (XK → Hp → VK → Prop) → Hp → VK → Prop} {x a : Str} {g c P : Addr} {k : Nat} {pg : Arguments} {bg : List Stmt} {sg : Scope} {dG kG doc pmg cdg ctg oc : Value} {an od : Option Addr} {osl : Array (Option Value)} {Ng : List Str}
    {params : Arguments} {body : Expr} {scope : Scope} {t : XK → TE} {p lpos pos : Pos} (hg : Gl X x) (hm : X.mg x = some (.ref g)) (hk : PySem.W.keepIn X.K (.ref g) = true)
    (lk : X.K.lookup g = some ⟨oc, od, .func (PySem.W.fnOf x x pg bg sg dG kG doc pmg an cdg ctg), osl⟩) (hcg : PySem.W.codeIn X.K cdg x = true) (hb : L2.Binds X.K (PySem.W.fnOf x x pg bg sg dG kG doc pmg an cdg ctg) [a] []) (Sg : FnScope Ng [a] sg) (hNg : Ng[0]? = some a) (hva : Vis sg a)
    (hG : GivesG X Ng x sg g cdg bg a (X.env.qual ++ "<lambda>") TT)
    (TB : TabB X.base X.mg c P) (hcode : X.env.code = .ref c) (hmT : (P, X.env.qual ++ "<lambda>") ∈ T) (hu : ∀ p ∈ T, p.1 = P → p.2 = X.env.qual ++ "<lambda>") (hr : Room (k + 2) X.A) (hr3 : Room 3 X.A) (L : LamG X.N X.env.scope scope []) (hdef : defaultsOf params X.env = ([], []))
    (hbind : ∀ (q : Str) (cl : List (Str × Addr)) (pm : Value) (c' : Addr) (ctv : Value), bindArgs (lamFd q params body scope cl pm c' ctv .none) ⟨[], []⟩ = pure [])
    (hbody : ∀ (A : Around) (outer : List Env) (s : Shared) (H : Hp) (E : XK) (f c' : Addr), Room k (A.deeper (lamEnv X scope s.heap.objs.size f c')) → PE (lamCx X A outer s H E scope f c') body (t E))
    (hdb : (x == ("__debug__" : Str)) = false := by decide) (hd : (a == ("__debug__" : Str)) = false := by decide) (hcd : (a == ("__classdict__" : Str)) = false := by decide) :
    PE X (.Call (.Name x p) [.Lambda params body scope lpos] [] pos) (tLam T TT t) := by
  constructor
  rintro pins s σ H Q I ⟨hT, h⟩
  refine wpAny_Call_Name_kw (ld_glob I hg hm (PySem.W.callWith_K (h₀ := X.base) I.ok.mod.kin hk ?_ (by rfl) (by rfl)) hdb)
  show wpAny _ _ (spliced ((false, eval (.Lambda params body scope lpos) X.env) :: backTo pos (starEach [] X.env))) _ _ s
  refine Calls.spliced_cons (lam_make2 I TB hcode hmT hu hT hdef (L.has I.ok) fun f c' pm' ctv H1 s' I1 eN T1 hf hfn hfr hco => Calls.spliced_nil ⟨I1.kIn, ?_⟩)
  exact lam_given (T := T) (dV := .none) (xs := []) (binds := []) (hold := []) lk hcg hb Sg hNg hva hG hr hr3 L I1 hf hfn hfr (fun p hp => by cases hp) (fun s' _ => BindsTo.of_eq (hbind _ _ _ _ _)) (fun y hy => by cases hy) hco (h H1 eN T1) (fun A outer s H E hr2 => hbody A outer s H E f c' hr2) hd hcd
/-- x(lambda y=i: body) -/
theorem pe_lamG1 {T : List (Addr × Str)} {TT : (XK → Hp → VK → Prop) → Hp → VK → Prop} {x a y : Str} {g c P : Addr} {k : Nat} {pg : Arguments} {bg : List Stmt} {sg : Scope} {dG kG doc pmg cdg ctg oc : Value} {an od : Option Addr} {osl : Array (Option Value)} {Ng : List Str}
    {params : Arguments} {body : Expr} {scope : Scope} {t : XK → TE} {p lpos pos p0 : Pos} {i0 : Int} {j0 : Nat} (hg : Gl X x) (hm : X.mg x = some (.ref g)) (hk : PySem.W.keepIn X.K (.ref g) = true)
    (lk : X.K.lookup g = some ⟨oc, od, .func (PySem.W.fnOf x x pg bg sg dG kG doc pmg an cdg ctg), osl⟩) (hcg : PySem.W.codeIn X.K cdg x = true) (hb : L2.Binds X.K (PySem.W.fnOf x x pg bg sg dG kG doc pmg an cdg ctg) [a] []) (Sg : FnScope Ng [a] sg) (hNg : Ng[0]? = some a) (hva : Vis sg a)
    (hG : GivesG X Ng x sg g cdg bg a (X.env.qual ++ "<lambda>") TT)
    (TB : TabB X.base X.mg c P) (hcode : X.env.code = .ref c) (hmT : (P, X.env.qual ++ "<lambda>") ∈ T) (hu : ∀ p ∈ T, p.1 = P → p.2 = X.env.qual ++ "<lambda>") (hr : Room (k + 2) X.A) (hr3 : Room 3 X.A) (L : LamG X.N X.env.scope scope [y]) (hdef : defaultsOf params X.env = ([eval (.Constant (.int i0) j0 p0) X.env], []))
    (hbind : ∀ (q : Str) (cl : List (Str × Addr)) (pm : Value) (c' : Addr) (ctv : Value) (D : Addr) (v : Value), ∃ kk : Option (Array Value) → Sem (List (Str × Value)), bindArgs (lamFd q params body scope cl pm c' ctv (.ref D)) ⟨[], []⟩ = seqItems? (.ref D) >>= kk ∧ kk (some #[v]) = pure [(y, v)])
    (hbody : ∀ (A : Around) (outer : List Env) (s : Shared) (H : Hp) (E : XK) (f c' : Addr), Room k (A.deeper (lamEnv X scope s.heap.objs.size f c')) → PE (lamCx X A outer s H E scope f c') body (t E))
    (hdb : (x == ("__debug__" : Str)) = false := by decide) (hd : (a == ("__debug__" : Str)) = false := by decide) (hcd : (a == ("__classdict__" : Str)) = false := by decide) :
    PE X (.Call (.Name x p) [.Lambda params body scope lpos] [] pos) (tLam T TT t) := by
  constructor
  rintro pins s σ H Q I ⟨hT, h⟩
  refine wpAny_Call_Name_kw (ld_glob I hg hm (PySem.W.callWith_K (h₀ := X.base) I.ok.mod.kin hk ?_ (by rfl) (by rfl)) hdb)
  show wpAny _ _ (spliced ((false, eval (.Lambda params body scope lpos) X.env) :: backTo pos (starEach [] X.env))) _ _ s
  refine Calls.spliced_cons (lam_mk1 I TB hcode hmT hu hT hdef (L.has I.ok) (fun f c' D t0 pm' ctv H1 s' I1 eN T1 hf hD hfn hDn hfr hDr hco => Calls.spliced_nil ⟨I1.kIn, ?_⟩) rfl)
  refine lam_given (T := T) (dV := .ref D) (xs := [y]) (binds := [(y, .int i0 t0)]) (hold := [(D, { cls := .type "tuple", data := .seq #[.int i0 t0] })]) lk hcg hb Sg hNg hva hG hr hr3 L I1 hf hfn hfr (fun p hp => ?_) (fun s2 hs2 => ?_) (fun z hz => ?_) hco (h H1 eN T1) (fun A outer s H E hr2 => hbody A outer s H E f c' hr2) hd hcd
  · rw [List.mem_singleton.mp hp]
    exact ⟨hD, hDn, hDr⟩
  · obtain ⟨kk, z1, z2⟩ := hbind (X.env.qual ++ "<lambda>") (cloFrom X.env.cells scope.names []) pm' c' ctv D (.int i0 t0)
    intro M A' E2 Q2 hq
    rw [z1]
    refine wpAny_bind (wpAny_seqItems (hs2 _ (List.mem_singleton.mpr rfl)) rfl ?_)
    rw [z2]
    exact wpAny_pure hq
  · rw [List.mem_singleton.mp hz]
    exact List.mem_singleton.mpr rfl
end
end Om

namespace Om
open PySem PySem.Spec PyProof.Rows L2 LamX
/-! ### xs.count(y), the items flat -/
def rCntF (K : PySem.W.Frag) : V → List V → Hp → VK → Prop := fun x vs H Q => ∃ (p : Addr) (ys : List V) (y : V), x = .ref p ∧ vs = [y] ∧ SqL K H p ys ∧ flatV y = true ∧ ys.all flatV = true ∧ Q (.int ((ys.countP fun z => eqV z y) : Nat)) H
theorem cnt_flat {y : V} {uy : Value} : ∀ {ys : List V} {us : List Value}, Vals ys us → ys.all flatV = true → us.countP (eqU y) = ys.countP fun z => eqV z y
  | _, _, .nil, _ => rfl
  | v :: vs, u :: us, .cons r rr, hf => by
    simp only [List.all_cons, Bool.and_eq_true] at hf
    rw [List.countP_cons, List.countP_cons, cnt_flat (uy := uy) rr hf.2, eqU_of r hf.1]
theorem mt_countF {X : Cx} : MtR X "list.count" (rCntF X.K) := by
  rintro pins s σ H x xs v us Q I rx rxs ⟨p, ys, y, rfl, rfl, hs, fy, fys, q⟩
  cases rx
  cases rxs with
  | @cons _ uy _ ut ry rt =>
    cases rt
    obtain ⟨its, rv, ⟨⟨cls, dd, data, sl⟩, n, ho, hc, hdn, hd⟩, hlen⟩ := I.list hs
    simp only at hc hd
    subst hc hd
    refine call_meets PySem.F.slot_list_count ⟨_, ho, rfl⟩ PySem.F.entry_list_count (PySem.F.args_list_count_2 _ _) (SeqAt.list_countAt p its.toArray n dd sl uy (eqU y)) ⟨ho, fun u' hu' => mem_eqAt ry fy rv fys u' (by simpa using hu'), ?_⟩
    have ec : its.toArray.toList.countP (eqU y) = ys.countP fun z => eqV z y := cnt_flat (uy := uy) rv fys
    refine ⟨.int ((ys.countP fun z => eqV z y) : Nat), H, I.tok _, ⟨s.toks, ?_⟩, q⟩
    show Value.int ((its.toArray.toList.countP (eqU y) : Nat) : Int) s.toks = _
    rw [ec]
/-! ### isinstance(e, C), e the exception that the suite holds, of an own class -/
def rIsX (K : PySem.W.Frag) (a : Addr) (cls : Value) (d : Option Addr) : List V → Hp → VK → Prop := fun xs H Q => ∃ (D : Addr) (c : V) (cv : Value) (b : Bool), cls = .ref D ∧ ExcC K D ∧ xs = [.ref a, c] ∧ (∀ u, RelV c u → u = cv) ∧ PySem.W.kitOne K (.ref D) cv = some b ∧
  (∀ dd, d = some dd → ∃ fs, H dd = some (.xd fs)) ∧ Q (.bl b) H
theorem call_isX {X : Cx} {a : Addr} {cls : Value} {d : Option Addr} {oe : Obj} {pn : List (Addr × Obj)} (hz : Zc cls d oe) (hf : ∃ vs, oe.data = .fields vs) : CallR (X.suite a ((a, oe) :: pn)) (.builtin "isinstance") (rIsX X.K a cls d) := by
  rintro pins s σ H xs us Q I r ⟨D, c, cv, b, rfl, C, rfl, hcv, e, hd, q⟩
  cases r with
  | cons rx rr =>
    cases rr with
    | cons rt rr =>
      cases rr
      cases rx
      obtain rfl := hcv _ rt
      obtain ⟨hget, _⟩ := I.pin (a, oe) (List.mem_append.mpr (.inl List.mem_cons_self))
      obtain ⟨vs, hv⟩ := hf
      have no : PySem.W.notCls oe = true := by unfold PySem.W.notCls; rw [hv]
      have J : ∃ od, PySem.W.InstAt s.heap a oe D od := by
        cases d with
        | none => exact ⟨none, hget, hz.1, no, by rw [hz.2]; trivial⟩
        | some dd =>
          obtain ⟨fs, hx⟩ := hd dd rfl
          obtain ⟨mA, ⟨o, es, ep, ho, _⟩, _⟩ := I.hok dd _ hx
          exact ⟨some o, hget, hz.1, no, by rw [hz.2]; exact ho⟩
      obtain ⟨od, J⟩ := J
      have hcl : (PySem.W.clsIn X.K D).isSome = true := by
        obtain ⟨cd, hc, _⟩ := PySem.W.any_some C.hd
        rw [hc]
        rfl
      exact PySem.W.kia_one (PySem.W.kitx_exc (ox := oe) (od := od) hcl C.hg C.hk C.hs C.ha C.hn C.ht C.hm) I.kIn J e (fun z => nomatch z) fun tk => ⟨.bl b, H, I.kept (t' := tk) fun _ _ z => z, rfl, q⟩
end Om

namespace Om
open PySem PySem.Spec PyProof.Rows L2 LamX
abbrev sErr : Stmt := top 25
def nmE : Nat → Str
  | 0 => "InvalidIsland"
  | 1 => "InvalidMap"
  | 2 => "InvalidNumber"
  | 3 => "NoBeginning"
  | 4 => "NoWay"
  | 5 => "TooMany"
  | _ => "UnknownCell"
/-- what the top says of the errors' classes -/
structure ErrF (K : PySem.W.Frag) (mg : Str → Option Value) (C : Nat → Addr) (CM : Addr) : Prop where
  gM : mg "MapError" = some (.ref CM)
  g : ∀ i, i < 7 → mg (nmE i) = some (.ref (C i))
  exm : ∀ i, i < 7 → PySem.W.exmOne K (.ref (C i)) (.ref CM) = some true
  exc : ∀ i, i < 7 → ExcC K (C i)
  kit : ∀ i j, i < 7 → j < 7 → PySem.W.kitOne K (.ref (C i)) (.ref (C j)) = some (decide (j = i))
  kitV : ∀ i, i < 7 → PySem.W.kitOne K (.ref (C i)) (.type "ValueError") = some true
  xf0 : XfC K (C 0)
  noR : PySem.W.findIn K (.ref (C 0)) "row" = some none
  noC : PySem.W.findIn K (.ref (C 0)) "column" = some none
  xf1 : XfC K (C 1)
  noI : PySem.W.findIn K (.ref (C 1)) "index" = some none
  gi : mg "isinstance" = none
  gv : mg "ValueError" = none
/-- what _law_error makes of an error -/
inductive ErrOut (C : Nat → Addr) (Q : VK) : Value → Option Addr → Hp → Prop
  | isl {d : Addr} {x y : V} {H' : Hp} : H' d = some (.xd (xdII x y)) → (∀ p H2, H' p = none → Same H' H2 → H2 p = some (.tup [.str "InvalidIsland", x, y]) → Q (.ref p) H2) → ErrOut C Q (.ref (C 0)) (some d) H'
  | chart {d : Addr} {x : V} {H' : Hp} : H' d = some (.xd [(("index" : Str), x)]) → (∀ p H2, H' p = none → Same H' H2 → H2 p = some (.tup [.str "InvalidMap", x]) → Q (.ref p) H2) → ErrOut C Q (.ref (C 1)) (some d) H'
  | other {j : Nat} {H' : Hp} : 2 ≤ j → j < 7 → (∀ H2, Same H' H2 → Q (.str (nmE j)) H2) → ErrOut C Q (.ref (C j)) none H'
def TErr (C : Nat → Addr) : (XK → Hp → VK → Prop) → Hp → VK → Prop := fun tl H Q => tl (ErrOut C Q) H fun _ H' => Q (.str "") H'
/-! rules whose reading names the written part apart from the context -/
theorem isX_K {X : Cx} {K : PySem.W.Frag} {a : Addr} {cls : Value} {d : Option Addr} {oe : Obj} {pn : List (Addr × Obj)} (hK : X.K = K) (hz : Zc cls d oe) (hf : ∃ vs, oe.data = .fields vs) : CallR (X.suite a ((a, oe) :: pn)) (.builtin "isinstance") (rIsX K a cls d) := by
  subst hK
  exact call_isX hz hf
theorem bm_K {X : Cx} {K : PySem.W.Frag} {T id : String} {name : Str} {r : V → List V → Hp → VK → Prop} {o e : Expr} {es : List Expr} {to : TE} {t : TA} {apos cpos : Pos} (hK : X.K = K) (pa : PlainAttrs T) (slot : Slot T name id) (hty : typeOf (.builtin id) = pure (.type "method_descriptor")) (hm : MtR X id r) (ho : PE X o to) (ha : PA X (e :: es) t)
    (hbase : attributeBase o name X.env (eval o X.env) = eval o X.env := by rfl)
    (hfew : ((backTo cpos (starEach (e :: es) X.env)).all (fun x => !x.1) && (backToKw cpos (keywordEach [] X.env)).all (fun x => x.1.isSome) && decide ((e :: es).length + ([] : List Keyword).length + (if ([] : List Keyword).isEmpty then 0 else 1) < 30)) = true := by rfl)
    (hline : (apos.endLine == cpos.line) = true := by rfl) (hs : starEach (e :: es) X.env = (false, eval e X.env) :: starEach es X.env := by rfl) (hplain : (backTo cpos (starEach es X.env)).any (·.1) = false := by rfl) :
    PE X (.Call (.Attribute o name apos) (e :: es) [] cpos) (tBM K T r to t) := by
  subst hK
  exact pe_bm pa slot hty hm ho ha hbase hfew hline hs hplain
theorem cnt_K {X : Cx} {K : PySem.W.Frag} (hK : X.K = K) : MtR X "list.count" (rCntF K) := by
  subst hK
  exact mt_countF
theorem index_K {X : Cx} {K : PySem.W.Frag} (hK : X.K = K) : MtR X "list.index" (rIndex K) := by
  subst hK
  exact mt_index
theorem ixl_K {X : Cx} {K : PySem.W.Frag} (hK : X.K = K) : IxR X (rIxL K) := by
  subst hK
  exact ix_list
abbrev nErr : List Str := ["_law_work", "error", "_law_kinds", "_law_names", "_law_name"]
theorem scErr : FnScope nErr ["_law_work"] (defScope sErr) := ⟨rfl, rfl, rfl, by decide +kernel, rfl, by decide +kernel, by decide +kernel⟩
theorem iteT' {b : Bool} {A B : Prop} (h : b = true) (a : A) : if b = true then A else B := by
  rw [h, if_pos rfl]
  exact a
theorem iteF' {b : Bool} {A B : Prop} (h : b = false) (a : B) : if b = true then A else B := by
  rw [h, if_neg Bool.false_ne_true]
  exact a
def ksV (j : Nat) : List V := [.bl (decide (0 = j)), .bl (decide (1 = j)), .bl (decide (2 = j)), .bl (decide (3 = j)), .bl (decide (4 = j)), .bl (decide (5 = j)), .bl (decide (6 = j))]
def nmsV : List V := [.str (nmE 0), .str (nmE 1), .str (nmE 2), .str (nmE 3), .str (nmE 4), .str (nmE 5), .str (nmE 6)]
theorem ksV_flat (j : Nat) : (ksV j).all flatV = true := rfl
theorem ksV_count {j : Nat} (h : j < 7) : ((ksV j).countP fun z => eqV z (.bl true)) = 1 := by
  have e : ∀ j : Fin 7, ((ksV j).countP fun z => eqV z (.bl true)) = 1 := by decide
  exact e ⟨j, h⟩
theorem ksV_at {j : Nat} (h : j < 7) : (ksV j)[j]? = some (.bl true) := by
  have e : ∀ j : Fin 7, (ksV j)[j.val]? = some (.bl true) := by decide
  exact e ⟨j, h⟩
theorem ksV_ahead {j : Nat} (h : j < 7) {m : Nat} {z : V} (hm : m < j) (hz : (ksV j)[m]? = some z) : eqV z (.bl true) = false := by
  have e : ∀ j m : Fin 7, m.val < j.val → ((ksV j)[m.val]?.map fun z => eqV z (.bl true)) = some false := by decide
  have e2 := e ⟨j, h⟩ ⟨m, by omega⟩ hm
  rw [hz] at e2
  exact Option.some.inj e2
theorem nmsV_at {j : Nat} (h : j < 7) : atI nmsV ((j : Nat) : Int) = some (.str (nmE j)) := by
  refine atI_nat ?_
  have e : j = 0 ∨ j = 1 ∨ j = 2 ∨ j = 3 ∨ j = 4 ∨ j = 5 ∨ j = 6 := by omega
  rcases e with rfl | rfl | rfl | rfl | rfl | rfl | rfl <;> rfl
theorem nmE_inj {j : Nat} (h : j < 7) : (nmE j = nmE 0 ↔ j = 0) ∧ (nmE j = nmE 1 ↔ j = 1) := by
  have e : j = 0 ∨ j = 1 ∨ j = 2 ∨ j = 3 ∨ j = 4 ∨ j = 5 ∨ j = 6 := by omega
  rcases e with rfl | rfl | rfl | rfl | rfl | rfl | rfl <;> decide +kernel
section
variable {X : Cx} {C : Nat → Addr} {CM g : Addr} {cdg : Value} {q : Str}
theorem err_gives (T : ErrF X.K X.mg C CM) : GivesG X nErr "_law_error" (defScope sErr) g cdg (defBody sErr) "_law_work" q (TErr C) := by
  intro f c' s H Q tl act hc hr h
  have nd := scErr.nd
  refine ⟨_, pss_cons (ps_try_as (X := (cxOf L2.CX0 X.prog X.w X.K X.mg X.base nErr "_law_error" (defScope sErr) g cdg X.A X.stack s H L2.E0).nox) (i := 1) (c := .ref CM)
      (tb := fun W D σ H => σ[0]? = some (some (.ref f)) ∧ H c' = some (CodeO c' q) ∧ ∃ E : XK, (∀ cls d H', E cls d H' → W cls d σ H') ∧ tl E H (fun _ H' => D.nx σ H'))
      rfl rfl nd rfl rfl ⟨rfl, by decide, .inl T.gM⟩ L2.takes0 (fun W pn xe tk _ => ?_)
      (fun a oe cls d pn hz hf =>
        pss_cons (ps_set (i := 2) nd rfl (.inl rfl) (pe_lst (pa_cons (pe_callB (isX_K (K := X.K) rfl hz hf) (by rfl) T.gi (by decide +kernel) (pa_cons (pv 1) (pa_cons (pe_glob (v := .ref (C 0)) rfl (T.g 0 (by decide)) rfl) pa_nil)))
            (pa_cons (pe_callB (isX_K (K := X.K) rfl hz hf) (by rfl) T.gi (by decide +kernel) (pa_cons (pv 1) (pa_cons (pe_glob (v := .ref (C 1)) rfl (T.g 1 (by decide)) rfl) pa_nil)))
            (pa_cons (pe_callB (isX_K (K := X.K) rfl hz hf) (by rfl) T.gi (by decide +kernel) (pa_cons (pv 1) (pa_cons (pe_glob (v := .ref (C 2)) rfl (T.g 2 (by decide)) rfl) pa_nil))) pa_nil)))))
        (pss_cons (ps_set (i := 2) nd rfl (.inl rfl) (pe_op op_cat (pv 2) (pe_lst (pa_cons (pe_callB (isX_K (K := X.K) rfl hz hf) (by rfl) T.gi (by decide +kernel) (pa_cons (pv 1) (pa_cons (pe_glob (v := .ref (C 3)) rfl (T.g 3 (by decide)) rfl) pa_nil)))
            (pa_cons (pe_callB (isX_K (K := X.K) rfl hz hf) (by rfl) T.gi (by decide +kernel) (pa_cons (pv 1) (pa_cons (pe_glob (v := .ref (C 4)) rfl (T.g 4 (by decide)) rfl) pa_nil)))
            (pa_cons (pe_callB (isX_K (K := X.K) rfl hz hf) (by rfl) T.gi (by decide +kernel) (pa_cons (pv 1) (pa_cons (pe_glob (v := .ref (C 5)) rfl (T.g 5 (by decide)) rfl) pa_nil))) pa_nil))))))
        (pss_cons (ps_set (i := 2) nd rfl (.inl rfl) (pe_op op_cat (pv 2) (pe_lst (pa_cons (pe_callB (isX_K (K := X.K) rfl hz hf) (by rfl) T.gi (by decide +kernel) (pa_cons (pv 1) (pa_cons (pe_glob (v := .ref (C 6)) rfl (T.g 6 (by decide)) rfl) pa_nil))) pa_nil))))
        (pss_cons (ps_set (i := 3) nd rfl (.inl rfl) (pe_lst (pa_cons pe_str (pa_cons pe_str (pa_cons pe_str (pa_cons pe_str (pa_cons pe_str (pa_cons pe_str (pa_cons pe_str pa_nil)))))))))
        (pss_cons (ps_if (PW.pt (pw_or (pt_cmpR op_ne (bm_K (K := X.K) rfl PySem.F.plainAttrs_list PySem.F.slot_list_count PySem.F.type_list_count (cnt_K (K := X.K) rfl) (pv 2) (pa_cons pe_bl pa_nil)) pe_int (nomark _))
            (pw_or1 (pt_not (pt_val (pe_callB (isX_K (K := X.K) rfl hz hf) (by rfl) T.gi (by decide +kernel) (pa_cons (pv 1) (pa_cons (pe_bltn (v := .ty "ValueError") (by rfl) T.gv (by decide +kernel) rfl) pa_nil)))))))) (pss_one (ps_ret pe_str)) pss_nil)
        (pss_cons (ps_set (i := 4) nd rfl (.inl rfl) (pe_ix (ixl_K (K := X.K) rfl) (pv 3) (bm_K (K := X.K) rfl PySem.F.plainAttrs_list PySem.F.slot_list_index PySem.F.type_list_index (index_K (K := X.K) rfl) (pv 2) (pa_cons pe_bl pa_nil)) (fun _ _ => rfl)))
        (pss_cons (ps_if (pt_cmpR op_eq (pv 4) pe_str (nomark _)) (pss_one (ps_ret (pe_tup (pa_cons (pv 4) (pa_cons (pe_xf T.xf0 T.noR hz hf (pv 1)) (pa_cons (pe_xf T.xf0 T.noC hz hf (pv 1)) pa_nil)))))) pss_nil)
        (pss_one (ps_ret (pe_ifExp (pt_cmpR op_eq (pv 4) pe_str (nomark _)) (pe_tup (pa_cons (pv 4) (pa_cons (pe_xf T.xf1 T.noI hz hf (pv 1)) pa_nil))) (pv 4))))))))))))
      (pss_one (ps_ret pe_str)), ?_⟩
  · refine ⟨fun pins s' σ H' D I h' => ?_⟩
    obtain ⟨h1, h2, h3⟩ := h'
    exact (pss_one (ps_expr (act W pn xe _ _ tk))).run pins s' σ H' D I ⟨h1, h2, h3⟩
  · refine ⟨rfl, hc, ErrOut C Q, fun cls d H' out => ?_, h⟩
    have key : ∃ j, j < 7 ∧ cls = .ref (C j) ∧ (∀ dd, d = some dd → ∃ fs, H' dd = some (.xd fs)) ∧
        ((j = 0 ∧ ∃ dd x y, d = some dd ∧ H' dd = some (.xd (xdII x y)) ∧ ∀ p H2, H' p = none → Same H' H2 → H2 p = some (.tup [.str "InvalidIsland", x, y]) → Q (.ref p) H2) ∨
         (j = 1 ∧ ∃ dd x, d = some dd ∧ H' dd = some (.xd [(("index" : Str), x)]) ∧ ∀ p H2, H' p = none → Same H' H2 → H2 p = some (.tup [.str "InvalidMap", x]) → Q (.ref p) H2) ∨
         (2 ≤ j ∧ ∀ H2, Same H' H2 → Q (.str (nmE j)) H2)) := by
      cases out with
      | isl h1 h2 => exact ⟨0, by decide, rfl, fun dd e => by cases e; exact ⟨_, h1⟩, .inl ⟨rfl, _, _, _, rfl, h1, h2⟩⟩
      | chart h1 h2 => exact ⟨1, by decide, rfl, fun dd e => by cases e; exact ⟨_, h1⟩, .inr (.inl ⟨rfl, _, _, rfl, h1, h2⟩)⟩
      | other h1 h2 h3 => exact ⟨_, h2, rfl, fun dd e => (nomatch e), .inr (.inr ⟨h1, h3⟩)⟩
    obtain ⟨j, hj, ej, hd, fin⟩ := key
    refine ⟨true, by rw [ej]; exact T.exm j hj, fun _ a ha => ?_, fun z => by cases z⟩
    -- the kinds
    refine ⟨_, rfl, C j, _, _, _, ej, T.exc j hj, rfl, fun u r => r, T.kit j 0 hj (by decide), hd, _, rfl, C j, _, _, _, ej, T.exc j hj, rfl, fun u r => r, T.kit j 1 hj (by decide), hd,
      _, rfl, C j, _, _, _, ej, T.exc j hj, rfl, fun u r => r, T.kit j 2 hj (by decide), hd, (by show 3 ≤ sizeLine; decide), fun p1 hp1 => ?_⟩
    have S1 : Same H' (upd H' p1 (.lst [.bl (decide (0 = j)), .bl (decide (1 = j)), .bl (decide (2 = j))])) := Same.new (Same.refl _) hp1
    have hd1 : ∀ dd, d = some dd → ∃ fs, (upd H' p1 (.lst [.bl (decide (0 = j)), .bl (decide (1 = j)), .bl (decide (2 = j))])) dd = some (.xd fs) := fun dd e => let ⟨fs, z⟩ := hd dd e; ⟨fs, S1 _ _ z⟩
    refine ⟨_, rfl, _, rfl, C j, _, _, _, ej, T.exc j hj, rfl, fun u r => r, T.kit j 3 hj (by decide), hd1, _, rfl, C j, _, _, _, ej, T.exc j hj, rfl, fun u r => r, T.kit j 4 hj (by decide), hd1,
      _, rfl, C j, _, _, _, ej, T.exc j hj, rfl, fun u r => r, T.kit j 5 hj (by decide), hd1, (by show 3 ≤ sizeLine; decide), fun p2 hp2 => ?_⟩
    have k1 : (upd H' p1 (.lst [.bl (decide (0 = j)), .bl (decide (1 = j)), .bl (decide (2 = j))])) p1 = some (.lst [.bl (decide (0 = j)), .bl (decide (1 = j)), .bl (decide (2 = j))]) := upd_same
    generalize (upd H' p1 (.lst [.bl (decide (0 = j)), .bl (decide (1 = j)), .bl (decide (2 = j))])) = H1 at S1 hd1 hp2 k1 ⊢
    have k1' := (Same.new (Same.refl H1) hp2 (o := .lst [.bl (decide (3 = j)), .bl (decide (4 = j)), .bl (decide (5 = j))])) _ _ k1
    refine ⟨p1, p2, _, _, rfl, rfl, k1', upd_same, (by show 3 + 3 ≤ sizeLine; decide), fun p3 hp3 => ?_⟩
    have S3 := S1.trans (Same.new (Same.new (Same.refl H1) hp2 (o := .lst [.bl (decide (3 = j)), .bl (decide (4 = j)), .bl (decide (5 = j))])) hp3 (o := .lst ([.bl (decide (0 = j)), .bl (decide (1 = j)), .bl (decide (2 = j))] ++ [.bl (decide (3 = j)), .bl (decide (4 = j)), .bl (decide (5 = j))])))
    have k3 : (upd (upd H1 p2 (.lst [.bl (decide (3 = j)), .bl (decide (4 = j)), .bl (decide (5 = j))])) p3 (.lst ([.bl (decide (0 = j)), .bl (decide (1 = j)), .bl (decide (2 = j))] ++ [.bl (decide (3 = j)), .bl (decide (4 = j)), .bl (decide (5 = j))]))) p3 = _ := upd_same
    generalize (upd (upd H1 p2 (.lst [.bl (decide (3 = j)), .bl (decide (4 = j)), .bl (decide (5 = j))])) p3 (.lst ([.bl (decide (0 = j)), .bl (decide (1 = j)), .bl (decide (2 = j))] ++ [.bl (decide (3 = j)), .bl (decide (4 = j)), .bl (decide (5 = j))]))) = H3 at S3 k3 ⊢
    have hd3 : ∀ dd, d = some dd → ∃ fs, H3 dd = some (.xd fs) := fun dd e => let ⟨fs, z⟩ := hd dd e; ⟨fs, S3 _ _ z⟩
    refine ⟨_, rfl, _, rfl, C j, _, _, _, ej, T.exc j hj, rfl, fun u r => r, T.kit j 6 hj (by decide), hd3, (by show 1 ≤ sizeLine; decide), fun p4 hp4 => ?_⟩
    have k3' := (Same.new (Same.refl H3) hp4 (o := .lst [.bl (decide (6 = j))])) _ _ k3
    refine ⟨p3, p4, _, _, rfl, rfl, k3', upd_same, (by show 6 + 1 ≤ sizeLine; decide), fun p5 hp5 => ?_⟩
    have S5 := S3.trans (Same.new (Same.new (Same.refl H3) hp4 (o := .lst [.bl (decide (6 = j))])) hp5 (o := .lst (ksV j)))
    have k5 : (upd (upd H3 p4 (.lst [.bl (decide (6 = j))])) p5 (.lst (ksV j))) p5 = some (.lst (ksV j)) := upd_same
    show (fun (Hx : Hp) => _) (upd (upd H3 p4 (.lst [.bl (decide (6 = j))])) p5 (.lst (ksV j)))
    generalize (upd (upd H3 p4 (.lst [.bl (decide (6 = j))])) p5 (.lst (ksV j))) = H5 at S5 k5 ⊢
    -- the names
    refine ⟨by show 7 ≤ sizeLine; decide, fun p6 hp6 => ?_⟩
    have S6 := S5.trans (Same.new (Same.refl H5) hp6 (o := .lst nmsV))
    have k6 : (upd H5 p6 (.lst nmsV)) p6 = some (.lst nmsV) := upd_same
    have k56 : (upd H5 p6 (.lst nmsV)) p5 = some (.lst (ksV j)) := Same.new (Same.refl H5) hp6 _ _ k5
    show (fun (Hx : Hp) => _) (upd H5 p6 (.lst nmsV))
    generalize (upd H5 p6 (.lst nmsV)) = H6 at S6 k6 k56 ⊢
    have hd6 : ∀ dd, d = some dd → ∃ fs, H6 dd = some (.xd fs) := fun dd e => let ⟨fs, z⟩ := hd dd e; ⟨fs, S6 _ _ z⟩
    refine ⟨_, rfl, .inl ⟨rfl, _, .inl (.inl k56)⟩, p5, _, _, rfl, rfl, .inl (.inl k56), rfl, ksV_flat j, rfl, _, rfl, ?_⟩
    rw [ksV_count hj]
    refine iteNS rfl ?_
    refine ⟨_, rfl, C j, _, _, _, ej, T.exc j hj, rfl, fun u r => r, T.kitV j hj, hd6, _, rfl, ?_⟩
    refine ⟨_, rfl, _, rfl, .inl ⟨rfl, _, .inl (.inl k56)⟩, p5, _, _, j, _, rfl, rfl, .inl (.inl k56), rfl, ksV_flat j, ksV_at hj, rfl, fun m z hm hz => ksV_ahead hj hm hz, ?_⟩
    refine ⟨p6, _, _, _, rfl, rfl, .inl (.inl k6), nmsV_at hj, ?_⟩
    refine ⟨_, rfl, rfl, _, rfl, ?_⟩
    rcases fin with ⟨rfl, dd, x, y, ed, hx, k⟩ | ⟨rfl, dd, x, ed, hx, k⟩ | ⟨h2, k⟩
    · have lr : List.lookup ("row" : Str) (xdII x y) = some x := by
        unfold xdII
        rw [lookup_put, if_neg (by decide +kernel), lookup_put, if_pos rfl]
      have lc : List.lookup ("column" : Str) (xdII x y) = some y := by
        unfold xdII
        rw [lookup_put, if_pos rfl]
      refine iteT' (decide_eq_true rfl) ?_
      refine ⟨_, rfl, _, rfl, rfl, ej, dd, _, x, ed, S6 _ _ hx, lr, _, rfl, rfl, ej, dd, _, y, ed, S6 _ _ hx, lc, (by show 3 ≤ sizeLine; decide), fun p hp => ?_⟩
      exact k p _ (Same.free S6 hp) (S6.trans (Same.new (Same.refl _) hp)) upd_same
    · refine iteF' (decide_eq_false (by decide +kernel)) ?_
      refine ⟨_, rfl, rfl, _, rfl, ?_⟩
      refine iteT' (decide_eq_true rfl) ?_
      have li : List.lookup ("index" : Str) [(("index" : Str), x)] = some x := by rw [lookup_put, if_pos rfl]
      refine ⟨_, rfl, _, rfl, rfl, ej, dd, _, x, ed, S6 _ _ hx, li, (by show 2 ≤ sizeLine; decide), fun p hp => ?_⟩
      exact k p _ (Same.free S6 hp) (S6.trans (Same.new (Same.refl _) hp)) upd_same
    · have n0 : ¬ V.str (nmE j) = V.str (Str.ofString "InvalidIsland") := fun e => by
        injection e with e
        have := (nmE_inj hj).1.mp e
        omega
      have n1 : ¬ V.str (nmE j) = V.str (Str.ofString "InvalidMap") := fun e => by
        injection e with e
        have := (nmE_inj hj).2.mp e
        omega
      refine iteF' (decide_eq_false n0) ?_
      refine ⟨_, rfl, rfl, _, rfl, ?_⟩
      refine iteF' (decide_eq_false n1) ?_
      exact ⟨_, rfl, k _ S6⟩
end
end Om

namespace Om
open PySem PySem.Spec PyProof.Rows L2 LamX
/-! ### a text of some signs, several times -/
theorem foldl_rep (cs : List Nat) : ∀ (n : Nat) (acc : List Nat), (List.replicate n cs.toArray).foldl (· ++ ·) acc.toArray = (acc ++ (List.replicate n cs).flatten).toArray
  | 0, acc => by simp
  | n + 1, acc => by
    rw [List.replicate_succ, List.foldl_cons]
    have e : acc.toArray ++ cs.toArray = (acc ++ cs).toArray := by simp
    rw [e, foldl_rep cs n (acc ++ cs), List.replicate_succ, List.flatten_cons, List.append_assoc]
def rMulS : R2 := fun x y H Q => ∃ (cs : List Nat) (k : Int), x = .str (tx cs) ∧ y = .int k ∧ cs ≠ [] ∧ cs.length ≤ 1000 ∧ 2 ≤ k ∧ k ≤ 1000 ∧ Q (.str (tx (List.replicate k.toNat cs).flatten)) H
theorem op_mulS {X : Cx} : OpR X (binaryOp .Mult) rMulS := by
  rintro pins s σ H x y v u Q I rx ry ⟨cs, k, rfl, rfl, hne, hl, h2, h3, q⟩
  obtain ⟨t, rfl⟩ := rx
  obtain ⟨t', rfl⟩ := ry
  have hk : (List.replicate k.toNat cs).flatten.length ≤ 1000000 := by
    rw [PyProof.Rows.lm_len_rep_flat]
    have a1 : k.toNat * cs.length ≤ 1000 * 1000 := Nat.mul_le_mul (by omega) hl
    omega
  have hm : (tx cs).length * k.toNat ≤ 1000000 := by
    rw [tx_len]
    have a1 : cs.length * k.toNat ≤ 1000 * 1000 := Nat.mul_le_mul hl (by omega)
    omega
  have n1 : ¬ k < 1 := by omega
  have n2 : (k == 1 || (tx cs).length == 0) = false := by
    rw [tx_len, Bool.or_eq_false_iff]
    refine ⟨by simpa using (show ¬ k = 1 by omega), ?_⟩
    cases cs with
    | nil => exact absurd rfl hne
    | cons a r => rfl
  refine PySem.P.mul_str ?_ (fun _ _ => ?_) (fun _ _ => ?_) ?_
  · rw [decide_eq_false (show ¬ k < -(2 ^ 63 : Int) by omega), decide_eq_false (show ¬ k ≥ 2 ^ 63 by omega)]
    rfl
  · have e1 : (1000 : Int) ≤ (2 ^ 63 - 1) / k := by
      rw [Int.le_ediv_iff_mul_le (by omega)]
      have : 1000 * k ≤ 1000 * 1000 := Int.mul_le_mul_of_nonneg_left h3 (by omega)
      omega
    rw [tx_len]
    omega
  · refine decide_eq_false (show ¬ (tx cs).length * k.toNat > sizeLine from Nat.not_lt.mpr (Nat.le_trans hm (by decide)))
  · rw [if_neg n1, if_neg (by rw [n2]; exact Bool.false_ne_true)]
    have e2 : (⟨(List.replicate k.toNat (tx cs).cps).foldl (· ++ ·) #[]⟩ : Str) = tx (List.replicate k.toNat cs).flatten := by
      have := foldl_rep cs k.toNat []
      unfold tx
      rw [← List.nil_append (List.replicate k.toNat cs).flatten, ← this]
    rw [e2]
    exact ⟨by rw [tx_len]; exact Nat.le_trans hk (by decide), .str (tx (List.replicate k.toNat cs).flatten), H, I.tok _, ⟨_, rfl⟩, q⟩
/-! ### the island is made -/
/-- what the top says of Island, at CI -/
structure IslF (K : PySem.W.Frag) (mg : Str → Option Value) (CI fN : Addr) : Prop where
  cl : Cls K CI
  nR : NoAttr K CI "_rows"
  made : Mk K CI fN
  gI : mg "Island" = some (.ref CI)
def islFs (a : Addr) : List (Str × V) := putF "_rows" (.ref a) []
def spIsl (K : PySem.W.Frag) (CI C0 : Addr) : Sp := fun vs H Q E => ∃ (p dx a : Addr) (rows : List (List Nat)), vs = [.ref p, .ref a] ∧ H p = some (.ins CI dx []) ∧ SqT K H a (rows.map vt) ∧ rows.length ≤ 1000 ∧ (∀ r ∈ rows, r.length ≤ 1000) ∧
  (chk rows = none → ∀ H', (∀ b o, H b = some o → b ≠ p → H' b = some o) → H' p = some (.ins CI dx (islFs a)) → Q .non H') ∧
  ∀ r c, chk rows = some (r, c) → ∀ d H', H d = none → Same H H' → H' d = some (.xd (xdII (.int (r : Nat)) (.int (c : Nat)))) → E (.ref C0) (some d) H'
section
variable {P : Program} {w : World} {K : PySem.W.Frag} {mg : Str → Option Value} {base : Heap} {CI C0 fN : Addr}
theorem scIsl : FnScope ["self", "rows"] ["self", "rows"] (defScope sIslI) := ⟨rfl, rfl, rfl, by decide +kernel, rfl, by decide +kernel, by decide +kernel⟩
theorem ok_isl {fd : FuncData} (F : FnP K "__init__" "Island.__init__" sIslI fN fd) (T : IslF K mg CI fN) (G : Cal P w K mg base (L2.CX P w) 3 "_check_rows" ["rows"] (spChk K C0)) (gtuple : mg "tuple" = none) :
    FnOk P w K mg base (L2.CX P w) 4 fN fd ["self", "rows"] (spIsl K CI C0) := by
  refine F.ok scIsl (fun vs H Q E h => ?_) (fun cdv A outer s H vs Q E hr h => ?_)
  · obtain ⟨p, dx, a, rows, rfl, _⟩ := h
    rfl
  · obtain ⟨p, dx, a, rows, rfl, hp, hS, hl, hrl, kN, kS⟩ := h
    refine ⟨_, pss_cons (ps_expr (pe_cal G hr (E := E) (passes_call (W := fun cls d _ H => E cls d H) (takes_of rfl rfl rfl rfl) fun _ _ _ _ h => h) (pa_cons (pv 1) pa_nil)))
      (pss_one (ps_fld (pv 0) (pe_callTy call_tuple_of (by rfl) gtuple (by decide +kernel) (pa_cons (pv 1) pa_nil)) rfl)), ?_⟩
    refine ⟨_, rfl, a, rows, rfl, hS, hl, hrl, fun e H1 s1 => ?_, fun r c e d H' h1 h2 h3 => kS r c e d H' h1 h2 h3⟩
    refine ⟨_, rfl, a, _, rfl, .inr ⟨Same.tup s1 hS, ?_⟩⟩
    refine ⟨_, rfl, p, CI, dx, [], rfl, s1 _ _ hp, T.cl, T.nR, by decide, ?_⟩
    exact kN e _ (fun b o hb n => by rw [upd_ne n]; exact s1 _ _ hb) upd_same
end
end Om

namespace Om
open PySem PySem.Spec PyProof.Rows L2 LamX
def ansII (r c : Nat) : List V := [.str "InvalidIsland", .int (r : Nat), .int (c : Nat)]
def Lo (rows : List (List Nat)) : Prop := ∀ r ∈ rows, ∀ c ∈ r, c < 1000
/-! ### what stays from step to step of a law -/
/-- all but tables and the box stay -/
def Lv (b l : Addr) (H H' : Hp) : Prop := ∀ c o, H c = some o → (∀ ps, o ≠ .tbl ps) → c ≠ b → c ≠ l → H' c = some o
theorem Lv.refl (b l : Addr) (H : Hp) : Lv b l H H := fun _ _ h _ _ _ => h
theorem Lv.trans {b l : Addr} {H H1 H2 : Hp} (u : Lv b l H H1) (v : Lv b l H1 H2) : Lv b l H H2 := fun c o h n n1 n2 => v c o (u c o h n n1 n2) n n1 n2
theorem Kp.lv {b l : Addr} {H H' : Hp} (k : Kp b l H H') : Lv b l H H' := fun c o h _ n1 n2 => k c o h n1 n2
theorem lv_ext {b l : Addr} {H H' : Hp} (k : ExtN H H') : Lv b l H H' := fun c o h n _ _ => k c o h n
theorem lv_same {b l : Addr} {H H' : Hp} (k : Same H H') : Lv b l H H' := fun c o h _ _ _ => k c o h
theorem Lv.tup {K : PySem.W.Frag} {b l a : Addr} {H H' : Hp} {xs : List V} (v : Lv b l H H') (B : Box H b l) (h : SqT K H a xs) : SqT K H' a xs := by
  obtain ⟨ns, z, h1, h2, _⟩ := B.ex
  rcases h with (h | ⟨o, h⟩) | h
  · exact .inl (.inl (v _ _ h (fun ps e => by cases e) (ne_of h h1 fun e => by cases e) (ne_of h h2 fun e => by cases e)))
  · exact .inl (.inr ⟨o, v _ _ h (fun ps e => by cases e) (ne_of h h1 fun e => by cases e) (ne_of h h2 fun e => by cases e)⟩)
  · exact .inr h
theorem Box.ext {b l : Addr} {H H' : Hp} (B : Box H b l) (k : ExtN H H') : Box H' b l := by
  obtain ⟨ns, z, h1, h2, h3⟩ := B.ex
  exact ⟨ns, z, k _ _ h1 (fun ps e => by cases e), k _ _ h2 (fun ps e => by cases e), h3⟩
theorem tabs_kp {T : List (Addr × Str)} {b l : Addr} {H H' : Hp} (t : Tabs T H) (B : Box H b l) (k : Kp b l H H') : Tabs T H' := fun p hp => by
  obtain ⟨ns, z, h1, h2, _⟩ := B.ex
  obtain ⟨ps, q1, q2, q3⟩ := t p hp
  refine ⟨ps, k _ _ q1 (ne_of q1 h1 fun e => by cases e) (ne_of q1 h2 fun e => by cases e), q2, fun pos cv hc => ?_⟩
  obtain ⟨c, e1, e2⟩ := q3 pos cv hc
  exact ⟨c, e1, k _ _ e2 (ne_of e2 h1 fun e => by unfold CodeO at e; cases e) (ne_of e2 h2 fun e => by unfold CodeO at e; cases e)⟩
/-! ### tuples cut and put together -/
theorem catA_read {K : PySem.W.Frag} {a b : Addr} {xs ys : List V} {H : Hp} {Q : VK} (hx : SqT K H a xs) (hy : SqT K H b ys) (hl : xs.length + ys.length ≤ sizeLine) (k : ∀ p H', Same H H' → SqT K H' p (xs ++ ys) → Q (.ref p) H') : rCatA K (.ref a) (.ref b) H Q :=
  ⟨a, b, xs, ys, rfl, rfl, hx, hy, hl, fun e => k b H (Same.refl H) (by rw [e]; exact hy), fun _ e => k a H (Same.refl H) (by rw [e, List.append_nil]; exact hx), fun _ _ p hp => k p _ (Same.new (Same.refl H) hp) (.inl (.inl upd_same))⟩
theorem slA_read {K : PySem.W.Frag} {a : Addr} {xs : List V} {lo hi : Option Int} {H : Hp} {Q : VK} (hx : SqT K H a xs) (k : ∀ p H', Same H H' → SqT K H' p (cutV xs lo hi) → Q (.ref p) H') : rSlA K (.ref a) lo hi H Q := by
  refine ⟨a, xs, rfl, hx, fun ⟨e1, e2⟩ => k a H (Same.refl H) ?_, fun _ p hp => k p _ (Same.new (Same.refl H) hp) (.inl (.inl upd_same))⟩
  unfold cutV
  rw [e1, e2, List.drop_zero, Nat.sub_zero, List.take_length]
  exact hx
/-! ### rows with some bound -/
structure Good (rows : List (List Nat)) : Prop where
  len : rows.length ≤ 900
  row : ∀ r ∈ rows, r.length ≤ 1000 ∧ ∀ c ∈ r, c < 1000
theorem Good.lens {rows : List (List Nat)} (g : Good rows) : ∀ r ∈ rows, r.length ≤ 1000 := fun r h => (g.row r h).1
theorem Good.lo {rows : List (List Nat)} (g : Good rows) : Lo rows := fun r h => (g.row r h).2
theorem Good.le {rows : List (List Nat)} (g : Good rows) : rows.length ≤ 1000 := Nat.le_trans g.len (by decide)
theorem RowsOk.good {m : Nat} {rows : List (List Nat)} (h : RowsOk m rows) (hm : m ≤ 12) : Good rows := by
  obtain ⟨h1, h2, wd, w1, w2, hr⟩ := h
  refine ⟨by omega, fun r hr' => ⟨by have := (hr r hr').1; omega, fun c hc => ?_⟩⟩
  rcases (hr r hr').2 c hc with e | e | e <;> omega
theorem cutV_rows (rows : List (List Nat)) (lo hi : Option Int) : ∃ rs : List (List Nat), cutV (rows.map vt) lo hi = rs.map vt ∧ rs.length ≤ rows.length ∧ ∀ r ∈ rs, r ∈ rows := by
  refine ⟨(rows.drop (HT.sIx (rows.map vt).length 0 lo)).take (HT.sIx (rows.map vt).length (rows.map vt).length hi - HT.sIx (rows.map vt).length 0 lo), ?_, ?_, fun r h => List.mem_of_mem_drop (List.mem_of_mem_take h)⟩
  · unfold cutV
    rw [List.map_take, List.map_drop]
  · rw [List.length_take, List.length_drop]
    omega
theorem cutS_tx (r : List Nat) (lo hi : Option Int) : ∃ q : List Nat, cutS (tx r) lo hi = tx q ∧ q.length ≤ r.length ∧ ∀ c ∈ q, c ∈ r := by
  refine ⟨_, rfl, ?_, fun c h => ?_⟩
  · rw [List.length_take, List.length_drop, tx_cps]
    omega
  · have := List.mem_of_mem_drop (List.mem_of_mem_take h)
    rwa [tx_cps] at this
/-! ### the answers of _law_error and of _law_due -/
def Res (H : Hp) (v : V) : Option (Nat × Nat) → Prop
  | none => v = .str ""
  | some (r, c) => ∃ p, v = .ref p ∧ H p = some (.tup (ansII r c))
def dRes : Option (Nat × Nat) → PyData
  | none => .str ""
  | some (r, c) => .tuple [.str "InvalidIsland", .int (r : Nat), .int (c : Nat)]
theorem lay_dRes (o : Option (Nat × Nat)) : (dRes o).canLay0 = true := by
  cases o with
  | none => decide +kernel
  | some p =>
    obtain ⟨r, c⟩ := p
    have e : PyData.strOk ("InvalidIsland" : Str) = true := by decide +kernel
    simp only [dRes, PyData.canLay0, PyData.canLayAll0, e, Bool.and_self]
theorem shaped_dRes (o : Option (Nat × Nat)) : SeqAt.shaped (dRes o) = true := by
  refine shaped_of (lay_dRes o) ?_
  cases o with
  | none => decide +kernel
  | some p => simp [dRes, PyData.depth, PyData.depthAll]
theorem eqv_dRes (o : Option (Nat × Nat)) : PyData.eqv (dRes o) (dRes o) = true := PySem.SeqAt.eqv_refl _ (lay_dRes o)
theorem Res.dp {K : PySem.W.Frag} {H : Hp} {v : V} {o : Option (Nat × Nat)} (h : Res H v o) : Dp K H v (dRes o) := by
  cases o with
  | none =>
    obtain rfl : v = .str "" := h
    exact .str _
  | some p =>
    obtain ⟨r, c⟩ := p
    obtain ⟨q, rfl, hq⟩ := h
    exact .tup (.inl (.inl hq)) (.cons (.str _) (.cons (.int _) (.cons (.int _) .nil)))
theorem Res.same {H H' : Hp} {v : V} {o : Option (Nat × Nat)} (h : Res H v o) (s : Same H H') : Res H' v o := by
  cases o with
  | none => exact h
  | some p =>
    obtain ⟨r, c⟩ := p
    obtain ⟨q, rfl, hq⟩ := h
    exact ⟨q, rfl, s _ _ hq⟩
theorem Res.ext {H H' : Hp} {v : V} {o : Option (Nat × Nat)} (h : Res H v o) (s : ExtN H H') : Res H' v o := by
  cases o with
  | none => exact h
  | some p =>
    obtain ⟨r, c⟩ := p
    obtain ⟨q, rfl, hq⟩ := h
    exact ⟨q, rfl, s _ _ hq fun ps e => by cases e⟩
/-- _law_error(lambda: Island(x)), x rows -/
theorem err_isl {K : PySem.W.Frag} {CI : Addr} {C : Nat → Addr} {σ : L2.St} {H : Hp} {Q : VK} {ta : TA} {rows : List (List Nat)} (g : Good rows) (hta : ∀ Qa : List V → Hp → Prop, (∀ a H', Same H H' → SqT K H' a (rows.map vt) → Qa [.ref a] H') → ta σ H Qa)
    (k : ∀ v H', Same H H' → Res H' v (chk rows) → Q v H') : TErr C (fun E H' Q' => tMake CI (spIsl K CI (C 0)) [] E ta σ H' Q') H Q := by
  show ta σ H fun vs H1 => ∀ x dx, H1 x = none → H1 dx = none → dx ≠ x → spIsl K CI (C 0) (.ref x :: (vs ++ [])) (upd (upd H1 dx (.own x)) x (.ins CI dx [])) (fun v H2 => v = .non ∧ Q (.str "") H2) (ErrOut C Q)
  refine hta _ fun a H1 s1 hS x dx hx hdx hne => ?_
  have s2 : Same H1 (upd (upd H1 dx (.own x)) x (.ins CI dx [])) := fun c o hc => by
    rw [upd_ne (ne_of_none hc hx), upd_ne (ne_of_none hc hdx)]
    exact hc
  refine ⟨x, dx, a, rows, rfl, upd_same, Same.tup s2 hS, g.le, g.lens, fun e H2 k1 k2 => ⟨rfl, k _ H2 (fun c o hc => ?_) (by rw [e]; rfl)⟩, fun r c e d H2 h1 h2 h3 => ErrOut.isl h3 fun p H3 h4 h5 h6 => k _ H3 ((s1.trans (s2.trans h2)).trans h5) (by rw [e]; exact ⟨p, rfl, h6⟩)⟩
  exact k1 c o (s2 c o (s1 c o hc)) (ne_of_none (s1 c o hc) hx)
end Om

namespace Om
open PySem PySem.Spec PyProof.Rows L2 LamX
/-! ### own __getitem__, __contains__, __len__, __eq__ -/
/-- the class at C finds the name as the def at f -/
structure OwnM (K : PySem.W.Frag) (C : Addr) (n : Str) (f : Addr) : Prop where
  at_ : PySem.W.findIn K (.ref C) n = some (some (.ref f))
  fn : PySem.W.isFn K (.ref f) = true
  isF : PySem.W.fnIn K f = true
section
variable {X : Cx} {CX : CXT} {k : Nat} {C f : Addr} {fd : FuncData} {ps : List Str} {sp : Sp} {E : XK}
theorem run_fnS {A : Around} {pins : List (Addr × Obj)} {σ : L2.St} {H : Hp} {s : Shared} {Q : VK} {us : List Value} {vs : List V} (F : FnOk X.prog X.w X.K X.mg X.base CX k f fd ps sp) (sb : Sub X k A) (hb : Binds X.K fd ps []) (hx : Passes CX X E) (I : Inv X pins σ H s)
    (r : Vals vs us) (h : sp vs H Q E) : wpAny (model X.prog X.w) A (call (.ref f) us) (EP X pins σ Q) X.xe s := by
  have e0 : Env0 X.prog X.w X.K X.mg X.base A X.stack s H := by
    have e := I.env0
    exact ⟨by rw [sb.fr]; exact e.frames, e.mod, e.bs, e.bsz, e.funs, e.frf, e.hok, e.bare⟩
  have hl : us.length = ps.length := by rw [← r.length]; exact F.len _ _ _ _ h
  refine wpAny_call (codeAny_mono (F.run A X.stack s H ⟨us, []⟩ us vs Q E sb.room e0 (by
    have := hb s us I.kIn (by simpa using hl)
    simpa using this) r h) fun r s' hq => ?_)
  cases r with
  | error e => exact hx pins σ H s e s' I hq
  | ok fl =>
    cases fl with
    | ret w =>
      obtain ⟨v, H', I', rz, q⟩ := I.after hq
      exact ⟨v, H', I', rz, q⟩
    | next => exact False.elim hq
    | brk => exact False.elim hq
    | cont => exact False.elim hq
def rIxOwn (C : Addr) (sp : Sp) (E : XK) : R2 := fun x y H Q => ∃ a dx fs, x = .ref a ∧ H a = some (.ins C dx fs) ∧ sp [x, y] H Q E
theorem pe_ixOwn {a b : Expr} {ta tb : TE} {pos : Pos} (M : OwnM X.K C "__getitem__" f) (F : FnOk X.prog X.w X.K X.mg X.base CX k f fd ps sp) (hr : Room (k + 1) X.A) (hb : Binds X.K fd ps []) (hx : Passes CX X E) (ha : PE X a ta) (hi : PE X b tb)
    (hsl : ∀ v u, subscripted b true v u = runValue (.builtin "lifetime.subscript" ⟨[v, u], []⟩) := by intro v u; rfl) : PE X (.Subscript a b pos) (tOp (rIxOwn C sp E) ta tb) := by
  refine ⟨fun pins s σ H Q I h => ?_⟩
  refine Subscript_ (binT ha hi I h fun v u s2 x y H2 I2 rx ry q => ?_)
  obtain ⟨p, dx, fs, rfl, hp, q⟩ := q
  cases rx
  obtain ⟨mA, J, _⟩ := ins_get I2.hok hp
  obtain ⟨od, J, _⟩ := J.look
  obtain ⟨m, hF⟩ := I2.fr
  exact PySem.W.sub_K hF I2.ok.mod.kin J M.at_ M.isF M.fn (run_fnS F ⟨hr.in1, rfl⟩ hb hx I2 (.cons (show RelV (V.ref p) (Value.ref p) from rfl) (.cons ry .nil)) q) (hsl _ _)
def rInOwn (C : Addr) (sp : Sp) (E : XK) : R2 := fun x y H Q => ∃ a dx fs, y = .ref a ∧ H a = some (.ins C dx fs) ∧ sp [y, x] H (fun v H' => ∃ b, v = .bl b ∧ Q (.bl b) H') E
theorem op_inOwn (M : OwnM X.K C "__contains__" f) (F : FnOk X.prog X.w X.K X.mg X.base CX k f fd ps sp) (hr : Room k X.A) (hb : Binds X.K fd ps []) (hx : Passes CX X E) : OpR X (compareOp .In) (rInOwn C sp E) := by
  intro pins s σ H x y v u Q I rx ry h
  obtain ⟨p, dx, fs, rfl, hp, q⟩ := h
  cases ry
  obtain ⟨mA, J, _⟩ := ins_get I.hok hp
  obtain ⟨od, J, _⟩ := J.look
  obtain ⟨m, hF⟩ := I.fr
  refine PySem.W.in_K hF I.ok.mod.kin J M.at_ M.fn (wpAny_mono (run_fnS F ⟨hr, rfl⟩ hb hx I (.cons (show RelV (V.ref p) (Value.ref p) from rfl) (.cons rx .nil)) q) (fun r s' z => ?_) fun _ _ z => z)
  obtain ⟨z, H', I', rz, b, ez, q⟩ := z
  subst ez
  cases rz
  exact wpAny_truthy_bool ⟨.bl b, H', I', rfl, q⟩
def rNotInOwn (C : Addr) (sp : Sp) (E : XK) : R2 := fun x y H Q => ∃ a dx fs, y = .ref a ∧ H a = some (.ins C dx fs) ∧ sp [y, x] H (fun v H' => ∃ b, v = .bl b ∧ Q (.bl (!b)) H') E
theorem op_notInOwn (M : OwnM X.K C "__contains__" f) (F : FnOk X.prog X.w X.K X.mg X.base CX k f fd ps sp) (hr : Room k X.A) (hb : Binds X.K fd ps []) (hx : Passes CX X E) : OpR X (compareOp .NotIn) (rNotInOwn C sp E) := by
  intro pins s σ H x y v u Q I rx ry h
  obtain ⟨p, dx, fs, rfl, hp, q⟩ := h
  cases ry
  obtain ⟨mA, J, _⟩ := ins_get I.hok hp
  obtain ⟨od, J, _⟩ := J.look
  obtain ⟨m, hF⟩ := I.fr
  refine PySem.W.notIn_K hF I.ok.mod.kin J M.at_ M.fn (wpAny_mono (run_fnS F ⟨hr, rfl⟩ hb hx I (.cons (show RelV (V.ref p) (Value.ref p) from rfl) (.cons rx .nil)) q) (fun r s' z => ?_) fun _ _ z => z)
  obtain ⟨z, H', I', rz, b, ez, q⟩ := z
  subst ez
  cases rz
  exact wpAny_truthy_bool ⟨.bl (!b), H', I', rfl, q⟩
/-- both sides instances of C -/
def rEqOwn (C : Addr) (sp : Sp) (E : XK) : R2 := fun x y H Q => ∃ a dx fs b dy gs, x = .ref a ∧ H a = some (.ins C dx fs) ∧ y = .ref b ∧ H b = some (.ins C dy gs) ∧ sp [x, y] H (fun v H' => ∃ b, v = .bl b ∧ Q (.bl b) H') E
theorem op_eqOwn (M : OwnM X.K C "__eq__" f) (F : FnOk X.prog X.w X.K X.mg X.base CX k f fd ps sp) (hr : Room k X.A) (hb : Binds X.K fd ps []) (hx : Passes CX X E) : OpR X (compareOp .Eq) (rEqOwn C sp E) := by
  intro pins s σ H x y v u Q I rx ry h
  obtain ⟨p, dx, fs, q', dy, gs, rfl, hp, rfl, hq, q⟩ := h
  cases rx
  cases ry
  obtain ⟨mA, J, _⟩ := ins_get I.hok hp
  obtain ⟨od, J, _⟩ := J.look
  obtain ⟨mB, J', _⟩ := ins_get I.hok hq
  obtain ⟨od', J', _⟩ := J'.look
  obtain ⟨m, hF⟩ := I.fr
  show wpAny (model X.prog X.w) X.A (richCompare .Eq _ _) _ _ _
  refine PySem.W.cmp_K (op := .Eq) (tb := .ref C) hr.units0 hF I.ok.mod.kin J J'.type (by simp [PySem.W.notFirst]) M.at_ M.fn (wpAny_mono (run_fnS F ⟨hr, rfl⟩ hb hx I (.cons (show RelV (V.ref p) (Value.ref p) from rfl) (.cons (show RelV (V.ref q') (Value.ref q') from rfl) .nil)) q) (fun r s' z => ?_) fun _ _ z => z)
  obtain ⟨z, H', I', rz, b, ez, q⟩ := z
  subst ez
  cases rz
  exact ⟨.bl b, H', I', rfl, q⟩
/-- len(o) -/
def rLenOwn (C : Addr) (sp : Sp) (E : XK) : List V → Hp → VK → Prop := fun xs H Q => ∃ a dx fs, xs = [.ref a] ∧ H a = some (.ins C dx fs) ∧ sp xs H (fun v H' => ∃ n : Int, v = .int n ∧ 0 ≤ n ∧ n < 2 ^ 63 ∧ Q (.int n) H') E
theorem call_lenOwn (M : OwnM X.K C "__len__" f) (F : FnOk X.prog X.w X.K X.mg X.base CX k f fd ps sp) (hr : Room (k + 1) X.A) (hb : Binds X.K fd ps []) (hx : Passes CX X E) : CallR X (.builtin "len") (rLenOwn C sp E) := by
  intro pins s σ H xs us Q I r h
  obtain ⟨p, dx, fs, rfl, hp, q⟩ := h
  cases r with
  | cons r1 r2 =>
    cases r2
    cases r1
    obtain ⟨mA, J, _⟩ := ins_get I.hok hp
    obtain ⟨od, J, _⟩ := J.look
    obtain ⟨m, hF⟩ := I.fr
    refine PySem.W.len_K hF I.ok.mod.kin J M.at_ M.fn (wpAny_mono (run_fnS F ⟨hr.in1, rfl⟩ hb hx I (.cons (show RelV (V.ref p) (Value.ref p) from rfl) .nil) q) (fun r s' z => ?_) fun _ _ z => z)
    obtain ⟨z, H', I', rz, n, ez, n0, n1, q⟩ := z
    subst ez
    obtain ⟨t, rfl⟩ := rz
    exact ⟨⟨n0, n1⟩, .int n, H', I'.tok (s'.toks + 1), ⟨_, rfl⟩, q⟩
end
end Om

namespace Om
open PySem PySem.Spec PyProof.Rows L2
/-! ### enumerate(text) -/
def IteS (x : Str) : It :=
  ⟨fun i _ => i < x.cps.size, fun i H v H' => ∃ T c, v = .ref T ∧ H T = none ∧ H' = upd H T (.tup [.int (i : Nat), .str ⟨#[c]⟩]) ∧ x.cps[i]? = some c, fun i _ => x.cps.size = i⟩
theorem turn_enumS {P : Program} {w : World} {K : PySem.W.Frag} {elts : List Expr} {kk : Nat} {tpos : Pos} {e it : Addr} {x : Str} {t : Tok} (nei : e ≠ it) :
    Turn P w K (.Tuple elts kk tpos) (IteS x) [e, it] e (fun i h => (∃ old, IsEnum h e it ((i : Nat) : Int) old) ∧ h.IsStrIter it (strIterType x) x t i) where
  mem := by simp
  obj := fun i h ⟨⟨old, he⟩, o, ho, hc, hd⟩ b hb => by
    rcases (show b = e ∨ b = it by simpa using hb) with rfl | rfl
    · exact ⟨_, he, fun v q => nomatch q⟩
    · exact ⟨o, ho, fun v q => by rw [hd] at q; cases q⟩
  keep := fun i h h' ⟨⟨old, he⟩, hi⟩ k => ⟨⟨old, k e (by simp) _ he⟩, let ⟨o, q, r⟩ := hi; ⟨o, k it (by simp) o q, r⟩⟩
  item := by
    intro X eP ew eK hc i pins s σ H E I hf ⟨⟨old, he⟩, hit⟩ hlt
    subst eP ew eK
    have el : e < s.heap.objs.size := Heap.lt_size he
    have il : it < s.heap.objs.size := by obtain ⟨_, q, _⟩ := hit; exact Heap.lt_size q
    have hd0 : X.A.in1.handled = none := I.ok.hd hc
    refine wpAny_pyNext_enum_itemD (Draws.text hd0 it x t) he hit hlt nei (by simp [nei]) fun v h' tk hx2 ho hst hT hs2 hk => ?_
    obtain ⟨c, u, hxc, rfl⟩ := hx2
    refine ⟨_, rfl, wpAny_letOwnedTupleGo_enum (s := { s with heap := h', toks := tk + 1 }) ho fun h2 he2 sb => ?_⟩
    have hT2 := (sb.2 _ (Nat.ne_of_gt el)).trans hT
    have new : ObjOk X.prog X.w (upd H s.heap.objs.size (.tup [.int (i : Nat), .str ⟨#[c]⟩])) h2 s.heap.objs.size (.tup [.int (i : Nat), .str ⟨#[c]⟩]) :=
      ⟨(show 2 ≤ sizeLine by decide), [.int i tk, .str ⟨#[c]⟩ u], .cons ⟨_, rfl⟩ (.cons ⟨_, rfl⟩ .nil), _, hT2, rfl, _, rfl⟩
    have I1 : Inv X pins σ (upd H s.heap.objs.size (.tup [.int (i : Nat), .str ⟨#[c]⟩])) { s with heap := h2, toks := tk + 1 } :=
      I.turnedNew (ch := [e, it]) (fun b ob hb q => (sb.2 b (by rintro rfl; simp at hb)).trans (hk b ob (by rintro rfl; simp at hb) (by rintro rfl; simp at hb) q)) hf (Nat.le_refl _) new
    have ei : ((i + 1 : Nat) : Int) = (i : Int) + 1 := by omega
    refine ⟨.ref s.heap.objs.size, _, I1, rfl, ⟨_, c, rfl, I.hok.fresh (Nat.le_refl _), rfl, hxc⟩, ⟨⟨.str ⟨#[c]⟩ u, by rw [ei]; exact he2⟩, let ⟨o, q, r⟩ := hst; ⟨o, (sb.2 it (Ne.symm nei)).trans q, r⟩⟩, fun b hb => ?_⟩
    have hlt2 : b < s.heap.objs.size := by
      rcases (show b = e ∨ b = it by simpa using hb) with rfl | rfl
      · exact el
      · exact il
    rw [upd_ne (Nat.ne_of_lt hlt2)]
    exact (hf b hb).1
  done := by
    intro X eP ew eK hc i pins s σ H E I hf ⟨⟨old, he⟩, hit⟩ hle
    subst eP ew eK
    obtain ⟨f0, f1, f2, f3, f4, f5⟩ := hf it (by simp)
    have hd0 : X.A.in1.handled = none := I.ok.hd hc
    obtain rfl : i = x.cps.size := Eq.symm hle
    exact wpAny_pyNext_enum_endD (Draws.text hd0 it x t) he hit fun h' eb => ⟨rfl, I.turned (t' := s.toks) (fun b o hb q => eb b o hb q) f0 f1 f3 f4 f5⟩
  self := fun A i s Q E ⟨⟨_, he⟩, _⟩ h => wpAny_pyIter_enum he h
def iEnumS (ta : TA) : TI := fun σ H R => ta σ H fun vs H1 => ∃ x, vs = [.str x] ∧ R (IteS x) H1
theorem pi_enumS {X : Cx} {e : Expr} {ta : TA} {p pos tpos : Pos} {elts : List Expr} {kk : Nat} (hg : Gl X "enumerate") (hm : X.mg "enumerate" = none) (ha : PA X [e] ta) (hs : starEach [e] X.env = [(false, eval e X.env)] := by rfl) :
    PI X (.Tuple elts kk tpos) (.Call (.Name "enumerate" p) [e] [] pos) (iEnumS ta) := by
  constructor
  intro pins s σ H R I h
  refine Call_ (ld_blt I hg hm boot_enumerate (PyProof.Rows.callWith_type1 (thn (ha.run pos pins s σ H _ I h) fun us s1 ⟨vs, H1, I1, r1, x, ev, q⟩ => ?_) hs rfl))
  subst ev
  cases r1 with
  | cons ra rr =>
    cases rr
    obtain ⟨t, rfl⟩ := ra
    refine om_enum_call (begins_text x t) trivial fun h' he hi hk => wpAny_pyIter_enum he ?_
    have I2 : Inv X pins σ H1 { s1 with heap := h' } := I1.kept (t' := s1.toks) hk
    refine ⟨s1.heap.objs.size + 1, [s1.heap.objs.size + 1, s1.heap.objs.size], _, _, H1, rfl, I2, turn_enumS (x := x) (t := t) (Nat.succ_ne_self _), ⟨⟨.none, he⟩, _, hi, rfl, rfl⟩, fun b hb => ?_, q⟩
    have hb2 : s1.heap.objs.size ≤ b := by
      rcases (show b = s1.heap.objs.size + 1 ∨ b = s1.heap.objs.size by simpa using hb) with rfl | rfl
      · omega
      · exact Nat.le_refl _
    exact I1.fpOk hb2 (I1.hok.fresh hb2)
end Om

namespace Om
open PySem PySem.Spec PyProof.Rows L2
/-! ### walks of enumerate; a comprehension of two for over walks -/
def YEnum (xs : Nat → Option V) : Nat → Hp → V → Hp → Prop := fun i H v H' => ∃ T x, v = .ref T ∧ H T = none ∧ H' = upd H T (.tup [.int (i : Nat), x]) ∧ xs i = some x
theorem walk_enumT {K : PySem.W.Frag} {a : Addr} {xs : List V} : Walk (IteT K a xs) xs.length (fun H => SqT K H a xs) (YEnum fun i => xs[i]?) :=
  ⟨fun i _ hi q => ⟨q, hi⟩, fun _ q => ⟨q, rfl⟩, fun _ _ _ _ _ _ y => y⟩
theorem walk_enumS {x : Str} : Walk (IteS x) x.cps.size (fun _ => True) (YEnum fun i => x.cps[i]?.map fun c => .str ⟨#[c]⟩) :=
  ⟨fun i _ hi _ => hi, fun _ _ => rfl, fun i H v H' _ _ y => by
    obtain ⟨T, c, e1, e2, e3, e4⟩ := y
    exact ⟨T, _, e1, e2, e3, by show (x.cps[i]?).map _ = _; rw [e4]; rfl⟩⟩
section
variable {J : It} {n : Nat} {G : Hp → Prop} {Y : Nat → Hp → V → Hp → Prop}
/-- the inner walk of a comprehension of two for: Pv by the inner turn -/
theorem in_it (w : Walk J n G Y) {g : TG} {tt : TT} {te : TE} {vs : List Nat} {σ : L2.St} {H : Hp} {D : Addr} {Nx : Hp → Prop} (Pv : Nat → Hp → Prop) (h0 : Pv 0 H) (hG : ∀ i H, i ≤ n → Pv i H → G H)
    (hs : ∀ i x H H', i < n → Pv i H → Y i H x H' → g x (wipe σ vs) H' fun σ2 H2 => wipe σ2 vs = wipe σ vs ∧ tt σ2 H2 fun b H3 =>
      if b = true then te σ2 H3 fun y H4 => ∃ acc, H4 D = some (.lst acc) ∧ acc.length < sizeLine ∧ Pv (i + 1) (upd H4 D (.lst (acc ++ [y]))) else Pv (i + 1) H3) (hd : ∀ H, Pv n H → Nx H) :
    ∃ W1 : Nat → Nat → Hp → Prop, (∃ m, W1 0 m H) ∧ ∀ j k H, W1 j k H →
      (J.stop j H ∧ Nx H) ∨ (J.go j H ∧ ∃ Nx1 : Hp → Prop, (∀ H', Nx1 H' → ∃ k', k' < k ∧ W1 (j + 1) k' H') ∧ ∀ x H', J.yld j H x H' → g x (wipe σ vs) H' fun σ3 H5 => wipe σ3 vs = wipe σ vs ∧ tt σ3 H5 fun b H6 =>
        if b = true then te σ3 H6 fun y H7 => ∃ acc, H7 D = some (.lst acc) ∧ acc.length < sizeLine ∧ Nx1 (upd H7 D (.lst (acc ++ [y]))) else Nx1 H6) := by
  refine ⟨fun i m H => m = n - i ∧ i ≤ n ∧ Pv i H, ⟨n, by simp, Nat.zero_le _, h0⟩, ?_⟩
  rintro i m H ⟨rfl, hi, p⟩
  have q := hG i H hi p
  by_cases hlt : i < n
  · exact .inr ⟨w.goes i H hlt q, Pv (i + 1), fun H' p' => ⟨n - (i + 1), by omega, rfl, hlt, p'⟩, fun x H' y => hs i x H H' hlt p (w.yields i H x H' hlt q y)⟩
  · have e : i = n := by omega
    subst e
    exact .inl ⟨w.stops H q, hd H p⟩
/-- the outer walk: what a turn's inner part does is told by B, from Pv i to Pv (i + 1) -/
theorem out_it (w : Walk J n G Y) {H1 : Hp} {D : Addr} {Qd : Hp → Prop} {B : (Hp → Prop) → V → Hp → Prop} (Pv : Nat → Hp → Prop) (h0 : Pv 0 (upd H1 D (.lst []))) (hG : ∀ i H, i ≤ n → Pv i H → G H)
    (hs : ∀ i x H H', i < n → Pv i H → Y i H x H' → B (Pv (i + 1)) x H') (hd : ∀ H, Pv n H → Qd H) :
    ∃ W : Nat → Nat → Hp → Prop, (∃ m, W 0 m (upd H1 D (.lst []))) ∧ ∀ i m H, W i m H →
      (J.stop i H ∧ Qd H) ∨ (J.go i H ∧ ∃ Nx : Hp → Prop, (∀ H', Nx H' → ∃ m', m' < m ∧ W (i + 1) m' H') ∧ ∀ x H', J.yld i H x H' → B Nx x H') := by
  refine ⟨fun i m H => m = n - i ∧ i ≤ n ∧ Pv i H, ⟨n, by simp, Nat.zero_le _, h0⟩, ?_⟩
  rintro i m H ⟨rfl, hi, p⟩
  have q := hG i H hi p
  by_cases hlt : i < n
  · exact .inr ⟨w.goes i H hlt q, Pv (i + 1), fun H' p' => ⟨n - (i + 1), by omega, rfl, hlt, p'⟩, fun x H' y => hs i x H H' hlt p (w.yields i H x H' hlt q y)⟩
  · have e : i = n := by omega
    subst e
    exact .inl ⟨w.stops H q, hd H p⟩
end
end Om

namespace Om
open PySem PySem.Spec PyProof.Rows L2
abbrev sInR : Stmt := top 4
abbrev sLies : Stmt := top 17
def inR (v lo hi : Int) : Bool := decide (lo ≤ v) && decide (v ≤ hi)
def insd (rows : List (List Nat)) (i j : Int) : Bool := inR i 0 ((rows.length : Int) - 1) && inR j 0 (((rows.headD []).length : Int) - 1)
def spInR : Sp := fun vs H Q _ => ∃ v lo hi : Int, vs = [.int v, .int lo, .int hi] ∧ Q (.bl (inR v lo hi)) H
/-- rows of an island as they are kept -/
structure Shp (rows : List (List Nat)) : Prop where
  len : rows.length ≤ 1000
  row : ∀ r ∈ rows, r.length ≤ 1000
  ne : rows ≠ []
def spLies (K : PySem.W.Frag) : Sp := fun vs H Q _ => ∃ (p c : Addr) (rows : List (List Nat)) (i j : Int), vs = [.ref p, .ref c] ∧ SqT K H p (rows.map vt) ∧ Shp rows ∧ SqT K H c [.int i, .int j] ∧ Q (.bl (insd rows i j)) H
section
variable {P : Program} {w : World} {K : PySem.W.Frag} {mg : Str → Option Value} {base : Heap}
abbrev nInR : List Str := ["value", "least", "most"]
theorem scInR : FnScope nInR nInR (defScope sInR) := ⟨rfl, rfl, rfl, by decide +kernel, rfl, by decide +kernel, by decide +kernel⟩
theorem ok_inR {f : Addr} {fd : FuncData} (F : FnP K "in_range" "in_range" sInR f fd) (gisi : mg "isinstance" = none) (gint : mg "int" = none) (gbool : mg "bool" = none) : FnOk P w K mg base CX0 1 f fd nInR spInR := by
  refine F.ok scInR (fun vs H Q E h => ?_) (fun cdv A outer s H vs Q E hr h => ?_)
  · obtain ⟨v, lo, hi, rfl, _⟩ := h
    rfl
  · obtain ⟨v, lo, hi, rfl, k⟩ := h
    refine ⟨_, PSs.nox (pss_one (ps_ret (pe_and (pe_callB call_isi (by rfl) gisi (by decide +kernel) (pa_cons (pv 0) (pa_cons (pe_bltn (v := .ty "int") (by rfl) gint boot_int rfl) pa_nil)))
      (pe_and (pe_not (pe_callB call_isi (by rfl) gisi (by decide +kernel) (pa_cons (pv 0) (pa_cons (pe_bltn (v := .ty "bool") (by rfl) gbool (by decide +kernel) rfl) pa_nil))))
        (pe_one (pe_chain op_le op_le (pv 1) (pv 0) (pv 2))))))), ?_⟩
    refine ⟨_, rfl, _, _, _, _, _, rfl, .ty "int", .base (.int _), kit_ty (a := "int") (b := "int") (r := true) (by decide +kernel), ?_⟩
    refine ⟨true, rfl, iteT ?_⟩
    refine ⟨_, rfl, _, _, _, _, _, rfl, .ty "bool", .base (.int _), kit_ty (a := "int") (b := "bool") (r := false) (by decide +kernel), false, rfl, true, rfl, iteT ?_⟩
    refine ⟨_, rfl, _, rfl, _, _, rfl, rfl, _, rfl, ?_⟩
    unfold inR at k
    cases e : decide (lo ≤ v) with
    | true =>
      rw [e, Bool.true_and] at k
      exact iteT ⟨_, rfl, _, _, rfl, rfl, k⟩
    | false =>
      rw [e, Bool.false_and] at k
      exact iteF k
theorem scLies : FnScope ["rows", "cell", "row", "column"] ["rows", "cell"] (defScope sLies) := ⟨rfl, rfl, rfl, by decide +kernel, rfl, by decide +kernel, by decide +kernel⟩
theorem ok_lies {f : Addr} {fd : FuncData} (F : FnP K "_lies_within" "_lies_within" sLies f fd) (G : Cal P w K mg base CX0 1 "in_range" nInR spInR) (glen : mg "len" = none) : FnOk P w K mg base CX0 2 f fd ["rows", "cell"] (spLies K) := by
  refine F.ok scLies (fun vs H Q E h => ?_) (fun cdv A outer s H vs Q E hr h => ?_)
  · obtain ⟨p, c, rows, i, j, rfl, _⟩ := h
    rfl
  · obtain ⟨p, c, rows, i, j, rfl, hS, sh, hC, k⟩ := h
    have nd := scLies.nd
    have hr1 : Room 1 _ := hr.mono (by decide)
    refine ⟨_, PSs.nox (pss_cons (ps_asg (pv 1) (pg_tup rfl (pgs_cons (pg_name (i := 2) nd rfl (.inl rfl)) (pgs_cons (pg_name (i := 3) nd rfl (.inl rfl)) pgs_nil))))
      (pss_one (ps_ret (pe_and (pe_cal G hr1 pass0 (pa_cons (pv 2) (pa_cons pe_int (pa_cons (pe_op op_sub (pe_callB call_len_seq (by rfl) glen PySem.boot_len (pa_cons (pv 0) pa_nil)) pe_int) pa_nil))))
        (pe_one (pe_cal G hr1 pass0 (pa_cons (pv 3) (pa_cons pe_int (pa_cons (pe_op op_sub (pe_callB call_len_str (by rfl) glen PySem.boot_len (pa_cons (pe_ix ix_tup (pv 0) pe_int (fun _ _ => rfl)) pa_nil)) pe_int) pa_nil))))))))), ?_⟩
    obtain ⟨r0, rs, rfl⟩ : ∃ r0 rs, rows = r0 :: rs := by
      cases rows with
      | nil => exact absurd rfl sh.ne
      | cons r0 rs => exact ⟨r0, rs, rfl⟩
    have hr0 : (tx r0).length ≤ sizeLine := by rw [tx_len]; exact small_le (sh.row r0 (List.mem_cons_self ..))
    refine ⟨_, rfl, c, _, rfl, hC, rfl, _, _, rfl, _, _, rfl, rfl, ?_⟩
    refine ⟨_, rfl, _, rfl, p, _, rfl, .inr hS, _, _, rfl, rfl, i, 0, _, rfl, ?_⟩
    refine ⟨_, rfl, ?_⟩
    have k2 : Q (.bl (inR i 0 ((((r0 :: rs).map vt).length : Nat) - 1) && inR j 0 (((tx r0).length : Nat) - 1))) H := by
      rw [tx_len, List.length_map]; exact k
    cases e : inR i 0 ((((r0 :: rs).map vt).length : Nat) - 1) with
    | false =>
      rw [e, Bool.false_and] at k2
      exact iteF k2
    | true =>
      rw [e, Bool.true_and] at k2
      refine iteT ?_
      exact ⟨_, rfl, _, rfl, p, _, 0, _, rfl, rfl, hS, at0, _, rfl, hr0, _, _, rfl, rfl, j, 0, _, rfl, k2⟩
end
end Om

namespace Om
open PySem PySem.Spec PyProof.Rows L2
/-! ### rows as data -/
def dt (r : List Nat) : PyData := .str (tx r)
theorem dpAll_rows {K : PySem.W.Frag} {H : Hp} : ∀ rows : List (List Nat), DpAll K H (rows.map vt) (rows.map dt)
  | [] => .nil
  | r :: rs => .cons (.str _) (dpAll_rows rs)
theorem strOk_tx {r : List Nat} (h : ∀ c ∈ r, c < 1000) : PyData.strOk (tx r) = true := by
  unfold PyData.strOk
  rw [Array.all_eq_true']
  intro c hc
  have hc' : c ∈ r := by
    have : c ∈ (tx r).cps.toList := by simpa using hc
    rwa [tx_cps] at this
  have := h c hc'
  exact decide_eq_true (by omega)
theorem lay_rows : ∀ {rows : List (List Nat)}, Lo rows → PyData.canLayAll0 (rows.map dt) = true
  | [], _ => by simp [PyData.canLayAll0]
  | r :: rs, h => by
    have h1 : PyData.strOk (tx r) = true := strOk_tx (h r (List.mem_cons_self ..))
    simp only [List.map_cons, PyData.canLayAll0, dt, PyData.canLay0, h1, lay_rows (rows := rs) fun r hr => h r (List.mem_cons_of_mem _ hr), Bool.and_self]
theorem dep_rows : ∀ rows : List (List Nat), PyData.depthAll (rows.map dt) = 0
  | [] => by simp [PyData.depthAll]
  | r :: rs => by simp [PyData.depthAll, PyData.depth, dt, dep_rows rs]
theorem shaped_rows {rows : List (List Nat)} (h : Lo rows) : SeqAt.shaped (.tuple (rows.map dt)) = true :=
  shaped_of (by simp only [PyData.canLay0]; exact lay_rows h) (by simp only [PyData.depth, dep_rows]; omega)
theorem eqv_str (a b : List Nat) : PyData.eqv (.str (tx a)) (.str (tx b)) = decide (a = b) := by
  rw [Bool.eq_iff_iff, decide_eq_true_iff]
  constructor
  · intro h
    have h2 : tx a = tx b := by simpa [PyData.eqv] using h
    exact tx_inj h2
  · rintro rfl
    simp [PyData.eqv]
theorem eqvAll_rows : ∀ a b : List (List Nat), PyData.eqvAll (a.map dt) (b.map dt) = decide (a = b)
  | [], [] => by simp [PyData.eqvAll]
  | [], _ :: _ => by simp [PyData.eqvAll]
  | _ :: _, [] => by simp [PyData.eqvAll]
  | r :: rs, q :: qs => by
    have e1 : PyData.eqvAll ((r :: rs).map dt) ((q :: qs).map dt) = (PyData.eqv (dt r) (dt q) && PyData.eqvAll (rs.map dt) (qs.map dt)) := by simp [PyData.eqvAll]
    rw [e1, eqvAll_rows rs qs, dt, dt, eqv_str, Bool.eq_iff_iff]
    simp
theorem eqv_rows (a b : List (List Nat)) : PyData.eqv (.tuple (a.map dt)) (.tuple (b.map dt)) = decide (a = b) := by
  have e1 : PyData.eqv (.tuple (a.map dt)) (.tuple (b.map dt)) = PyData.eqvAll (a.map dt) (b.map dt) := by simp [PyData.eqv]
  rw [e1, eqvAll_rows]
end Om

namespace Om
open PySem PySem.Spec PyProof.Rows L2
/-! ### an island's methods -/
abbrev sIslM (i : Nat) : Stmt := inClass (top 16) i
/-- an island at a: its rows -/
def Isl (K : PySem.W.Frag) (CI : Addr) (H : Hp) (a : Addr) (rows : List (List Nat)) : Prop := ∃ dx p, H a = some (.ins CI dx (islFs p)) ∧ SqT K H p (rows.map vt)
structure Good2 (rows : List (List Nat)) : Prop extends Shp rows where
  rect : ∀ r ∈ rows, r.length = (rows.headD []).length
  lo : Lo rows
def sgAt (rows : List (List Nat)) (i j : Int) : Nat := (rows.getD i.toNat []).getD j.toNat 0
theorem Isl.same {K : PySem.W.Frag} {CI a : Addr} {H H' : Hp} {rows : List (List Nat)} (h : Isl K CI H a rows) (s : Same H H') : Isl K CI H' a rows := by
  obtain ⟨dx, p, h1, h2⟩ := h
  exact ⟨dx, p, s _ _ h1, Same.tup s h2⟩
theorem islFs_at (p : Addr) : (islFs p).lookup ("_rows" : Str) = some (.ref p) := rfl
theorem insd_at {rows : List (List Nat)} {i j : Int} (g : Good2 rows) (h : insd rows i j = true) : ∃ r c, rows[i.toNat]? = some r ∧ r[j.toNat]? = some c ∧ sgAt rows i j = c ∧ r ∈ rows ∧ 0 ≤ i ∧ 0 ≤ j := by
  unfold insd inR at h
  simp only [Bool.and_eq_true, decide_eq_true_eq] at h
  obtain ⟨⟨h1, h2⟩, h3, h4⟩ := h
  have hi : i.toNat < rows.length := by omega
  have hm : rows[i.toNat] ∈ rows := List.getElem_mem hi
  have hl := g.rect _ hm
  have hj : j.toNat < (rows[i.toNat]).length := by omega
  refine ⟨rows[i.toNat], (rows[i.toNat])[j.toNat], by simp [hi], by simp [hj], ?_, hm, h1, h3⟩
  unfold sgAt
  have e1 : rows.getD i.toNat [] = rows[i.toNat] := by rw [List.getD_eq_getElem?_getD, List.getElem?_eq_getElem hi, Option.getD_some]
  rw [e1, List.getD_eq_getElem?_getD, List.getElem?_eq_getElem hj, Option.getD_some]
/-- an own error class made with a text -/
structure ErrU (K : PySem.W.Frag) (mg : Str → Option Value) (x : Str) (C : Addr) : Prop where
  q : PySem.W.excIn K C [.type "ValueError", .type "Exception", .type "BaseException", .type "object"] "ValueError.__new__" = true
  kp : PySem.W.keepIn K (.ref C) = true
  r1 : PySem.W.subIn K (.ref C) (.type "BaseException") = some true
  r2 : PySem.W.typeIn K (.ref C) = some (.type "type")
  g : mg x = some (.ref C)
def spGet (K : PySem.W.Frag) (CI CU : Addr) : Sp := fun vs H Q E => ∃ (a c : Addr) (rows : List (List Nat)) (i j : Int), vs = [.ref a, .ref c] ∧ Isl K CI H a rows ∧ Good2 rows ∧ SqT K H c [.int i, .int j] ∧
  (insd rows i j = true → Q (vt [sgAt rows i j]) H) ∧ (insd rows i j = false → E (.ref CU) none H)
def hasC (rows : List (List Nat)) (i j : Int) : Bool := insd rows i j && !decide (sgAt rows i j = 126)
def spHas (K : PySem.W.Frag) (CI : Addr) : Sp := fun vs H Q _ => ∃ (a c : Addr) (rows : List (List Nat)) (i j : Int), vs = [.ref a, .ref c] ∧ Isl K CI H a rows ∧ Good2 rows ∧ SqT K H c [.int i, .int j] ∧ Q (.bl (hasC rows i j)) H
def spIEq (K : PySem.W.Frag) (CI : Addr) : Sp := fun vs H Q _ => ∃ (a b : Addr) (r1 r2 : List (List Nat)), vs = [.ref a, .ref b] ∧ Isl K CI H a r1 ∧ Isl K CI H b r2 ∧ Lo r1 ∧ Lo r2 ∧ Q (.bl (decide (r1 = r2))) H
def spIRows (K : PySem.W.Frag) (CI : Addr) : Sp := fun vs H Q _ => ∃ (a dx p : Addr), vs = [.ref a] ∧ H a = some (.ins CI dx (islFs p)) ∧ Q (.ref p) H
def spIHgt (K : PySem.W.Frag) (CI : Addr) : Sp := fun vs H Q _ => ∃ (a : Addr) (rows : List (List Nat)), vs = [.ref a] ∧ Isl K CI H a rows ∧ Q (.int (rows.length : Nat)) H
def spIWid (K : PySem.W.Frag) (CI : Addr) : Sp := fun vs H Q _ => ∃ (a : Addr) (rows : List (List Nat)), vs = [.ref a] ∧ Isl K CI H a rows ∧ Shp rows ∧ Q (.int ((rows.headD []).length : Nat)) H
/-- what isinstance asks of the class -/
structure InsF (K : PySem.W.Frag) (C : Addr) : Prop where
  ha : PySem.W.findIn K (.ref C) "__class__" = some (some (.builtin "object.__class__"))
  hn : PySem.W.specialIn K (.builtin "object.__class__") "__get__" = some (some (.builtin "getset_descriptor.__get__"))
  ht : PySem.W.takesIn K (.builtin "object.__class__") = some true
  hm : PySem.W.mroIn K C (.type "object") = some true
theorem kit_self {K : PySem.W.Frag} {C : Addr} : PySem.W.kitOne K (.ref C) (.ref C) = some true := by
  unfold PySem.W.kitOne
  rw [if_pos (by simp)]
section
variable {P : Program} {w : World} {K : PySem.W.Frag} {mg : Str → Option Value} {base : Heap} {CI CU fN : Addr}
abbrev nGet : List Str := ["self", "cell", "row", "column"]
theorem scGet : FnScope nGet ["self", "cell"] (defScope (sIslM 7)) := ⟨rfl, rfl, rfl, by decide +kernel, rfl, by decide +kernel, by decide +kernel⟩
theorem ok_get {f : Addr} {fd : FuncData} (F : FnP K "__getitem__" "Island.__getitem__" (sIslM 7) f fd) (T : IslF K mg CI fN) (U : ErrU K mg "UnknownCell" CU) (G : Cal P w K mg base CX0 2 "_lies_within" ["rows", "cell"] (spLies K)) : FnOk P w K mg base (L2.CX P w) 3 f fd ["self", "cell"] (spGet K CI CU) := by
  refine F.ok scGet (fun vs H Q E h => ?_) (fun cdv A outer s H vs Q E hr h => ?_)
  · obtain ⟨a, c, rows, i, j, rfl, _⟩ := h
    rfl
  · obtain ⟨a, c, rows, i, j, rfl, hI, g, hC, k1, k2⟩ := h
    have nd := scGet.nd
    have hr2 : Room 2 _ := hr.mono (by decide)
    refine ⟨_, pss_cons (ps_if (pt_not (pt_val (pe_cal G hr2 pass0 (pa_cons (pe_fld (pv 0) rfl) (pa_cons (pv 1) pa_nil)))))
        (pss_one (ps_raise rfl (takes_of rfl rfl rfl rfl) (pmk_own PySem.F.excBase_ValueError U.q U.g U.kp (raises_own U.r1 U.r2) rfl))) pss_nil)
      (pss_cons (ps_asg (pv 1) (pg_tup rfl (pgs_cons (pg_name (i := 2) nd rfl (.inl rfl)) (pgs_cons (pg_name (i := 3) nd rfl (.inl rfl)) pgs_nil))))
      (pss_one (ps_ret (pe_ix ix_str (pe_ix ix_tup (pe_fld (pv 0) rfl) (pv 2) (fun _ _ => rfl)) (pv 3) (fun _ _ => rfl))))), ?_⟩
    obtain ⟨dx, p, hp, hS⟩ := hI
    refine ⟨_, rfl, a, CI, dx, _, .ref p, rfl, hp, T.cl, T.nR, rfl, ?_⟩
    refine ⟨_, rfl, p, c, rows, i, j, rfl, hS, g.toShp, hC, _, rfl, ?_⟩
    cases e : insd rows i j with
    | false => exact iteT (k2 e)
    | true =>
      refine iteF ?_
      obtain ⟨r, ch, h1, h2, h3, hm, hi, hj⟩ := insd_at g e
      refine ⟨_, rfl, c, _, rfl, hC, rfl, _, _, rfl, _, _, rfl, rfl, ?_⟩
      refine ⟨_, rfl, a, CI, dx, _, .ref p, rfl, hp, T.cl, T.nR, rfl, ?_⟩
      have ei : atI (rows.map vt) i = some (vt r) := by
        have z := atI_nat (xs := rows.map vt) (j := i.toNat) (v := vt r) (by rw [List.getElem?_map, h1]; rfl)
        rwa [Int.toNat_of_nonneg hi] at z
      have ej : atI (tx r).cps.toList j = some ch := by
        have z := atI_nat (xs := (tx r).cps.toList) (j := j.toNat) (v := ch) (by rw [tx_cps]; exact h2)
        rwa [Int.toNat_of_nonneg hj] at z
      refine ⟨_, rfl, p, _, i, _, rfl, rfl, hS, ei, _, rfl, _, j, ch, rfl, rfl, (by rw [tx_len]; exact small_le (g.row r hm)), ej, ?_⟩
      have k := k1 e
      rw [h3] at k
      exact k
theorem scHas : FnScope ["self", "cell"] ["self", "cell"] (defScope (sIslM 8)) := ⟨rfl, rfl, rfl, by decide +kernel, rfl, by decide +kernel, by decide +kernel⟩
theorem ok_has {f : Addr} {fd : FuncData} (F : FnP K "__contains__" "Island.__contains__" (sIslM 8) f fd) (T : IslF K mg CI fN) (G : Cal P w K mg base CX0 2 "_lies_within" ["rows", "cell"] (spLies K)) (gw : ∃ t, mg "WATER" = some (.str (Str.ofString "~") t)) :
    FnOk P w K mg base CX0 3 f fd ["self", "cell"] (spHas K CI) := by
  obtain ⟨t0, gw⟩ := gw
  refine F.ok scHas (fun vs H Q E h => ?_) (fun cdv A outer s H vs Q E hr h => ?_)
  · obtain ⟨a, c, rows, i, j, rfl, _⟩ := h
    rfl
  · obtain ⟨a, c, rows, i, j, rfl, hI, g, hC, k⟩ := h
    have nd := scHas.nd
    have hr2 : Room 2 _ := hr.mono (by decide)
    refine ⟨_, PSs.nox (pss_one (ps_ret (pe_and (pe_cal G hr2 pass0 (pa_cons (pe_fld (pv 0) rfl) (pa_cons (pv 1) pa_nil)))
      (pe_one (pe_cmpR op_ne (pe_ix ix_str (pe_ix ix_tup (pe_fld (pv 0) rfl) (pe_ix ix_tup (pv 1) pe_int (fun _ _ => rfl)) (fun _ _ => rfl)) (pe_ix ix_tup (pv 1) pe_int (fun _ _ => rfl)) (fun _ _ => rfl))
        (pe_glob (v := .str (Str.ofString "~")) rfl gw ⟨_, rfl⟩) (nomark _)))))), ?_⟩
    obtain ⟨dx, p, hp, hS⟩ := hI
    refine ⟨_, rfl, a, CI, dx, _, .ref p, rfl, hp, T.cl, T.nR, rfl, ?_⟩
    refine ⟨_, rfl, p, c, rows, i, j, rfl, hS, g.toShp, hC, _, rfl, ?_⟩
    unfold hasC at k
    cases e : insd rows i j with
    | false =>
      rw [e, Bool.false_and] at k
      exact iteF k
    | true =>
      rw [e, Bool.true_and] at k
      refine iteT ?_
      obtain ⟨r, ch, h1, h2, h3, hm, hi, hj⟩ := insd_at g e
      have ei : atI (rows.map vt) i = some (vt r) := by
        have z := atI_nat (xs := rows.map vt) (j := i.toNat) (v := vt r) (by rw [List.getElem?_map, h1]; rfl)
        rwa [Int.toNat_of_nonneg hi] at z
      have ej : atI (tx r).cps.toList j = some ch := by
        have z := atI_nat (xs := (tx r).cps.toList) (j := j.toNat) (v := ch) (by rw [tx_cps]; exact h2)
        rwa [Int.toNat_of_nonneg hj] at z
      refine ⟨_, rfl, a, CI, dx, _, .ref p, rfl, hp, T.cl, T.nR, rfl, ?_⟩
      refine ⟨_, rfl, c, _, 0, _, rfl, rfl, hC, rfl, p, _, i, _, rfl, rfl, hS, ei, ?_⟩
      refine ⟨_, rfl, c, _, 1, _, rfl, rfl, hC, rfl, _, j, ch, rfl, rfl, (by rw [tx_len]; exact small_le (g.row r hm)), ej, ?_⟩
      rw [h3] at k
      have e2 : (decide (V.str ⟨#[ch]⟩ = V.str (Str.ofString "~"))) = decide (ch = 126) := by
        have z : Str.ofString "~" = (⟨#[126]⟩ : Str) := by decide +kernel
        rw [z]
        apply decide_eq_decide.mpr
        simp
      refine ⟨rfl, ?_⟩
      show Q (.bl (!decide (V.str ⟨#[ch]⟩ = V.str (Str.ofString "~")))) H
      rw [e2]
      exact k
theorem scIEq : FnScope ["self", "other"] ["self", "other"] (defScope (sIslM 10)) := ⟨rfl, rfl, rfl, by decide +kernel, rfl, by decide +kernel, by decide +kernel⟩
theorem ok_ieq {f : Addr} {fd : FuncData} (F : FnP K "__eq__" "Island.__eq__" (sIslM 10) f fd) (T : IslF K mg CI fN) (N : InsF K CI) (gisi : mg "isinstance" = none) : FnOk P w K mg base CX0 1 f fd ["self", "other"] (spIEq K CI) := by
  refine F.ok scIEq (fun vs H Q E h => ?_) (fun cdv A outer s H vs Q E hr h => ?_)
  · obtain ⟨a, b, r1, r2, rfl, _⟩ := h
    rfl
  · obtain ⟨a, b, r1, r2, rfl, ⟨dx, p, hp, hS⟩, ⟨dy, q, hq, hS2⟩, l1, l2, k⟩ := h
    refine ⟨_, PSs.nox (pss_one (ps_ret (pe_and (pe_callB call_isi (by rfl) gisi (by decide +kernel) (pa_cons (pv 1) (pa_cons (pe_glob (v := .ref CI) rfl T.gI rfl) pa_nil)))
      (pe_one (pe_cmpR (op_eqD hr.units) (pe_fld (pv 0) rfl) (pe_fld (pv 1) rfl) (nomark _)))))), ?_⟩
    refine ⟨_, rfl, _, _, _, _, _, rfl, .own CI, .base (.ins hq T.cl N.ha N.hn N.ht N.hm), kit_self, true, rfl, iteT ?_⟩
    refine ⟨_, rfl, a, CI, dx, _, .ref p, rfl, hp, T.cl, T.nR, rfl, ?_⟩
    refine ⟨_, rfl, b, CI, dy, _, .ref q, rfl, hq, T.cl, T.nR, rfl, ?_⟩
    refine ⟨_, _, .tup hS (dpAll_rows r1), .tup hS2 (dpAll_rows r2), shaped_rows l1, shaped_rows l2, ?_⟩
    rw [eqv_rows]
    exact k
theorem scI1 (i : Nat) (h : i = 1 ∨ i = 2 ∨ i = 3) : FnScope ["self"] ["self"] (defScope (sIslM i)) := by
  rcases h with rfl | rfl | rfl <;> exact ⟨rfl, rfl, rfl, by decide +kernel, rfl, by decide +kernel, by decide +kernel⟩
theorem ok_irows {f : Addr} {fd : FuncData} (F : FnP K "rows" "Island.rows" (sIslM 1) f fd) (T : IslF K mg CI fN) : FnOk P w K mg base CX0 1 f fd ["self"] (spIRows K CI) := by
  refine F.ok (scI1 1 (.inl rfl)) (fun vs H Q E h => ?_) (fun cdv A outer s H vs Q E hr h => ?_)
  · obtain ⟨a, dx, p, rfl, _⟩ := h
    rfl
  · obtain ⟨a, dx, p, rfl, hp, k⟩ := h
    exact ⟨_, PSs.nox (pss_one (ps_ret (pe_fld (pv 0) rfl))), _, rfl, a, CI, dx, _, .ref p, rfl, hp, T.cl, T.nR, rfl, k⟩
theorem ok_iwid {f : Addr} {fd : FuncData} (F : FnP K "width" "Island.width" (sIslM 3) f fd) (T : IslF K mg CI fN) (glen : mg "len" = none) : FnOk P w K mg base CX0 1 f fd ["self"] (spIWid K CI) := by
  refine F.ok (scI1 3 (.inr (.inr rfl))) (fun vs H Q E h => ?_) (fun cdv A outer s H vs Q E hr h => ?_)
  · obtain ⟨a, rows, rfl, _⟩ := h
    rfl
  · obtain ⟨a, rows, rfl, ⟨dx, p, hp, hS⟩, sh, k⟩ := h
    obtain ⟨r0, rs, rfl⟩ : ∃ r0 rs, rows = r0 :: rs := by
      cases rows with
      | nil => exact absurd rfl sh.ne
      | cons r0 rs => exact ⟨r0, rs, rfl⟩
    have hr0 : (tx r0).length ≤ sizeLine := by rw [tx_len]; exact small_le (sh.row r0 (List.mem_cons_self ..))
    refine ⟨_, PSs.nox (pss_one (ps_ret (pe_callB call_len_str (by rfl) glen PySem.boot_len (pa_cons (pe_ix ix_tup (pe_fld (pv 0) rfl) pe_int (fun _ _ => rfl)) pa_nil)))), ?_⟩
    refine ⟨_, rfl, a, CI, dx, _, .ref p, rfl, hp, T.cl, T.nR, rfl, p, _, 0, _, rfl, rfl, hS, at0, _, rfl, hr0, ?_⟩
    rw [tx_len]
    exact k
end
end Om

namespace Om
open PySem PySem.Spec PyProof.Rows L2
section
variable {P : Program} {w : World} {K : PySem.W.Frag} {mg : Str → Option Value} {base : Heap} {CI CU fN : Addr}
theorem ok_ihgt {f : Addr} {fd : FuncData} (F : FnP K "height" "Island.height" (sIslM 2) f fd) (T : IslF K mg CI fN) (glen : mg "len" = none) : FnOk P w K mg base CX0 1 f fd ["self"] (spIHgt K CI) := by
  refine F.ok (scI1 2 (.inr (.inl rfl))) (fun vs H Q E h => ?_) (fun cdv A outer s H vs Q E hr h => ?_)
  · obtain ⟨a, rows, rfl, _⟩ := h
    rfl
  · obtain ⟨a, rows, rfl, ⟨dx, p, hp, hS⟩, k⟩ := h
    refine ⟨_, PSs.nox (pss_one (ps_ret (pe_callB call_len_seq (by rfl) glen PySem.boot_len (pa_cons (pe_fld (pv 0) rfl) pa_nil)))), ?_⟩
    refine ⟨_, rfl, a, CI, dx, _, .ref p, rfl, hp, T.cl, T.nR, rfl, p, _, rfl, .inr hS, ?_⟩
    rw [List.length_map]
    exact k
end
end Om

/-! tuple[::-1] -/
namespace PyProof.Rows
open PySem PySem.Calls
section
variable {prog : Program} {w : World} {A : Around} {E : Value → Shared → Prop} {s : Shared}
theorem om_adjust (n : Nat) : Builtin.Slice.sliceAdjust none none (-1) (n : Int) = ((n : Int) - 1, -1) := by
  unfold Builtin.Slice.sliceAdjust
  have h1 : ((-1 : Int) < 0) := by omega
  simp only [h1, if_true]
theorem om_places (n : Nat) : Builtin.Slice.slicePlaces ((n : Int) - 1) (-1) (-1) = n := by
  unfold Builtin.Slice.slicePlaces
  have h1 : ¬ ((-1 : Int) > 0) := by omega
  have e : ((n : Int) - 1 - -1 - 1) / (- -1) = (n : Int) - 1 := by
    rw [show (- -1 : Int) = 1 by decide, Int.ediv_one]
    omega
  simp only [h1, if_false, e]
  split <;> omega
theorem om_applied {sl : Addr} {n : Nat} {u : Tok} {Q : Int × Int × Nat → Shared → Prop} (hs : s.heap.IsSliceOf sl .none .none (.int (-1) u)) (h : Q ((n : Int) - 1, -1, n) s) :
    wpAny (model prog w) A (Builtin.Slice.sliceApplied (.ref sl) (pure (n : Int))) Q E s := by
  obtain ⟨os, hos, hcs, hds⟩ := id hs
  unfold Builtin.Slice.sliceApplied Builtin.Slice.sliceFields
  refine wpAny_bind (wpAny_bind (wpAny_field hos hds (x := .none) rfl (wpAny_bind (wpAny_field hos hds (x := .none) rfl (wpAny_bind (wpAny_field hos hds (x := .int (-1) u) rfl (wpAny_pure ?_)))))))
  refine wpAny_bind (slicePart_int ?_)
  show wpAny _ _ (if ((-1 : Int) == 0) = true then _ else _) _ _ s
  rw [if_neg (by decide)]
  refine wpAny_bind (slicePart_none (wpAny_bind (slicePart_none (wpAny_bind (wpAny_pure ?_)))))
  show wpAny _ _ (match Builtin.Slice.sliceAdjust none none (-1) (n : Int) with | (lo, hi) => pure (lo, (-1 : Int), Builtin.Slice.slicePlaces lo hi (-1))) _ _ s
  rw [om_adjust n]
  show wpAny _ _ (pure ((n : Int) - 1, (-1 : Int), Builtin.Slice.slicePlaces ((n : Int) - 1) (-1) (-1))) _ _ s
  rw [om_places n]
  exact wpAny_pure h
theorem om_pick (xs : Array Value) : ((List.range xs.size).filterMap fun (k : Nat) => xs[(((xs.size : Int) - 1) + (k : Int) * (-1)).toNat]?).toArray = xs.toList.reverse.toArray := by
  have e : (fun (k : Nat) => xs[(((xs.size : Int) - 1) + (k : Int) * (-1)).toNat]?) = fun k => xs[xs.size - 1 - k]? := by
    funext k
    have : (((xs.size : Int) - 1) + (k : Int) * (-1)).toNat = xs.size - 1 - k := by omega
    rw [this]
  rw [e]
  have e2 : (fun k : Nat => xs[xs.size - 1 - k]?) = (fun j => xs[j]?) ∘ fun k => xs.size - 1 - k := rfl
  rw [e2, ← List.filterMap_map, PySem.W.krv_range, List.filterMap_reverse, PySem.W.krv_all]
theorem om_tuple_rev {t sl : Addr} {items : Array Value} {u : Tok} {Q : Value → Shared → Prop} (ht : IsTup s.heap t items) (hs : s.heap.IsSliceOf sl .none .none (.int (-1) u)) (hsz : items.size ≤ sizeLine)
    (h : Q (.ref s.heap.objs.size) { s with heap := s.heap.push { cls := .type "tuple", data := .seq items.toList.reverse.toArray } }) : wpAny (model prog w) A (getItem (.ref t) (.ref sl)) Q E s := by
  have hdrop : sizeOk (.seq items.toList.reverse.toArray) := by
    show items.toList.reverse.toArray.size ≤ sizeLine
    rw [List.size_toArray, List.length_reverse, Array.length_toList]
    omega
  obtain ⟨os, hos, hcs, hds⟩ := id hs
  have hTs : s.TypeIs (.ref sl) "slice" := ⟨os, hos, hcs⟩
  unfold getItem
  try with_reducible refine wpAny_holding ?_
  first | refine wpAny_bind (wpAny_pure ?_) | skip
  refine wpAny_bind (wpAny_sequenceKey ht.typeIs (by decide) ?_)
  refine wpAny_bind (wpAny_callSpecial?_slot (name := Str.ofString "__getitem__") ht.typeIs slot_tuple_getitem
    (wpAny_call_entry slot_tuple_getitem ht.typeIs entry_tuple_getitem ?_ (args_tuple_getitem _ _)))
  show wpAny _ _ (Builtin.Tuple.tupleItemsOf (.ref t) >>= _) _ _ s
  refine wpAny_bind (tupleItemsOf_ ht ?_)
  refine wpAny_bind (wpAny_typeOf hTs ?_)
  rw [if_pos (by decide)]
  refine wpAny_bind (om_applied hs ?_)
  have hno : ¬ (((((items.size : Nat) : Int) - 1) == 0 && (-1 : Int) == 1 && items.size == items.size) = true) := by
    have : ((-1 : Int) == 1) = false := by decide
    rw [this]; simp
  show wpAny _ _ (if ((((items.size : Nat) : Int) - 1) == 0 && (-1 : Int) == 1 && items.size == items.size) = true then _ else _) _ _ s
  rw [if_neg hno, om_pick items]
  first
    | exact wpAny_bind (m := Builtin.Tuple.tupleExact _) (wpAny_newObj_type (wpAny_pure ⟨_, rfl, wpAny_pure h⟩) hdrop)
    | exact wpAny_bind (m := Builtin.Tuple.tupleExact _) (wpAny_newObj_type (wpAny_bind (wpAny_pure (wpAny_pure ⟨_, rfl, wpAny_pure h⟩))) hdrop)
    | exact wpAny_bind (wpAny_bind (m := Builtin.Tuple.tupleExact _) (wpAny_newObj_type (wpAny_pure (wpAny_pure ⟨_, rfl, wpAny_pure h⟩)) hdrop))
    | exact wpAny_bind (wpAny_bind (m := Builtin.Tuple.tupleExact _) (wpAny_newObj_type (wpAny_pure ⟨_, rfl, wpAny_pure h⟩) hdrop))
end
end PyProof.Rows
namespace Om
open PySem PySem.Spec PyProof.Rows L2
def tRevT (K : PySem.W.Frag) (te : TE) : TE := fun σ H Q => te σ H fun x H1 => ∃ a xs, x = .ref a ∧ SqT K H1 a xs ∧ ∀ p, H1 p = none → Q (.ref p) (upd H1 p (.tup xs.reverse))
theorem pe_revT {X : Cx} {e : Expr} {te : TE} {k : Nat} {p1 p2 p3 pos : Pos} (he : PE X e te) : PE X (.Subscript e (.Slice none none (some (.UnaryOp .USub (.Constant (.int 1) k p1) p2)) p3) pos) (tRevT X.K te) := by
  refine ⟨fun pins s σ H Q I h => ?_⟩
  refine Subscript_ (thn (he.run pins s σ H _ I h) fun v s1 ⟨x, H1, I1, r1, q1⟩ => ?_)
  obtain ⟨a, xs, ex, hx, q⟩ := q1
  subst ex
  cases r1
  have hst : PO X (some (.UnaryOp .USub (.Constant (.int 1) k p1) p2)) (tPart (tUn (rU fun i => .int (-i)) (tC (.int 1)))) := po_some (pe_un un_neg pe_int)
  refine wpAny_Slice (thn (po_none.run pins s1 σ H1 (fun o H2 => o = none ∧ H2 = H1) I1 ⟨rfl, rfl⟩) fun vl s2 ⟨l, H2, I2, pl, el, e2⟩ => ?_)
  subst el e2
  refine thn (po_none.run pins s2 σ H2 (fun o H3 => o = none ∧ H3 = H2) I2 ⟨rfl, rfl⟩) fun vu s3 ⟨u, H3, I3, pu, eu, e3⟩ => ?_
  subst eu e3
  refine thn (hst.run pins s3 σ H3 (fun o H4 => o = some (-1) ∧ H4 = H3) I3 ⟨1, rfl, -1, rfl, rfl, rfl⟩) fun vs s4 ⟨o, H4, I4, ps, eo, e4⟩ => ?_
  subst eo e4
  have I5 : Inv X pins σ H4 { s4 with heap := s4.heap.push { cls := .type "slice", data := .fields #[vl, vu, vs] } } := I4.kept (t' := s4.toks) fun b ob q => Heap.get?_push_of_some _ q
  obtain ⟨its, r, ht, hz⟩ := I5.tuple hx
  have hlen := r.length
  show wpAny (model X.prog X.w) X.A (subscriptTail e (.Slice none none (some (.UnaryOp .USub (.Constant (.int 1) k p1) p2)) p3) (.ref a) (.ref s4.heap.objs.size)) (EP X pins σ Q) X.xe { s4 with heap := s4.heap.push { cls := .type "slice", data := .fields #[vl, vu, vs] } }
  refine tail_any (ops := [.ref a, .ref s4.heap.objs.size]) ht.typeIs (PyProof.Rows.slot_tuple_getitem.lookup) ?_ (by with_unfolding_all rfl)
  cases pl
  cases pu
  cases ps
  refine om_tuple_rev ht (Heap.IsSliceOf.new _ _ _ _) (by rw [List.size_toArray]; omega) ?_
  refine ⟨.ref _, _, I5.laid (t' := s4.toks) (o := .tup xs.reverse) (fun b ob q => Heap.get?_push_of_some _ q) (Nat.le_refl _) ?_, rfl, q _ (I5.hok.fresh (Nat.le_refl _))⟩
  exact ⟨by rw [List.length_reverse]; exact hz, _, r.reverse, _, Heap.get?_push_size _ rfl, rfl, _, rfl⟩
end Om

namespace Om
open PySem PySem.Spec PyProof.Rows L2
/-! ### Dp stays -/
theorem Same.lst {K : PySem.W.Frag} {H H' : Hp} {a : Addr} {xs : List V} (e : Same H H') (h : SqL K H a xs) : SqL K H' a xs := by
  rcases h with (h | ⟨o, h⟩) | h
  · exact .inl (.inl (e _ _ h))
  · exact .inl (.inr ⟨o, e _ _ h⟩)
  · exact .inr h
theorem dp_mono {K : PySem.W.Frag} {H H' : Hp} (hS : ∀ a xs, SqT K H a xs → SqT K H' a xs) (hL : ∀ a xs, SqL K H a xs → SqL K H' a xs) {v : V} {d : PyData} (h : Dp K H v d) : Dp K H' v d :=
  Dp.rec (motive_1 := fun v d _ => Dp K H' v d) (motive_2 := fun vs ds _ => DpAll K H' vs ds) .non .bl .int .str (fun s _ ih => .lst (hL _ _ s) ih) (fun s _ ih => .tup (hS _ _ s) ih) .nil (fun _ _ i1 i2 => .cons i1 i2) h
theorem dpAll_mono {K : PySem.W.Frag} {H H' : Hp} (hS : ∀ a xs, SqT K H a xs → SqT K H' a xs) (hL : ∀ a xs, SqL K H a xs → SqL K H' a xs) {vs : List V} {ds : List PyData} (h : DpAll K H vs ds) : DpAll K H' vs ds :=
  DpAll.rec (motive_1 := fun v d _ => Dp K H' v d) (motive_2 := fun vs ds _ => DpAll K H' vs ds) .non .bl .int .str (fun s _ ih => .lst (hL _ _ s) ih) (fun s _ ih => .tup (hS _ _ s) ih) .nil (fun _ _ i1 i2 => .cons i1 i2) h
theorem Same.dp {K : PySem.W.Frag} {H H' : Hp} {v : V} {d : PyData} (e : Same H H') (h : Dp K H v d) : Dp K H' v d := dp_mono (fun _ _ => Same.tup e) (fun _ _ => Same.lst e) h
theorem Same.dpAll {K : PySem.W.Frag} {H H' : Hp} {v : List V} {d : List PyData} (e : Same H H') (h : DpAll K H v d) : DpAll K H' v d := dpAll_mono (fun _ _ => Same.tup e) (fun _ _ => Same.lst e) h
theorem dpAll_app {K : PySem.W.Frag} {H : Hp} : ∀ {a : List V} {da : List PyData} {b : List V} {db : List PyData}, DpAll K H a da → DpAll K H b db → DpAll K H (a ++ b) (da ++ db)
  | [], [], _, _, .nil, h => h
  | _ :: _, _ :: _, _, _, .cons x y, h => .cons x (dpAll_app y h)
theorem dpAll_len {K : PySem.W.Frag} {H : Hp} : ∀ {a : List V} {da : List PyData}, DpAll K H a da → a.length = da.length
  | [], [], .nil => rfl
  | _ :: _, _ :: _, .cons _ y => by rw [List.length_cons, List.length_cons, dpAll_len y]
/-! ### pairs of numbers in a list that grows at D -/
def cdp (c : Nat × Nat) : PyData := .tuple [.int (c.1 : Nat), .int (c.2 : Nat)]
theorem SqT.other {K : PySem.W.Frag} {H : Hp} {a D : Addr} {xs acc : List V} {o : HO} (h : SqT K H a xs) (hD : H D = some (.lst acc)) : SqT K (upd H D o) a xs := by
  rcases h with (h | ⟨ob, h⟩) | h
  · have n : a ≠ D := fun e => by rw [e, hD] at h; cases h
    exact .inl (.inl (by rw [upd_ne n]; exact h))
  · have n : a ≠ D := fun e => by rw [e, hD] at h; cases h
    exact .inl (.inr ⟨ob, by rw [upd_ne n]; exact h⟩)
  · exact .inr h
theorem pairs_other {K : PySem.W.Frag} {H : Hp} {D : Addr} {acc : List V} {o : HO} (hD : H D = some (.lst acc)) : ∀ {xs : List V} {cs : List (Nat × Nat)}, DpAll K H xs (cs.map cdp) → DpAll K (upd H D o) xs (cs.map cdp)
  | [], [], .nil => .nil
  | _ :: _, _ :: _, .cons h t => by
    refine .cons ?_ (pairs_other hD t)
    unfold cdp at h ⊢
    cases h with
    | tup s al =>
      refine .tup (SqT.other s hD) ?_
      cases al with
      | cons h1 t1 =>
        cases h1
        cases t1 with
        | cons h2 t2 =>
          cases h2
          cases t2
          exact .cons (.int _) (.cons (.int _) .nil)
/-! ### the cells of land -/
def rowCells (r : List Nat) (i n : Nat) : List (Nat × Nat) := ((List.range n).filter fun j => !decide (r.getD j 0 = 126)).map fun j => (i, j)
def cellsTo (rows : List (List Nat)) (n : Nat) : List (Nat × Nat) := (List.range n).flatMap fun i => rowCells (rows.getD i []) i (rows.getD i []).length
def cellsOf (rows : List (List Nat)) : List (Nat × Nat) := cellsTo rows rows.length
theorem rowCells_succ (r : List Nat) (i n : Nat) : rowCells r i (n + 1) = if r.getD n 0 = 126 then rowCells r i n else rowCells r i n ++ [(i, n)] := by
  unfold rowCells
  rw [List.range_succ, List.filter_append, List.map_append]
  by_cases h : r.getD n 0 = 126
  · rw [if_pos h]
    simp only [List.filter_cons, h, decide_true, Bool.not_true, Bool.false_eq_true, if_false, List.filter_nil, List.map_nil, List.append_nil]
  · rw [if_neg h]
    have e : (!decide (r.getD n 0 = 126)) = true := by rw [decide_eq_false h]; rfl
    simp only [List.filter_cons, e, if_true, List.filter_nil, List.map_cons, List.map_nil]
theorem cellsTo_succ (rows : List (List Nat)) (n : Nat) : cellsTo rows (n + 1) = cellsTo rows n ++ rowCells (rows.getD n []) n (rows.getD n []).length := by
  unfold cellsTo
  rw [List.range_succ, List.flatMap_append]
  simp
theorem rowCells_len (r : List Nat) (i n : Nat) : (rowCells r i n).length ≤ n := by
  unfold rowCells
  rw [List.length_map]
  exact Nat.le_trans (List.length_filter_le ..) (by rw [List.length_range]; exact Nat.le_refl _)
theorem cellsTo_len {rows : List (List Nat)} {w : Nat} (hw : ∀ r ∈ rows, r.length ≤ w) : ∀ n, n ≤ rows.length → (cellsTo rows n).length ≤ n * w
  | 0, _ => by simp [cellsTo]
  | n + 1, h => by
    rw [cellsTo_succ, List.length_append]
    have h1 := cellsTo_len hw n (by omega)
    have hm : rows.getD n [] ∈ rows := by
      rw [List.getD_eq_getElem?_getD, List.getElem?_eq_getElem (by omega), Option.getD_some]
      exact List.getElem_mem _
    have h2 := rowCells_len (rows.getD n []) n (rows.getD n []).length
    have h3 := hw _ hm
    rw [Nat.succ_mul]
    omega
theorem getD_at {rows : List (List Nat)} {i : Nat} {r : List Nat} (h : rows[i]? = some r) : rows.getD i [] = r := by
  rw [List.getD_eq_getElem?_getD, h, Option.getD_some]
/-- an island as it may be -/
structure Vd (rows : List (List Nat)) : Prop extends Good2 rows where
  hgt : rows.length ≤ 12
  wid : ∀ r ∈ rows, 1 ≤ r.length ∧ r.length ≤ 12
theorem RowsOk.vd {m : Nat} {rows : List (List Nat)} (h : RowsOk m rows) (hm : m ≤ 12) : Vd rows := by
  obtain ⟨h1, h2, wd, w1, w2, hr⟩ := h
  have g := RowsOk.good ⟨h1, h2, wd, w1, w2, hr⟩ hm
  refine ⟨⟨⟨g.le, g.lens, fun e => by rw [e] at h1; simp at h1⟩, fun r hr' => ?_, g.lo⟩, by omega, fun r hr' => by have := (hr r hr').1; omega⟩
  cases rows with
  | nil => cases hr'
  | cons r0 rs =>
    have e1 := (hr r hr').1
    have e2 := (hr r0 (List.mem_cons_self ..)).1
    show r.length = r0.length
    omega
def spICells (K : PySem.W.Frag) (CI : Addr) : Sp := fun vs H Q _ => ∃ (a : Addr) (rows : List (List Nat)), vs = [.ref a] ∧ Isl K CI H a rows ∧ Vd rows ∧ ∀ v H', Same H H' → Dp K H' v (.list ((cellsOf rows).map cdp)) → Q v H'
end Om

namespace Om
open PySem PySem.Spec PyProof.Rows L2
section
variable {P : Program} {w : World} {K : PySem.W.Frag} {mg : Str → Option Value} {base : Heap} {CI CU fN : Addr}
def cellsLc : Expr := retExpr ((defBody (sIslM 4)).getD 0 (.Pass ⟨0, 0, 0, 0⟩))
abbrev nCells : List Str := ["self", "row", "signs", "column", "sign"]
theorem scCells : FnScope nCells ["self"] (defScope (sIslM 4)) := ⟨rfl, rfl, rfl, by decide +kernel, rfl, by decide +kernel, by decide +kernel⟩
theorem blkCells : BlkOk nCells (defScope (sIslM 4)) (lcScope cellsLc) [("row", 1), ("signs", 2), ("column", 3), ("sign", 4)] := blkOk_by (by decide +kernel)
theorem ok_icells {f : Addr} {fd : FuncData} (F : FnP K "cells" "Island.cells" (sIslM 4) f fd) (T : IslF K mg CI fN) (genum : mg "enumerate" = none) (gw : ∃ t, mg "WATER" = some (.str (Str.ofString "~") t)) : FnOk P w K mg base CX0 1 f fd ["self"] (spICells K CI) := by
  obtain ⟨t0, gw⟩ := gw
  refine F.ok scCells (fun vs H Q E h => ?_) (fun cdv A outer s H vs Q E hr h => ?_)
  · obtain ⟨a, rows, rfl, _⟩ := h
    rfl
  · obtain ⟨a, rows, rfl, ⟨dx, p, hp, hS⟩, vd, k⟩ := h
    have nd := scCells.nd
    refine ⟨_, PSs.nox (pss_one (ps_ret (pe_lc2 (own := [("row", 1), ("signs", 2), ("column", 3), ("sign", 4)]) (vs1 := [3, 4]) (g := gTup K 2 (gCons (gName 1) (gCons (gName 2) gNil))) (g1 := gTup K 2 (gCons (gName 3) (gCons (gName 4) gNil))) rfl nd (pi_enumT rfl genum (pa_cons (pe_fld (pv 0) rfl) pa_nil)) blkCells (by decide)
      (fun _ _ _ _ _ => pg_tup rfl (pgs_cons (pg_name (i := 1) nd rfl (.inl rfl)) (pgs_cons (pg_name (i := 2) nd rfl (.inl rfl)) pgs_nil))) (fun _ _ _ _ _ => pts_nil)
      (fun _ _ _ _ _ => pi_enumS rfl genum (pa_cons (pv 2) pa_nil))
      (fun _ _ _ _ _ => pg_tup rfl (pgs_cons (pg_name (i := 3) nd rfl (.inl rfl)) (pgs_cons (pg_name (i := 4) nd rfl (.inl rfl)) pgs_nil)))
      (fun _ _ _ _ _ => pts_one (pt_cmpR op_ne (pv 4) (pe_glob (v := .str (Str.ofString "~")) rfl gw ⟨_, rfl⟩) (nomark _)))
      (fun _ _ _ _ _ => pe_tup (pa_cons (pv 1) (pa_cons (pv 3) pa_nil)))))), ?_⟩
    refine ⟨_, rfl, a, CI, dx, _, .ref p, rfl, hp, T.cl, T.nR, rfl, p, _, rfl, hS, fun D hD => ?_⟩
    have ez : Str.ofString "~" = (⟨#[126]⟩ : Str) := by decide +kernel
    refine out_it (walk_enumT (K := K) (a := p) (xs := rows.map vt)) (fun i H' => ∃ acc, H' D = some (.lst acc) ∧ DpAll K H' acc ((cellsTo rows i).map cdp) ∧ Same H H') ⟨[], upd_same, .nil, Same.new (Same.refl H) hD⟩
      (fun i H' _ q => by obtain ⟨_, _, _, q⟩ := q; exact Same.tup q hS) ?_ ?_
    · rintro i x H1 H2 hi ⟨acc, h1, h2, h3⟩ ⟨T1, y, rfl, hT, rfl, hy⟩
      rw [List.length_map] at hi
      obtain ⟨r, hr1⟩ : ∃ r, rows[i]? = some r := ⟨rows[i], by simp [hi]⟩
      have hy2 : y = vt r := by
        have hy : (rows.map vt)[i]? = some y := hy
        rw [List.getElem?_map, hr1] at hy
        exact (Option.some.inj hy).symm
      subst hy2
      have hm : r ∈ rows := List.mem_of_getElem? hr1
      have hDT : D ≠ T1 := fun e => by rw [← e, h1] at hT; cases hT
      have s1 : Same H1 (upd H1 T1 (.tup [.int (i : Nat), vt r])) := Same.new (Same.refl H1) hT
      refine ⟨T1, _, rfl, .inl (.inl upd_same), rfl, _, _, rfl, _, _, rfl, rfl, rfl, tyes ?_⟩
      refine ⟨_, rfl, tx r, rfl, in_it (walk_enumS (x := tx r)) (fun j H' => ∃ acc, H' D = some (.lst acc) ∧ DpAll K H' acc ((cellsTo rows i ++ rowCells r i j).map cdp) ∧ Same H H')
        ⟨acc, s1 _ _ h1, by simp only [rowCells, List.range_zero, List.filter_nil, List.map_nil, List.append_nil]; exact Same.dpAll s1 h2, h3.trans s1⟩ (fun _ _ _ _ => trivial) ?_ ?_⟩
      · rintro j x H3 H4 hj ⟨acc2, g1, g2, g3⟩ ⟨T2, y2, rfl, hT2, rfl, hy2⟩
        have hj' : j < r.length := by
          have e : (tx r).cps.size = r.length := by rw [← Array.length_toList, tx_cps]
          rwa [e] at hj
        obtain ⟨c, hc⟩ : ∃ c, r[j]? = some c := ⟨r[j], by simp [hj']⟩
        have hy3 : y2 = .str ⟨#[c]⟩ := by
          have hy2 : ((tx r).cps[j]?).map (fun c => V.str ⟨#[c]⟩) = some y2 := hy2
          have e : (tx r).cps[j]? = some c := by
            rw [← Array.getElem?_toList, tx_cps]
            exact hc
          rw [e] at hy2
          exact (Option.some.inj hy2).symm
        subst hy3
        have s2 : Same H3 (upd H3 T2 (.tup [.int (j : Nat), .str ⟨#[c]⟩])) := Same.new (Same.refl H3) hT2
        have hcd : r.getD j 0 = c := by rw [List.getD_eq_getElem?_getD, hc, Option.getD_some]
        refine ⟨T2, _, rfl, .inl (.inl upd_same), rfl, _, _, rfl, _, _, rfl, rfl, rfl, ?_⟩
        refine ⟨_, rfl, rfl, _, rfl, ?_⟩
        have e2 : (decide (V.str ⟨#[c]⟩ = V.str (Str.ofString "~"))) = decide (c = 126) := by
          rw [ez]
          apply decide_eq_decide.mpr
          simp
        show if (!decide (V.str ⟨#[c]⟩ = V.str (Str.ofString "~"))) = true then _ else _
        rw [e2, rowCells_succ, hcd]
        have w1 : (cellsTo rows i).length ≤ i * 12 := cellsTo_len (fun r hr => (vd.wid r hr).2) i (by omega)
        have w2 := rowCells_len r i j
        have w3 := (vd.wid r hm).2
        have w4 := vd.hgt
        have hlen := dpAll_len g2
        rw [List.length_map, List.length_append] at hlen
        by_cases h126 : c = 126
        · rw [if_pos h126]
          refine iteF' (by rw [decide_eq_true h126]; rfl) ?_
          exact ⟨acc2, s2 _ _ g1, Same.dpAll s2 g2, g3.trans s2⟩
        · rw [if_neg h126]
          refine iteT' (by rw [decide_eq_false h126]; rfl) ?_
          refine ⟨_, rfl, _, rfl, (by show 2 ≤ sizeLine; decide), fun q hq => ?_⟩
          have s3 : Same H3 (upd (upd H3 T2 (.tup [.int (j : Nat), .str ⟨#[c]⟩])) q (.tup [.int (i : Nat), .int (j : Nat)])) := s2.trans (Same.new (Same.refl _) hq)
          have g4 := s3 _ _ g1
          have hqD : D ≠ q := fun e => by rw [← e, s2 _ _ g1] at hq; cases hq
          refine ⟨acc2, g4, Nat.lt_of_lt_of_le (show acc2.length < 1000 by omega) (by decide), acc2 ++ [.ref q], upd_same, ?_, ?_⟩
          · rw [← List.append_assoc, List.map_append]
            refine dpAll_app (pairs_other g4 (Same.dpAll s3 g2)) (.cons ?_ .nil)
            exact .tup (.inl (.inl (by rw [upd_ne (Ne.symm hqD)]; exact upd_same))) (.cons (.int _) (.cons (.int _) .nil))
          · intro b o hb
            have hne : b ≠ D := ne_of_none hb hD
            rw [upd_ne hne]
            exact s3 _ _ (g3 b o hb)
      · rintro H3 ⟨acc2, g1, g2, g3⟩
        have e : (tx r).cps.size = r.length := by rw [← Array.length_toList, tx_cps]
        rw [e] at g2
        refine ⟨acc2, g1, ?_, g3⟩
        rw [cellsTo_succ, getD_at hr1]
        exact g2
    · rintro H1 ⟨acc, h1, h2, h3⟩
      rw [List.length_map] at h2
      exact k _ H1 h3 (.lst (.inl (.inl h1)) h2)
end
end Om

namespace Om
open PySem PySem.Spec PyProof.Rows L2
/-! ### _law_alike of two readings of the same data -/
abbrev sAlike : Stmt := top 23
/-- none, bools, ints, texts, tuples and lists of such, some deep -/
def okD : Nat → PyData → Bool
  | 0, _ => false
  | _ + 1, .none => true
  | _ + 1, .bool _ => true
  | _ + 1, .int _ => true
  | _ + 1, .str x => PyData.strOk x
  | n + 1, .list ds => decide (ds.length ≤ 10000) && ds.all (okD n)
  | n + 1, .tuple ds => decide (ds.length ≤ 10000) && ds.all (okD n)
  | _ + 1, .dict _ => false
theorem dpAll_at {K : PySem.W.Frag} {H : Hp} : ∀ {xs : List V} {ds : List PyData}, DpAll K H xs ds → ∀ {i : Nat} {e : PyData}, ds[i]? = some e → ∃ v, xs[i]? = some v ∧ Dp K H v e
  | [], [], .nil, i, e, h => by simp at h
  | v :: _, d :: _, .cons h1 t, 0, e, h => by
    have h : some d = some e := h
    cases h
    exact ⟨v, rfl, h1⟩
  | v :: _, d :: _, .cons h1 t, i + 1, e, h => by
    obtain ⟨u, h2, h3⟩ := dpAll_at t (i := i) (e := e) h
    exact ⟨u, h2, h3⟩
def tyD : PyData → String
  | .none => "NoneType"
  | .bool _ => "bool"
  | .int _ => "int"
  | .str _ => "str"
  | .list _ => "list"
  | .tuple _ => "tuple"
  | .dict _ => "dict"
theorem sqL_ty {K : PySem.W.Frag} {H : Hp} {a : Addr} {xs : List V} (h : SqL K H a xs) : TyX K H (.ref a) (.type "list") := by
  rcases h with (h | ⟨o, h⟩) | h
  · exact .base (.lst h)
  · exact .base (.frz h)
  · obtain ⟨o, its, n, e1, e2, _⟩ := h
    exact .kList e1 e2
theorem sqT_ty {K : PySem.W.Frag} {H : Hp} {a : Addr} {xs : List V} (h : SqT K H a xs) : TyX K H (.ref a) (.type "tuple") := by
  rcases h with (h | ⟨o, h⟩) | h
  · exact .base (.tup h)
  · exact .fTuple h
  · obtain ⟨o, its, n, e1, e2, _⟩ := h
    exact .kTuple e1 e2
theorem dp_ty {K : PySem.W.Frag} {H : Hp} {v : V} {d : PyData} (h : Dp K H v d) : TyX K H v (.type (tyD d)) := by
  cases h with
  | non => exact .base .non
  | bl b => exact .base (.bl b)
  | int i => exact .base (.int i)
  | str x => exact .base (.str x)
  | lst s _ => exact sqL_ty s
  | tup s _ => exact sqT_ty s
def spAlike (K : PySem.W.Frag) (n : Nat) : Sp := fun vs H Q _ => ∃ (x y : V) (d : PyData), vs = [x, y] ∧ Dp K H x d ∧ Dp K H y d ∧ okD n d = true ∧ Q (.bl true) H
abbrev nAlike : List Str := ["_law_found", "_law_due", "_law_k"]
theorem scAlike : FnScope nAlike ["_law_found", "_law_due"] (defScope sAlike) := ⟨rfl, rfl, rfl, by decide +kernel, rfl, by decide +kernel, by decide +kernel⟩
section
variable {P : Program} {w : World} {K : PySem.W.Frag} {mg : Str → Option Value} {base : Heap}
theorem ok_alike {f : Addr} {fd : FuncData} (F : FnP K "_law_alike" "_law_alike" sAlike f fd) (hg : mg "_law_alike" = some (.ref f)) (hk : PySem.W.keepIn K (.ref f) = true) (hb : Binds K fd ["_law_found", "_law_due"] [])
    (gisi : mg "isinstance" = none) (gint : mg "int" = none) (gbool : mg "bool" = none) (gstr : mg "str" = none) (gtuple : mg "tuple" = none) (glist : mg "list" = none) (glen : mg "len" = none) (grange : mg "range" = none) :
    ∀ n, FnOk P w K mg base CX0 (n + 1) f fd ["_law_found", "_law_due"] (spAlike K n) := by
  intro n
  induction n with
  | zero =>
    refine F.ok scAlike (fun vs H Q E h => ?_) (fun cdv A outer s H vs Q E hr h => ?_)
    · obtain ⟨x, y, d, _, _, _, h, _⟩ := h
      cases h
    · obtain ⟨x, y, d, _, _, _, h, _⟩ := h
      cases h
  | succ n ih =>
    have G : Cal P w K mg base CX0 (n + 1) "_law_alike" ["_law_found", "_law_due"] (spAlike K n) := ⟨_, _, ih, hg, hk, hb⟩
    refine F.ok scAlike (fun vs H Q E h => ?_) (fun cdv A outer s H vs Q E hr h => ?_)
    · obtain ⟨x, y, d, rfl, _⟩ := h
      rfl
    · obtain ⟨x, y, d, rfl, hx, hy, ok, k⟩ := h
      have nd := scAlike.nd
      refine ⟨_, PSs.nox (pss_cons (ps_if (pt_cmpR op_isN (pv 1) pe_non (nomark _)) (pss_one (ps_ret (pe_cmpR op_isN (pv 0) pe_non (nomark _)))) pss_nil)
        (pss_cons (ps_if (pt_val (pe_callB call_isi (by rfl) gisi (by decide +kernel) (pa_cons (pv 1) (pa_cons (pe_bltn (v := .ty "bool") (by rfl) gbool (by decide +kernel) rfl) pa_nil))))
            (pss_one (ps_ret (pe_and (pe_callB call_isi (by rfl) gisi (by decide +kernel) (pa_cons (pv 0) (pa_cons (pe_bltn (v := .ty "bool") (by rfl) gbool (by decide +kernel) rfl) pa_nil))) (pe_one (pe_cmpR (op_eqD hr.units) (pv 0) (pv 1) (nomark _)))))) pss_nil)
        (pss_cons (ps_if (pt_val (pe_callB call_isi (by rfl) gisi (by decide +kernel) (pa_cons (pv 1) (pa_cons (pe_bltn (v := .ty "int") (by rfl) gint boot_int rfl) pa_nil))))
            (pss_one (ps_ret (pe_and (pe_callB call_isi (by rfl) gisi (by decide +kernel) (pa_cons (pv 0) (pa_cons (pe_bltn (v := .ty "int") (by rfl) gint boot_int rfl) pa_nil)))
              (pe_and (pe_not (pe_callB call_isi (by rfl) gisi (by decide +kernel) (pa_cons (pv 0) (pa_cons (pe_bltn (v := .ty "bool") (by rfl) gbool (by decide +kernel) rfl) pa_nil)))) (pe_one (pe_cmpR (op_eqD hr.units) (pv 0) (pv 1) (nomark _))))))) pss_nil)
        (pss_cons (ps_if (pt_val (pe_callB call_isi (by rfl) gisi (by decide +kernel) (pa_cons (pv 1) (pa_cons (pe_bltn (v := .ty "str") (by rfl) gstr (by decide +kernel) rfl) pa_nil))))
            (pss_one (ps_ret (pe_and (pe_callB call_isi (by rfl) gisi (by decide +kernel) (pa_cons (pv 0) (pa_cons (pe_bltn (v := .ty "str") (by rfl) gstr (by decide +kernel) rfl) pa_nil))) (pe_one (pe_cmpR (op_eqD hr.units) (pv 0) (pv 1) (nomark _)))))) pss_nil)
        (pss_cons (ps_if (PW.pt (pw_or (pt_cmpR op_ne (pe_callB call_isi (by rfl) gisi (by decide +kernel) (pa_cons (pv 1) (pa_cons (pe_bltn (v := .ty "tuple") (by rfl) gtuple (by decide +kernel) rfl) pa_nil)))
                (pe_callB call_isi (by rfl) gisi (by decide +kernel) (pa_cons (pv 0) (pa_cons (pe_bltn (v := .ty "tuple") (by rfl) gtuple (by decide +kernel) rfl) pa_nil))) (nomark _))
              (pw_or1 (pt_cmpR op_ne (pe_callB call_isi (by rfl) gisi (by decide +kernel) (pa_cons (pv 1) (pa_cons (pe_bltn (v := .ty "list") (by rfl) glist (by decide +kernel) rfl) pa_nil)))
                (pe_callB call_isi (by rfl) gisi (by decide +kernel) (pa_cons (pv 0) (pa_cons (pe_bltn (v := .ty "list") (by rfl) glist (by decide +kernel) rfl) pa_nil))) (nomark _))))) (pss_one (ps_ret pe_bl)) pss_nil)
        (pss_cons (ps_if (pt_cmpR op_ne (pe_callB call_len_seq (by rfl) glen PySem.boot_len (pa_cons (pv 0) pa_nil)) (pe_callB call_len_seq (by rfl) glen PySem.boot_len (pa_cons (pv 1) pa_nil)) (nomark _)) (pss_one (ps_ret pe_bl)) pss_nil)
        (pss_cons (ps_for PassesOwn.never rfl (pi_range1 rfl grange (pa_cons (pe_callB call_len_seq (by rfl) glen PySem.boot_len (pa_cons (pv 1) pa_nil)) pa_nil)) (pg_name (i := 2) nd rfl (.inl rfl))
            (pss_one (ps_if (pt_not (pt_val (pe_cal G hr pass0 (pa_cons (pe_ix ix_seq (pv 0) (pv 2) (fun _ _ => rfl)) (pa_cons (pe_ix ix_seq (pv 1) (pv 2) (fun _ _ => rfl)) pa_nil))))) (pss_one (ps_ret pe_bl)) pss_nil)))
        (pss_one (ps_ret pe_bl))))))))), ?_⟩
      have ex := dp_ty hx
      have ey := dp_ty hy
      have kt : ∀ {a b : String} {r : Bool}, kitB a b = some r → PySem.W.kitOne K (.type a) (.type b) = some r := fun h => kit_ty h
      have bb := kt (a := "bool") (b := "bool") (r := true) (by decide +kernel)
      have ib := kt (a := "int") (b := "bool") (r := false) (by decide +kernel)
      have ii := kt (a := "int") (b := "int") (r := true) (by decide +kernel)
      have sb := kt (a := "str") (b := "bool") (r := false) (by decide +kernel)
      have si := kt (a := "str") (b := "int") (r := false) (by decide +kernel)
      have ss := kt (a := "str") (b := "str") (r := true) (by decide +kernel)
      have lb := kt (a := "list") (b := "bool") (r := false) (by decide +kernel)
      have li := kt (a := "list") (b := "int") (r := false) (by decide +kernel)
      have ls := kt (a := "list") (b := "str") (r := false) (by decide +kernel)
      have lt := kt (a := "list") (b := "tuple") (r := false) (by decide +kernel)
      have ll := kt (a := "list") (b := "list") (r := true) (by decide +kernel)
      have tb := kt (a := "tuple") (b := "bool") (r := false) (by decide +kernel)
      have ti := kt (a := "tuple") (b := "int") (r := false) (by decide +kernel)
      have ts := kt (a := "tuple") (b := "str") (r := false) (by decide +kernel)
      have tt := kt (a := "tuple") (b := "tuple") (r := true) (by decide +kernel)
      have tl := kt (a := "tuple") (b := "list") (r := false) (by decide +kernel)
      refine ⟨_, rfl, rfl, _, rfl, ?_⟩
      -- what follows for a list, a tuple at both: the items one by one
      have items : ∀ (xs ys : List V) (ds : List PyData), DpAll K H xs ds → DpAll K H ys ds → ds.all (okD n) = true →
          ∀ i, i < ys.length → ∃ v u, xs[i]? = some v ∧ ys[i]? = some u ∧ ∃ e, Dp K H v e ∧ Dp K H u e ∧ okD n e = true := fun xs ys ds h1 h2 h3 i hi => by
        have hl := dpAll_len h2
        have hi2 : i < ds.length := by omega
        have he : ds[i]? = some ds[i] := by simp [hi2]
        obtain ⟨v, a1, a2⟩ := dpAll_at h1 he
        obtain ⟨u, b1, b2⟩ := dpAll_at h2 he
        exact ⟨v, u, a1, b1, _, a2, b2, List.all_eq_true.mp h3 _ (List.getElem_mem hi2)⟩
      cases d with
      | none =>
        cases hx
        cases hy
        exact iteT ⟨_, rfl, rfl, k⟩
      | dict kvs => cases ok
      | bool b =>
        cases hx
        cases hy
        refine iteF ⟨_, rfl, _, _, _, _, _, rfl, .ty "bool", ey, bb, true, rfl, iteT ?_⟩
        refine ⟨_, rfl, _, _, _, _, _, rfl, .ty "bool", ex, bb, true, rfl, iteT ?_⟩
        refine ⟨_, rfl, _, rfl, _, _, .bl b, .bl b, rfl, rfl, ?_⟩
        show Q (.bl (PyData.eqv (.bool b) (.bool b))) H
        rw [PySem.SeqAt.eqv_refl _ rfl]
        exact k
      | int i =>
        cases hx
        cases hy
        refine iteF ⟨_, rfl, _, _, _, _, _, rfl, .ty "bool", ey, ib, false, rfl, iteF ?_⟩
        refine ⟨_, rfl, _, _, _, _, _, rfl, .ty "int", ey, ii, true, rfl, iteT ?_⟩
        refine ⟨_, rfl, _, _, _, _, _, rfl, .ty "int", ex, ii, true, rfl, iteT ?_⟩
        refine ⟨_, rfl, _, _, _, _, _, rfl, .ty "bool", ex, ib, false, rfl, true, rfl, iteT ?_⟩
        refine ⟨_, rfl, _, rfl, _, _, .int i, .int i, rfl, rfl, ?_⟩
        show Q (.bl (PyData.eqv (.int i) (.int i))) H
        rw [PySem.SeqAt.eqv_refl _ rfl]
        exact k
      | str z =>
        cases hx
        cases hy
        have hz : PyData.strOk z = true := ok
        have lay : PyData.canLay0 (.str z) = true := by simp only [PyData.canLay0]; exact hz
        have sh : SeqAt.shaped (.str z) = true := shaped_of lay (by simp [PyData.depth])
        refine iteF ⟨_, rfl, _, _, _, _, _, rfl, .ty "bool", ey, sb, false, rfl, iteF ?_⟩
        refine ⟨_, rfl, _, _, _, _, _, rfl, .ty "int", ey, si, false, rfl, iteF ?_⟩
        refine ⟨_, rfl, _, _, _, _, _, rfl, .ty "str", ey, ss, true, rfl, iteT ?_⟩
        refine ⟨_, rfl, _, _, _, _, _, rfl, .ty "str", ex, ss, true, rfl, iteT ?_⟩
        refine ⟨_, rfl, _, rfl, _, _, .str z, .str z, sh, sh, ?_⟩
        show Q (.bl (PyData.eqv (.str z) (.str z))) H
        rw [PySem.SeqAt.eqv_refl _ lay]
        exact k
      | list ds =>
        cases hx with
        | lst sx ax =>
          rename_i a xs
          cases hy with
          | lst sy ay =>
            rename_i b ys
            have ok2 : (decide (ds.length ≤ 10000) && ds.all (okD n)) = true := ok
            obtain ⟨o1, o2⟩ := Bool.and_eq_true_iff.mp ok2
            have it := items xs ys ds ax ay o2
            refine iteF ⟨_, rfl, _, _, _, _, _, rfl, .ty "bool", ey, lb, false, rfl, iteF ?_⟩
            refine ⟨_, rfl, _, _, _, _, _, rfl, .ty "int", ey, li, false, rfl, iteF ?_⟩
            refine ⟨_, rfl, _, _, _, _, _, rfl, .ty "str", ey, ls, false, rfl, iteF ?_⟩
            refine ⟨_, rfl, _, _, _, _, _, rfl, .ty "tuple", ey, lt, _, rfl, _, _, _, _, _, rfl, .ty "tuple", ex, lt, ?_⟩
            refine ⟨rfl, _, rfl, iteF' (by rw [decide_eq_true rfl]; rfl) ?_⟩
            refine ⟨_, rfl, _, _, _, _, _, rfl, .ty "list", ey, ll, _, rfl, _, _, _, _, _, rfl, .ty "list", ex, ll, ?_⟩
            refine ⟨rfl, _, rfl, iteF' (by rw [decide_eq_true rfl]; rfl) ?_⟩
            have lx : xs.length = ys.length := by rw [dpAll_len ax, dpAll_len ay]
            have lb1 : ys.length ≤ 10000 := by
              rw [dpAll_len ay]
              exact of_decide_eq_true o1
            refine ⟨_, rfl, a, xs, rfl, .inl sx, _, rfl, b, ys, rfl, .inl sy, rfl, _, rfl, iteF' (by rw [lx, decide_eq_true rfl]; rfl) ?_⟩
            refine ⟨_, rfl, b, ys, rfl, .inl sy, _, rfl, by omega, by omega, for_range (lo := 0) (n := ((ys.length : Nat) : Int).toNat) (fun i σ H' => H' = H ∧ ∃ v, σ = [some (V.ref a), some (V.ref b), v]) ⟨rfl, _, rfl⟩ ?_ ?_⟩
            · rintro i σ H' hi ⟨rfl, v0, rfl⟩
              obtain ⟨v, u, h1, h2, e, d1, d2, d3⟩ := it i (by omega)
              have e1 : atI xs (0 + ((i : Nat) : Int)) = some v := by rw [Int.zero_add]; exact atI_nat h1
              have e2 : atI ys (0 + ((i : Nat) : Int)) = some u := by rw [Int.zero_add]; exact atI_nat h2
              refine ⟨_, rfl, _, rfl, .inl ⟨a, xs, _, v, rfl, rfl, sx, e1, _, rfl, _, rfl, .inl ⟨b, ys, _, u, rfl, rfl, sy, e2, ?_⟩⟩⟩
              exact ⟨v, u, e, rfl, d1, d2, d3, true, rfl, iteF ⟨rfl, _, rfl⟩⟩
            · rintro σ H' ⟨rfl, v0, rfl⟩
              exact k
      | tuple ds =>
        cases hx with
        | tup sx ax =>
          rename_i a xs
          cases hy with
          | tup sy ay =>
            rename_i b ys
            have ok2 : (decide (ds.length ≤ 10000) && ds.all (okD n)) = true := ok
            obtain ⟨o1, o2⟩ := Bool.and_eq_true_iff.mp ok2
            have it := items xs ys ds ax ay o2
            refine iteF ⟨_, rfl, _, _, _, _, _, rfl, .ty "bool", ey, tb, false, rfl, iteF ?_⟩
            refine ⟨_, rfl, _, _, _, _, _, rfl, .ty "int", ey, ti, false, rfl, iteF ?_⟩
            refine ⟨_, rfl, _, _, _, _, _, rfl, .ty "str", ey, ts, false, rfl, iteF ?_⟩
            refine ⟨_, rfl, _, _, _, _, _, rfl, .ty "tuple", ey, tt, _, rfl, _, _, _, _, _, rfl, .ty "tuple", ex, tt, ?_⟩
            refine ⟨rfl, _, rfl, iteF' (by rw [decide_eq_true rfl]; rfl) ?_⟩
            refine ⟨_, rfl, _, _, _, _, _, rfl, .ty "list", ey, tl, _, rfl, _, _, _, _, _, rfl, .ty "list", ex, tl, ?_⟩
            refine ⟨rfl, _, rfl, iteF' (by rw [decide_eq_true rfl]; rfl) ?_⟩
            have lx : xs.length = ys.length := by rw [dpAll_len ax, dpAll_len ay]
            have lb1 : ys.length ≤ 10000 := by
              rw [dpAll_len ay]
              exact of_decide_eq_true o1
            refine ⟨_, rfl, a, xs, rfl, .inr sx, _, rfl, b, ys, rfl, .inr sy, rfl, _, rfl, iteF' (by rw [lx, decide_eq_true rfl]; rfl) ?_⟩
            refine ⟨_, rfl, b, ys, rfl, .inr sy, _, rfl, by omega, by omega, for_range (lo := 0) (n := ((ys.length : Nat) : Int).toNat) (fun i σ H' => H' = H ∧ ∃ v, σ = [some (V.ref a), some (V.ref b), v]) ⟨rfl, _, rfl⟩ ?_ ?_⟩
            · rintro i σ H' hi ⟨rfl, v0, rfl⟩
              obtain ⟨v, u, h1, h2, e, d1, d2, d3⟩ := it i (by omega)
              have e1 : atI xs (0 + ((i : Nat) : Int)) = some v := by rw [Int.zero_add]; exact atI_nat h1
              have e2 : atI ys (0 + ((i : Nat) : Int)) = some u := by rw [Int.zero_add]; exact atI_nat h2
              refine ⟨_, rfl, _, rfl, .inr (.inl ⟨a, xs, _, v, rfl, rfl, sx, e1, _, rfl, _, rfl, .inr (.inl ⟨b, ys, _, u, rfl, rfl, sy, e2, ?_⟩)⟩)⟩
              exact ⟨v, u, e, rfl, d1, d2, d3, true, rfl, iteF ⟨rfl, _, rfl⟩⟩
            · rintro σ H' ⟨rfl, v0, rfl⟩
              exact k
end
end Om

namespace Om
open PySem PySem.Spec PyProof.Rows L2
/-! ### landmarks, turned -/
def landSigns : Str := Str.ofString ".ABCDEFGHIJKLMNOPQRSTUVWXYZ"
def letters : List Nat := [65, 66, 67, 68, 69, 70, 71, 72, 73, 74, 75, 76, 77, 78, 79, 80, 81, 82, 83, 84, 85, 86, 87, 88, 89, 90]
theorem landSigns_cut : cutS landSigns (some 1) none = tx letters := by decide +kernel
def marksTo (rows : List (List Nat)) (n : Nat) : List Nat := (letters.take n).filter fun c => decide (c ∈ rows.flatten)
def marksOf (rows : List (List Nat)) : List Nat := letters.filter fun c => decide (c ∈ rows.flatten)
def sgt (c : Nat) : PyData := dt [c]
theorem join_flat : ∀ rows : List (List Nat), Txt.join (tx []) (rows.map tx) = tx rows.flatten := by
  intro rows
  rw [TL.join_eq]
  have e0 : (⟨#[]⟩ : Str) = tx [] := rfl
  induction rows with
  | nil => rfl
  | cons r rs ih =>
    cases rs with
    | nil =>
      show tx r = tx (r ++ [])
      rw [List.append_nil]
    | cons q qs =>
      show tx r ++ tx [] ++ Str.join (tx []) ((q :: qs).map tx) = tx (r ++ (q :: qs).flatten)
      rw [ih, tx_app, tx_app, List.append_nil]
def spIMarks (K : PySem.W.Frag) (CI : Addr) : Sp := fun vs H Q _ => ∃ (a : Addr) (rows : List (List Nat)), vs = [.ref a] ∧ Isl K CI H a rows ∧ Vd rows ∧ ∀ p H', Same H H' → H' p = some (.tup ((marksOf rows).map fun c => vt [c])) → Q (.ref p) H'
section
variable {P : Program} {w : World} {K : PySem.W.Frag} {mg : Str → Option Value} {base : Heap} {CI CU fN : Addr}
def marksLc : Expr := arg0 (retExpr ((defBody (sIslM 5)).getD 1 (.Pass ⟨0, 0, 0, 0⟩)))
abbrev nMarks : List Str := ["self", "signs", "letter"]
theorem scMarks : FnScope nMarks ["self"] (defScope (sIslM 5)) := ⟨rfl, rfl, rfl, by decide +kernel, rfl, by decide +kernel, by decide +kernel⟩
theorem blkMarks : BlkOk nMarks (defScope (sIslM 5)) (lcScope marksLc) [("letter", 2)] := blkOk_by (by decide +kernel)
theorem ok_imarks {f : Addr} {fd : FuncData} (F : FnP K "landmarks" "Island.landmarks" (sIslM 5) f fd) (T : IslF K mg CI fN) (gtuple : mg "tuple" = none) (gl : ∃ t, mg "LAND_SIGNS" = some (.str landSigns t)) : FnOk P w K mg base CX0 1 f fd ["self"] (spIMarks K CI) := by
  obtain ⟨t0, gl⟩ := gl
  refine F.ok scMarks (fun vs H Q E h => ?_) (fun cdv A outer s H vs Q E hr h => ?_)
  · obtain ⟨a, rows, rfl, _⟩ := h
    rfl
  · obtain ⟨a, rows, rfl, ⟨dx, p, hp, hS⟩, vd, k⟩ := h
    have nd := scMarks.nd
    refine ⟨_, PSs.nox (pss_cons (ps_set (i := 1) nd rfl (.inr rfl) (pe_joinK pe_str (pe_fld (pv 0) rfl)))
      (pss_one (ps_ret (pe_callTy call_tuple_of (by rfl) gtuple (by decide +kernel) (pa_cons
        (pe_lc (own := [("letter", 2)]) (g := gName 2) rfl nd (pi_str (pe_slice sl_str (pe_glob (v := .str landSigns) rfl gl ⟨_, rfl⟩) (po_some pe_int) po_none)) blkMarks (fun _ _ _ _ _ => pg_name (i := 2) nd rfl (.inl rfl))
          (fun _ _ _ _ _ => pts_one (pt_cmpR op_in_sign (pv 2) (pv 1) rfl)) (fun _ _ _ _ _ => pv 2)) pa_nil))))), ?_⟩
    refine ⟨⟨_, rfl⟩, _, rfl, a, CI, dx, _, .ref p, rfl, hp, T.cl, T.nR, rfl, _, p, rows.map tx, rfl, rfl, .inr (by rw [List.map_map]; exact hS), ?_, ?_⟩
    · have h1 : ∀ l : List (List Nat), (∀ r ∈ l, r.length ≤ 12) → ((l.map tx).map (·.length)).sum ≤ 12 * l.length := by
        intro l
        induction l with
        | nil => intro _; simp
        | cons r rs ih =>
          intro h
          have a1 := h r (List.mem_cons_self ..)
          have a2 := ih fun q hq => h q (List.mem_cons_of_mem _ hq)
          simp only [List.map_cons, List.sum_cons, tx_len, List.length_cons]
          omega
      have h2 := h1 rows fun r hr => (vd.wid r hr).2
      have h3 := vd.hgt
      rw [List.length_map]
      have h4 : (Str.ofString "").length = 0 := by decide +kernel
      rw [h4]
      omega
    have ej : Txt.join (Str.ofString "") (List.map tx rows) = tx rows.flatten := by
      rw [show Str.ofString "" = tx [] from by decide +kernel, join_flat]
    rw [ej]
    refine ⟨_, rfl, landSigns, rfl, by decide +kernel, _, congrArg V.str landSigns_cut, fun D hD => lc_it (walk_str (z := tx letters)) (fun i H' => H' D = some (.lst ((marksTo rows i).map fun c => vt [c])) ∧ Same H H') ⟨upd_same, Same.new (Same.refl H) hD⟩ (fun _ _ _ _ => trivial) ?_ ?_⟩
    · rintro i x H1 H2 hi ⟨h1, h2⟩ ⟨rfl, c, hc, rfl⟩
      have hc2 : letters[i]? = some c := by
        rw [← Array.getElem?_toList, tx_cps] at hc
        exact hc
      refine ⟨rfl, _, rfl, _, rfl, c, _, rfl, rfl, _, rfl, ?_⟩
      rw [tx_cps]
      have es : marksTo rows (i + 1) = marksTo rows i ++ (if c ∈ rows.flatten then [c] else []) := by
        unfold marksTo
        rw [List.take_succ, hc2, List.filter_append]
        by_cases h : c ∈ rows.flatten
        · rw [if_pos h]
          simp only [Option.toList_some, List.filter_cons, decide_eq_true h, if_true, List.filter_nil]
        · rw [if_neg h]
          simp only [Option.toList_some, List.filter_cons, decide_eq_false h, Bool.false_eq_true, if_false, List.filter_nil]
      have hl : (marksTo rows i).length ≤ 26 := by
        unfold marksTo
        exact Nat.le_trans (List.length_filter_le ..) (by rw [List.length_take]; exact Nat.min_le_right ..)
      by_cases h : c ∈ rows.flatten
      · rw [if_pos h] at es
        refine iteT' (decide_eq_true h) ?_
        refine ⟨_, rfl, _, h1, Nat.lt_of_le_of_lt (show _ ≤ 26 by rw [List.length_map]; exact hl) (by decide), ?_, ?_⟩
        · rw [es, upd_same, List.map_append]
          rfl
        · intro b o hb
          rw [upd_ne (ne_of_none hb hD)]
          exact h2 b o hb
      · rw [if_neg h, List.append_nil] at es
        refine iteF' (decide_eq_false h) ?_
        rw [es]
        exact ⟨h1, h2⟩
    · rintro H1 ⟨h1, h2⟩
      have e : marksTo rows (tx letters).cps.size = marksOf rows := by
        unfold marksTo marksOf
        rw [List.take_of_length_le (by rw [← Array.length_toList, tx_cps]; exact Nat.le_refl _)]
      rw [e] at h1
      exact ⟨D, _, rfl, .inl ⟨.inl (.inl h1), fun t ht => k t _ (h2.trans (Same.new (Same.refl H1) ht)) upd_same⟩⟩
end
end Om

namespace Om
open PySem PySem.Spec PyProof.Rows L2
/-! ### turned -/
def turnedRows (rows : List (List Nat)) : List (List Nat) := (List.range (rows.headD []).length).map fun j => rows.reverse.map fun r => r.getD j 0
theorem okSign_at {m : Nat} {rows : List (List Nat)} (h : RowsOk m rows) : ∀ r ∈ rows, ∀ j, j < (rows.headD []).length → okSign (r.getD j 0) := by
  obtain ⟨h1, h2, wd, w1, w2, hr⟩ := h
  intro r hr' j hj
  have e1 := (hr r hr').1
  have e2 : (rows.headD []).length = wd := by
    cases rows with
    | nil => simp at h1
    | cons r0 rs => exact (hr r0 (List.mem_cons_self ..)).1
  have hj2 : j < r.length := by omega
  rw [List.getD_eq_getElem?_getD, List.getElem?_eq_getElem hj2, Option.getD_some]
  exact (hr r hr').2 _ (List.getElem_mem _)
theorem rows_width {m : Nat} {rows : List (List Nat)} (h : RowsOk m rows) : 1 ≤ (rows.headD []).length ∧ (rows.headD []).length ≤ m ∧ ∀ r ∈ rows, r.length = (rows.headD []).length := by
  obtain ⟨h1, h2, wd, w1, w2, hr⟩ := h
  cases rows with
  | nil => simp at h1
  | cons r0 rs =>
    have e := (hr r0 (List.mem_cons_self ..)).1
    exact ⟨by show 1 ≤ r0.length; omega, by show r0.length ≤ m; omega, fun r hr' => by show r.length = r0.length; rw [(hr r hr').1, e]⟩
theorem turned_ok {m : Nat} {rows : List (List Nat)} (h : RowsOk m rows) : RowsOk m (turnedRows rows) := by
  obtain ⟨w1, w2, w3⟩ := rows_width h
  have ok := okSign_at h
  have el : (turnedRows rows).length = (rows.headD []).length := by unfold turnedRows; rw [List.length_map, List.length_range]
  refine ⟨by omega, by omega, rows.length, h.h1, h.hm, fun r hr => ?_⟩
  unfold turnedRows at hr
  obtain ⟨j, hj, rfl⟩ := List.mem_map.mp hr
  have hj := List.mem_range.mp hj
  refine ⟨by simp, fun c hc => ?_⟩
  obtain ⟨r, hr, rfl⟩ := List.mem_map.mp hc
  exact ok r (List.mem_reverse.mp hr) j hj
/-- Island(rows) of rows as they may be -/
theorem mk_isl {K : PySem.W.Frag} {CI C0 : Addr} {σ : L2.St} {H : Hp} {Q : VK} {E : XK} {ta : TA} {rows : List (List Nat)} (ok : RowsOk 12 rows) (hta : ∀ Qa : List V → Hp → Prop, (∀ a H', Same H H' → SqT K H' a (rows.map vt) → Qa [.ref a] H') → ta σ H Qa)
    (k : ∀ x H', Same H H' → H x = none → Isl K CI H' x rows → Q (.ref x) H') : tMake CI (spIsl K CI C0) [] E ta σ H Q := by
  have g := ok.good (Nat.le_refl _)
  show ta σ H fun vs H1 => ∀ x dx, H1 x = none → H1 dx = none → dx ≠ x → spIsl K CI C0 (.ref x :: (vs ++ [])) (upd (upd H1 dx (.own x)) x (.ins CI dx [])) (fun v H2 => v = .non ∧ Q (.ref x) H2) E
  refine hta _ fun a H1 s1 hS x dx hx hdx hne => ?_
  have s2 : Same H1 (upd (upd H1 dx (.own x)) x (.ins CI dx [])) := fun c o hc => by
    rw [upd_ne (ne_of_none hc hx), upd_ne (ne_of_none hc hdx)]
    exact hc
  have hx0 : H x = none := by
    cases q : H x with
    | none => rfl
    | some o => rw [s1 _ _ q] at hx; cases hx
  refine ⟨x, dx, a, rows, rfl, upd_same, Same.tup s2 hS, g.le, g.lens, fun e H2 k1 k2 => ⟨rfl, ?_⟩, fun r c e => by rw [chk_rows ok (Nat.le_refl _)] at e; cases e⟩
  have s3 : Same H1 H2 := fun c o hc => k1 c o (s2 c o hc) (ne_of_none hc hx)
  exact k x H2 (s1.trans s3) hx0 ⟨dx, a, k2, Same.tup s3 hS⟩
def spITurn (K : PySem.W.Frag) (CI : Addr) : Sp := fun vs H Q _ => ∃ (a : Addr) (rows : List (List Nat)), vs = [.ref a] ∧ Isl K CI H a rows ∧ RowsOk 12 rows ∧ ∀ b H', Same H H' → Isl K CI H' b (turnedRows rows) → Q (.ref b) H'
section
variable {P : Program} {w : World} {K : PySem.W.Frag} {mg : Str → Option Value} {base : Heap} {CI C0 fN : Addr}
def turnLc : Expr := arg0 (arg0 (retExpr ((defBody (sIslM 6)).getD 1 (.Pass ⟨0, 0, 0, 0⟩))))
abbrev nTurn : List Str := ["self", "upward", "column", "signs"]
theorem scTurn : FnScope nTurn ["self"] (defScope (sIslM 6)) := ⟨rfl, rfl, rfl, by decide +kernel, rfl, by decide +kernel, by decide +kernel⟩
theorem blkTurn1 : BlkOk nTurn (defScope (sIslM 6)) (lcScope turnLc) [("column", 2)] := blkOk_by (by decide +kernel)
theorem blkTurn2 : BlkOk nTurn (relab (lcScope turnLc) (defScope (sIslM 6))) (lcScope (arg0 (lcElt turnLc))) [("signs", 3)] := blkOk_by (by decide +kernel)
theorem ok_iturn {f gW pW : Addr} {fd fdN fdW : FuncData} (F : FnP K "turned" "Island.turned" (sIslM 6) f fd) (T : IslF K mg CI fN) (GI : FnOk P w K mg base (L2.CX P w) 4 fN fdN ["self", "rows"] (spIsl K CI C0)) (bI : Binds K fdN ["self", "rows"] [])
    (pW' : PropOf K CI "width" pW gW) (GW : FnOk P w K mg base CX0 1 gW fdW ["self"] (spIWid K CI)) (bW : Binds K fdW ["self"] []) (gtuple : mg "tuple" = none) (grange : mg "range" = none) : FnOk P w K mg base (L2.CX P w) 6 f fd ["self"] (spITurn K CI) := by
  refine F.ok scTurn (fun vs H Q E h => ?_) (fun cdv A outer s H vs Q E hr h => ?_)
  · obtain ⟨a, rows, rfl, _⟩ := h
    rfl
  · obtain ⟨a, rows, rfl, ⟨dx, p, hp, hS⟩, ok, k⟩ := h
    have nd := scTurn.nd
    refine ⟨_, pss_cons (ps_set (i := 1) nd rfl (.inr rfl) (pe_revT (pe_fld (pv 0) rfl)))
      (pss_one (ps_ret (pe_make T.made GI hr rfl T.gI bI .nil (passes_call (W := fun cls d _ H => E cls d H) (takes_of rfl rfl rfl rfl) fun _ _ _ _ h => h) (pa_cons (pe_callTy call_tuple_of (by rfl) gtuple (by decide +kernel) (pa_cons
        (pe_lc (own := [("column", 2)]) (g := gName 2) (te := tM1 (rJoin K) _ _) rfl nd (pi_range1 rfl grange (pa_cons (pe_prop (pv 0) T.cl pW' GW (hr.mono (by decide)) bW .nil pass0 rfl) pa_nil)) blkTurn1 (fun _ _ _ _ _ => pg_name (i := 2) nd rfl (.inr rfl)) (fun _ _ _ _ _ => pts_nil) (fun _ _ _ _ _ =>
          pe_joinK pe_str (pe_lc (own := [("signs", 3)]) (g := gName 3) (wi := iTup K (tVar 1)) rfl nd (pi_tup (pv 1)) blkTurn2 (fun _ _ _ _ _ => pg_name (i := 3) nd rfl (.inl rfl)) (fun _ _ _ _ _ => pts_nil) (fun _ _ _ _ _ =>
            pe_ix ix_str (pv 3) (pv 2) (fun _ _ => rfl))))) pa_nil)) pa_nil)))), ?_⟩
    refine ⟨_, rfl, a, CI, dx, _, .ref p, rfl, hp, T.cl, T.nR, rfl, p, _, rfl, hS, fun u hu => ?_⟩
    obtain ⟨w1, w2, w3⟩ := rows_width ok
    have g := ok.vd (Nat.le_refl _)
    have hgt := ok.hm
    have s1 : Same H (upd H u (.tup (rows.map vt).reverse)) := Same.new (Same.refl H) hu
    have hU : (upd H u (.tup (rows.map vt).reverse)) u = some (.tup (rows.reverse.map vt)) := by rw [upd_same, List.map_reverse]
    generalize (upd H u (.tup (rows.map vt).reverse)) = H1 at s1 hU ⊢
    simp only [gName, tRet]
    refine mk_isl (turned_ok ok) (fun Qa h => ?_) (fun x H' s2 hx isl => k x H' (s1.trans s2) isl)
    refine ⟨_, rfl, a, dx, _, rfl, s1 _ _ hp, a, rows, rfl, ⟨dx, p, s1 _ _ hp, Same.tup s1 hS⟩, g.toShp, _, rfl, by omega, by omega, fun D hD => lc_range (lo := 0) (n := (((rows.headD []).length : Nat) : Int).toNat) (fun j H' => H' D = some (.lst (((turnedRows rows).take j).map vt)) ∧ Same H1 H')
      ⟨upd_same, Same.new (Same.refl H1) hD⟩ ?_ ?_⟩
    · rintro j H2 hj ⟨h1, h2⟩
      have hj2 : j < (rows.headD []).length := by omega
      refine ⟨rfl, tyes ?_⟩
      refine ⟨⟨_, rfl⟩, _, rfl, u, rfl, ⟨_, .inl (.inl (h2 _ _ hU))⟩, fun D2 hD2 => lc_tup (K := K) (a := u) (xs := rows.reverse.map vt) (fun i H' => H' D2 = some (.lst ((rows.reverse.take i).map fun r => vt [r.getD j 0])) ∧ Same H2 H')
        ⟨upd_same, Same.new (Same.refl H2) hD2⟩ (fun i H' _ q => .inl (.inl (q.2 _ _ (h2 _ _ hU)))) ?_ ?_⟩
      · rintro i x H3 hx ⟨g1, g2⟩
        rw [List.getElem?_map] at hx
        cases hri : rows.reverse[i]? with
        | none => rw [hri] at hx; cases hx
        | some r =>
          rw [hri] at hx
          obtain rfl : vt r = x := Option.some.inj hx
          have hm : r ∈ rows := List.mem_reverse.mp (List.mem_of_getElem? hri)
          have hl := w3 r hm
          have hjr : j < r.length := by omega
          have hc : r[j]? = some (r.getD j 0) := by rw [List.getD_eq_getElem?_getD, List.getElem?_eq_getElem hjr, Option.getD_some]
          have ej : atI (tx r).cps.toList (0 + ((j : Nat) : Int)) = some (r.getD j 0) := by
            rw [Int.zero_add]
            exact atI_nat (by rw [tx_cps]; exact hc)
          refine ⟨rfl, tyes ?_⟩
          refine ⟨_, rfl, _, rfl, tx r, _, _, rfl, rfl, (by rw [tx_len]; exact small_le (g.row r hm)), ej, ?_⟩
          refine ⟨_, g1, ?_, ?_, ?_⟩
          · rw [List.length_map, List.length_take, List.length_reverse]
            exact Nat.lt_of_le_of_lt (show _ ≤ 12 by omega) (by decide)
          · have e : rows.reverse.take (i + 1) = rows.reverse.take i ++ [r] := by rw [List.take_succ, hri]; rfl
            rw [upd_same, e, List.map_append]
            rfl
          · intro b o hb
            rw [upd_ne (ne_of_none hb hD2)]
            exact g2 b o hb
      · rintro H3 ⟨g1, g2⟩
        have e0 : rows.reverse.take (rows.reverse.map vt).length = rows.reverse := List.take_of_length_le (by rw [List.length_map]; exact Nat.le_refl _)
        rw [e0] at g1
        have ecs : (rows.reverse.map fun r => vt [r.getD j 0]) = ((rows.reverse.map fun r => r.getD j 0).map fun c => tx [c]).map V.str := by rw [List.map_map, List.map_map]; rfl
        rw [ecs] at g1
        refine ⟨_, D2, _, rfl, rfl, .inl (.inl (.inl g1)), ?_, ?_⟩
        · rw [empty_tx]
          have e5 : ∀ l : List Nat, ((l.map fun c => tx [c]).map (·.length)).sum = l.length := by
            intro l
            induction l with
            | nil => rfl
            | cons a r ih => simp only [List.map_cons, List.sum_cons, ih, tx_len, List.length_cons, List.length_nil]; omega
          rw [e5, List.length_map, List.length_map, List.length_reverse]
          show rows.length + _ * 0 ≤ _
          omega
        · rw [empty_tx, TL.join_eq, join_tx]
          have ht : (turnedRows rows)[j]? = some (rows.reverse.map fun r => r.getD j 0) := by
            unfold turnedRows
            rw [List.getElem?_map, List.getElem?_range hj2]
            rfl
          have f4 := g2 D _ h1
          refine ⟨_, f4, ?_, ?_, ?_⟩
          · rw [List.length_map, List.length_take]
            exact Nat.lt_of_le_of_lt (show _ ≤ 12 by omega) (by decide)
          · have e : (turnedRows rows).take (j + 1) = (turnedRows rows).take j ++ [rows.reverse.map fun r => r.getD j 0] := by rw [List.take_succ, ht]; rfl
            rw [upd_same, e, List.map_append]
            rfl
          · intro b o hb
            rw [upd_ne (ne_of_none hb hD)]
            exact g2 _ _ (h2 b o hb)
    · rintro H2 ⟨h1, h2⟩
      have el : (turnedRows rows).length = (rows.headD []).length := by unfold turnedRows; rw [List.length_map, List.length_range]
      have e0 : (turnedRows rows).take (((rows.headD []).length : Nat) : Int).toNat = turnedRows rows := List.take_of_length_le (by omega)
      rw [e0] at h1
      exact ⟨D, _, rfl, .inl ⟨.inl (.inl h1), fun t ht => h t _ (h2.trans (Same.new (Same.refl H2) ht)) (.inl (.inl upd_same))⟩⟩
end
end Om

/-! set(a list of texts), sorted of it -/
namespace Om
open PySem PySem.Spec PySem.Calls PyProof.Rows L2 PySem.Froz
/-- a set of the texts l -/
structure TxS (P : Program) (w : World) (h : Heap) (a : Addr) (l : List Str) : Prop where
  ex : ∃ D : SD, h.get? a = some (sObj "set" D) ∧ TxOk P w D l ∧ Ris D.2.2.place.toList ∧ (w.params.followText "set-order" = true ∨ D.2.2.led = true)
  nd : l.Nodup
theorem tailTx_ris {ep : Nat} {es : Array (Int × Value)} {t : SetTable} {wd : Bool} (r : Ris t.place.toList) : Ris (tailTx ep es t wd).2.2.place.toList := by
  unfold tailTx
  split
  · exact relayAll_ris ..
  · exact r
theorem tailTx_led {ep : Nat} {es : Array (Int × Value)} {t : SetTable} {wd : Bool} : (tailTx ep es t wd).2.2.led = t.led := by
  unfold tailTx
  split
  · exact relayAll_led ..
  · rfl
theorem addTx_ris {h : Int} {v : Value} {D : SD} (r : Ris D.2.2.place.toList) : Ris (addTx h v D).2.2.place.toList := by
  have r1 := layNew_ris D.2.2 D.1 h v r
  unfold addTx
  refine tailTx_ris ?_
  split <;> exact r1
theorem addTx_led {h : Int} {v : Value} {D : SD} : (addTx h v D).2.2.led = D.2.2.led := by
  have r1 := layNew_led D.2.2 D.1 h v
  unfold addTx
  rw [tailTx_led]
  split <;> exact r1
section
variable {P : Program} {w : World} {A : Around} {E : Value → Shared → Prop} {s : Shared}
theorem txs_keep {h h' : Heap} {a : Addr} {l : List Str} (R : TxS P w h a l) (k : ∀ o, h.get? a = some o → h'.get? a = some o) : TxS P w h' a l := by
  obtain ⟨D, ho, r⟩ := R.ex
  exact ⟨⟨D, k _ ho, r⟩, R.nd⟩
theorem txs_add {a : Addr} {l : List Str} {k : Str} {u : Tok} {Q : Bool → Shared → Prop} (R : TxS P w s.heap a l) (room : l.length + 1 < scanBound)
    (h : ∀ (b : Bool) (h' : Heap) (l' : List Str), Heap.SameBut a s.heap h' → TxS P w h' a l' → (∀ x, x ∈ l' ↔ x = k ∨ x ∈ l) → l'.length ≤ l.length + 1 → Q b { s with heap := h' }) :
    wpAny (model P w) A (setAddHashed a (.str k u) (hashStr w k)) Q E s := by
  obtain ⟨D, ho, F, r, hl⟩ := R.ex
  by_cases hk : k ∈ l
  · obtain ⟨es, ep, t⟩ := D
    have hd : (sObj "set" (es, ep, t)).data = .set es ep t := rfl
    have hf : t.fits es.size = true := F.fit
    have hel : ElemsOf (strKind P w) es.toList := F.el
    have hsz : es.size = l.length := F.sz
    have hb0 : es.size < scanBound := by omega
    have hkey : (strKind P w).is k (.str k u) = true := is_str k u
    unfold setAddHashed setAddHashedIn
    refine wpAny_holding (wpAny_bind (wpAny_setState_of ho hd hf ?_))
    dsimp only
    rw [byScan_of rfl hb0 hel]
    simp only [↓reduceIte]
    unfold setAddByScan
    refine wpAny_bind ?_
    refine wpAny_bind (wpAny_rule ?_)
    refine wpAny_bind (wpAny_setScan_of (knd := strKind P w) (k := k) hkey ho hd hf hel ?_)
    cases hfi : List.findIdx? (fun e => (strKind P w).is k e.2) es.toList with
    | some j =>
      dsimp only
      refine wpAny_pure (wpAny_pure ?_)
      exact h _ s.heap l (Heap.SameBut.refl a s.heap) R (fun x => ⟨.inr, fun z => z.elim (fun e => e ▸ hk) id⟩) (Nat.le_succ _)
    | none =>
      obtain ⟨e, he, q⟩ := (F.mem k).mp hk
      have c := List.findIdx?_eq_none_iff.mp hfi e he
      rw [q] at c
      cases c
  · refine add_x ho F hk room (h true _ (k :: l) (Heap.SameBut.update s.heap a _) ⟨⟨_, get_upd _ ho rfl, add_ok u F, addTx_ris r, hl.imp id fun z => by rw [addTx_led]; exact z⟩, List.nodup_cons.mpr ⟨hk, R.nd⟩⟩ (fun x => List.mem_cons) (Nat.le_refl _))
/-- the texts met up to i -/
structure Met (ks : List Str) (i : Nat) (l : List Str) : Prop where
  mem : ∀ x, x ∈ l ↔ x ∈ ks.take i
  len : l.length ≤ i
theorem txs_loop {I : Addr} {fp wr : List Addr} {G : Array GenState → Array GenState → Prop} {n : Nat} {Pv : Nat → Value → Prop} {St : Nat → Shared → Prop} {R : Result → Shared → Prop}
    (W : WalksS P w A.in1 I fp wr G n Pv St) (T : Addr) (hT : T ∉ fp) (ks : List Str) (hn : n = ks.length) (hfew : ks.length + 1 < scanBound) (hval : ∀ i v, Pv i v → ∃ k u, ks[i]? = some k ∧ v = .str k u) :
    ∀ (k i : Nat) (s : Shared), n - i = k → i ≤ n → St i s → (∃ l, TxS P w s.heap T l ∧ Met ks i l) →
      (∀ s' l, Moved (T :: wr) G s s' → TxS P w s'.heap T l → Met ks n l → R (.ok (.ret .none)) s') →
      codeAny (model P w) A (.builtin "set.update.loop" ⟨[.ref T, .ref I], []⟩) R s := by
  have hTw : T ∉ wr := fun h => hT (W.sub _ h)
  have sub : ∀ b ∈ wr, b ∈ T :: wr := fun b hb => List.mem_cons_of_mem _ hb
  intro k
  induction k with
  | zero =>
    intro i s hk hi hst hl hR
    obtain ⟨l, hS, g⟩ := hl
    obtain rfl : i = n := by omega
    refine codeAny_builtin F.entry_set_update_loop ?_
    rw [Around.under_plainId F.plain_set_update_loop _]
    show wpAny _ A.in1 (pyNext (.ref I) >>= _) _ _ s
    exact wpAny_bind (W.done s _ _ hst fun s' hm => wpAny_pure (hR s' l (hm.mono sub) (txs_keep hS fun o e => hm.heap T o hTw e) g))
  | succ k ih =>
    intro i s hk hi hst hl hR
    obtain ⟨l, hS, g⟩ := hl
    have hlt : i < n := by omega
    refine codeAny_builtin F.entry_set_update_loop ?_
    rw [Around.under_plainId F.plain_set_update_loop _]
    show wpAny _ A.in1 (pyNext (.ref I) >>= _) _ _ s
    refine wpAny_bind (W.item i s _ _ hlt hst fun v s' hP hst' hm => ?_)
    obtain ⟨x, u, hx, rfl⟩ := hval i v hP
    have hS' := txs_keep hS fun o e => hm.heap T o hTw e
    show wpAny _ A.in1 (holding [Value.str x u] (setAdd T (.str x u)) >>= _) _ _ s'
    refine wpAny_bind (wpAny_holding ?_)
    unfold setAdd
    refine wpAny_holding ?_
    refine wpAny_bind ((strKind P w).pyHash (is_str x u) ?_)
    refine txs_add (s := { s' with toks := s'.toks + 1 }) hS' (by have := g.len; omega) fun b h' l' hsb hS2 hmem hlen => ?_
    have g' : Met ks (i + 1) l' := by
      refine ⟨fun y => ?_, by have := g.len; omega⟩
      rw [hmem y, g.mem y, List.take_succ, hx, List.mem_append]
      show y = x ∨ y ∈ ks.take i ↔ y ∈ ks.take i ∨ y ∈ [x]
      rw [List.mem_singleton]
      exact Or.comm
    refine wpAny_pure ⟨plainId_quiet F.plain_set_update_loop _, ih (i + 1) _ (by omega) hlt (W.frame _ s' _ _ hst' (Nat.le_succ _) fun b hb o e => ?_) ⟨l', hS2, g'⟩ fun s'' l2 hm2 hS3 g3 => ?_⟩
    · rw [hsb.2 b fun e2 : b = T => hT (e2 ▸ hb)]
      exact e
    · refine hR s'' l2 (Moved.trans W.gtrans ((hm.mono sub).then_heap (Nat.le_succ _) fun b o hb e => ?_) hm2) hS3 g3
      rw [hsb.2 b fun e2 : b = T => hb (e2 ▸ List.mem_cons_self)]
      exact e
end
end Om

namespace Om
open PySem PySem.Spec PySem.Calls PyProof.Rows L2 PySem.Froz
/-- a new set's object -/
abbrev newSet (w : World) : Obj := { cls := .type "set", dict := none, data := .set #[] 0 (.fresh 0 0 (!w.params.followText "set-order")) }
theorem strs_at : ∀ {us : List Value} {ks : List Str}, Vals (ks.map V.str) us → ∀ (i : Nat) (v : Value), us[i]? = some v → ∃ k u, ks[i]? = some k ∧ v = .str k u
  | [], [], _, i, v, h => by simp at h
  | u :: us, k :: ks, .cons r t, 0, v, h => by
    obtain ⟨tk, rfl⟩ := r
    exact ⟨k, tk, rfl, (Option.some.inj h).symm⟩
  | u :: us, k :: ks, .cons r t, i + 1, v, h => strs_at t i v h
section
variable {P : Program} {w : World} {A : Around} {E : Value → Shared → Prop} {s : Shared}
theorem txs_fresh {h : Heap} {a : Addr} (ho : h.get? a = some (newSet w)) : TxS P w h a [] := by
  refine ⟨⟨(#[], 0, .fresh 0 0 (!w.params.followText "set-order")), ho, TxOk.nil rfl, List.Pairwise.nil, ?_⟩, List.nodup_nil⟩
  show _ ∨ (!w.params.followText "set-order") = true
  cases w.params.followText "set-order"
  · exact .inr rfl
  · exact .inl rfl
set_option maxHeartbeats 3200000 in
theorem call_set_txts {l : Addr} {items : Array Value} (ks : List Str) {Q : Value → Shared → Prop} (hh : A.handled = none) (hl : s.heap.IsList l items) (hit : Vals (ks.map V.str) items.toList) (hb : ks.length + 1 < scanBound)
    (h : ∀ (h' : Heap) (tk : Nat) (t : List Str), TxS P w h' s.heap.objs.size t → (∀ x, x ∈ t ↔ x ∈ ks) → t.length ≤ ks.length → (∀ b o, s.heap.get? b = some o → h'.get? b = some o) → Q (.ref s.heap.objs.size) { s with heap := h', toks := tk }) :
    wpAny (model P w) A (call (.type "set") [.ref l]) Q E s := by
  have hisz : items.size = ks.length := by
    have q : (ks.map V.str).length = items.toList.length := hit.length
    rw [List.length_map, Array.length_toList] at q
    exact q.symm
  obtain ⟨c, tl, hmro⟩ := F.called_set.mro
  have hmade := F.called_set.made
  have hsub := F.called_set.sub
  refine wpAny_call (codeAny_of_tree ?_)
  show wpAny _ _ (callAny (.type "set") _) _ _ _
  refine wpAny_pure ⟨Code.quiet_builtin _ (by decide +kernel), codeAny_builtin F.entry_type_call ?_⟩
  rw [Around.under_plain (weight_type_call_type "set" [.ref l] []) rfl]
  have h1 := F.called_set.notType
  have h2 := F.called_set.canCreate
  have hct := F.typeCall_set_1 (.ref l)
  repeat (any_goals (first | assumption | wp_step))
  refine codeAny_mono (code_set_led1 (.ref l) (E := E) (Q₁ := fun obj s₁ => obj = .ref s.heap.objs.size ∧ s₁ = { s with heap := s.heap.push (newSet w) }) ⟨rfl, rfl⟩) fun r s₁ hr => ?_
  cases r with
  | error e => exact hr
  | ok fl =>
    cases fl with
    | ret obj =>
      obtain ⟨rfl, rfl⟩ := hr
      have hS : (s.heap.push (newSet w)).get? s.heap.objs.size = some (newSet w) := Heap.get?_push_size _ rfl
      have hT : Shared.TypeIs { s with heap := s.heap.push (newSet w) } (.ref s.heap.objs.size) "set" := ⟨_, hS, rfl⟩
      have hli := F.called_set.init.lookup
      have hbi := F.called_set.init.bind (.ref s.heap.objs.size)
      repeat (any_goals (first | assumption | wp_step))
      refine codeAny_mono (codeAny_call_builtin (R := wants (fun r s₂ => r = .none ∧ ∃ h' tk t, s₂ = { s with heap := h', toks := tk } ∧ TxS P w h' s.heap.objs.size t ∧ Met ks ks.length t ∧
          (∀ b o, s.heap.get? b = some o → h'.get? b = some o)) E) F.called_set.init.plain F.entry_set_init (check_set_init_1 hT ?_)) fun r₂ s₂ hr₂ => ?_
      · obtain ⟨ol, hol, hcl, nl, hdl⟩ := hl
        obtain ⟨ocls, odict, odata, oslots⟩ := ol
        simp only at hcl hdl
        subst hcl; subst hdl
        have hol' : (s.heap.push (newSet w)).get? l = some { cls := .type "list", dict := odict, data := .seq items nl, slots := oslots } := Heap.get?_push_of_some _ hol
        have hsls := F.sub_list_set
        have hslf := F.sub_list_frozenset
        have hne : (Value.type "list" == Value.type "dict") = false := by decide
        have hl1 : (s.heap.push (newSet w)).IsList l items := ⟨_, hol', rfl, nl, rfl⟩
        unfold Builtin.«set.__init__» noKeywords Builtin.Frozenset.updateFrom
        generalize hPI : pyIter = PI
        wp_walk
        subst hPI
        refine wpAny_pyIter_list hl1 ?_
        refine wpAny_bind (wpAny_runValue ?_)
        have hlS : l < s.heap.objs.size := Heap.lt_size hol
        have hh3 : A.in1.in1.in1.handled = none := by simp [hh]
        have hneI : l ≠ (s.heap.push (newSet w)).objs.size := by
          rw [Heap.size_push]
          exact Nat.ne_of_lt (Nat.lt_succ_of_lt hlS)
        have hSf : s.heap.objs.size ∉ [(s.heap.push (newSet w)).objs.size, l] := by
          rw [Heap.size_push]
          simp only [List.mem_cons, List.not_mem_nil, or_false, not_or]
          exact ⟨Nat.ne_of_lt (Nat.lt_succ_self _), Nat.ne_of_gt hlS⟩
        have keep : ∀ b o, s.heap.get? b = some o → ((s.heap.push (newSet w)).push { cls := .type "list_iterator", data := .fields #[.ref l, .int 0 0] }).get? b = some o := fun b o e => Heap.get?_push_of_some _ (Heap.get?_push_of_some _ e)
        have sub : ∀ b o, s.heap.get? b = some o → b ≠ s.heap.objs.size ∧ b ≠ s.heap.objs.size + 1 := fun b o e => by
          have z : b < s.heap.objs.size := Heap.lt_size e
          exact ⟨Nat.ne_of_lt z, Nat.ne_of_lt (Nat.lt_succ_of_lt z)⟩
        refine txs_loop ((Walks.list hh3 _ l hneI items).toS) s.heap.objs.size hSf ks hisz hb (fun i v hv => strs_at hit i v (by rw [Array.getElem?_toList]; exact hv)) (items.size - 0) 0 _ (by omega) (Nat.zero_le _)
          ⟨⟨_, Heap.get?_push_size _ rfl, rfl, rfl⟩, (hl1.push _)⟩ ?hS0 ?hR
        case hS0 =>
          exact ⟨[], txs_fresh (Heap.get?_push_of_some _ hS), fun x => by simp, Nat.le_refl _⟩
        case hR =>
          intro s' t hm hS' g'
          obtain ⟨h', g2, d', tk', os'⟩ := s'
          have eg : g2 = s.gens := hm.gens
          have ed : d' = s.drawn := hm.drawn
          have eo : os' = s.os := hm.os
          subst eg; subst ed; subst eo
          show wpAny _ _ _ _ _ _
          refine wpAny_pure ?_
          show wpAny _ _ (ret Value.none) _ _ _
          rw [hisz] at g'
          refine wpAny_pure ⟨rfl, h', tk', t, rfl, hS', g', fun b o e => ?_⟩
          obtain ⟨n1, n2⟩ := sub b o e
          refine hm.heap b o (fun z => ?_) (keep b o e)
          rcases List.mem_cons.mp z with z | z
          · exact n1 z
          · rw [List.mem_singleton.mp z, Heap.size_push] at n2
            exact n2 rfl
      · cases r₂ with
        | error e => exact hr₂
        | ok fl₂ =>
          cases fl₂ with
          | ret r =>
            obtain ⟨rfl, h', tk, t, rfl, hS', g', hk'⟩ := hr₂
            repeat (any_goals (first | assumption | wp_step))
            exact h _ _ _ hS' (fun x => by rw [g'.mem x, List.take_length]) g'.len hk'
          | _ => exact hr₂.elim
    | _ => exact hr.elim
theorem strs_of : ∀ (vs : List Value), (∀ v ∈ vs, ∃ k u, v = Value.str k u) → ∃ ks : List Str, StrsAre vs ks
  | [], _ => ⟨[], .nil⟩
  | v :: vs, h => by
    obtain ⟨ks, hk⟩ := strs_of vs fun x hx => h x (List.mem_cons_of_mem _ hx)
    obtain ⟨k, u, rfl⟩ := h v (List.mem_cons_self ..)
    exact ⟨k :: ks, .cons k u hk⟩
theorem strsAre_len {vs : List Value} {ks : List Str} (h : StrsAre vs ks) : vs.length = ks.length := by
  induction h with
  | nil => rfl
  | cons _ _ _ ih => rw [List.length_cons, List.length_cons, ih]
theorem strsAre_mem {vs : List Value} {ks : List Str} (h : StrsAre vs ks) (x : Str) : x ∈ ks ↔ ∃ v ∈ vs, (strKind P w).is x v = true := by
  induction h with
  | nil => simp
  | cons k u _ ih =>
    rw [List.mem_cons, ih]
    constructor
    · rintro (rfl | ⟨v, hv, q⟩)
      · exact ⟨_, List.mem_cons_self .., is_str _ _⟩
      · exact ⟨v, List.mem_cons_of_mem _ hv, q⟩
    · rintro ⟨v, hv, q⟩
      rcases List.mem_cons.mp hv with rfl | hv
      · exact .inl ((strKind P w).inj _ x k q (is_str k u))
      · exact .inr ⟨v, hv, q⟩
/-- sorted of it -/
theorem sorted_txts {a : Addr} {l : List Str} {Q : Value → Shared → Prop} (R : TxS P w s.heap a l) (hh : A.handled = none) (h64 : l.length < 64)
    (hQ : ∀ s' p (out : Array Value) (c : Nat) (ss : List Str), (∀ b o, s.heap.get? b = some o → s'.heap.get? b = some o) → s'.gens = s.gens → s'.os = s.os → s'.heap.get? p = some (seqObj "list" out c) → s.heap.get? p = none → StrsAre out.toList ss → (∀ x, x ∈ ss ↔ x ∈ l) → ss.length = l.length → sortedS ss = true → Q (.ref p) s') :
    wpAny (model P w) A (call (.builtin "sorted") [.ref a]) Q E s := by
  obtain ⟨⟨es, ep, t⟩, ho, F, r, hl⟩ := R.ex
  have hsz : es.size = l.length := F.sz
  refine Calls.call_function_entry kind_sorted plain_sorted entry_sorted (args_sorted1 _) ?_
  unfold Builtin.«sorted»
  refine wpAny_bind (m := checkCount "sorted" 1 1 _) (wpAny_pure ?_)
  refine wpAny_bind (collect_set (A := A.in1) hh ⟨_, ho, rfl, rfl⟩ F.fit (by rw [show es.size = l.length from hsz]; unfold scanBound; omega) r hl fun s1 vs k1 hz g1 o1 pm => ?_)
  have hvl : vs.length = l.length := by
    rw [pm.length_eq, List.length_map, Array.length_toList]
    exact hsz
  have hst : ∀ v ∈ vs, ∃ k u, v = Value.str k u := fun v hv => by
    obtain ⟨e, he, q⟩ := List.mem_map.mp (pm.mem_iff.mp hv)
    obtain ⟨⟨k, hk, _⟩, _⟩ := F.el e he
    subst q
    obtain ⟨u, eu⟩ := Value.isStrOf_shape (show Value.isStrOf k e.2 = true from hk)
    exact ⟨k, u, eu⟩
  obtain ⟨cs, hS⟩ := strs_of vs hst
  have hmem : ∀ x, x ∈ cs ↔ x ∈ l := fun x => by
    rw [strsAre_mem (P := P) (w := w) hS x, F.mem x]
    constructor
    · rintro ⟨v, hv, q⟩
      obtain ⟨e, he, q2⟩ := List.mem_map.mp (pm.mem_iff.mp hv)
      exact ⟨e, he, by rw [q2]; exact q⟩
    · rintro ⟨e, he, q⟩
      exact ⟨e.2, pm.mem_iff.mpr (List.mem_map_of_mem he), q⟩
  refine wpAny_bind (wpAny_newList ?_ (by rw [hvl, sizeLine_eq]; omega))
  have hoL : (s1.heap.push (seqObj "list" vs.toArray 0)).get? s1.heap.objs.size = some (seqObj "list" vs.toArray 0) := Heap.get?_push_size _ rfl
  refine wpAny_bind (wpAny_holding (wpAny_call_entry slot_list_sort ⟨_, hoL, rfl⟩ entry_list_sort (list_sort_treeK strKind_oneLt hoL hS.keysOf (fun v₁ v₂ rest e => keyKind_strs (by rw [← e]; exact hS)) (by rw [hvl]; exact h64) fun st' hp hs => ⟨_, rfl, ?_⟩) (args_list_sort _)))
  obtain ⟨ss', h1, h2, h3⟩ := sorted_out_str hS hp hs
  obtain ⟨c, hc⟩ := sortedHeap_at (vs := vs) (out := (arrOf st').map (·.2)) hoL
  refine wpAny_pure ⟨_, rfl, hQ _ s1.heap.objs.size _ c ss' (fun b u e => ?_) g1 o1 hc ?_ h1 (fun x => by rw [h2.mem_iff, hmem x]) (by rw [h2.length_eq, ← strsAre_len hS, hvl]) h3⟩
  · have q := k1 b u e
    have hlt := Heap.lt_size q
    show (sortedHeap (s1.heap.push (seqObj "list" vs.toArray 0)) s1.heap.objs.size vs _).get? b = some u
    rw [sortedHeap_old (Nat.ne_of_lt hlt) (by rw [size_push']; exact Nat.lt_succ_of_lt hlt)]
    exact Heap.get?_push_of_some _ q
  · cases q : s.heap.get? s1.heap.objs.size with
    | none => rfl
    | some o => exact absurd (Heap.lt_size (k1 _ _ q)) (Nat.lt_irrefl _)
end
end Om

namespace Om
open PySem PySem.Spec PySem.Calls PyProof.Rows L2 PySem.Froz
/-! ### over the layer -/
def SetTxO (P : Program) (w : World) (a : Addr) (l : List Str) : HO := .ext fun h => TxS P w h a l
theorem setTxO_new {P : Program} {w : World} {H : Hp} {h : Heap} {a : Addr} {l : List Str} (R : TxS P w h a l) : ObjOk P w H h a (SetTxO P w a l) := by
  have ⟨D, ho, _⟩ := R.ex
  exact ⟨R, ⟨_, ho⟩, fun h1 h2 p k => txs_keep p k⟩
/-- set(xs), xs a list of texts -/
def rSetTx (K : PySem.W.Frag) (P : Program) (w : World) : List V → Hp → VK → Prop := fun xs H Q => ∃ (l : Addr) (ks : List Str), xs = [V.ref l] ∧ SqL K H l (ks.map V.str) ∧ ks.length ≤ 1000 ∧
  ∀ (a : Addr) (t : List Str), H a = none → t.Nodup → (∀ x, x ∈ t ↔ x ∈ ks) → Q (.ref a) (upd H a (SetTxO P w a t))
theorem cr_setTx {X : Cx} (hc : X.calm = true) : CallR X (.type "set") (rSetTx X.K X.prog X.w) := by
  intro pins s σ H xs us Q I r h
  obtain ⟨l, ks, rfl, hl, hf, q⟩ := h
  rw [Vals.ref1 r]
  obtain ⟨its, rv, pl, hz⟩ := I.list hl
  have hn : H s.heap.objs.size = none := I.hok.fresh (Nat.le_refl _)
  refine call_set_txts (P := X.prog) (w := X.w) ks (I.ok.hd hc) pl.isList (by simpa using rv) (by unfold scanBound; omega) fun h' tk t R hm hlen k => ?_
  exact ⟨.ref s.heap.objs.size, upd H s.heap.objs.size (SetTxO X.prog X.w s.heap.objs.size t), I.laid (t' := tk) k (Nat.le_refl _) (setTxO_new R), rfl, q _ t hn R.nd hm⟩
/-- sorted(a set of texts) -/
def rSortSetTx (P : Program) (w : World) : List V → Hp → VK → Prop := fun xs H Q => ∃ (a : Addr) (t : List Str), xs = [V.ref a] ∧ H a = some (SetTxO P w a t) ∧ t.length < 64 ∧
  ∀ (p : Addr) (ss : List Str), H p = none → (∀ x, x ∈ ss ↔ x ∈ t) → ss.length = t.length → sortedS ss = true → Q (.ref p) (upd H p (.lst (ss.map V.str)))
theorem vals_strsAre : ∀ {vs : List Value} {ks : List Str}, StrsAre vs ks → Vals (ks.map V.str) vs
  | _, _, .nil => .nil
  | _, _, .cons k u t => .cons ⟨u, rfl⟩ (vals_strsAre t)
theorem cr_sortSetTx {X : Cx} (hc : X.calm = true) : CallR X (.builtin "sorted") (rSortSetTx X.prog X.w) := by
  intro pins s σ H xs us Q I r h
  obtain ⟨a, t, rfl, ha, h64, q⟩ := h
  rw [Vals.ref1 r]
  have R : TxS X.prog X.w s.heap a t := (I.hok a _ ha).1
  refine sorted_txts R (I.ok.hd hc) h64 fun s' p out c ss k g o hg hn hS hm hlen so => ?_
  have hn2 : H p = none := HOk.gone I.hok hn
  have hl2 : (ss.map V.str).length ≤ sizeLine := by rw [List.length_map, sizeLine_eq]; omega
  have J : Inv X pins σ (upd H p (.lst (ss.map V.str))) { s with heap := s'.heap, gens := s'.gens, drawn := s'.drawn, toks := s'.toks } :=
    I.call (ch := []) (Un.laidN k hn hn2) (I.hok.laidN k hn2 ⟨hl2, out.toList, c, vals_strsAre hS, hg⟩) (by rw [g]; exact I.bare) (fun _ z => nomatch z)
  have es : s' = { s with heap := s'.heap, gens := s'.gens, drawn := s'.drawn, toks := s'.toks } := by
    cases s'
    cases s
    cases o
    rfl
  rw [es]
  exact ⟨.ref p, _, J, rfl, q p ss hn2 hm hlen so⟩
end Om

/-! a head that tells function objects by paths of one's own: the getters of properties -/
namespace OmH
open PySem PySem.Spec PyProof.Rows L2 He
structure DefA where
  adr : PySem.W.Frag → Addr
  name : Str
  qual : Str
  params : Arguments
  body : List Stmt
  scope : Scope
def fnWA (K : PySem.W.Frag) (a : Addr) : FnW := match K.lookup a with
  | some ⟨_, _, .func fd, _⟩ => some (fd.name, fd.qualname, fd.params, fd.body, fd.scope, fd.globals, fd.closure, fd.builtins)
  | _ => none
def DefA.val (d : DefA) : FnW := some (d.name, d.qual, d.params, .stmts d.body, d.scope, mainGlobals, [], builtinsNs)
def DefA.ok (K : PySem.W.Frag) (d : DefA) : Bool := PySem.W.keepIn K (.ref (d.adr K)) && (match K.lookup (d.adr K) with
  | some ⟨_, _, .func fd, _⟩ => PySem.W.codeIn K fd.code d.qual && (dflB K fd.defaults [] && kwdB K fd.kwdefaults [])
  | _ => false)
theorem DefA.funD {K : PySem.W.Frag} {d : DefA} (e : fnWA K (d.adr K) = d.val) (c : d.ok K = true) : ∃ fd, FunD K d.name d.qual d.params d.body d.scope [] [] (d.adr K) fd := by
  obtain ⟨kp, c2⟩ := ba c
  unfold fnWA at e
  cases q : K.lookup (d.adr K) with
  | none =>
    rw [q] at c2
    cases c2
  | some o =>
    obtain ⟨oc, od, dt, osl⟩ := o
    rw [q] at c2 e
    cases dt with
    | func fd =>
      obtain ⟨n1, n2, n3, n4, n5, n6, n7, n8, n9, n10, n11, n12, n13, n14, n15⟩ := fd
      have e2 : (some (n1, n2, n3, n4, n5, n6, n7, n15) : FnW) = some (d.name, d.qual, d.params, .stmts d.body, d.scope, mainGlobals, [], builtinsNs) := e
      simp only [Option.some.injEq, Prod.mk.injEq] at e2
      obtain ⟨h1, h2, h3, h4, h5, h6, h7, h8⟩ := e2
      subst h1 h2 h3 h4 h5 h6 h7 h8
      have c3 : (PySem.W.codeIn K n13 d.qual && (dflB K n8 [] && kwdB K n9 [])) = true := c2
      obtain ⟨k1, k2⟩ := ba c3
      obtain ⟨k3, k4⟩ := ba k2
      exact ⟨_, ⟨oc, od, n8, n9, n10, n11, n12, n13, n14, osl, rfl, q, k1, dflB_ok k3, kwdB_ok k4⟩, kp⟩
    | _ => cases c2
/-- the getter of C's property x -/
def getA (K : PySem.W.Frag) (C : Addr) (x : Str) : Addr := match PySem.W.recIn K (ma K C x) "property" with
  | some (.ref g :: _) => g
  | _ => 0
def propB (K : PySem.W.Frag) (C : Addr) (x : Str) : Bool := eqO (PySem.W.findIn K (.ref C) x) (some (some (.ref (ma K C x)))) && (eqO (PySem.W.specialIn K (.ref (ma K C x)) "__get__") (some (some (.builtin "property.__get__"))) &&
  (decide (PySem.W.takesIn K (.ref (ma K C x)) = some true) && (match PySem.W.recIn K (ma K C x) "property" with
  | some (.ref _ :: _) => true
  | _ => false)))
theorem propB_ok {K : PySem.W.Frag} {C : Addr} {x : Str} (h : propB K C x = true) : PropOf K C x (ma K C x) (getA K C x) := by
  obtain ⟨h1, h2⟩ := ba h
  obtain ⟨h2, h3⟩ := ba h2
  obtain ⟨h3, h4⟩ := ba h3
  refine ⟨eqO_ok h1, eqO_ok h2, of_decide_eq_true h3, ?_⟩
  unfold getA
  cases e : PySem.W.recIn K (ma K C x) "property" with
  | none => rw [e] at h4; cases h4
  | some vs =>
    rw [e] at h4
    cases vs with
    | nil => cases h4
    | cons v r =>
      cases v with
      | ref g => exact ⟨r, rfl⟩
      | _ => cases h4
abbrev AlY : Type := AlX × (Bool × List FnW)
def obsA (gs : List DefA) (K : PySem.W.Frag) : Bool × List FnW := (gs.all fun d => d.ok K, gs.map fun d => fnWA K (d.adr K))
def valA (gs : List DefA) : Bool × List FnW := (true, gs.map DefA.val)
def obsY (n : Nat) (fa : List Fa) (fn : List DefD) (ts : List Tab) (tf : List Defn) (gs : List DefA) (ex : PySem.W.Frag → Bool) (g : Addr → Option Obj) : AlY := (obsX n fa fn ts tf ex g, obsA gs (frT g (asD g n)))
def hookY (n : Nat) (fa : List Fa) (fn : List DefD) (ts : List Tab) (tf : List Defn) (gs : List DefA) (ex : PySem.W.Frag → Bool) : PySem.W.Hook where
  α := AlY
  obs := fun s => obsY n fa fn ts tf gs ex s.heap.get?
  val := fun w => (valX fn ts w, valA gs)
  says := fun w h => ∃ K : PySem.W.Frag, K.In h ∧ SaysX fa fn ts tf ex w h K ∧ obsA gs K = valA gs
  of := fun _ _ e => ⟨_, frT_in, saysX_of (congrArg (fun z : AlY => z.1) e), congrArg (fun z : AlY => z.2) e⟩
  keeps := fun _ _ _ ⟨K, hK, c, d⟩ k => ⟨K, PySem.W.Frag.In.keeps hK k, ⟨c.t, c.more, c.hd, c.out, fun p hp => k _ _ (c.empty p hp)⟩, d⟩
theorem obsY_eq {n : Nat} {fa : List Fa} {fn : List DefD} {ts : List Tab} {tf : List Defn} {gs : List DefA} {ex : PySem.W.Frag → Bool} {g : Addr → Option Obj} {s : Shared} (h : ∀ a, g a = s.heap.get? a) : obsY n fa fn ts tf gs ex g = (hookY n fa fn ts tf gs ex).obs s := by
  have e : g = s.heap.get? := funext h
  rw [e] <;> rfl
theorem getter {gs : List DefA} {K : PySem.W.Frag} (c : obsA gs K = valA gs) (i : Nat) {d : DefA} (h : gs[i]? = some d := by rfl) : ∃ fd, FunD K d.name d.qual d.params d.body d.scope [] [] (d.adr K) fd := by
  have c2 : (gs.all fun d => d.ok K) = true := congrArg (fun z : Bool × List FnW => z.1) c
  have e : gs.map (fun d => fnWA K (d.adr K)) = gs.map DefA.val := congrArg (fun z : Bool × List FnW => z.2) c
  have e2 : (gs.map fun d => fnWA K (d.adr K))[i]? = (gs.map DefA.val)[i]? := by rw [e]
  rw [List.getElem?_map, List.getElem?_map, h] at e2
  exact DefA.funD (Option.some.inj e2) (List.all_eq_true.mp c2 d (List.mem_of_getElem? h))
end OmH

namespace Om
open PySem PySem.Spec PyProof.Rows L2 LamX He OmH
/-! ### facts of the top by own Bools -/
def oexB (K : PySem.W.Frag) (C : Addr) : Bool := (match K.lookup C with
  | some ⟨.type t, _, .cls cd, sl⟩ => decide (t = "type") && (cd.hasDict && (!cd.hasDel && ((match cd.mro with
    | .ref c :: bm => decide (c = C) && PySem.HandSPX.refsVE bm
    | _ => false) && (match sl.toList with
    | [_, _, _, _, some (.builtin n), _] => decide (n = "ValueError.__new__")
    | _ => false))))
  | _ => false) && (eqO (PySem.W.findIn K (.ref C) "__setattr__") (some (some (.builtin "object.__setattr__"))) && (decide (PySem.W.subIn K (.ref C) (.type "BaseException") = some true) && (decide (PySem.W.typeIn K (.ref C) = some (.type "type")) && PySem.W.keepIn K (.ref C))))
theorem oexB_ok {K : PySem.W.Frag} {C : Addr} (h : oexB K C = true) : OexC K C := by
  obtain ⟨h1, h2⟩ := ba h
  obtain ⟨h2, h3⟩ := ba h2
  obtain ⟨h3, h4⟩ := ba h3
  obtain ⟨h4, h5⟩ := ba h4
  refine ⟨?_, eqO_ok h2, of_decide_eq_true h3, of_decide_eq_true h4, h5⟩
  clear h h2 h3 h4 h5
  cases e : K.lookup C with
  | none => rw [e] at h1; cases h1
  | some o =>
    rw [e] at h1
    obtain ⟨oc, od, dt, sl⟩ := o
    cases oc with
    | type t =>
      cases dt with
      | cls cd =>
        obtain ⟨a1, a2⟩ := ba h1
        obtain ⟨a2, a3⟩ := ba a2
        obtain ⟨a3, a4⟩ := ba a3
        obtain ⟨a4, a5⟩ := ba a4
        obtain ⟨nm, bs, mro, ns, qn, hd, sn, sb, ab, col, del⟩ := cd
        have e1 : t = "type" := of_decide_eq_true a1
        have e2 : hd = true := a2
        have e3 : del = false := by
          have a3 : (!del) = true := a3
          cases del with
          | true => cases a3
          | false => rfl
        clear a1 a2 a3 h1
        subst e1 e2 e3
        cases mro with
        | nil => cases a4
        | cons v bm =>
          cases v with
          | ref c =>
            obtain ⟨b1, b2⟩ := ba (show (decide (c = C) && PySem.HandSPX.refsVE bm) = true from a4)
            have e4 : c = C := of_decide_eq_true b1
            clear b1 a4
            subst e4
            obtain ⟨sl⟩ := sl
            split at a5
            · rename_i q
              have e5 := of_decide_eq_true a5
              have e6 : sl = _ := q
              subst e5 e6
              exact ⟨_, _, _, _, _, _, _, _, _, _, _, _, _, _, _, rfl, b2⟩
            · cases a5
          | _ => cases a4
      | _ => cases h1
    | _ => cases dt <;> cases h1
def excCB (K : PySem.W.Frag) (D : Addr) : Bool := xfB K D && (eqO (PySem.W.findIn K (.ref D) "__class__") (some (some (.builtin "object.__class__"))) && (eqO (PySem.W.specialIn K (.builtin "object.__class__") "__get__") (some (some (.builtin "getset_descriptor.__get__"))) &&
  (decide (PySem.W.takesIn K (.builtin "object.__class__") = some true) && decide (PySem.W.mroIn K D (.type "object") = some true))))
theorem excCB_ok {K : PySem.W.Frag} {D : Addr} (h : excCB K D = true) : ExcC K D := by
  obtain ⟨h1, h2⟩ := ba h
  obtain ⟨h2, h3⟩ := ba h2
  obtain ⟨h3, h4⟩ := ba h3
  obtain ⟨h4, h5⟩ := ba h4
  obtain ⟨x1, x2, x3, x4⟩ := xfB_ok h1
  exact ⟨x1, x2, x3, x4, eqO_ok h2, eqO_ok h3, of_decide_eq_true h4, of_decide_eq_true h5⟩
abbrev Ce (K : PySem.W.Frag) (i : Nat) : Addr := ga K (nmE i)
def kitB7 (K : PySem.W.Frag) : Bool := (List.range 7).all fun i => decide (PySem.W.kitOne K (.ref (Ce K i)) (.type "ValueError") = some true) && (excCB K (Ce K i) && (decide (PySem.W.exmOne K (.ref (Ce K i)) (.ref (ga K "MapError")) = some true) && (List.range 7).all fun j => decide (PySem.W.kitOne K (.ref (Ce K i)) (.ref (Ce K j)) = some (decide (j = i)))))
/-- an error class with an own __init__ -/
def errIB (K : PySem.W.Frag) (x : Str) : Bool := oexB K (ga K x) && (eqO (PySem.W.findIn K (.ref (ga K x)) "__init__") (some (some (.ref (ma K (ga K x) "__init__")))) && decide (PySem.W.typeIn K (.ref (ma K (ga K x) "__init__")) = some (.type "function")))
/-- an own special method -/
def ownB (K : PySem.W.Frag) (C : Addr) (n : Str) : Bool := eqO (PySem.W.findIn K (.ref C) n) (some (some (.ref (ma K C n)))) && (PySem.W.isFn K (.ref (ma K C n)) && PySem.W.fnIn K (ma K C n))
theorem ownB_ok {K : PySem.W.Frag} {C : Addr} {n : Str} (h : ownB K C n = true) : OwnM K C n (ma K C n) := by
  obtain ⟨h1, h2⟩ := ba h
  obtain ⟨h2, h3⟩ := ba h2
  exact ⟨eqO_ok h1, h2, h3⟩
def insB (K : PySem.W.Frag) (C : Addr) : Bool := eqO (PySem.W.findIn K (.ref C) "__class__") (some (some (.builtin "object.__class__"))) && (eqO (PySem.W.specialIn K (.builtin "object.__class__") "__get__") (some (some (.builtin "getset_descriptor.__get__"))) &&
  (decide (PySem.W.takesIn K (.builtin "object.__class__") = some true) && decide (PySem.W.mroIn K C (.type "object") = some true)))
theorem insB_ok {K : PySem.W.Frag} {C : Addr} (h : insB K C = true) : InsF K C := by
  obtain ⟨h1, h2⟩ := ba h
  obtain ⟨h2, h3⟩ := ba h2
  obtain ⟨h3, h4⟩ := ba h3
  exact ⟨eqO_ok h1, eqO_ok h2, of_decide_eq_true h3, of_decide_eq_true h4⟩
def errUB (K : PySem.W.Frag) (C : Addr) : Bool := PySem.W.excIn K C [.type "ValueError", .type "Exception", .type "BaseException", .type "object"] "ValueError.__new__" && (PySem.W.keepIn K (.ref C) && (decide (PySem.W.subIn K (.ref C) (.type "BaseException") = some true) && decide (PySem.W.typeIn K (.ref C) = some (.type "type"))))
def exB (K : PySem.W.Frag) : Bool := kitB7 K && (errIB K "InvalidIsland" && (errUB K (ga K "UnknownCell") && (ownB K (ga K "Island") "__eq__" && (insB K (ga K "Island") && (ownB K (ga K "Island") "__getitem__" && (ownB K (ga K "Island") "__contains__" && (propB K (ga K "Island") "rows" && (propB K (ga K "Island") "height" &&
  (propB K (ga K "Island") "width" && (propB K (ga K "Island") "cells" && propB K (ga K "Island") "landmarks"))))))))))
def fa : List Fa := [.free "int", .free "list", .free "len", .free "range", .free "tuple", .free "max", .free "min", .free "enumerate", .free "isinstance", .free "ValueError", .free "bool", .free "str", .free "set", .free "sorted",
  .str "ALL_SIGNS" allSigns, .str "LAND_SIGNS" landSigns, .str "WATER" (Str.ofString "~"), .int "LARGEST" 12,
  .glo "MapError", .glo "InvalidIsland", .glo "InvalidMap", .glo "InvalidNumber", .glo "NoBeginning", .glo "NoWay", .glo "TooMany", .glo "UnknownCell", .glo "Island",
  .glo "_check_rows", .glo "_first_wrong_column", .glo "_lies_within", .glo "in_range"]
def fa2 : List Fa := [.glo "_law_begun", .glo "_law_take", .glo "_law_alike", .glo "_law_rows", .glo "_law_error", .glo "law",
  .cls "Island", .mkr "Island", .noat "Island" "_rows", .meth "Island" "turned", .noat "InvalidIsland" "row", .noat "InvalidIsland" "column", .noat "InvalidMap" "index"]
def dG (x : Str) (st : Stmt) : He.DefD := ⟨(x, none), x, x, defArgs st, defBody st, defScope st, [], []⟩
def dM (c x q : Str) (st : Stmt) : He.DefD := ⟨(c, some x), x, q, defArgs st, defBody st, defScope st, [], []⟩
def fnD : List He.DefD := [dG "_law_begun" (top 21), dG "_law_take" (top 22), dG "_law_alike" (top 23), dG "_law_rows" (top 24), dG "_law_error" (top 25), dG "law" (top 26),
  dG "in_range" (top 4), dG "_lies_within" (top 17), dG "_check_rows" (top 18), dG "_first_wrong_column" (top 19),
  dM "Island" "__init__" "Island.__init__" sIslI, dM "Island" "turned" "Island.turned" (sIslM 6), dM "Island" "__getitem__" "Island.__getitem__" (sIslM 7), dM "Island" "__contains__" "Island.__contains__" (sIslM 8), dM "Island" "__eq__" "Island.__eq__" (sIslM 10), dM "InvalidIsland" "__init__" "InvalidIsland.__init__" sII]
def gG (c x q : Str) (st : Stmt) : OmH.DefA := ⟨fun K => getA K (ga K c) x, x, q, defArgs st, defBody st, defScope st⟩
def gsD : List OmH.DefA := [gG "Island" "rows" "Island.rows" (sIslM 1), gG "Island" "height" "Island.height" (sIslM 2), gG "Island" "width" "Island.width" (sIslM 3), gG "Island" "cells" "Island.cells" (sIslM 4), gG "Island" "landmarks" "Island.landmarks" (sIslM 5)]
def tfD : List He.Defn := [("law", none)]
abbrev R : PySem.W.OpenRow := PySem.W.OpenLaw.row PySem.Challenge.rw_oldmap_k02_whole_islands_asked
abbrev hk : PySem.W.Hook := OmH.hookY 6 (fa ++ fa2) fnD [] tfD gsD exB
def ob (s : PySem.W.SharedT) : OmH.AlY := OmH.obsY 6 (fa ++ fa2) fnD [] tfD gsD exB (HandSHeadRun.getT s)
theorem ob_eq (s : PySem.W.SharedT) : ob s = hk.obs s.abs := OmH.obsY_eq (HandSHeadRun.getT_eq s)
def loose2 : List Str := ["LARGEST", "Island", "_lies_within", "_check_rows", "_first_wrong_column", "_law_begun", "_law_take", "_law_alike", "_law_rows", "_law_error"]
def loose1 : List Str := ["WATER", "LAND_SIGNS", "ALL_SIGNS", "in_range", "MapError", "InvalidIsland", "InvalidMap", "InvalidNumber", "UnknownCell", "NoBeginning", "NoWay", "TooMany"]
def loose : List Str := loose1 ++ loose2
theorem run (w : World) : HandSHeadRun.RunEq R (PySem.W.view R.prog [26]) hk ob 9000 loose w := by
  intro os
  kernel_rfl
end Om

namespace Om
open PySem PySem.Spec PyProof.Rows L2 LamX He OmH
/-! ### what the law's def leans on, from the head's facts -/
theorem passE0 {P : Program} {w : World} {X : Cx} : Passes (L2.CX P w) X E0 := fun pins σ H s e s' I h => by
  obtain ⟨a, B, H', cls, d, _, _, _, _, _, _, _, z⟩ := h
  exact z.elim
/-- a method as its callers know it -/
structure CalM (P : Program) (w : World) (K : PySem.W.Frag) (mg : Str → Option Value) (base : Heap) (CX : CXT) (k : Nat) (f : Addr) (ps : List Str) (sp : Sp) : Prop where
  ex : ∃ fd : FuncData, FnOk P w K mg base CX k f fd ps sp ∧ Binds K fd ps []
abbrev gI (K : PySem.W.Frag) : Addr := ga K "Island"
structure Parts (P : Program) (w : World) (K : PySem.W.Frag) (mg : Str → Option Value) (base : Heap) : Prop where
  beg : Cal P w K mg base CX0 1 "_law_begun" ["_law_script"] (spBegun K)
  tak : Cal P w K mg base CX0 1 "_law_take" ["_law_box", "_law_many"] spTake
  alk : Cal P w K mg base CX0 6 "_law_alike" ["_law_found", "_law_due"] (spAlike K 5)
  row : Cal P w K mg base CX0 2 "_law_rows" ["_law_box", "_law_most"] spRows
  isl : IslF K mg (gI K) (ma K (gI K) "__init__")
  mkI : CalM P w K mg base (L2.CX P w) 4 (ma K (gI K) "__init__") ["self", "rows"] (spIsl K (gI K) (Ce K 0))
  trn : CalM P w K mg base (L2.CX P w) 6 (ma K (gI K) "turned") ["self"] (spITurn K (gI K))
  get : CalM P w K mg base (L2.CX P w) 3 (ma K (gI K) "__getitem__") ["self", "cell"] (spGet K (gI K) (Ce K 6))
  has : CalM P w K mg base CX0 3 (ma K (gI K) "__contains__") ["self", "cell"] (spHas K (gI K))
  eqI : CalM P w K mg base CX0 1 (ma K (gI K) "__eq__") ["self", "other"] (spIEq K (gI K))
  pRw : CalM P w K mg base CX0 1 (getA K (gI K) "rows") ["self"] (spIRows K (gI K))
  pHg : CalM P w K mg base CX0 1 (getA K (gI K) "height") ["self"] (spIHgt K (gI K))
  pWd : CalM P w K mg base CX0 1 (getA K (gI K) "width") ["self"] (spIWid K (gI K))
  pCl : CalM P w K mg base CX0 1 (getA K (gI K) "cells") ["self"] (spICells K (gI K))
  pMk : CalM P w K mg base CX0 1 (getA K (gI K) "landmarks") ["self"] (spIMarks K (gI K))
  err : ErrF K mg (Ce K) (ga K "MapError")
theorem lt7 {i : Nat} (h : i < 7) : i ∈ List.range 7 := List.mem_range.mpr h
theorem kit7 {K : PySem.W.Frag} (h : kitB7 K = true) {i : Nat} (hi : i < 7) : PySem.W.kitOne K (.ref (Ce K i)) (.type "ValueError") = some true ∧ ExcC K (Ce K i) ∧ PySem.W.exmOne K (.ref (Ce K i)) (.ref (ga K "MapError")) = some true ∧ ∀ j, j < 7 → PySem.W.kitOne K (.ref (Ce K i)) (.ref (Ce K j)) = some (decide (j = i)) := by
  have h1 := List.all_eq_true.mp h i (lt7 hi)
  obtain ⟨a, b⟩ := ba h1
  obtain ⟨b, c⟩ := ba b
  obtain ⟨c, d⟩ := ba c
  exact ⟨of_decide_eq_true a, excCB_ok b, of_decide_eq_true c, fun j hj => of_decide_eq_true (List.all_eq_true.mp d j (lt7 hj))⟩
theorem errIB_ok {K : PySem.W.Frag} {x : Str} (h : errIB K x = true) : OexC K (ga K x) ∧ PySem.W.findIn K (.ref (ga K x)) "__init__" = some (some (.ref (ma K (ga K x) "__init__"))) ∧ PySem.W.typeIn K (.ref (ma K (ga K x) "__init__")) = some (.type "function") := by
  obtain ⟨h1, h2⟩ := ba h
  obtain ⟨h2, h3⟩ := ba h2
  exact ⟨oexB_ok h1, eqO_ok h2, of_decide_eq_true h3⟩
theorem in7 : ∀ i, i < 7 → Fa.glo (nmE i) ∈ fa ++ fa2 := fun i hi => by
  have e : i = 0 ∨ i = 1 ∨ i = 2 ∨ i = 3 ∨ i = 4 ∨ i = 5 ∨ i = 6 := by omega
  rcases e with rfl | rfl | rfl | rfl | rfl | rfl | rfl <;> simp [fa, nmE]
theorem b1 {K : PySem.W.Frag} {x q a : Str} {st : Stmt} {f : Addr} {fd : FuncData} (F : FnP K x q st f fd) (h : ∀ (kV doc pm : Value) (an : Option Addr) (cdv ct : Value) (u : Value), bindArgs (PySem.W.fnOf x q (defArgs st) (defBody st) (defScope st) .none kV doc pm an cdv ct) ⟨[u], []⟩ = pure [(a, u)]) : Binds K fd [a] [] :=
  FunD.bindsN F fun _ _ _ _ _ _ us hl => match us, hl with | [_], _ => h ..
theorem b2 {K : PySem.W.Frag} {x q a b : Str} {st : Stmt} {f : Addr} {fd : FuncData} (F : FnP K x q st f fd) (h : ∀ (kV doc pm : Value) (an : Option Addr) (cdv ct : Value) (u v : Value), bindArgs (PySem.W.fnOf x q (defArgs st) (defBody st) (defScope st) .none kV doc pm an cdv ct) ⟨[u, v], []⟩ = pure [(a, u), (b, v)]) : Binds K fd [a, b] [] :=
  FunD.bindsN F fun _ _ _ _ _ _ us hl => match us, hl with | [_, _], _ => h ..
theorem b3 {K : PySem.W.Frag} {x q a b c : Str} {st : Stmt} {f : Addr} {fd : FuncData} (F : FnP K x q st f fd) (h : ∀ (kV doc pm : Value) (an : Option Addr) (cdv ct : Value) (u v z : Value), bindArgs (PySem.W.fnOf x q (defArgs st) (defBody st) (defScope st) .none kV doc pm an cdv ct) ⟨[u, v, z], []⟩ = pure [(a, u), (b, v), (c, z)]) : Binds K fd [a, b, c] [] :=
  FunD.bindsN F fun _ _ _ _ _ _ us hl => match us, hl with | [_, _, _], _ => h ..
theorem parts_at {P : Program} {w : World} {K : PySem.W.Frag} {h base : Heap} {mg : Str → Option Value} (X : K.In h) (G : h.Ns mainGlobals mg) (c : He.SaysX (fa ++ fa2) fnD [] tfD exB w h K) (cg : obsA gsD K = valA gsD) : Parts P w K mg base := by
  have d := c.t.d
  obtain ⟨f0, F0⟩ := d.def_ 0 (d := dG "_law_begun" (top 21)) rfl
  have F0 : FnP K "_law_begun" "_law_begun" (top 21) _ f0 := F0
  obtain ⟨f1, F1⟩ := d.def_ 1 (d := dG "_law_take" (top 22)) rfl
  have F1 : FnP K "_law_take" "_law_take" (top 22) _ f1 := F1
  obtain ⟨f2, F2⟩ := d.def_ 2 (d := dG "_law_alike" (top 23)) rfl
  have F2 : FnP K "_law_alike" "_law_alike" (top 23) _ f2 := F2
  obtain ⟨f3, F3⟩ := d.def_ 3 (d := dG "_law_rows" (top 24)) rfl
  have F3 : FnP K "_law_rows" "_law_rows" (top 24) _ f3 := F3
  obtain ⟨f6, F6⟩ := d.def_ 6 (d := dG "in_range" (top 4)) rfl
  have F6 : FnP K "in_range" "in_range" (top 4) _ f6 := F6
  obtain ⟨f7, F7⟩ := d.def_ 7 (d := dG "_lies_within" (top 17)) rfl
  have F7 : FnP K "_lies_within" "_lies_within" (top 17) _ f7 := F7
  obtain ⟨f8, F8⟩ := d.def_ 8 (d := dG "_check_rows" (top 18)) rfl
  have F8 : FnP K "_check_rows" "_check_rows" (top 18) _ f8 := F8
  obtain ⟨f9, F9⟩ := d.def_ 9 (d := dG "_first_wrong_column" (top 19)) rfl
  have F9 : FnP K "_first_wrong_column" "_first_wrong_column" (top 19) _ f9 := F9
  obtain ⟨f10, F10⟩ := d.def_ 10 (d := dM "Island" "__init__" "Island.__init__" sIslI) rfl
  have F10 : FnP K "__init__" "Island.__init__" sIslI _ f10 := F10
  obtain ⟨f11, F11⟩ := d.def_ 11 (d := dM "Island" "turned" "Island.turned" (sIslM 6)) rfl
  have F11 : FnP K "turned" "Island.turned" (sIslM 6) _ f11 := F11
  obtain ⟨f12, F12⟩ := d.def_ 12 (d := dM "Island" "__getitem__" "Island.__getitem__" (sIslM 7)) rfl
  have F12 : FnP K "__getitem__" "Island.__getitem__" (sIslM 7) _ f12 := F12
  obtain ⟨f13, F13⟩ := d.def_ 13 (d := dM "Island" "__contains__" "Island.__contains__" (sIslM 8)) rfl
  have F13 : FnP K "__contains__" "Island.__contains__" (sIslM 8) _ f13 := F13
  obtain ⟨f14, F14⟩ := d.def_ 14 (d := dM "Island" "__eq__" "Island.__eq__" (sIslM 10)) rfl
  have F14 : FnP K "__eq__" "Island.__eq__" (sIslM 10) _ f14 := F14
  obtain ⟨f15, F15⟩ := d.def_ 15 (d := dM "InvalidIsland" "__init__" "InvalidIsland.__init__" sII) rfl
  have F15 : FnP K "__init__" "InvalidIsland.__init__" sII _ f15 := F15
  obtain ⟨g0, P0⟩ := getter cg 0 (d := gG "Island" "rows" "Island.rows" (sIslM 1)) rfl
  have P0 : FnP K "rows" "Island.rows" (sIslM 1) _ g0 := P0
  obtain ⟨g1, P1⟩ := getter cg 1 (d := gG "Island" "height" "Island.height" (sIslM 2)) rfl
  have P1 : FnP K "height" "Island.height" (sIslM 2) _ g1 := P1
  obtain ⟨g2, P2⟩ := getter cg 2 (d := gG "Island" "width" "Island.width" (sIslM 3)) rfl
  have P2 : FnP K "width" "Island.width" (sIslM 3) _ g2 := P2
  obtain ⟨g3, P3⟩ := getter cg 3 (d := gG "Island" "cells" "Island.cells" (sIslM 4)) rfl
  have P3 : FnP K "cells" "Island.cells" (sIslM 4) _ g3 := P3
  obtain ⟨g4, P4⟩ := getter cg 4 (d := gG "Island" "landmarks" "Island.landmarks" (sIslM 5)) rfl
  have P4 : FnP K "landmarks" "Island.landmarks" (sIslM 5) _ g4 := P4
  have fr : ∀ {x : Str}, Fa.free x ∈ fa ++ fa2 → mg x = none := fun hx => free_ok X G (d.facts hx)
  have gl : ∀ {x : Str}, Fa.glo x ∈ fa ++ fa2 → mg x = some (.ref (ga K x)) := fun hx => glo_ok X G (d.facts hx)
  have fact : ∀ {f : Fa}, f ∈ fa ++ fa2 → f.ok K = true := fun hf => d.facts hf
  have gint : mg "int" = none := fr (by simp [fa])
  have glist : mg "list" = none := fr (by simp [fa])
  have glen : mg "len" = none := fr (by simp [fa])
  have grange : mg "range" = none := fr (by simp [fa])
  have gtuple : mg "tuple" = none := fr (by simp [fa])
  have gmax : mg "max" = none := fr (by simp [fa])
  have gmin : mg "min" = none := fr (by simp [fa])
  have genum : mg "enumerate" = none := fr (by simp [fa])
  have gisi : mg "isinstance" = none := fr (by simp [fa])
  have gve : mg "ValueError" = none := fr (by simp [fa])
  have gbool : mg "bool" = none := fr (by simp [fa])
  have gstr : mg "str" = none := fr (by simp [fa])
  have sall := str_ok X G (fact (f := .str "ALL_SIGNS" allSigns) (by simp [fa]))
  have sland := str_ok X G (fact (f := .str "LAND_SIGNS" landSigns) (by simp [fa]))
  have swat := str_ok X G (fact (f := .str "WATER" (Str.ofString "~")) (by simp [fa]))
  have slarge := int_ok X G (fact (f := .int "LARGEST" 12) (by simp [fa]))
  obtain ⟨x1, x2⟩ := ba c.more
  obtain ⟨x2, x3⟩ := ba x2
  obtain ⟨x3, x4⟩ := ba x3
  obtain ⟨x4, x5⟩ := ba x4
  obtain ⟨x5, x6⟩ := ba x5
  obtain ⟨x6, x7⟩ := ba x6
  obtain ⟨x7, x8⟩ := ba x7
  obtain ⟨x8, x9⟩ := ba x8
  obtain ⟨x9, x10⟩ := ba x9
  obtain ⟨x10, x11⟩ := ba x10
  obtain ⟨oII, iII, tII⟩ := errIB_ok x2
  have nR := noat_ok (fact (f := .noat "InvalidIsland" "row") (by simp [fa, fa2]))
  have nC := noat_ok (fact (f := .noat "InvalidIsland" "column") (by simp [fa, fa2]))
  have nI := noat_ok (fact (f := .noat "InvalidMap" "index") (by simp [fa, fa2]))
  have isi : IsI K mg (Ce K 0) (ma K (Ce K 0) "__init__") := ⟨oII, nR, nC, iII, tII, gl (by simp [fa])⟩
  have isl : IslF K mg (gI K) (ma K (gI K) "__init__") := ⟨cls_ok (fact (f := .cls "Island") (by simp [fa, fa2])), noat_ok (fact (f := .noat "Island" "_rows") (by simp [fa, fa2])), mkr_ok (fact (f := .mkr "Island") (by simp [fa, fa2])), gl (by simp [fa])⟩
  have eu : ErrU K mg "UnknownCell" (Ce K 6) := by
    obtain ⟨y1, y2⟩ := ba x3
    obtain ⟨y2, y3⟩ := ba y2
    obtain ⟨y3, y4⟩ := ba y3
    exact ⟨y1, y2, of_decide_eq_true y3, of_decide_eq_true y4, gl (by simp [fa])⟩
  have xf : ∀ i, i < 7 → XfC K (Ce K i) := fun i hi => by
    obtain ⟨y1, y2, y3, y4, y5, y6, y7, y8⟩ := (kit7 x1 hi).2.1
    exact ⟨y1, y2, y3, y4⟩
  have er : ErrF K mg (Ce K) (ga K "MapError") := ⟨gl (by simp [fa]), fun i hi => glo_ok X G (d.facts (in7 i hi)), fun i hi => (kit7 x1 hi).2.2.1, fun i hi => (kit7 x1 hi).2.1, fun i j hi hj => (kit7 x1 hi).2.2.2 j hj, fun i hi => (kit7 x1 hi).1, xf 0 (by decide), nR, nC, xf 1 (by decide), nI, gisi, gve⟩
  have kTk : Cal P w K mg base CX0 1 "_law_take" ["_law_box", "_law_many"] spTake := ⟨_, _, ok_take F1 gint, gl (by simp [fa, fa2]), F1.kp, b2 F1 fun _ _ _ _ _ _ _ _ => rfl⟩
  have kRg : Cal P w K mg base CX0 1 "in_range" nInR spInR := ⟨_, _, ok_inR F6 gisi gint gbool, gl (by simp [fa, fa2]), F6.kp, b3 F6 fun _ _ _ _ _ _ _ _ _ => rfl⟩
  have kLi : Cal P w K mg base CX0 2 "_lies_within" ["rows", "cell"] (spLies K) := ⟨_, _, ok_lies F7 kRg glen, gl (by simp [fa, fa2]), F7.kp, b2 F7 fun _ _ _ _ _ _ _ _ => rfl⟩
  have kFw : Cal P w K mg base CX0 1 "_first_wrong_column" ["signs", "width"] spFwc := ⟨_, _, ok_fwc F9 grange glen sall, gl (by simp [fa, fa2]), F9.kp, b2 F9 fun _ _ _ _ _ _ _ _ => rfl⟩
  have bII : Binds K f15 ["self", "row", "column"] [] := b3 F15 fun _ _ _ _ _ _ _ _ _ => rfl
  have kCk : Cal P w K mg base (L2.CX P w) 3 "_check_rows" ["rows"] (spChk K (Ce K 0)) := ⟨_, _, ok_chk F8 isi (ok_II F15 isi) bII kFw glen gmax gmin genum slarge, gl (by simp [fa, fa2]), F8.kp, b1 F8 fun _ _ _ _ _ _ _ => rfl⟩
  have bAl : Binds K f2 ["_law_found", "_law_due"] [] := b2 F2 fun _ _ _ _ _ _ _ _ => rfl
  have gAl : mg "_law_alike" = some (.ref (ga K "_law_alike")) := gl (by simp [fa, fa2])
  have bN : Binds K f10 ["self", "rows"] [] := b2 F10 fun _ _ _ _ _ _ _ _ => rfl
  have okN : FnOk P w K mg base (L2.CX P w) 4 (ma K (gI K) "__init__") f10 ["self", "rows"] (spIsl K (gI K) (Ce K 0)) := ok_isl F10 isl kCk gtuple
  have okW : FnOk P w K mg base CX0 1 (getA K (gI K) "width") g2 ["self"] (spIWid K (gI K)) := ok_iwid P2 isl glen
  have bW : Binds K g2 ["self"] [] := b1 P2 fun _ _ _ _ _ _ _ => rfl
  exact {
    beg := ⟨_, _, ok_begun F0 gint glist glen, gl (by simp [fa, fa2]), F0.kp, b1 F0 fun _ _ _ _ _ _ _ => rfl⟩
    tak := kTk
    alk := ⟨_, _, ok_alike F2 gAl F2.kp bAl gisi gint gbool gstr gtuple glist glen grange 5, gAl, F2.kp, bAl⟩
    row := ⟨_, _, ok_rows F3 kTk grange gtuple glen, gl (by simp [fa, fa2]), F3.kp, b2 F3 fun _ _ _ _ _ _ _ _ => rfl⟩
    isl := isl
    mkI := ⟨_, okN, bN⟩
    trn := ⟨_, ok_iturn F11 isl okN bN (propB_ok x10) okW bW gtuple grange, b1 F11 fun _ _ _ _ _ _ _ => rfl⟩
    get := ⟨_, ok_get F12 isl eu kLi, b2 F12 fun _ _ _ _ _ _ _ _ => rfl⟩
    has := ⟨_, ok_has F13 isl kLi swat, b2 F13 fun _ _ _ _ _ _ _ _ => rfl⟩
    eqI := ⟨_, ok_ieq F14 isl (insB_ok x5) gisi, b2 F14 fun _ _ _ _ _ _ _ _ => rfl⟩
    pRw := ⟨_, ok_irows P0 isl, b1 P0 fun _ _ _ _ _ _ _ => rfl⟩
    pHg := ⟨_, ok_ihgt P1 isl glen, b1 P1 fun _ _ _ _ _ _ _ => rfl⟩
    pWd := ⟨_, okW, bW⟩
    pCl := ⟨_, ok_icells P3 isl genum swat, b1 P3 fun _ _ _ _ _ _ _ => rfl⟩
    pMk := ⟨_, ok_imarks P4 isl gtuple sland, b1 P4 fun _ _ _ _ _ _ _ => rfl⟩
    err := er }
end Om

namespace Om
open PySem PySem.Spec PyProof.Rows L2 LamX He OmH
/-! ### lists of the same members -/
theorem perm_nodup {α : Type} [BEq α] [LawfulBEq α] : ∀ (ds cs : List α), ds.Nodup → (∀ x ∈ ds, x ∈ cs) → cs.length ≤ ds.length → cs.Perm ds
  | [], cs, _, _, hl => by
    have e : cs = [] := List.eq_nil_of_length_eq_zero (Nat.le_zero.mp hl)
    rw [e]
  | d :: ds, cs, hn, hs, hl => by
    obtain ⟨h1, h2⟩ := List.nodup_cons.mp hn
    have hd := hs d (List.mem_cons_self ..)
    have p := List.perm_cons_erase hd
    refine p.trans (List.Perm.cons d (perm_nodup ds (cs.erase d) h2 (fun x hx => ?_) ?_))
    · have hne : x ≠ d := fun e => h1 (e ▸ hx)
      exact (List.mem_erase_of_ne hne).mpr (hs x (List.mem_cons_of_mem _ hx))
    · rw [List.length_erase_of_mem hd]
      rw [List.length_cons] at hl
      omega
theorem nodup_le {α : Type} [BEq α] [LawfulBEq α] : ∀ (ds cs : List α), ds.Nodup → (∀ x ∈ ds, x ∈ cs) → ds.length ≤ cs.length
  | [], cs, _, _ => Nat.zero_le _
  | d :: ds, cs, hn, hs => by
    obtain ⟨h1, h2⟩ := List.nodup_cons.mp hn
    have hd := hs d (List.mem_cons_self ..)
    have ih := nodup_le ds (cs.erase d) h2 fun x hx => (List.mem_erase_of_ne (fun e : x = d => h1 (e ▸ hx))).mpr (hs x (List.mem_cons_of_mem _ hx))
    rw [List.length_erase_of_mem hd] at ih
    have := List.length_pos_of_mem hd
    rw [List.length_cons]
    omega
theorem eq_of_perm_le : ∀ (l1 l2 : List Nat), l1.Perm l2 → l1.Pairwise (· ≤ ·) → l2.Pairwise (· ≤ ·) → l1 = l2
  | [], l2, h, _, _ => (List.Perm.nil_eq h)
  | a :: r1, [], h, _, _ => absurd h.length_eq (by simp)
  | a :: r1, b :: r2, h, p1, p2 => by
    obtain ⟨q1, q1'⟩ := List.pairwise_cons.mp p1
    obtain ⟨q2, q2'⟩ := List.pairwise_cons.mp p2
    have ha : a ∈ b :: r2 := h.mem_iff.mp (List.mem_cons_self ..)
    have hb : b ∈ a :: r1 := h.mem_iff.mpr (List.mem_cons_self ..)
    have e : a = b := by
      rcases List.mem_cons.mp ha with h1 | h1
      · exact h1
      · rcases List.mem_cons.mp hb with h2 | h2
        · exact h2.symm
        · have := q1 b h2
          have := q2 a h1
          omega
    subst e
    rw [eq_of_perm_le r1 r2 (List.Perm.cons_inv h) q1' q2']
theorem rising_pw : ∀ (l : List Nat) (p : Nat), risingS (tx [p]) (l.map fun c => tx [c]) = true → (p :: l).Pairwise (· ≤ ·)
  | [], p, _ => by simp
  | x :: r, p, h => by
    have h : (!ltCps (tx [x]).cps.toList (tx [p]).cps.toList && risingS (tx [x]) (r.map fun c => tx [c])) = true := h
    obtain ⟨h1, h2⟩ := Bool.and_eq_true_iff.mp h
    have ih := rising_pw r x h2
    rw [tx_cps, tx_cps] at h1
    have hle : p ≤ x := by
      by_cases hlt : x < p
      · have e : ltCps [x] [p] = true := by
          unfold ltCps
          simp [hlt]
        rw [e] at h1
        cases h1
      · omega
    refine List.pairwise_cons.mpr ⟨fun y hy => ?_, ih⟩
    rcases List.mem_cons.mp hy with rfl | hy
    · exact hle
    · exact Nat.le_trans hle ((List.pairwise_cons.mp ih).1 y hy)
theorem sorted_marks {ss : List Str} {cs : List Nat} (h1 : ss.Perm (cs.map fun c => tx [c])) (h2 : sortedS ss = true) (h3 : cs.Pairwise (· ≤ ·)) : ss = cs.map fun c => tx [c] := by
  have hm : ∀ y ∈ ss, ∃ c, y = tx [c] := fun y hy => by
    obtain ⟨c, _, e⟩ := List.mem_map.mp (h1.mem_iff.mp hy)
    exact ⟨c, e.symm⟩
  let hd : Str → Nat := fun y => y.cps.toList.headD 0
  have e1 : ss = (ss.map hd).map fun c => tx [c] := by
    rw [List.map_map]
    have : ∀ l : List Str, (∀ y ∈ l, ∃ c, y = tx [c]) → l = l.map ((fun c => tx [c]) ∘ hd) := by
      intro l
      induction l with
      | nil => intro _; rfl
      | cons y r ih =>
        intro h
        obtain ⟨c, rfl⟩ := h y (List.mem_cons_self ..)
        rw [List.map_cons, ← ih fun z hz => h z (List.mem_cons_of_mem _ hz)]
        rfl
    exact this ss hm
  have p1 : (ss.map hd).Perm cs := by
    have q := h1.map hd
    rw [List.map_map] at q
    have e2 : (hd ∘ fun c => tx [c]) = id := by
      funext c
      rfl
    rw [e2, List.map_id] at q
    exact q
  have p2 : (ss.map hd).Pairwise (· ≤ ·) := by
    rw [e1] at h2
    cases hq : ss.map hd with
    | nil => exact .nil
    | cons a r =>
      rw [hq] at h2
      exact rising_pw r a h2
  rw [e1, eq_of_perm_le _ _ p1 p2 h3]
/-- sorted(set(signs)) tells the marks -/
theorem marks_of {rows : List (List Nat)} {t ss : List Str} (hn : t.Nodup) (hm : ∀ x, x ∈ t ↔ x ∈ (rows.flatten.filter fun c => c != 46 && c != 126).map fun c => tx [c]) (hs : ∀ r ∈ rows, ∀ c ∈ r, okSign c)
    (h1 : ∀ x, x ∈ ss ↔ x ∈ t) (h2 : ss.length = t.length) (h3 : sortedS ss = true) : ss = (marksOf rows).map fun c => tx [c] := by
  have pt : ss.Perm t := perm_nodup t ss hn (fun x hx => (h1 x).mpr hx) (by omega)
  have inj : ∀ a b : Nat, tx [a] = tx [b] → a = b := fun a b e => by
    have z := congrArg (fun s : Str => s.cps.toList) e
    simp only [tx_cps] at z
    exact (List.cons.inj z).1
  have lp : letters.Pairwise (· < ·) := by decide
  have mp : (marksOf rows).Pairwise (· < ·) := lp.filter _
  have mn : ((marksOf rows).map fun c => tx [c]).Nodup := by
    refine List.pairwise_map.mpr (mp.imp fun {a b} h e => ?_)
    have := inj a b e
    omega
  have mem : ∀ x, x ∈ (marksOf rows).map (fun c => tx [c]) ↔ x ∈ t := fun x => by
    rw [hm x]
    constructor
    · intro h
      obtain ⟨c, hc, rfl⟩ := List.mem_map.mp h
      obtain ⟨hl, hr⟩ := List.mem_filter.mp hc
      refine List.mem_map.mpr ⟨c, List.mem_filter.mpr ⟨of_decide_eq_true hr, ?_⟩, rfl⟩
      have : 65 ≤ c ∧ c ≤ 90 := by
        simp only [letters, List.mem_cons, List.not_mem_nil, or_false] at hl
        omega
      simp only [Bool.and_eq_true, bne_iff_ne, ne_eq]
      omega
    · intro h
      obtain ⟨c, hc, rfl⟩ := List.mem_map.mp h
      obtain ⟨hl, hr⟩ := List.mem_filter.mp hc
      simp only [Bool.and_eq_true, bne_iff_ne, ne_eq] at hr
      obtain ⟨r, hr1, hr2⟩ := List.mem_flatten.mp hl
      refine List.mem_map.mpr ⟨c, List.mem_filter.mpr ⟨?_, decide_eq_true hl⟩, rfl⟩
      have q := hs r hr1 c hr2
      simp only [letters, List.mem_cons, List.not_mem_nil, or_false]
      unfold okSign at q
      omega
  have pm : t.Perm ((marksOf rows).map fun c => tx [c]) := perm_nodup _ t mn (fun x hx => (mem x).mp hx) (nodup_le t _ hn fun x hx => (mem x).mpr hx)
  exact sorted_marks (pt.trans pm) h3 (mp.imp fun {a b} h => Nat.le_of_lt h)
end Om

namespace Om
open PySem PySem.Spec PyProof.Rows L2 LamX He OmH
/-! ### signs at places -/
def sg2 (rows : List (List Nat)) (i j : Nat) : Nat := (rows.getD i []).getD j 0
structure Rect (rows : List (List Nat)) (h w : Nat) : Prop where
  len : rows.length = h
  row : ∀ r ∈ rows, r.length = w
theorem rect_getD {rows : List (List Nat)} {h w : Nat} (R : Rect rows h w) {i : Nat} (hi : i < h) : rows.getD i [] ∈ rows ∧ (rows.getD i []).length = w := by
  have hi2 : i < rows.length := by rw [R.len]; exact hi
  have e : rows.getD i [] = rows[i] := by rw [List.getD_eq_getElem?_getD, List.getElem?_eq_getElem hi2, Option.getD_some]
  rw [e]
  exact ⟨List.getElem_mem hi2, R.row _ (List.getElem_mem hi2)⟩
theorem list_ext0 {α : Type} (d : α) : ∀ {a b : List α}, a.length = b.length → (∀ i, i < a.length → a.getD i d = b.getD i d) → a = b := fun {a b} hl h => by
  apply List.ext_getElem hl
  intro i h1 h2
  have q := h i h1
  rw [List.getD_eq_getElem?_getD, List.getD_eq_getElem?_getD, List.getElem?_eq_getElem h1, List.getElem?_eq_getElem h2] at q
  exact q
theorem rect_ext {a b : List (List Nat)} {h w : Nat} (A : Rect a h w) (B : Rect b h w) (e : ∀ i j, i < h → j < w → sg2 a i j = sg2 b i j) : a = b := by
  refine list_ext0 [] (by rw [A.len, B.len]) fun i hi => ?_
  rw [A.len] at hi
  obtain ⟨_, l1⟩ := rect_getD A hi
  obtain ⟨_, l2⟩ := rect_getD B hi
  refine list_ext0 0 (by rw [l1, l2]) fun j hj => ?_
  rw [l1] at hj
  exact e i j hi hj
theorem rect_headD {rows : List (List Nat)} {h w : Nat} (R : Rect rows h w) (h1 : 1 ≤ h) : (rows.headD []).length = w := by
  cases rows with
  | nil => have := R.len; simp at this; omega
  | cons r rs => exact R.row r (List.mem_cons_self ..)
theorem turned_rect {rows : List (List Nat)} {h w : Nat} (R : Rect rows h w) (h1 : 1 ≤ h) : Rect (turnedRows rows) w h := by
  refine ⟨by unfold turnedRows; rw [List.length_map, List.length_range, rect_headD R h1], fun r hr => ?_⟩
  obtain ⟨j, _, rfl⟩ := List.mem_map.mp hr
  rw [List.length_map, List.length_reverse, R.len]
theorem turned_sg {rows : List (List Nat)} {h w : Nat} (R : Rect rows h w) (h1 : 1 ≤ h) {i j : Nat} (hi : i < w) (hj : j < h) : sg2 (turnedRows rows) i j = sg2 rows (h - 1 - j) i := by
  unfold sg2 turnedRows
  have e1 : ((List.range (rows.headD []).length).map fun j => rows.reverse.map fun r => r.getD j 0).getD i [] = rows.reverse.map fun r => r.getD i 0 := by
    rw [List.getD_eq_getElem?_getD, List.getElem?_map, List.getElem?_range (by rw [rect_headD R h1]; exact hi)]
    rfl
  rw [e1]
  have hl := R.len
  have hj2 : h - 1 - j < rows.length := by omega
  have e2 : rows.reverse[j]? = some rows[h - 1 - j] := by
    rw [List.getElem?_reverse (by omega), hl, List.getElem?_eq_getElem hj2]
  have e3 : rows.getD (h - 1 - j) [] = rows[h - 1 - j] := by rw [List.getD_eq_getElem?_getD, List.getElem?_eq_getElem hj2, Option.getD_some]
  rw [e3, List.getD_eq_getElem?_getD, List.getElem?_map, e2]
  rfl
theorem turned4 {rows : List (List Nat)} {h w : Nat} (R : Rect rows h w) (h1 : 1 ≤ h) (w1 : 1 ≤ w) : turnedRows (turnedRows (turnedRows (turnedRows rows))) = rows := by
  have R1 := turned_rect R h1
  have R2 := turned_rect R1 w1
  have R3 := turned_rect R2 h1
  have R4 := turned_rect R3 w1
  refine rect_ext R4 R fun i j hi hj => ?_
  rw [turned_sg R3 w1 hi hj, turned_sg R2 h1 (by omega) hi, turned_sg R1 w1 (by omega) (by omega), turned_sg R h1 (by omega) (by omega)]
  congr 1 <;> omega
theorem RowsOk.rect {m : Nat} {rows : List (List Nat)} (h : RowsOk m rows) : Rect rows rows.length (rows.headD []).length := ⟨rfl, (rows_width h).2.2⟩
/-! ### cells -/
theorem cells_mem (rows : List (List Nat)) (a b : Nat) : (a, b) ∈ cellsOf rows ↔ a < rows.length ∧ b < (rows.getD a []).length ∧ sg2 rows a b ≠ 126 := by
  unfold cellsOf cellsTo rowCells sg2
  simp only [List.mem_flatMap, List.mem_range, List.mem_map, List.mem_filter, Bool.not_eq_true', decide_eq_false_iff_not, Prod.mk.injEq]
  constructor
  · rintro ⟨i, hi, j, ⟨hj1, hj2⟩, rfl, rfl⟩
    exact ⟨hi, hj1, hj2⟩
  · rintro ⟨h1, h2, h3⟩
    exact ⟨a, h1, b, ⟨h2, h3⟩, rfl, rfl⟩
theorem eqv_cell (c : Nat × Nat) (i j : Int) : PyData.eqv (cdp c) (.tuple [.int i, .int j]) = (decide (((c.1 : Nat) : Int) = i) && decide (((c.2 : Nat) : Int) = j)) := by
  simp only [cdp, PyData.eqv, PyData.eqvAll, Bool.and_true]
  rfl
theorem cells_any {rows : List (List Nat)} (g : Good2 rows) (i j : Int) : (((cellsOf rows).map cdp).any fun z => PyData.eqv z (.tuple [.int i, .int j])) = hasC rows i j := by
  rw [Bool.eq_iff_iff, List.any_map, List.any_eq_true]
  constructor
  · rintro ⟨⟨a, b⟩, hm, h⟩
    have h : PyData.eqv (cdp (a, b)) (.tuple [.int i, .int j]) = true := h
    rw [eqv_cell, Bool.and_eq_true, decide_eq_true_eq, decide_eq_true_eq] at h
    obtain ⟨rfl, rfl⟩ := h
    obtain ⟨h1, h2, h3⟩ := (cells_mem rows a b).mp hm
    have hl := g.rect _ (rect_getD (h := rows.length) (w := (rows.headD []).length) ⟨rfl, g.rect⟩ h1).1
    unfold hasC insd inR sgAt
    simp only [Int.toNat_natCast, Bool.and_eq_true, decide_eq_true_eq, Bool.not_eq_true', decide_eq_false_iff_not]
    exact ⟨by omega, h3⟩
  · intro h
    unfold hasC insd inR sgAt at h
    simp only [Bool.and_eq_true, decide_eq_true_eq, Bool.not_eq_true', decide_eq_false_iff_not] at h
    obtain ⟨⟨⟨h1, h2⟩, h3, h4⟩, h5⟩ := h
    have hl := g.rect _ (rect_getD (h := rows.length) (w := (rows.headD []).length) ⟨rfl, g.rect⟩ (i := i.toNat) (by omega)).1
    refine ⟨(i.toNat, j.toNat), (cells_mem rows _ _).mpr ⟨by omega, by omega, h5⟩, ?_⟩
    show PyData.eqv (cdp (i.toNat, j.toNat)) (.tuple [.int i, .int j]) = true
    rw [eqv_cell, Bool.and_eq_true, decide_eq_true_eq, decide_eq_true_eq]
    exact ⟨by show ((i.toNat : Nat) : Int) = i; omega, by show ((j.toNat : Nat) : Int) = j; omega⟩
theorem lay_cells (cs : List (Nat × Nat)) : PyData.canLayAll0 (cs.map cdp) = true := by
  induction cs with
  | nil => simp [PyData.canLayAll0]
  | cons c r ih => simp only [List.map_cons, PyData.canLayAll0, cdp, PyData.canLay0, ih, Bool.and_self]
theorem dep_cells (cs : List (Nat × Nat)) : PyData.depthAll (cs.map cdp) ≤ 1 := by
  induction cs with
  | nil => simp [PyData.depthAll]
  | cons c r ih => simp [PyData.depthAll, cdp, PyData.depth]; omega
theorem sh_cells (cs : List (Nat × Nat)) : SeqAt.shaped (.list (cs.map cdp)) = true := shaped_of (by simp only [PyData.canLay0]; exact lay_cells cs) (by have := dep_cells cs; simp only [PyData.depth]; omega)
theorem sh_pair (i j : Int) : SeqAt.shaped (.tuple [.int i, .int j]) = true := shaped_of (by simp [PyData.canLay0, PyData.canLayAll0]) (by simp [PyData.depth, PyData.depthAll])
theorem eqv_pair (i j : Int) : PyData.eqv (.tuple [.int i, .int j]) (.tuple [.int i, .int j]) = true := PySem.SeqAt.eqv_refl _ (by simp [PyData.canLay0, PyData.canLayAll0])
/-! ### one sign changed -/
def lastRow (rows : List (List Nat)) : List Nat := rows.getD (rows.length - 1) []
def lastSg (rows : List (List Nat)) : Nat := (lastRow rows).getD ((lastRow rows).length - 1) 0
def newSg (c : Nat) : Nat := if c = 126 then 65 else 126
def otherRows (rows : List (List Nat)) : List (List Nat) := rows.take (rows.length - 1) ++ [(lastRow rows).take ((lastRow rows).length - 1) ++ [newSg (lastSg rows)]]
theorem other_ok {m : Nat} {rows : List (List Nat)} (h : RowsOk m rows) : RowsOk m (otherRows rows) := by
  obtain ⟨w1, w2, w3⟩ := rows_width h
  obtain ⟨h1, h2, wd, d1, d2, hw⟩ := h
  have hl : lastRow rows ∈ rows := (rect_getD (h := rows.length) (w := wd) ⟨rfl, fun r hr => (hw r hr).1⟩ (by omega)).1
  have hl2 := (hw _ hl).1
  refine ⟨by unfold otherRows; simp, by unfold otherRows; rw [List.length_append, List.length_take, List.length_singleton]; omega, wd, d1, d2, fun r hr => ?_⟩
  rcases List.mem_append.mp hr with hr | hr
  · exact hw r (List.mem_of_mem_take hr)
  · rw [List.mem_singleton.mp hr]
    refine ⟨by rw [List.length_append, List.length_take, List.length_singleton]; omega, fun c hc => ?_⟩
    rcases List.mem_append.mp hc with hc | hc
    · exact (hw _ hl).2 c (List.mem_of_mem_take hc)
    · rw [List.mem_singleton.mp hc]
      unfold newSg okSign
      split <;> omega
theorem other_ne {m : Nat} {rows : List (List Nat)} (h : RowsOk m rows) : otherRows rows ≠ rows := by
  obtain ⟨h1, h2, wd, d1, d2, hw⟩ := h
  intro e
  have hl : lastRow rows ∈ rows := (rect_getD (h := rows.length) (w := wd) ⟨rfl, fun r hr => (hw r hr).1⟩ (by omega)).1
  have hl2 := (hw _ hl).1
  have e1 : lastRow (otherRows rows) = (lastRow rows).take ((lastRow rows).length - 1) ++ [newSg (lastSg rows)] := by
    unfold lastRow
    have el : (otherRows rows).length = rows.length := congrArg List.length e
    rw [el]
    unfold otherRows
    rw [List.getD_eq_getElem?_getD, List.getElem?_append_right (by rw [List.length_take]; omega)]
    have e0 : rows.length - 1 - (List.take (rows.length - 1) rows).length = 0 := by rw [List.length_take]; omega
    rw [e0]
    rfl
  rw [e] at e1
  have e2 : lastSg rows = newSg (lastSg rows) := by
    have q := congrArg (fun r : List Nat => r.getD ((lastRow rows).length - 1) 0) e1
    have q2 : ((lastRow rows).take ((lastRow rows).length - 1) ++ [newSg (lastSg rows)]).getD ((lastRow rows).length - 1) 0 = newSg (lastSg rows) := by
      rw [List.getD_eq_getElem?_getD, List.getElem?_append_right (by rw [List.length_take]; omega)]
      have e0 : (lastRow rows).length - 1 - (List.take ((lastRow rows).length - 1) (lastRow rows)).length = 0 := by rw [List.length_take]; omega
      rw [e0]
      rfl
    exact q.trans q2
  unfold newSg at e2
  split at e2 <;> omega
end Om

namespace Om
open PySem PySem.Spec PyProof.Rows L2 LamX He OmH
/-! ### the law's own text -/
abbrev sLaw : Stmt := top 26
abbrev nLaw : List Str := ["_law_script", "_law_box", "_law_rows_here", "_law_cells", "_law_column", "_law_letters", "_law_turned", "_law_is_within", "_law_other", "_law_island", "_law_row", "_law_sign"]
theorem scLaw : FnScope nLaw ["_law_script"] (defScope sLaw) := ⟨rfl, rfl, rfl, by decide +kernel, rfl, by decide +kernel, by decide +kernel⟩
def noE : Expr := .Constant .none 0 ⟨0, 0, 0, 0⟩
def lst (i : Nat) : Stmt := (defBody sLaw).getD i (.Pass ⟨0, 0, 0, 0⟩)
def inFor (s : Stmt) (i : Nat) : Stmt := match s with
  | .For _ _ b _ _ => b.getD i (.Pass ⟨0, 0, 0, 0⟩)
  | _ => .Pass ⟨0, 0, 0, 0⟩
def ifTest (s : Stmt) : Expr := match s with
  | .If t _ _ _ => t
  | _ => noE
def cmpL (e : Expr) : Expr := match e with
  | .Compare a _ _ _ => a
  | _ => noE
def exprOf (s : Stmt) : Expr := match s with
  | .Expr e _ => e
  | _ => noE
def asgE (s : Stmt) : Expr := match s with
  | .Assign _ e _ => e
  | _ => noE
def lc5 : Expr := arg0 (exprOf (inFor (lst 5) 0))
def lc6 : Expr := arg0 (arg0 (asgE (lst 6)))
theorem blk5 : BlkOk nLaw (defScope sLaw) (lcScope lc5) [("_law_column", 4)] := blkOk_by (by decide +kernel)
theorem blk6 : BlkOk nLaw (defScope sLaw) (lcScope lc6) [("_law_sign", 11)] := blkOk_by (by decide +kernel)
def lsc (l : List (Str × NameKind)) : Scope := { kind := .function, names := l, isGenerator := false, isCoroutine := false, more := [] }
def lamQ : Str := (envOfC "law" (defScope sLaw) 0 0 .none).qual ++ "<lambda>"
def TT1 (Pt : Addr) : List (Addr × Str) := [(Pt, lamQ)]
def lamScope (e : Expr) : Scope := match e with
  | .Call _ [.Lambda _ _ s _] _ _ => s
  | _ => lsc []
theorem lg9 : LamG nLaw (defScope sLaw) (lamScope (cmpL (ifTest (inFor (inFor (lst 9) 0) 2)))) [] := lamG_by (by decide +kernel)
def spLaw (K : PySem.W.Frag) (Pt : Addr) : Sp := fun vs H Q _ => ∃ (a : Addr) (ns : List Int), vs = [.ref a] ∧ SqL K H a (ns.map V.int) ∧ ns.length ≤ 63 ∧ H Pt = some (.tbl #[]) ∧ ∀ H', Q (.bl true) H'
/-! ### what stays when a table grows -/
theorem SqT.ext {K : PySem.W.Frag} {H H' : Hp} {a : Addr} {xs : List V} (k : ExtN H H') (h : SqT K H a xs) : SqT K H' a xs := by
  rcases h with (h | ⟨o, h⟩) | h
  · exact .inl (.inl (k _ _ h fun ps e => by cases e))
  · exact .inl (.inr ⟨o, k _ _ h fun ps e => by cases e⟩)
  · exact .inr h
theorem SqL.ext {K : PySem.W.Frag} {H H' : Hp} {a : Addr} {xs : List V} (k : ExtN H H') (h : SqL K H a xs) : SqL K H' a xs := by
  rcases h with (h | ⟨o, h⟩) | h
  · exact .inl (.inl (k _ _ h fun ps e => by cases e))
  · exact .inl (.inr ⟨o, k _ _ h fun ps e => by cases e⟩)
  · exact .inr h
theorem Isl.ext {K : PySem.W.Frag} {H H' : Hp} {CI a : Addr} {rows : List (List Nat)} (k : ExtN H H') (h : Isl K CI H a rows) : Isl K CI H' a rows := by
  obtain ⟨dx, p, hp, hS⟩ := h
  exact ⟨dx, p, k _ _ hp (fun ps e => by cases e), SqT.ext k hS⟩
/-- what the law's later rows lean on -/
structure F2 (K : PySem.W.Frag) (Pt : Addr) (H : Hp) (pr xi xt cl : Addr) (rows : List (List Nat)) : Prop where
  T : Tabs (TT1 Pt) H
  R : SqT K H pr (rows.map vt)
  I : Isl K (gI K) H xi rows
  U : Isl K (gI K) H xt (turnedRows rows)
  C : Dp K H (.ref cl) (.list ((cellsOf rows).map cdp))
section
variable {K : PySem.W.Frag} {Pt pr xi xt cl : Addr} {H H' : Hp} {rows : List (List Nat)}
theorem F2.same (f : F2 K Pt H pr xi xt cl rows) (s : Same H H') : F2 K Pt H' pr xi xt cl rows := ⟨f.T.ext s, Same.tup s f.R, f.I.same s, f.U.same s, Same.dp s f.C⟩
theorem F2.ext (f : F2 K Pt H pr xi xt cl rows) (k : ExtN H H') (T' : Tabs (TT1 Pt) H') : F2 K Pt H' pr xi xt cl rows := ⟨T', SqT.ext k f.R, f.I.ext k, f.U.ext k, dp_mono (fun _ _ => SqT.ext k) (fun _ _ => SqL.ext k) f.C⟩
end
/-! ### all but the last -/
theorem cutV_last (xs : List V) : cutV xs none (some (-1)) = xs.take (xs.length - 1) := by
  unfold cutV
  rw [HT.sIx_none, List.drop_zero, Nat.sub_zero]
  have e : HT.sIx xs.length xs.length (some (-1)) = xs.length - 1 := by
    show (if (-1 : Int) < 0 then ((-1 : Int) + (xs.length : Int)).toNat else min (-1 : Int).toNat xs.length) = _
    rw [if_pos (by decide)]
    omega
  rw [e]
theorem cutS_last (r : List Nat) : cutS (tx r) none (some (-1)) = tx (r.take (r.length - 1)) := by
  unfold cutS
  rw [HT.sIx_none, List.drop_zero, Nat.sub_zero, tx_cps, tx_len]
  have e : HT.sIx r.length r.length (some (-1)) = r.length - 1 := by
    show (if (-1 : Int) < 0 then ((-1 : Int) + (r.length : Int)).toNat else min (-1 : Int).toNat r.length) = _
    rw [if_pos (by decide)]
    omega
  rw [e]
  rfl
theorem atI_last {α : Type} {xs : List α} (h : 1 ≤ xs.length) (d : α) : atI xs (-1) = some (xs.getD (xs.length - 1) d) := by
  unfold atI ixN
  rw [if_neg (by decide), if_pos (by omega)]
  have e : ((-1 : Int) + (xs.length : Int)).toNat = xs.length - 1 := by omega
  show xs[((-1 : Int) + (xs.length : Int)).toNat]? = _
  rw [e, List.getD_eq_getElem?_getD, List.getElem?_eq_getElem (by omega)]
  rfl
/-- Island(rows), the rows told -/
theorem mk_read {K : PySem.W.Frag} {CI C0 a x dx : Addr} {H : Hp} {W : Hp → Prop} {E : XK} {rows : List (List Nat)} (ok : RowsOk 12 rows) (hS : SqT K H a (rows.map vt)) (hx : H x = none) (hdx : H dx = none) (k : ∀ H', Same H H' → Isl K CI H' x rows → W H') :
    spIsl K CI C0 (.ref x :: ([.ref a] ++ [])) (upd (upd H dx (.own x)) x (.ins CI dx [])) (fun v H2 => v = .non ∧ W H2) E := by
  have g := ok.good (Nat.le_refl _)
  have s2 : Same H (upd (upd H dx (.own x)) x (.ins CI dx [])) := fun c o hc => by
    rw [upd_ne (ne_of_none hc hx), upd_ne (ne_of_none hc hdx)]
    exact hc
  refine ⟨x, dx, a, rows, rfl, upd_same, Same.tup s2 hS, g.le, g.lens, fun e H2 k1 k2 => ⟨rfl, ?_⟩, fun r c e => by rw [chk_rows ok (Nat.le_refl _)] at e; cases e⟩
  have s3 : Same H H2 := fun c o hc => k1 c o (s2 c o hc) (ne_of_none hc hx)
  exact k H2 s3 ⟨dx, a, k2, Same.tup s3 hS⟩
theorem nilArgs {σ : L2.St} {H : Hp} {Q : List V → Hp → Prop} (h : Q [] H) : tNil σ H Q := h
theorem noPart {σ : L2.St} {H : Hp} {Q : Option Int → Hp → Prop} (h : Q none H) : tNoPart σ H Q := h
end Om

namespace Om
open PySem PySem.Spec PyProof.Rows L2 LamX He OmH
def tl10 : List Stmt := (defBody sLaw).drop 10
section
variable {P : Program} {w : World} {K : PySem.W.Frag} {mg : Str → Option Value} {base : Heap} {c Pt : Addr}
theorem law_tail10 {f : Addr} (PP : Parts P w K mg base) (mQ : OwnM K (gI K) "__eq__" (ma K (gI K) "__eq__")) (mT : Meth K (gI K) "turned" (ma K (gI K) "turned"))
    (pR : PropOf K (gI K) "rows" (ma K (gI K) "rows") (getA K (gI K) "rows")) (pH : PropOf K (gI K) "height" (ma K (gI K) "height") (getA K (gI K) "height")) (pW : PropOf K (gI K) "width" (ma K (gI K) "width") (getA K (gI K) "width"))
    (glen : mg "len" = none) (glist : mg "list" = none) (gtuple : mg "tuple" = none) (gint : mg "int" = none)
    {A : Around} {outer : List Env} {s : Shared} {H0 : Hp} {E : XK} (hr : Room 8 (A.deeper (envOfC "law" (defScope sLaw) s.heap.objs.size f (.ref c)))) :
    ∃ t, PSs (cxOf CX0 P w K mg base nLaw "law" (defScope sLaw) f (.ref c) A outer s H0 E).nox tl10 t ∧
      ∀ (Dn : Ends) (pr xi xt cl : Addr) (rows : List (List Nat)) (H : Hp) (v0 v1 v4 v5 v7 v8 v10 v11 : Option V),
        F2 K Pt H pr xi xt cl rows → RowsOk 12 rows → (∀ H', Dn.rt (.bl true) H') →
        t Dn [v0, v1, some (.ref pr), some (.ref cl), v4, v5, some (.ref xt), v7, v8, some (.ref xi), v10, v11] H := by
  obtain ⟨fI, GI, bI⟩ := PP.mkI.ex
  obtain ⟨fT, GT, bT⟩ := PP.trn.ex
  obtain ⟨fQ, GQ, bQ⟩ := PP.eqI.ex
  obtain ⟨h0, G0, b0⟩ := PP.pRw.ex
  obtain ⟨h1, G1, b1⟩ := PP.pHg.ex
  obtain ⟨h2, G2, b2⟩ := PP.pWd.ex
  have TI := PP.isl
  have nd := scLaw.nd
  have hr1 : Room 1 _ := hr.mono (by decide)
  have hr2 : Room 2 _ := hr.mono (by decide)
  have hr5 : Room 5 _ := hr.mono (by decide)
  have hr6 : Room 6 _ := hr.mono (by decide)
  refine ⟨_, pss_cons (ps_if (PW.pt (pw_or (pt_cmpR (op_neD hr.units) (pe_tup (pa_cons (pe_prop (pv 6) TI.cl pH G1 hr2 b1 .nil pass0 rfl) (pa_cons (pe_prop (pv 6) TI.cl pW G2 hr2 b2 .nil pass0 rfl) pa_nil))) (pe_tup (pa_cons (pe_callB call_len_str (by rfl) glen PySem.boot_len (pa_cons (pe_ix ix_tup (pv 2) pe_int (fun _ _ => rfl)) pa_nil)) (pa_cons (pe_callB call_len_seq (by rfl) glen PySem.boot_len (pa_cons (pv 2) pa_nil)) pa_nil))) (nomark _))
        (pw_or1 (pt_not (pt_cmpR (op_eqOwn mQ GQ hr1 bQ pass0) (pe_meth0 (pe_meth0 (pe_meth0 (pv 6) TI.cl mT GT hr6 bT .nil passE0) TI.cl mT GT hr6 bT .nil passE0) TI.cl mT GT hr6 bT .nil passE0) (pv 9) (nomark _)))))) (pss_one (ps_ret pe_bl)) pss_nil)
      (pss_cons (ps_set (i := 8) nd rfl (.inl rfl) (pe_make TI.made GI hr5 rfl TI.gI bI .nil passE0 (pa_cons (pe_op op_catA (pe_slice sl_tupA (pv 2) po_none (po_some (pe_un un_neg pe_int))) (pe_tup (pa_cons (pe_op op_add_str (pe_slice sl_str (pe_ix ix_tup (pv 2) (pe_un un_neg pe_int) (fun _ _ => rfl)) po_none (po_some (pe_un un_neg pe_int)))
          (pe_ix ix_list (pe_lst (pa_cons pe_str (pa_cons pe_str pa_nil))) (pe_callTy call_int1 (by rfl) gint boot_int (pa_cons (pe_cmpR op_eq (pe_ix ix_str (pe_ix ix_tup (pv 2) (pe_un un_neg pe_int) (fun _ _ => rfl)) (pe_un un_neg pe_int) (fun _ _ => rfl)) pe_str (nomark _)) pa_nil)) (fun _ _ => rfl))) pa_nil))) pa_nil)))
      (pss_one (ps_ret (pe_and (pe_not (pe_cmpR (op_eqOwn mQ GQ hr1 bQ pass0) (pv 8) (pv 9) (nomark _))) (pe_and (pe_cmpR (op_eqOwn mQ GQ hr1 bQ pass0) (pv 9) (pe_make TI.made GI hr5 rfl TI.gI bI .nil passE0 (pa_cons (pe_callTy call_tuple_of (by rfl) gtuple (by decide +kernel) (pa_cons (pe_callTy call_list_of (by rfl) glist (by decide +kernel) (pa_cons (pv 2) pa_nil)) pa_nil)) pa_nil)) (nomark _))
        (pe_one (pe_cmpR op_eq (pe_cmpR (op_eqOwn mQ GQ hr1 bQ pass0) (pv 6) (pv 9) (nomark _)) (pe_cmpR (op_eqD hr.units) (pe_prop (pv 6) TI.cl pR G0 hr2 b0 .nil pass0 rfl) (pv 2) (nomark _)) (nomark _)))))))), ?_⟩
  intro Dn pr xi xt cl rows H v0 v1 v4 v5 v7 v8 v10 v11 F ok kq
  obtain ⟨w1, w2, w3⟩ := rows_width ok
  have hh := ok.h1
  have hm := ok.hm
  have R := ok.rect
  have okT := turned_ok ok
  have RT := turned_rect R hh
  have okT2 := turned_ok okT
  have okT3 := turned_ok okT2
  have g := ok.vd (Nat.le_refl _)
  have gT := okT.vd (Nat.le_refl _)
  have gT3 := (turned_ok okT3).vd (Nat.le_refl _)
  have ew := rect_headD RT w1
  obtain ⟨dx, pt, hx, hxS⟩ := id F.U
  obtain ⟨di, pi, hi, hiS⟩ := id F.I
  obtain ⟨r0, rs, er⟩ : ∃ r0 rs, rows = r0 :: rs := by
    cases rows with
    | nil => simp at hh
    | cons r0 rs => exact ⟨r0, rs, rfl⟩
  have hr0 : (tx (rows.headD [])).length ≤ sizeLine := by rw [tx_len]; exact small_le (by omega)
  have at00 : atI (rows.map vt) 0 = some (vt (rows.headD [])) := by rw [er]; exact at0
  -- height and width
  refine ⟨_, rfl, xt, dx, _, rfl, hx, xt, turnedRows rows, rfl, F.U, _, rfl, xt, dx, _, rfl, hx, xt, turnedRows rows, rfl, F.U, gT.toShp, by show 2 ≤ sizeLine; decide, fun q hq => ?_⟩
  have s1 := Same.new (Same.refl H) hq (o := .tup [.int ((turnedRows rows).length : Nat), .int (((turnedRows rows).headD []).length : Nat)])
  have dq : Dp K (upd H q (.tup [.int ((turnedRows rows).length : Nat), .int (((turnedRows rows).headD []).length : Nat)])) (.ref q) (.tuple [.int ((rows.headD []).length : Nat), .int (rows.length : Nat)]) := by
    rw [← RT.len, ← ew]
    exact .tup (.inl (.inl upd_same)) (.cons (.int _) (.cons (.int _) .nil))
  have F1 := F.same s1
  have hx1 := s1 _ _ hx
  have hi1 := s1 _ _ hi
  generalize upd H q (.tup [.int ((turnedRows rows).length : Nat), .int (((turnedRows rows).headD []).length : Nat)]) = H1 at s1 dq F1 hx1 hi1 ⊢
  refine ⟨_, rfl, pr, _, 0, _, rfl, rfl, F1.R, at00, _, rfl, hr0, _, rfl, pr, _, rfl, .inr F1.R, by show 2 ≤ sizeLine; decide, fun q2 hq2 => ?_⟩
  rw [tx_len, List.length_map]
  have s2 := Same.new (Same.refl H1) hq2 (o := .tup [.int ((rows.headD []).length : Nat), .int (rows.length : Nat)])
  refine ⟨_, _, Same.dp s2 dq, .tup (.inl (.inl upd_same)) (.cons (.int _) (.cons (.int _) .nil)), sh_pair _ _, sh_pair _ _, _, rfl, ?_⟩
  rw [eqv_pair]
  refine iteF' rfl ?_
  have F2' := F1.same s2
  have hx2 := s2 _ _ hx1
  have hi2 := s2 _ _ hi1
  generalize upd H1 q2 (.tup [.int ((rows.headD []).length : Nat), .int (rows.length : Nat)]) = H2 at F2' hx2 hi2 ⊢
  clear s1 s2 dq F F1 hx hi hx1 hi1 hq hq2 hxS hiS
  -- turned four times
  refine ⟨_, rfl, xt, dx, _, rfl, hx2, rfl, nilArgs ⟨xt, turnedRows rows, rfl, F2'.U, okT, fun b1 H3 s3 I1 => ?_⟩⟩
  obtain ⟨d1, p1, hb1, _⟩ := id I1
  refine ⟨b1, d1, _, rfl, hb1, rfl, nilArgs ⟨b1, _, rfl, I1, okT2, fun b2 H4 s4 I2 => ?_⟩⟩
  obtain ⟨d2, p2, hb2, _⟩ := id I2
  refine ⟨b2, d2, _, rfl, hb2, rfl, nilArgs ⟨b2, _, rfl, I2, okT3, fun b3 H5 s5 I3 => ?_⟩⟩
  obtain ⟨d3, p3, hb3, _⟩ := id I3
  have s25 := (s3.trans s4).trans s5
  have F5 := F2'.same s25
  refine ⟨_, rfl, b3, d3, _, xi, di, _, rfl, hb3, rfl, s25 _ _ hi2, b3, xi, _, rows, rfl, I3, F5.I, gT3.lo, g.lo, _, rfl, _, rfl, ?_⟩
  rw [turned4 R hh w1]
  refine iteF' (by simp) ?_
  have hx5 := s25 _ _ hx2
  have hi5 := s25 _ _ hi2
  clear s3 s4 s5 s25 I1 I2 I3 hb1 hb2 hb3 F2' hx2 hi2
  -- one sign changed
  have hll : lastRow rows ∈ rows := (rect_getD R (by omega)).1
  have hlw := w3 _ hll
  have atL : atI (rows.map vt) (-1) = some (vt (lastRow rows)) := by
    have z := atI_last (xs := rows.map vt) (by rw [List.length_map]; exact hh) (vt [])
    rw [List.getD_eq_getElem?_getD, List.getElem?_map, List.length_map] at z
    rw [z]
    unfold lastRow
    rw [List.getD_eq_getElem?_getD, List.getElem?_eq_getElem (by omega)]
    rfl
  have hln : (tx (lastRow rows)).length ≤ sizeLine := by rw [tx_len]; exact small_le (by omega)
  have atS : atI (tx (lastRow rows)).cps.toList (-1) = some (lastSg rows) := by
    rw [tx_cps]
    exact atI_last (by omega) 0
  refine ⟨_, rfl, ?_⟩
  refine noPart ?_
  refine ⟨1, rfl, _, rfl, ?_⟩
  refine slA_read F5.R fun p5 H6 s6 hp6 => ?_
  rw [cutV_last] at hp6
  have F6 := F5.same s6
  refine ⟨_, rfl, 1, rfl, pr, _, -1, _, rfl, rfl, F6.R, atL, ?_⟩
  refine noPart ?_
  refine ⟨1, rfl, _, rfl, _, rfl, hln, by show 2 ≤ sizeLine; decide, fun l1 hl1 => ?_⟩
  rw [cutS_last]
  have s7 := Same.new (Same.refl H6) hl1 (o := .lst [.str (Str.ofString "~"), .str (Str.ofString "A")])
  have F7 := F6.same s7
  refine ⟨_, rfl, 1, rfl, pr, _, -1, _, rfl, rfl, F7.R, atL, 1, rfl, _, -1, _, rfl, rfl, hln, atS, rfl, .inr ⟨_, rfl, ?_⟩⟩
  have eW : Str.ofString "~" = tx [126] := by decide +kernel
  have eA : Str.ofString "A" = tx [65] := by decide +kernel
  have ed : decide (V.str ⟨#[lastSg rows]⟩ = V.str (Str.ofString "~")) = decide (lastSg rows = 126) := by
    rw [show Str.ofString "~" = (⟨#[126]⟩ : Str) from by decide +kernel]
    apply decide_eq_decide.mpr
    simp
  have hidx : atI [V.str (Str.ofString "~"), V.str (Str.ofString "A")] (if decide (V.str ⟨#[lastSg rows]⟩ = V.str (Str.ofString "~")) = true then 1 else 0) = some (vt [newSg (lastSg rows)]) := by
    rw [ed]
    unfold newSg
    by_cases h : lastSg rows = 126
    · rw [if_pos h, if_pos (decide_eq_true h), eA]
      rfl
    · rw [if_neg h, if_neg (by rw [decide_eq_false h]; exact Bool.false_ne_true), eW]
      rfl
  refine ⟨l1, _, _, _, rfl, rfl, .inl (.inl upd_same), hidx, _, _, rfl, rfl, ?_, by show 1 ≤ sizeLine; decide, fun q7 hq7 => ?_⟩
  · rw [tx_len, tx_len]
    exact small_le (by rw [List.length_take, List.length_singleton]; omega)
  rw [tx_app]
  have s8 := Same.new (Same.refl _) hq7 (o := .tup [vt ((lastRow rows).take ((lastRow rows).length - 1) ++ [newSg (lastSg rows)])])
  have s68 := s7.trans s8
  refine catA_read (xs := (rows.map vt).take ((rows.map vt).length - 1)) (ys := [vt ((lastRow rows).take ((lastRow rows).length - 1) ++ [newSg (lastSg rows)])]) (Same.tup s68 hp6) (.inl (.inl upd_same)) (by rw [List.length_take, List.length_map, List.length_singleton]; exact small_le (by omega)) fun p9 H9 s9 hp9 => ?_
  have eo : (rows.map vt).take ((rows.map vt).length - 1) ++ [vt ((lastRow rows).take ((lastRow rows).length - 1) ++ [newSg (lastSg rows)])] = (otherRows rows).map vt := by
    unfold otherRows
    rw [List.map_append, List.length_map, List.map_take]
    rfl
  rw [eo] at hp9
  have s59 := (s6.trans s68).trans s9
  have F9 := F5.same s59
  refine nilArgs ?_
  intro xo dxo hxo hdxo _
  refine mk_read (other_ok ok) hp9 hxo hdxo fun H10 s10 Io => ?_
  have F10 := F9.same s10
  have s510 := s59.trans s10
  have hx10 := s510 _ _ hx5
  have hi10 := s510 _ _ hi5
  obtain ⟨do', po, ho, _⟩ := id Io
  have gO := (other_ok ok).vd (Nat.le_refl _)
  clear s6 s7 s8 s9 s10 s59 s68 s510 hp6 hp9 F5 F6 F7 F9 hx5 hi5 hl1 hq7
  -- the answer
  refine ⟨_, rfl, _, rfl, xo, do', _, xi, di, _, rfl, ho, rfl, hi10, xo, xi, otherRows rows, rows, rfl, Io, F10.I, gO.lo, g.lo, _, rfl, _, rfl, _, rfl, ?_⟩
  rw [decide_eq_false (other_ne ok)]
  refine iteT' rfl ?_
  refine ⟨_, rfl, _, rfl, pr, _, rfl, .inr F10.R, fun l hl => ⟨l, _, rfl, .inl ⟨.inl (.inl upd_same), fun t ht => ?_⟩⟩⟩
  refine nilArgs ?_
  have s11 := Same.new (Same.new (Same.refl H10) hl (o := .lst (rows.map vt))) ht (o := .tup (rows.map vt))
  intro x2 dx2 hxx hdxx _
  refine mk_read ok (.inl (.inl upd_same)) hxx hdxx fun H12 s12 I12 => ?_
  have s1012 := s11.trans s12
  have F12 := F10.same s1012
  obtain ⟨e2, p12, h12, _⟩ := id I12
  refine ⟨xi, di, _, x2, e2, _, rfl, s1012 _ _ hi10, rfl, h12, xi, x2, rows, rows, rfl, F12.I, I12, g.lo, g.lo, _, rfl, _, rfl, ?_⟩
  refine iteT' (by simp) ?_
  obtain ⟨dx3, pt3, hx3, hxS3⟩ := id F12.U
  refine ⟨_, rfl, _, rfl, xt, dx3, _, xi, di, _, rfl, hx3, rfl, s1012 _ _ hi10, xt, xi, turnedRows rows, rows, rfl, F12.U, F12.I, gT.lo, g.lo, _, rfl, _, rfl, xt, dx3, _, rfl, hx3, xt, dx3, pt3, rfl, hx3, _, rfl, _, _, .tup hxS3 (dpAll_rows _), .tup F12.R (dpAll_rows rows), shaped_rows gT.lo, shaped_rows g.lo, rfl, ?_⟩
  rw [eqv_rows]
  rw [decide_eq_true (rfl : V.bl (decide (turnedRows rows = rows)) = V.bl (decide (turnedRows rows = rows)))]
  exact kq _
end
end Om

namespace Om
open PySem PySem.Spec PyProof.Rows L2 LamX He OmH
def tl9 : List Stmt := (defBody sLaw).drop 9
theorem pe_imp {X : Cx} {e : Expr} {t u : TE} (he : PE X e t) (h : ∀ σ H Q, u σ H Q → t σ H Q) : PE X e u := ⟨fun pins s σ H Q I q => he.run pins s σ H Q I (h σ H Q q)⟩
/-- whether the place of the slots 10 and 4 lies within the rows of slot 2 -/
def tIn (K : PySem.W.Frag) : TE := fun σ H Q => ∃ (p : Addr) (rows : List (List Nat)) (r q : Int), σ[2]? = some (some (.ref p)) ∧ σ[10]? = some (some (.int r)) ∧ σ[4]? = some (some (.int q)) ∧ SqT K H p (rows.map vt) ∧ 1 ≤ rows.length ∧ (tx (rows.headD [])).length ≤ sizeLine ∧ Q (.bl (insd rows r q)) H
theorem sgAt_sg2 (rows : List (List Nat)) (i j : Nat) : sgAt rows ((i : Nat) : Int) ((j : Nat) : Int) = sg2 rows i j := rfl
section
variable {P : Program} {w : World} {K : PySem.W.Frag} {mg : Str → Option Value} {base : Heap} {c Pt gE : Addr}
theorem law_tail9 {f : Addr} {fdE : FuncData} (TB : TabB base mg c Pt) (PP : Parts P w K mg base) (FE : FnP K "_law_error" "_law_error" sErr gE fdE) (bE : Binds K fdE ["_law_work"] []) (hgE : mg "_law_error" = some (.ref gE))
    (mQ : OwnM K (gI K) "__eq__" (ma K (gI K) "__eq__")) (mG : OwnM K (gI K) "__getitem__" (ma K (gI K) "__getitem__")) (mC : OwnM K (gI K) "__contains__" (ma K (gI K) "__contains__")) (mT : Meth K (gI K) "turned" (ma K (gI K) "turned"))
    (pR : PropOf K (gI K) "rows" (ma K (gI K) "rows") (getA K (gI K) "rows")) (pH : PropOf K (gI K) "height" (ma K (gI K) "height") (getA K (gI K) "height")) (pW : PropOf K (gI K) "width" (ma K (gI K) "width") (getA K (gI K) "width"))
    (grange : mg "range" = none) (glen : mg "len" = none) (glist : mg "list" = none) (gtuple : mg "tuple" = none) (gint : mg "int" = none)
    {A : Around} {outer : List Env} {s : Shared} {H0 : Hp} {E : XK} (hr : Room 8 (A.deeper (envOfC "law" (defScope sLaw) s.heap.objs.size f (.ref c)))) :
    ∃ t, PSs (cxOf CX0 P w K mg base nLaw "law" (defScope sLaw) f (.ref c) A outer s H0 E).nox tl9 t ∧
      ∀ (Dn : Ends) (pr xi xt cl : Addr) (rows : List (List Nat)) (H : Hp) (v0 v1 v4 v5 v7 v8 v10 v11 : Option V),
        F2 K Pt H pr xi xt cl rows → RowsOk 12 rows → (∀ H', Dn.rt (.bl true) H') →
        t Dn [v0, v1, some (.ref pr), some (.ref cl), v4, v5, some (.ref xt), v7, v8, some (.ref xi), v10, v11] H := by
  obtain ⟨t10, q10, r10⟩ := law_tail10 (Pt := Pt) (f := f) (H0 := H0) (E := E) (outer := outer) PP mQ mT pR pH pW glen glist gtuple gint hr
  obtain ⟨ocE, odE, dE, kE, docE, pmE, anE, cdE, ctE, oslE, rfl, lkE, hcE, _, _⟩ := FE.ex
  obtain ⟨fG, GG, bG⟩ := PP.get.ex
  obtain ⟨fC, GC, bC⟩ := PP.has.ex
  have TI := PP.isl
  have nd := scLaw.nd
  have hr3 : Room 3 _ := hr.mono (by decide)
  have hr4 : Room 4 _ := hr.mono (by decide)
  have hr6 : Room 6 _ := hr.mono (by decide)
  have hu65 : (A.deeper (envOfC "law" (defScope sLaw) s.heap.objs.size f (.ref c))).units + 65 < cLine := by have := hr.un; omega
  have hu : ∀ p ∈ TT1 Pt, p.1 = Pt → p.2 = lamQ := fun p hp _ => by rw [List.mem_singleton.mp hp]
  have hm : (Pt, lamQ) ∈ TT1 Pt := List.mem_singleton.mpr rfl
  refine ⟨_, pss_cons (ps_for PassesOwn.never rfl (pi_range2 rfl grange (pa_cons (pe_un un_neg pe_int) (pa_cons (pe_op op_add (pe_callB call_len_seq (by rfl) glen PySem.boot_len (pa_cons (pv 2) pa_nil)) pe_int) pa_nil))) (pg_name (i := 10) nd rfl (.inr rfl))
      (pss_one (ps_for PassesOwn.never rfl (pi_range2 rfl grange (pa_cons (pe_un un_neg pe_int) (pa_cons (pe_op op_add (pe_callB call_len_str (by rfl) glen PySem.boot_len (pa_cons (pe_ix ix_tup (pv 2) pe_int (fun _ _ => rfl)) pa_nil)) pe_int) pa_nil))) (pg_name (i := 4) nd rfl (.inr rfl))
        (pss_cons (ps_set (i := 7) nd rfl (.inl rfl) (pe_imp (u := tIn K) (pe_and (pe_chain op_le op_lt pe_int (pv 10) (pe_callB call_len_seq (by rfl) glen PySem.boot_len (pa_cons (pv 2) pa_nil))) (pe_one (pe_chain op_le op_lt pe_int (pv 4) (pe_callB call_len_str (by rfl) glen PySem.boot_len (pa_cons (pe_ix ix_tup (pv 2) pe_int (fun _ _ => rfl)) pa_nil))))) ?imp))
        (pss_cons (ps_if (pt_cmpR op_ne (pe_cmpR (op_inOwn mC GC hr3 bC pass0) (pe_tup (pa_cons (pv 10) (pa_cons (pv 4) pa_nil))) (pv 9) (by with_unfolding_all rfl)) (pe_cmpR (op_inD hu65) (pe_tup (pa_cons (pv 10) (pa_cons (pv 4) pa_nil))) (pv 3) (by with_unfolding_all rfl)) (nomark _)) (pss_one (ps_ret pe_bl)) pss_nil)
        (pss_cons (ps_if (pt_cmpR op_ne (pe_lamG0 (T := TT1 Pt) (TT := TErr (Ce K)) (k := 4) rfl hgE FE.kp lkE hcE bE scErr rfl (.inl rfl) (err_gives PP.err) TB rfl hm hu hr6 hr3 lg9 rfl (fun _ _ _ _ _ => rfl)
            (fun A outer s H E f c' hrb => pe_ixOwn mG GG hrb bG (passes_call (W := fun cls d _ H => E cls d H) (takes_of rfl rfl rfl rfl) fun _ _ _ _ h => h) (pv 9) (pe_tup (pa_cons (pv 10) (pa_cons (pv 4) pa_nil))))) (pe_ifExp (pt_val (pv 7)) pe_str pe_str) (nomark _)) (pss_one (ps_ret pe_bl)) pss_nil)
        (pss_cons (ps_if (PW.pt (pw_and (pt_val (pv 7)) (pw_and1 (pt_cmpR op_ne (pe_ixOwn mG GG hr4 bG passE0 (pv 9) (pe_tup (pa_cons (pv 10) (pa_cons (pv 4) pa_nil)))) (pe_ix ix_str (pe_ix ix_tup (pv 2) (pv 10) (fun _ _ => rfl)) (pv 4) (fun _ _ => rfl)) (nomark _))))) (pss_one (ps_ret pe_bl)) pss_nil)
        (pss_one (ps_if (pt_val (pv 7)) (pss_one (ps_if (pt_cmpR op_ne (pe_ixOwn mG GG hr4 bG passE0 (pv 6) (pe_tup (pa_cons (pv 4) (pa_cons (pe_op op_sub (pe_op op_sub (pe_callB call_len_seq (by rfl) glen PySem.boot_len (pa_cons (pv 2) pa_nil)) pe_int) (pv 10)) pa_nil)))) (pe_ix ix_str (pe_ix ix_tup (pv 2) (pv 10) (fun _ _ => rfl)) (pv 4) (fun _ _ => rfl)) (nomark _)) (pss_one (ps_ret pe_bl)) pss_nil)) pss_nil))))))))) q10, ?_⟩
  case imp =>
    intro σ H Q h
    obtain ⟨p, rows, r, q, h2, h10, h4, hS, h1, hl, k⟩ := h
    have at00 : atI (rows.map vt) 0 = some (vt (rows.headD [])) := by
      cases rows with
      | nil => simp at h1
      | cons r0 rs => exact at0
    unfold insd inR at k
    refine ⟨_, h10, 0, r, rfl, rfl, _, rfl, ?_⟩
    by_cases c1 : (0 : Int) ≤ r
    · rw [decide_eq_true c1] at k ⊢
      refine iteT' rfl ⟨_, h2, p, _, rfl, .inr hS, r, _, rfl, rfl, _, rfl, ?_⟩
      rw [List.length_map]
      by_cases c2 : r < (rows.length : Nat)
      · rw [decide_eq_true c2]
        rw [decide_eq_true (show r ≤ (rows.length : Int) - 1 by omega)] at k
        refine iteT' rfl ?_
        refine ⟨_, h4, 0, q, rfl, rfl, _, rfl, ?_⟩
        by_cases c3 : (0 : Int) ≤ q
        · rw [decide_eq_true c3] at k ⊢
          refine iteT' rfl ⟨_, h2, p, _, 0, _, rfl, rfl, hS, at00, _, rfl, hl, q, _, rfl, rfl, ?_⟩
          rw [tx_len]
          show Q (V.bl (decide (q < ((rows.headD []).length : Int)))) H
          by_cases c4 : q < ((rows.headD []).length : Nat)
          · rw [decide_eq_true c4]
            rw [decide_eq_true (show q ≤ ((rows.headD []).length : Int) - 1 by omega)] at k
            exact k
          · rw [decide_eq_false c4]
            rw [decide_eq_false (show ¬ q ≤ ((rows.headD []).length : Int) - 1 by omega)] at k
            exact k
        · rw [decide_eq_false c3] at k ⊢
          exact iteF' rfl k
      · rw [decide_eq_false c2]
        rw [decide_eq_false (show ¬ r ≤ (rows.length : Int) - 1 by omega)] at k
        exact iteF' rfl k
    · rw [decide_eq_false c1] at k ⊢
      exact iteF' rfl ⟨_, rfl, iteF' rfl k⟩
  intro Dn pr xi xt cl rows H v0 v1 v4 v5 v7 v8 v10 v11 F ok kq
  obtain ⟨w1, w2, w3⟩ := rows_width ok
  have hh := ok.h1
  have hmx := ok.hm
  have R := ok.rect
  have okT := turned_ok ok
  have RT := turned_rect R hh
  have g := ok.vd (Nat.le_refl _)
  have gT := okT.vd (Nat.le_refl _)
  have ew := rect_headD RT w1
  have at00 : atI (rows.map vt) 0 = some (vt (rows.headD [])) := by
    cases rows with
    | nil => simp at hh
    | cons r0 rs => exact at0
  have hr0 : (tx (rows.headD [])).length ≤ sizeLine := by rw [tx_len]; exact small_le (by omega)
  refine ⟨1, rfl, _, rfl, pr, _, rfl, .inr F.R, _, _, rfl, rfl, -1, _, rfl, ?_, ?_⟩
  · rw [List.length_map]
    omega
  rw [List.length_map]
  refine for_range (lo := -1) (n := ((rows.length : Int) + 1 - -1).toNat) (fun i σ H' => F2 K Pt H' pr xi xt cl rows ∧ ∃ v4 v7 v10, σ = [v0, v1, some (.ref pr), some (.ref cl), v4, v5, some (.ref xt), v7, v8, some (.ref xi), v10, v11])
    ⟨F, _, _, _, rfl⟩ ?_ ?_
  · rintro i σ H1 hi ⟨F1, v4, v7, v10, rfl⟩
    refine ⟨1, rfl, _, rfl, pr, _, 0, _, rfl, rfl, F1.R, at00, _, rfl, hr0, _, _, rfl, rfl, -1, _, rfl, ?_, ?_⟩
    · rw [tx_len]
      omega
    rw [tx_len]
    refine for_range (lo := -1) (n := (((rows.headD []).length : Int) + 1 - -1).toNat) (fun j σ H' => F2 K Pt H' pr xi xt cl rows ∧ ∃ v4 v7, σ = [v0, v1, some (.ref pr), some (.ref cl), v4, v5, some (.ref xt), v7, v8, some (.ref xi), some (.int (-1 + (i : Int))), v11])
      ⟨F1, _, _, rfl⟩ ?_ ?_
    · rintro j σ H2 hj ⟨F3, v4, v7, rfl⟩
      generalize -1 + (i : Int) = r
      refine ⟨pr, rows, r, -1 + (j : Int), rfl, rfl, rfl, F3.R, hh, hr0, ?_⟩
      generalize -1 + (j : Int) = q
      obtain ⟨dx, pt, hx, hxS⟩ := id F3.U
      obtain ⟨di, pi, hi3, hiS⟩ := id F3.I
      -- in
      refine ⟨_, rfl, _, rfl, by show 2 ≤ sizeLine; decide, fun q1 hq1 => ?_⟩
      have s1 := Same.new (Same.refl H2) hq1 (o := .tup [.int r, .int q])
      refine ⟨_, rfl, xi, di, _, rfl, s1 _ _ hi3, xi, q1, rows, r, q, rfl, F3.I.same s1, g.toGood2, .inl (.inl upd_same), _, rfl, ?_⟩
      refine ⟨_, rfl, _, rfl, by show 2 ≤ sizeLine; decide, fun q2 hq2 => ?_⟩
      have s2 := Same.new (Same.refl _) hq2 (o := .tup [.int r, .int q])
      have s12 := s1.trans s2
      refine ⟨_, rfl, .tuple [.int r, .int q], (cellsOf rows).map cdp, .tup (.inl (.inl upd_same)) (.cons (.int _) (.cons (.int _) .nil)), Same.dp s12 F3.C, sh_pair _ _, sh_cells _, rfl, _, rfl, ?_⟩
      rw [cells_any g.toGood2]
      refine iteF' (by simp) ?_
      have F4 := F3.same s12
      have hi4 := s12 _ _ hi3
      have hx4 := s12 _ _ hx
      generalize upd (upd H2 q1 (.tup [.int r, .int q])) q2 (.tup [.int r, .int q]) = H4 at F4 hi4 hx4 ⊢
      clear s1 s2 s12 hq1 hq2 F3 F1 F hi3 hx hiS hxS
      cases hb : insd rows r q with
      | false =>
        refine ⟨F4.T, fun H5 e5 T5 => ?_⟩
        have F5 := F4.ext e5 T5
        have hi5 := e5 _ _ hi4 fun ps e => by cases e
        refine ⟨_, rfl, _, rfl, _, rfl, by show 2 ≤ sizeLine; decide, fun q3 hq3 => ?_⟩
        have s3 := Same.new (Same.refl H5) hq3 (o := .tup [.int r, .int q])
        refine ⟨xi, di, _, rfl, s3 _ _ hi5, xi, q3, rows, r, q, rfl, F5.I.same s3, g.toGood2, .inl (.inl upd_same), fun e => (by rw [hb] at e; cases e), fun _ => ErrOut.other (j := 6) (by decide) (by decide) fun H7 s7 => ?_⟩
        have F7 := F5.same (s3.trans s7)
        refine ⟨_, rfl, _, rfl, iteF' rfl ⟨rfl, _, rfl, ?_⟩⟩
        refine iteF' (by show (!decide (V.str (Str.ofString "UnknownCell") = V.str (Str.ofString "UnknownCell"))) = false; rw [decide_eq_true rfl]; rfl) ?_
        refine ⟨_, rfl, _, rfl, iteF' rfl (iteF' rfl ?_)⟩
        refine ⟨_, rfl, _, rfl, iteF' rfl ?_⟩
        exact ⟨F7, _, _, rfl⟩
      | true =>
        obtain ⟨rw', ch, h1, h2, h3, hmr, hr0', hq0⟩ := insd_at g.toGood2 hb
        have ei : atI (rows.map vt) r = some (vt rw') := by
          have z := atI_nat (xs := rows.map vt) (j := r.toNat) (v := vt rw') (by rw [List.getElem?_map, h1]; rfl)
          rwa [Int.toNat_of_nonneg hr0'] at z
        have ej : atI (tx rw').cps.toList q = some ch := by
          have z := atI_nat (xs := (tx rw').cps.toList) (j := q.toNat) (v := ch) (by rw [tx_cps]; exact h2)
          rwa [Int.toNat_of_nonneg hq0] at z
        have hlr : (tx rw').length ≤ sizeLine := by rw [tx_len]; exact small_le (g.row rw' hmr)
        have hrl : r.toNat < rows.length := (List.getElem?_eq_some_iff.mp h1).1
        have hql : q.toNat < (rows.headD []).length := by
          have := (List.getElem?_eq_some_iff.mp h2).1
          have := w3 rw' hmr
          omega
        have hbT : insd (turnedRows rows) q ((rows.length : Int) - 1 - r) = true := by
          unfold insd inR
          rw [RT.len, ew]
          simp only [Bool.and_eq_true, decide_eq_true_eq]
          omega
        have hsT : sgAt (turnedRows rows) q ((rows.length : Int) - 1 - r) = ch := by
          have e1 : ((rows.length : Int) - 1 - r).toNat = rows.length - 1 - r.toNat := by omega
          have z := turned_sg R hh (i := q.toNat) (j := rows.length - 1 - r.toNat) hql (by omega)
          have e2 : rows.length - 1 - (rows.length - 1 - r.toNat) = r.toNat := by omega
          rw [e2] at z
          unfold sgAt
          rw [e1]
          exact z.trans h3
        refine ⟨F4.T, fun H5 e5 T5 => ?_⟩
        have F5 := F4.ext e5 T5
        have hi5 := e5 _ _ hi4 fun ps e => by cases e
        have hx5 := e5 _ _ hx4 fun ps e => by cases e
        refine ⟨_, rfl, _, rfl, _, rfl, by show 2 ≤ sizeLine; decide, fun q3 hq3 => ?_⟩
        have s3 := Same.new (Same.refl H5) hq3 (o := .tup [.int r, .int q])
        refine ⟨xi, di, _, rfl, s3 _ _ hi5, xi, q3, rows, r, q, rfl, F5.I.same s3, g.toGood2, .inl (.inl upd_same), fun _ => ?_, fun e => by rw [hb] at e; cases e⟩
        have F6 := F5.same s3
        have hi6 := s3 _ _ hi5
        have hx6 := s3 _ _ hx5
        generalize upd H5 q3 (.tup [.int r, .int q]) = H6 at F6 hi6 hx6 ⊢
        clear s3 F4 F5 hi4 hi5 hx4 hx5
        refine ⟨_, rfl, _, rfl, iteT' rfl ⟨rfl, _, rfl, ?_⟩⟩
        refine iteF' (by show (!decide (V.str (Str.ofString "") = V.str (Str.ofString ""))) = false; rw [decide_eq_true rfl]; rfl) ?_
        -- the sign
        refine ⟨_, rfl, _, rfl, iteT' rfl ?_⟩
        refine ⟨_, rfl, _, rfl, _, rfl, by show 2 ≤ sizeLine; decide, fun q4 hq4 => ?_⟩
        have s4 := Same.new (Same.refl H6) hq4 (o := .tup [.int r, .int q])
        have F7 := F6.same s4
        refine ⟨xi, di, _, rfl, s4 _ _ hi6, xi, q4, rows, r, q, rfl, F7.I, g.toGood2, .inl (.inl upd_same), fun _ => ?_, fun e => by rw [hb] at e; cases e⟩
        refine ⟨_, rfl, _, rfl, pr, _, r, _, rfl, rfl, F7.R, ei, _, rfl, _, q, _, rfl, rfl, hlr, ej, rfl, _, rfl, ?_⟩
        rw [h3]
        refine iteF' (by show (!decide (V.str ⟨#[ch]⟩ = V.str ⟨#[ch]⟩)) = false; rw [decide_eq_true rfl]; rfl) ?_
        have hx7 := s4 _ _ hx6
        generalize upd H6 q4 (.tup [.int r, .int q]) = H7 at F7 hx7 ⊢
        clear s4 F6 hi6 hx6
        -- the sign of the turned one
        refine ⟨_, rfl, _, rfl, iteT' rfl ?_⟩
        refine ⟨_, rfl, _, rfl, _, rfl, pr, _, rfl, .inr F7.R, _, _, rfl, rfl, _, rfl, _, _, rfl, rfl, by show 2 ≤ sizeLine; decide, fun q5 hq5 => ?_⟩
        rw [List.length_map]
        have s5 := Same.new (Same.refl H7) hq5 (o := .tup [.int q, .int ((rows.length : Int) - 1 - r)])
        have F8 := F7.same s5
        refine ⟨xt, dx, _, rfl, s5 _ _ hx7, xt, q5, turnedRows rows, q, (rows.length : Int) - 1 - r, rfl, F8.U, gT.toGood2, .inl (.inl upd_same), fun _ => ?_, fun e => by rw [hbT] at e; cases e⟩
        refine ⟨_, rfl, _, rfl, pr, _, r, _, rfl, rfl, F8.R, ei, _, rfl, _, q, _, rfl, rfl, hlr, ej, rfl, _, rfl, ?_⟩
        rw [hsT]
        refine iteF' (by show (!decide (V.str ⟨#[ch]⟩ = V.str ⟨#[ch]⟩)) = false; rw [decide_eq_true rfl]; rfl) ?_
        exact ⟨F8, _, _, rfl⟩
    · rintro σ H2 ⟨F3, v4, v7, rfl⟩
      exact ⟨F3, _, _, _, rfl⟩
  · rintro σ H1 ⟨F1, v4, v7, v10, rfl⟩
    exact r10 Dn pr xi xt cl rows H1 _ _ _ _ _ _ _ _ F1 ok kq
end
end Om

namespace Om
open PySem PySem.Spec PyProof.Rows L2 LamX He OmH
theorem ixtK {X : Cx} {K : PySem.W.Frag} (hK : X.K = K) : IxR X (rIxT K) := by
  subst hK
  exact ix_tup
theorem RowsOk.to12 {m : Nat} {rows : List (List Nat)} (h : RowsOk m rows) (hm : m ≤ 12) : RowsOk 12 rows := by
  obtain ⟨h1, h2, wd, w1, w2, hr⟩ := h
  exact ⟨h1, by omega, wd, w1, by omega, hr⟩
theorem pick2 {n : Int} (h0 : 0 ≤ n) (h1 : n < 2) : ∃ m : Nat, atI [V.int 5, V.int 12] n = some (.int (m : Nat)) ∧ 1 ≤ m ∧ m ≤ 12 := by
  have e : n = 0 ∨ n = 1 := by omega
  rcases e with rfl | rfl
  · exact ⟨5, rfl, by decide, by decide⟩
  · exact ⟨12, rfl, by decide, by decide⟩
theorem join_bound {rows : List (List Nat)} (h : ∀ r ∈ rows, r.length ≤ 12) : ((rows.map tx).map (·.length)).sum ≤ 12 * rows.length := by
  induction rows with
  | nil => simp
  | cons r rs ih =>
    have a1 := h r (List.mem_cons_self ..)
    have a2 := ih fun q hq => h q (List.mem_cons_of_mem _ hq)
    simp only [List.map_cons, List.sum_cons, tx_len, List.length_cons]
    omega
def letf (c : Nat) : Bool := c != 46 && c != 126
theorem flat_len {rows : List (List Nat)} {w : Nat} (h : ∀ r ∈ rows, r.length ≤ w) : rows.flatten.length ≤ w * rows.length := by
  induction rows with
  | nil => simp
  | cons r rs ih =>
    have a1 := h r (List.mem_cons_self ..)
    have a2 := ih fun q hq => h q (List.mem_cons_of_mem _ hq)
    rw [List.flatten_cons, List.length_append, List.length_cons, Nat.mul_succ]
    omega
theorem set_few {rows : List (List Nat)} {t : List Str} (hn : t.Nodup) (hs : ∀ r ∈ rows, ∀ c ∈ r, okSign c) (hm : ∀ x, x ∈ t ↔ x ∈ (rows.flatten.filter letf).map fun c => tx [c]) : t.length < 64 := by
  have z := nodup_le t (letters.map fun c => tx [c]) hn fun x hx => by
    obtain ⟨c, hc, rfl⟩ := List.mem_map.mp ((hm x).mp hx)
    obtain ⟨hl, hr⟩ := List.mem_filter.mp hc
    unfold letf at hr
    simp only [Bool.and_eq_true, bne_iff_ne, ne_eq] at hr
    obtain ⟨r, hr1, hr2⟩ := List.mem_flatten.mp hl
    refine List.mem_map.mpr ⟨c, ?_, rfl⟩
    have q := hs r hr1 c hr2
    simp only [letters, List.mem_cons, List.not_mem_nil, or_false]
    unfold okSign at q
    omega
  rw [List.length_map] at z
  exact Nat.lt_of_le_of_lt z (by decide)
theorem okD_cells (cs : List (Nat × Nat)) (h : cs.length ≤ 1000) : okD 5 (.list (cs.map cdp)) = true := by
  show (decide (_ ≤ 10000) && List.all _ (okD 4)) = true
  rw [Bool.and_eq_true, decide_eq_true_eq, List.length_map, List.all_map, List.all_eq_true]
  exact ⟨by omega, fun c _ => rfl⟩
theorem okD_rows {n : Nat} {rows : List (List Nat)} (hl : rows.length ≤ 1000) (h : Lo rows) : okD (n + 2) (.tuple (rows.map dt)) = true := by
  show (decide (_ ≤ 10000) && List.all _ (okD (n + 1))) = true
  rw [Bool.and_eq_true, decide_eq_true_eq, List.length_map, List.all_map, List.all_eq_true]
  exact ⟨by omega, fun r hr => strOk_tx (h r hr)⟩
theorem dpAll_marks {K : PySem.W.Frag} {H : Hp} (cs : List Nat) : DpAll K H (cs.map fun c => vt [c]) ((cs.map fun c => [c]).map dt) := by
  have z := dpAll_rows (K := K) (H := H) (cs.map fun c => [c])
  rw [List.map_map] at z
  exact z
section
variable {P : Program} {w : World} {K : PySem.W.Frag} {mg : Str → Option Value} {base : Heap} {c Pt gE : Addr}
theorem ok_law {f : Addr} {fd fdE : FuncData} (F : FnP K "law" "law" sLaw f fd) (hcd : ∀ cd, fd.code = cd → cd = .ref c) (TB : TabB base mg c Pt) (PP : Parts P w K mg base) (FE : FnP K "_law_error" "_law_error" sErr gE fdE) (bE : Binds K fdE ["_law_work"] []) (hgE : mg "_law_error" = some (.ref gE))
    (mQ : OwnM K (gI K) "__eq__" (ma K (gI K) "__eq__")) (mG : OwnM K (gI K) "__getitem__" (ma K (gI K) "__getitem__")) (mC : OwnM K (gI K) "__contains__" (ma K (gI K) "__contains__")) (mT : Meth K (gI K) "turned" (ma K (gI K) "turned"))
    (pR : PropOf K (gI K) "rows" (ma K (gI K) "rows") (getA K (gI K) "rows")) (pH : PropOf K (gI K) "height" (ma K (gI K) "height") (getA K (gI K) "height")) (pW : PropOf K (gI K) "width" (ma K (gI K) "width") (getA K (gI K) "width"))
    (pC : PropOf K (gI K) "cells" (ma K (gI K) "cells") (getA K (gI K) "cells")) (pM : PropOf K (gI K) "landmarks" (ma K (gI K) "landmarks") (getA K (gI K) "landmarks"))
    (grange : mg "range" = none) (glen : mg "len" = none) (glist : mg "list" = none) (gtuple : mg "tuple" = none) (gint : mg "int" = none) (gset : mg "set" = none) (gsorted : mg "sorted" = none) : FnOk P w K mg base CX0 9 f fd ["_law_script"] (spLaw K Pt) := by
  obtain ⟨oc, od, dV, kV, doc, pm, an, cdv, ct, osl, rfl, lk, hcdv, _, _⟩ := F.ex
  obtain rfl : cdv = .ref c := hcd _ rfl
  obtain ⟨fI, GI, bI⟩ := PP.mkI.ex
  obtain ⟨fT, GT, bT⟩ := PP.trn.ex
  obtain ⟨h0, G0, b0⟩ := PP.pRw.ex
  obtain ⟨h1, G1, b1⟩ := PP.pHg.ex
  obtain ⟨h2, G2, b2⟩ := PP.pWd.ex
  obtain ⟨h3, G3, b3⟩ := PP.pCl.ex
  obtain ⟨h4, G4, b4⟩ := PP.pMk.ex
  have TI := PP.isl
  refine fn_of (k := 8) lk hcdv scLaw (fun vs H Q E h => ?_) (fun A outer s H vs Q E hr h => ?_)
  · obtain ⟨a, ns, rfl, _⟩ := h
    rfl
  · obtain ⟨a, ns, rfl, hS, hlen, hP, k⟩ := h
    have nd := scLaw.nd
    have hr1 : Room 1 _ := hr.mono (by decide)
    have hr2 : Room 2 _ := hr.mono (by decide)
    have hr5 : Room 5 _ := hr.mono (by decide)
    have hr6 : Room 6 _ := hr.mono (by decide)
    obtain ⟨t9, q9, r9⟩ := law_tail9 (f := f) (H0 := H) (E := E) (s := s) (A := A) (outer := outer) TB PP FE bE hgE mQ mG mC mT pR pH pW grange glen glist gtuple gint hr
    refine ⟨_, PSs.nox (pss_cons (ps_set (i := 1) nd rfl (.inl rfl) (pe_cal PP.beg hr1 pass0 (pa_cons (pv 0) pa_nil)))
      (pss_cons (ps_set (i := 2) nd rfl (.inr rfl) (pe_cal PP.row hr2 pass0 (pa_cons (pv 1) (pa_cons (pe_ix ix_list (pe_lst (pa_cons pe_int (pa_cons pe_int pa_nil))) (pe_cal PP.tak hr1 pass0 (pa_cons (pv 1) (pa_cons pe_int pa_nil))) (fun _ _ => rfl)) pa_nil))))
      (pss_cons (ps_set (i := 9) nd rfl (.inr rfl) (pe_make TI.made GI hr5 rfl TI.gI bI .nil passE0 (pa_cons (pv 2) pa_nil)))
      (pss_cons (ps_if (pt_not (pt_val (pe_cal PP.alk hr6 pass0 (pa_cons (pe_lst (pa_cons (pe_prop (pv 9) TI.cl pR G0 hr2 b0 .nil pass0 rfl) (pa_cons (pe_prop (pv 9) TI.cl pH G1 hr2 b1 .nil pass0 rfl) (pa_cons (pe_prop (pv 9) TI.cl pW G2 hr2 b2 .nil pass0 rfl) pa_nil)))) (pa_cons (pe_lst (pa_cons (pv 2) (pa_cons (pe_callB call_len_seq (by rfl) glen PySem.boot_len (pa_cons (pv 2) pa_nil)) (pa_cons (pe_callB call_len_str (by rfl) glen PySem.boot_len (pa_cons (pe_ix ix_tup (pv 2) pe_int (fun _ _ => rfl)) pa_nil)) pa_nil)))) pa_nil))))) (pss_one (ps_ret pe_bl)) pss_nil)
      (pss_cons (ps_set (i := 3) nd rfl (.inl rfl) (pe_lst pa_nil))
      (pss_cons (ps_for PassesOwn.never rfl (pi_range1 rfl grange (pa_cons (pe_callB call_len_seq (by rfl) glen PySem.boot_len (pa_cons (pv 2) pa_nil)) pa_nil)) (pg_name (i := 10) nd rfl (.inr rfl)) (pss_one (ps_expr (pe_bm PySem.F.plainAttrs_list PySem.F.slot_list_extend PySem.F.type_list_extend mt_extend (pv 3) (pa_cons
          (pe_lc (own := [("_law_column", 4)]) (g := gName 4) rfl nd (pi_range1 rfl grange (pa_cons (pe_callB call_len_str (by rfl) glen PySem.boot_len (pa_cons (pe_ix ix_tup (pv 2) pe_int (fun _ _ => rfl)) pa_nil)) pa_nil)) blk5 (fun _ _ _ _ _ => pg_name (i := 4) nd rfl (.inl rfl)) (fun _ _ _ _ _ => pts_one (pt_cmpR op_ne (pe_ix ix_str (pe_ix (ixtK (K := K) rfl) (pv 2) (pv 10) (fun _ _ => rfl)) (pv 4) (fun _ _ => rfl)) pe_str (nomark _)))
            (fun _ _ _ _ _ => pe_tup (pa_cons (pv 10) (pa_cons (pv 4) pa_nil)))) pa_nil)))))
      (pss_cons (ps_set (i := 5) nd rfl (.inl rfl) (pe_callB (cr_sortSetTx rfl) (by rfl) gsorted (by decide +kernel) (pa_cons (pe_callTy (cr_setTx rfl) (by rfl) gset (by decide +kernel) (pa_cons
          (pe_lc (own := [("_law_sign", 11)]) (g := gName 11) rfl nd (pi_str (pe_joinK pe_str (pv 2))) blk6 (fun _ _ _ _ _ => pg_name (i := 11) nd rfl (.inl rfl)) (fun _ _ _ _ _ => pts_one (pt_cmpR op_notIn_sign (pv 11) pe_str (by with_unfolding_all rfl))) (fun _ _ _ _ _ => pv 11)) pa_nil)) pa_nil)))
      (pss_cons (ps_if (PW.pt (pw_or (pt_not (pt_val (pe_cal PP.alk hr6 pass0 (pa_cons (pe_prop (pv 9) TI.cl pC G3 hr2 b3 .nil pass0 rfl) (pa_cons (pv 3) pa_nil))))) (pw_or1 (pt_not (pt_val (pe_cal PP.alk hr6 pass0 (pa_cons (pe_prop (pv 9) TI.cl pM G4 hr2 b4 .nil pass0 rfl) (pa_cons (pe_callTy call_tuple_of (by rfl) gtuple (by decide +kernel) (pa_cons (pv 5) pa_nil)) pa_nil)))))))) (pss_one (ps_ret pe_bl)) pss_nil)
      (pss_cons (ps_set (i := 6) nd rfl (.inl rfl) (pe_meth0 (pv 9) TI.cl mT GT hr6 bT .nil passE0))
      q9))))))))), ?_⟩
    refine ⟨_, rfl, a, ns, rfl, hS, hlen, fun b l H1 nb nl s1 B1 => ?_⟩
    have T1 : Tabs (TT1 Pt) H1 := fun p hp => by
      rw [List.mem_singleton.mp hp]
      exact TabS.nil (s1 _ _ hP)
    -- the rows
    refine ⟨_, rfl, by show 2 ≤ sizeLine; decide, fun q hq => ?_⟩
    have s2 := Same.new (Same.refl H1) hq (o := .lst [.int 5, .int 12])
    obtain ⟨qb, ql⟩ : q ≠ b ∧ q ≠ l := by
      obtain ⟨_, _, x1, x2, _⟩ := B1.ex
      exact ⟨fun e => (by rw [← e, hq] at x1; cases x1), fun e => (by rw [← e, hq] at x2; cases x2)⟩
    have B2 := B1.same s2
    have T2 := T1.ext s2
    refine ⟨_, rfl, b, l, 2, rfl, B2, by decide, by decide, fun n H3 c1 c2 B3 K3 => ?_⟩
    obtain ⟨m, hm1, hm2, hm3⟩ := pick2 c1 c2
    have T3 := tabs_kp T2 B2 K3
    refine ⟨q, _, n, _, rfl, rfl, .inl (.inl (K3 q _ upd_same qb ql)), hm1, b, l, m, rfl, B3, hm2, hm3, fun pr rows H4 okm hp0 hp B4 K4 => ?_⟩
    have T4 := tabs_kp T3 B3 K4
    have ok := okm.to12 hm3
    obtain ⟨w1, w2, w3⟩ := rows_width ok
    have hh := ok.h1
    have hmx := ok.hm
    have g := ok.vd (Nat.le_refl _)
    have hsg : ∀ r ∈ rows, ∀ c ∈ r, okSign c := by
      obtain ⟨_, _, wd, _, _, hw⟩ := ok
      exact fun r hr => (hw r hr).2
    have at00 : atI (rows.map vt) 0 = some (vt (rows.headD [])) := by
      cases rows with
      | nil => simp at hh
      | cons r0 rs => exact at0
    have hr0 : (tx (rows.headD [])).length ≤ sizeLine := by rw [tx_len]; exact small_le (by omega)
    have R4 : SqT K H4 pr (rows.map vt) := .inl (.inl hp)
    clear B1 B2 B3 B4 K3 K4 T1 T2 T3 hp hp0 s1 s2 hq qb ql hm1
    -- the island
    refine ⟨_, rfl, nilArgs ?_⟩
    intro xi dxi hxi hdxi _
    refine mk_read ok R4 hxi hdxi fun H5 s5 I5 => ?_
    have R5 := Same.tup s5 R4
    have T5 := T4.ext s5
    obtain ⟨di, pi, hi, hiS⟩ := id I5
    clear hxi hdxi R4 T4 s5
    -- rows, height, width
    refine ⟨_, rfl, xi, di, _, rfl, hi, xi, di, pi, rfl, hi, _, rfl, xi, di, _, rfl, hi, xi, rows, rfl, I5, _, rfl, xi, di, _, rfl, hi, xi, rows, rfl, I5, g.toShp, by show 3 ≤ sizeLine; decide, fun l1 hl1 => ?_⟩
    have s6 := Same.new (Same.refl H5) hl1 (o := .lst [.ref pi, .int (rows.length : Nat), .int ((rows.headD []).length : Nat)])
    refine ⟨_, rfl, _, rfl, pr, _, rfl, .inr (Same.tup s6 R5), _, rfl, pr, _, 0, _, rfl, rfl, Same.tup s6 R5, at00, _, rfl, hr0, by show 3 ≤ sizeLine; decide, fun l2 hl2 => nilArgs ?_⟩
    rw [tx_len, List.length_map]
    have s7 := Same.new (Same.refl _) hl2 (o := .lst [.ref pr, .int (rows.length : Nat), .int ((rows.headD []).length : Nat)])
    have s67 := s6.trans s7
    refine ⟨.ref l1, .ref l2, .list [.tuple (rows.map dt), .int (rows.length : Nat), .int ((rows.headD []).length : Nat)], rfl, .lst (.inl (.inl (s7 _ _ upd_same))) (.cons (.tup (Same.tup s67 hiS) (dpAll_rows rows)) (.cons (.int _) (.cons (.int _) .nil))),
      .lst (.inl (.inl upd_same)) (.cons (.tup (Same.tup s67 R5) (dpAll_rows rows)) (.cons (.int _) (.cons (.int _) .nil))), ?_, true, rfl, ?_⟩
    · show (decide (_ ≤ 10000) && List.all _ (okD 4)) = true
      simp only [List.all_cons, List.all_nil, okD_rows (n := 2) (rows := rows) (by omega) g.lo, Bool.and_true, Bool.true_and]
      rfl
    refine iteF' rfl ?_
    have R7 := Same.tup s67 R5
    have I7 := I5.same s67
    have T7 := T5.ext s67
    have hi7 := s67 _ _ hi
    generalize upd (upd H5 l1 (.lst [.ref pi, .int (rows.length : Nat), .int ((rows.headD []).length : Nat)])) l2 (.lst [.ref pr, .int (rows.length : Nat), .int ((rows.headD []).length : Nat)]) = H7 at R7 I7 T7 hi7 ⊢
    clear s6 s7 s67 R5 I5 T5 hi hiS hl1 hl2
    -- the cells
    refine ⟨by show 0 ≤ sizeLine; decide, fun cl hcl => ?_⟩
    have s8 := Same.new (Same.refl H7) hcl (o := .lst [])
    refine ⟨_, rfl, pr, _, rfl, .inr (Same.tup s8 R7), _, rfl, by omega, by rw [List.length_map]; omega, ?_⟩
    rw [List.length_map]
    refine for_range (lo := 0) (n := ((rows.length : Nat) : Int).toNat) (fun i σ H' => (∃ acc, H' cl = some (.lst acc) ∧ DpAll K H' acc ((cellsTo rows i).map cdp) ∧ Same H7 H') ∧ ∃ v4 v10, σ = [some (.ref a), some (.ref b), some (.ref pr), some (.ref cl), v4, none, none, none, none, some (.ref xi), v10, none])
      ⟨⟨[], upd_same, .nil, s8⟩, _, _, rfl⟩ ?_ ?_
    · rintro i σ H8 hi' ⟨⟨acc, ha1, ha2, ha3⟩, v4, v10, rfl⟩
      have hir : i < rows.length := by omega
      have hri : rows[i]? = some rows[i] := List.getElem?_eq_getElem hir
      have hmr : rows[i] ∈ rows := List.getElem_mem hir
      have hwr := w3 _ hmr
      have eri : rows.getD i [] = rows[i] := by rw [List.getD_eq_getElem?_getD, hri, Option.getD_some]
      have R8 := Same.tup ha3 R7
      have ei : atI (rows.map vt) (0 + (i : Int)) = some (vt rows[i]) := by
        rw [Int.zero_add]
        exact atI_nat (by rw [List.getElem?_map, hri]; rfl)
      have hlr : (tx rows[i]).length ≤ sizeLine := by rw [tx_len]; exact small_le (g.row _ hmr)
      have la := dpAll_len ha2
      have lc := cellsTo_len (rows := rows) (w := 12) (fun r hr => (g.wid r hr).2) i (by omega)
      rw [List.length_map] at la
      refine ⟨_, rfl, .inl ⟨rfl, _, .inl (.inl ha1)⟩, ?_⟩
      refine ⟨_, rfl, pr, _, 0, _, rfl, rfl, R8, at00, _, rfl, hr0, _, rfl, by omega, by rw [tx_len]; omega, fun D hD => ?_⟩
      rw [tx_len]
      have hcD : cl ≠ D := fun e => by rw [← e, ha1] at hD; cases hD
      refine lc_range (lo := 0) (n := (((rows.headD []).length : Nat) : Int).toNat) (fun j H' => ∃ acc2, H' D = some (.lst acc2) ∧ DpAll K H' acc2 ((rowCells rows[i] i j).map cdp) ∧ Same H8 H')
        ⟨[], upd_same, by unfold rowCells; exact .nil, Same.new (Same.refl _) hD⟩ ?_ ?_
      · rintro j H9 hj ⟨acc2, g1, g2, g3⟩
        have hjr : j < (rows[i]).length := by omega
        obtain ⟨ch, hch⟩ : ∃ ch, (rows[i])[j]? = some ch := ⟨_, List.getElem?_eq_getElem hjr⟩
        have ech : (rows[i]).getD j 0 = ch := by rw [List.getD_eq_getElem?_getD, hch, Option.getD_some]
        have ej : atI (tx rows[i]).cps.toList (0 + (j : Int)) = some ch := by
          rw [Int.zero_add]
          exact atI_nat (by rw [tx_cps]; exact hch)
        have es := rowCells_succ rows[i] i j
        rw [ech] at es
        have l2 := dpAll_len g2
        have l3 := rowCells_len rows[i] i j
        rw [List.length_map] at l2
        refine ⟨rfl, ?_⟩
        refine ⟨_, rfl, _, rfl, pr, _, _, _, rfl, rfl, Same.tup g3 R8, ei, _, rfl, _, _, _, rfl, rfl, hlr, ej, rfl, _, rfl, ?_⟩
        have e2 : decide (V.str ⟨#[ch]⟩ = V.str (Str.ofString "~")) = decide (ch = 126) := by
          rw [show Str.ofString "~" = (⟨#[126]⟩ : Str) from by decide +kernel]
          apply decide_eq_decide.mpr
          simp
        rw [e2]
        by_cases h : ch = 126
        · rw [if_pos h] at es
          refine iteF' (by rw [decide_eq_true h]; rfl) ?_
          exact ⟨acc2, g1, by rw [es]; exact g2, g3⟩
        · rw [if_neg h] at es
          refine iteT' (by rw [decide_eq_false h]; rfl) ?_
          refine ⟨_, rfl, _, rfl, by show 2 ≤ sizeLine; decide, fun u hu => ?_⟩
          have su := Same.new (Same.refl H9) hu (o := .tup [.int (0 + (i : Int)), .int (0 + (j : Int))])
          have g1' := su _ _ g1
          refine ⟨acc2, g1', Nat.lt_of_le_of_lt (show _ ≤ 100 by omega) (by decide), acc2 ++ [.ref u], upd_same, ?_, ?_⟩
          · rw [es]
            refine pairs_other g1' ?_
            rw [List.map_append]
            refine dpAll_app (Same.dpAll su g2) (.cons (.tup (.inl (.inl ?_)) (.cons (.int _) (.cons (.int _) .nil))) .nil)
            rw [upd_same, Int.zero_add, Int.zero_add]
          · intro b' o hb
            rw [upd_ne (ne_of_none hb hD)]
            exact su _ _ (g3 _ _ hb)
      · rintro H9 ⟨acc2, g1, g2, g3⟩
        have ejn : (((rows.headD []).length : Nat) : Int).toNat = (rows[i]).length := by omega
        rw [ejn] at g2
        have l2 := dpAll_len g2
        have l3 := rowCells_len rows[i] i (rows[i]).length
        rw [List.length_map] at l2
        refine nilArgs ⟨cl, D, acc, acc2, rfl, rfl, g3 _ _ ha1, g1, Nat.le_trans (show _ ≤ 1000 by omega) (by decide), ?_⟩
        refine ⟨⟨acc ++ acc2, upd_same, ?_, ?_⟩, _, _, rfl⟩
        · rw [cellsTo_succ, eri]
          refine pairs_other (g3 _ _ ha1) ?_
          rw [List.map_append]
          exact dpAll_app (Same.dpAll g3 ha2) g2
        · intro b' o hb
          rw [upd_ne (ne_of_none hb hcl)]
          exact g3 _ _ (ha3 _ _ hb)
    rintro σ H8 ⟨⟨acc, ha1, ha2, ha3⟩, v4, v10, rfl⟩
    have C8 : Dp K H8 (.ref cl) (.list ((cellsOf rows).map cdp)) := .lst (.inl (.inl ha1)) ha2
    have R8 := Same.tup ha3 R7
    have I8 := I7.same ha3
    have T8 := T7.ext ha3
    have hi8 := ha3 _ _ hi7
    clear ha1 ha2 ha3 s8 hcl R7 I7 T7 hi7
    -- the letters
    refine ⟨⟨_, rfl⟩, _, rfl, _, pr, rows.map tx, rfl, rfl, .inr (by rw [List.map_map]; exact R8), ?_, ?_⟩
    · have h2 := join_bound (rows := rows) fun r hr => (g.wid r hr).2
      have h4 : (Str.ofString "").length = 0 := by decide +kernel
      rw [List.length_map, h4]
      omega
    have ej : Txt.join (Str.ofString "") (List.map tx rows) = tx rows.flatten := by
      rw [show Str.ofString "" = tx [] from by decide +kernel, join_flat]
    rw [ej]
    have lfl := flat_len (rows := rows) (w := 12) fun r hr => (g.wid r hr).2
    refine ⟨_, rfl, fun D hD => ?_⟩
    refine lc_it (walk_str (z := tx rows.flatten)) (fun i H' => H' D = some (.lst (((rows.flatten.take i).filter letf).map fun c => vt [c])) ∧ Same H8 H') ⟨upd_same, Same.new (Same.refl _) hD⟩ (fun _ _ _ _ => trivial) ?_ ?_
    · rintro i x H9 H10 hi' ⟨g1, g2⟩ ⟨rfl, ch, hc, rfl⟩
      have hc2 : rows.flatten[i]? = some ch := by
        rw [← Array.getElem?_toList, tx_cps] at hc
        exact hc
      have es : (rows.flatten.take (i + 1)).filter letf = (rows.flatten.take i).filter letf ++ (if letf ch = true then [ch] else []) := by
        rw [List.take_succ, hc2, List.filter_append]
        cases h : letf ch with
        | true => simp [h]
        | false => simp [h]
      have hl2 : (((rows.flatten.take i).filter letf).map fun c => vt [c]).length ≤ 144 := by
        rw [List.length_map]
        exact Nat.le_trans (List.length_filter_le ..) (by rw [List.length_take]; omega)
      refine ⟨rfl, _, rfl, ch, _, rfl, rfl, _, rfl, ?_⟩
      have e2 : (!decide (ch ∈ (Str.ofString ".~").cps.toList)) = letf ch := by
        rw [show (Str.ofString ".~").cps.toList = [46, 126] from by decide +kernel]
        unfold letf
        rw [Bool.eq_iff_iff]
        simp only [Bool.not_eq_true', decide_eq_false_iff_not, List.mem_cons, List.not_mem_nil, or_false, Bool.and_eq_true, bne_iff_ne, ne_eq]
        omega
      rw [e2]
      cases h : letf ch with
      | true =>
        rw [h, if_pos rfl] at es
        refine iteT' rfl ?_
        refine ⟨_, rfl, _, g1, Nat.lt_of_le_of_lt hl2 (by decide), ?_, ?_⟩
        · rw [es, upd_same, List.map_append]
          rfl
        · intro b' o hb
          rw [upd_ne (ne_of_none hb hD)]
          exact g2 _ _ hb
      | false =>
        rw [h, if_neg Bool.false_ne_true, List.append_nil] at es
        refine iteF' rfl ?_
        rw [es]
        exact ⟨g1, g2⟩
    rintro H9 ⟨g1, g2⟩
    have e0 : rows.flatten.take (tx rows.flatten).cps.size = rows.flatten := List.take_of_length_le (by rw [← Array.length_toList, tx_cps]; exact Nat.le_refl _)
    rw [e0] at g1
    refine ⟨D, (rows.flatten.filter letf).map fun c => tx [c], rfl, .inl (.inl (by rw [List.map_map]; exact g1)), ?_, fun sa t hsa hnd hmem => ?_⟩
    · rw [List.length_map]
      exact Nat.le_trans (List.length_filter_le ..) (by omega)
    refine ⟨sa, t, rfl, upd_same, set_few hnd hsg hmem, fun pl ss hpl m1 m2 m3 => ?_⟩
    have ess := marks_of hnd hmem hsg m1 m2 m3
    rw [ess]
    have s10 := (g2.trans (Same.new (Same.refl _) hsa (o := SetTxO P w sa t))).trans (Same.new (Same.refl _) hpl (o := .lst (((marksOf rows).map fun c => tx [c]).map V.str)))
    have hpl10 : (upd (upd H9 sa (SetTxO P w sa t)) pl (.lst (((marksOf rows).map fun c => tx [c]).map V.str))) pl = some (.lst ((marksOf rows).map fun c => vt [c])) := by
      rw [upd_same, List.map_map]
      rfl
    have C10 := Same.dp s10 C8
    have R10 := Same.tup s10 R8
    have I10 := I8.same s10
    have T10 := T8.ext s10
    have hi10 := s10 _ _ hi8
    -- cells and landmarks
    have lcs := cellsTo_len (rows := rows) (w := 12) (fun r hr => (g.wid r hr).2) rows.length (Nat.le_refl _)
    refine ⟨_, rfl, xi, di, _, rfl, hi10, xi, rows, rfl, I10, g, fun v H11 s11 hv => ?_⟩
    refine ⟨_, rfl, nilArgs ?_⟩
    refine ⟨v, .ref cl, .list ((cellsOf rows).map cdp), rfl, hv, Same.dp s11 C10, okD_cells _ (Nat.le_trans lcs (by omega)), true, rfl, ?_⟩
    refine iteF' rfl ?_
    have C11 := Same.dp s11 C10
    have R11 := Same.tup s11 R10
    have I11 := I10.same s11
    have T11 := T10.ext s11
    have hi11 := s11 _ _ hi10
    have hpl11 := s11 _ _ hpl10
    refine ⟨_, rfl, xi, di, _, rfl, hi11, xi, rows, rfl, I11, g, fun pm H12 s12 hpm => ?_⟩
    refine ⟨_, rfl, pl, _, rfl, .inl ⟨.inl (.inl (s12 _ _ hpl11)), fun tp htp => nilArgs ?_⟩⟩
    have s13 := Same.new (Same.refl H12) htp (o := .tup ((marksOf rows).map fun c => vt [c]))
    have s1213 := s12.trans s13
    refine ⟨.ref pm, .ref tp, .tuple (((marksOf rows).map fun c => [c]).map dt), rfl, .tup (.inl (.inl (s13 _ _ hpm))) (dpAll_marks _), .tup (.inl (.inl upd_same)) (dpAll_marks _), ?_, true, rfl, ?_⟩
    · refine okD_rows (n := 3) ?_ ?_
      · rw [List.length_map]
        exact Nat.le_trans (List.length_filter_le ..) (by decide)
      · intro r hr c hc
        obtain ⟨d, hd, rfl⟩ := List.mem_map.mp hr
        rw [List.mem_singleton.mp hc]
        have hl := (List.mem_filter.mp hd).1
        simp only [letters, List.mem_cons, List.not_mem_nil, or_false] at hl
        omega
    refine iteF' rfl ?_
    have C13 := Same.dp s1213 C11
    have R13 := Same.tup s1213 R11
    have I13 := I11.same s1213
    have T13 := T11.ext s1213
    have hi13 := s1213 _ _ hi11
    -- turned
    refine ⟨_, rfl, xi, di, _, rfl, hi13, rfl, nilArgs ⟨xi, rows, rfl, I13, ok, fun xt H14 s14 U14 => ?_⟩⟩
    exact r9 _ pr xi xt cl rows H14 _ _ _ _ _ _ _ _ ⟨T13.ext s14, Same.tup s14 R13, I13.same s14, U14, Same.dp s14 C13⟩ ok k
end
end Om

namespace Om
open PySem PySem.Spec PyProof.Rows L2 LamX He OmH
theorem law_at {w : World} {K : PySem.W.Frag} {h : Heap} {mg : Str → Option Value} {f : Addr} (X : K.In h) (G : h.Ns mainGlobals mg) (hfa : mg ("law" : Str) = some (.ref f)) (c : He.SaysX (fa ++ fa2) fnD [] tfD exB w h K) (cg : obsA gsD K = valA gsD) :
    LawAtS PySem.Challenge.rw_oldmap_k02_whole_islands_asked w K CX0 9 63 "_law_script" mg f h := by
  have d := c.t.d
  have fr : ∀ {x : Str}, Fa.free x ∈ fa ++ fa2 → mg x = none := fun hx => free_ok X G (d.facts hx)
  have gl : ∀ {x : Str}, Fa.glo x ∈ fa ++ fa2 → mg x = some (.ref (ga K x)) := fun hx => glo_ok X G (d.facts hx)
  have fact : ∀ {f : Fa}, f ∈ fa ++ fa2 → f.ok K = true := fun hf => d.facts hf
  have e := hfa.symm.trans (gl (x := "law") (by simp [fa, fa2]))
  cases e
  obtain ⟨fd, F⟩ := d.def_ 5 (d := dG "law" (top 26)) rfl
  have F : FnP K "law" "law" sLaw _ fd := F
  obtain ⟨fdE, FE⟩ := d.def_ 4 (d := dG "_law_error" (top 25)) rfl
  have FE : FnP K "_law_error" "_law_error" sErr _ fdE := FE
  have hgE : mg "_law_error" = some (.ref (ga K "_law_error")) := gl (by simp [fa, fa2])
  have bE : Binds K fdE ["_law_work"] [] := b1 FE fun _ _ _ _ _ _ _ => rfl
  have bL := FunD.bindsA (ps := ["_law_script"]) F fun _ _ _ _ _ _ us hl => match us, hl with | [_], _ => rfl
  obtain ⟨x1, x2⟩ := ba c.more
  obtain ⟨x2, x3⟩ := ba x2
  obtain ⟨x3, x4⟩ := ba x3
  obtain ⟨x4, x5⟩ := ba x4
  obtain ⟨x5, x6⟩ := ba x5
  obtain ⟨x6, x7⟩ := ba x6
  obtain ⟨x7, x8⟩ := ba x7
  obtain ⟨x8, x9⟩ := ba x8
  obtain ⟨x9, x10⟩ := ba x9
  obtain ⟨x10, x11⟩ := ba x10
  obtain ⟨x11, x12⟩ := ba x11
  have hcd : ∀ cd, fd.code = cd → cd = .ref (cT K ("law", none)).1 := by
    obtain ⟨oc, od, dV, kV, doc, pm, an, cdv, ct, osl, rfl, lk, hcdv, _, _⟩ := F.ex
    obtain ⟨c', rfl⟩ := codeIn_ref hcdv
    intro cd hcd
    have e1 := codeOf_eq (p := ("law", none)) lk rfl
    subst hcd
    show Value.ref c' = .ref (codeOf K ("law", none))
    rw [e1]
  have hmem : (("law", none) : He.Defn) ∈ tfD := List.mem_singleton.mpr rfl
  refine ⟨fd, [cT K ("law", none)], spLaw K (cT K ("law", none)).2, fun p hp => ?_, fun p hp => ?_, fun p hp => ?_, fun s u => bL s [u] rfl, fun H a ns hl _ hT hS => ⟨a, ns, rfl, hS, hl, hT _ (List.mem_singleton.mpr rfl), fun _ => rfl⟩, fun base KB GB TB => ?_⟩
  · rw [List.mem_singleton.mp hp]
    exact c.empty _ hmem
  · rw [List.mem_singleton.mp hp]
    exact c.out _ hmem
  · rw [List.mem_singleton.mp hp]
    exact PySem.W.codeHd_of_K X (c.hd _ hmem)
  · have PP : Parts PySem.Challenge.rw_oldmap_k02_whole_islands_asked.prog w K mg base := parts_at X G c cg
    exact ok_law F hcd (TB _ (List.mem_singleton.mpr rfl)) PP FE bE hgE (ownB_ok x4) (ownB_ok x6) (ownB_ok x7) (meth_ok (fact (f := .meth "Island" "turned") (by simp [fa, fa2])))
      (propB_ok x8) (propB_ok x9) (propB_ok x10) (propB_ok x11) (propB_ok x12) (fr (by simp [fa])) (fr (by simp [fa])) (fr (by simp [fa])) (fr (by simp [fa])) (fr (by simp [fa])) (fr (by simp [fa])) (fr (by simp [fa]))
end Om
open PySem PySem.W PySem.Calls PyProof.Rows
theorem PySem.Challenge.cw_oldmap_k02_whole_islands_asked_holds : PySem.Challenge.rw_oldmap_k02_whole_islands_asked.Holds := by
  w_on; o_law
  refine HandSHeadRun.head_any (r := OpenLaw.row PySem.Challenge.rw_oldmap_k02_whole_islands_asked) (q := view (OpenLaw.row PySem.Challenge.rw_oldmap_k02_whole_islands_asked).prog [26]) (H := Om.hk) (ob := Om.ob) (M := 9000) (loose := Om.loose) (d := HandSHeadRun.topDef (OpenLaw.row PySem.Challenge.rw_oldmap_k02_whole_islands_asked).prog 26) (kwd := []) Om.ob_eq
    (by kernel_rfl) (fun s => by kernel_rfl) Om.run (by kernel_rfl) (by kernel_rfl) (by kernel_rfl) (by rfl) (by first | assumption | decide +kernel) (by decide +kernel) ⟨rfl, rfl, rfl, rfl, rfl, by decide +kernel⟩ ?hw ?hc
  case hw => w_witness2
  case hc =>
    refine LamX.walk_ofTsE (l := PySem.Challenge.rw_oldmap_k02_whole_islands_asked) (n := 63) (k := 9) (x := "_law_script") (CX := fun _ => L2.CX0) rfl (by decide) (by kernel_rfl) ⟨rfl, by decide, by decide⟩ ?F (fun _ _ _ _ _ z => z)
    intro w mg fa h Y G hmg0
    obtain ⟨K, KX, c, cg⟩ := Y
    have hmg : mg ("law" : PySem.Str) = some (.ref fa) := by
      have e : (HandSHeadRun.topDef (OpenLaw.row PySem.Challenge.rw_oldmap_k02_whole_islands_asked).prog 26).name = ("law" : PySem.Str) := by kernel_rfl
      rw [← e]
      exact hmg0
    exact ⟨K, KX, Om.law_at KX G hmg c cg⟩
