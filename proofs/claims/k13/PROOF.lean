import PyProof.Rows.All
import Wide.All
import OpenK.AllK
import Wide.FinOn
import HandS.ForMost
import HandS.Defaults
import HandS.More
import HandS.TupAny
import HandS.TupMul
import HandS.Exc
import HandS.ExcInit
import HandS.ExcField
import HandS.ExcIs
import HandS.TryOnly
import HandS.WordsExc
import HandS.Lambda
import HandS.EndTab
import HandS.HeadWalk
import HandS.HeadHook4
import PySem.Challenge.RW_oldmap_k13_whole_walks
import KE.GoesMore
import KE.GoesEnum
import HandS.Property
import HandS.OwnEq
import HandS.IsInst
import HandS.Walk
import HandS.ExcOwn
import PyProof.ExcBaseAll.ValueError
import HandS.SetTxt0
import HandS.Deep
import HandS.Sort
import HandS.SetBool
import HandS.TupSets
import KE.SortData
import HandS.DictComp
import PyProof.Rows.TupDisplay
import HandS.Dict
import HandS.ExcValue
import KE.KDictCopyH
import KE.KDictSum
import KE.DataMinMax
import HandS.Nested
import KE.KExcIs
import KE.SortKeyHeap
import KE.KDictPairs
import HandS.Head0
import HandS.Head1
import HandS.Head2
set_option Elab.async false
set_option linter.all false
set_option maxRecDepth 100000
set_option maxHeartbeats 0
namespace Om
open PySem PySem.Spec PyProof.Rows L2
def top (i : Nat) : Stmt := PySem.Challenge.pw_oldmap_k13_whole_walks.main.body.getD i (.Pass ⟨0, 0, 0, 0⟩)
/-- a def of the top -/
abbrev FnP (K : PySem.W.Frag) (x qual : Str) (st : Stmt) (f : Addr) (fd : FuncData) : Prop := FunD K x qual (defArgs st) (defBody st) (defScope st) [] [] f fd
/-- a def as its callers know it -/
structure Cal (P : Program) (w : World) (K : PySem.W.Frag) (mg : Str → Option Value) (base : Heap) (CX : CXT) (k : Nat) (x : Str) (ps : List Str) (sp : Sp) : Prop where
  ex : ∃ (f : Addr) (fd : FuncData), FnOk P w K mg base CX k f fd ps sp ∧ mg x = some (.ref f) ∧ PySem.W.keepIn K (.ref f) = true ∧ Binds K fd ps []
theorem pe_cal {X : Cx} {CX : CXT} {k : Nat} {x : Str} {ps : List Str} {sp : Sp} {E : XK} {e : Expr} {es : List Expr} {t : TA} {p pos : Pos} (C : Cal X.prog X.w X.K X.mg X.base CX k x ps sp) (hr : Room k X.A) (hx : Passes CX X E) (ha : PA X (e :: es) t) (hg : Gl X x := by rfl)
    (hdb : (x == ("__debug__" : Str)) = false := by decide) (he : starEach (e :: es) X.env = (false, eval e X.env) :: starEach es X.env := by rfl) (hpl : (backTo pos (starEach es X.env)).any (·.1) = false := by rfl) :
    PE X (.Call (.Name x p) (e :: es) [] pos) (tCall sp [] E t) := by
  obtain ⟨f, fd, F, hm, hk, hb⟩ := C.ex
  exact pe_call F hr hg hm hk hb .nil hx ha (hdb := hdb) (he := he) (hpl := hpl)
/-- all but two objects stay -/
def Kp (b l : Addr) (H H' : Hp) : Prop := ∀ c o, H c = some o → c ≠ b → c ≠ l → H' c = some o
theorem Kp.refl (b l : Addr) (H : Hp) : Kp b l H H := fun _ _ h _ _ => h
theorem Kp.trans {b l : Addr} {H H1 H2 : Hp} (a : Kp b l H H1) (c : Kp b l H1 H2) : Kp b l H H2 := fun x o h n1 n2 => c x o (a x o h n1 n2) n1 n2
theorem Kp.of {b l : Addr} {H H' : Hp} (a : Same H H') : Kp b l H H' := fun x o h _ _ => a x o h
theorem Kp.upd1 {b l : Addr} {H H' : Hp} {o : HO} (a : Kp b l H H') : Kp b l H (upd H' b o) := fun x u h n1 n2 => by rw [upd_ne n1]; exact a x u h n1 n2
theorem Kp.upd2 {b l : Addr} {H H' : Hp} {o : HO} (a : Kp b l H H') : Kp b l H (upd H' l o) := fun x u h n1 n2 => by rw [upd_ne n2]; exact a x u h n1 n2
theorem Same.new {H H' : Hp} {p : Addr} {o : HO} (a : Same H H') (h : H' p = none) : Same H (upd H' p o) := fun x u e => by
  rw [upd_ne (ne_of_none (a x u e) h)]
  exact a x u e
/-- the box of numbers that a law draws from -/
structure Box (H : Hp) (b l : Addr) : Prop where
  ex : ∃ (ns : List Int) (z : Int), H b = some (.lst [.ref l, .int z]) ∧ H l = some (.lst (ns.map V.int)) ∧ ns.length ≤ 63
theorem Box.ne {H : Hp} {b l : Addr} (B : Box H b l) : b ≠ l := by
  obtain ⟨ns, z, h1, h2, _⟩ := B.ex
  refine ne_of h1 h2 fun e => ?_
  have e2 : [V.ref l, V.int z] = ns.map V.int := HO.lst.inj e
  cases ns with
  | nil => cases e2
  | cons n r =>
    injection e2 with e3 _
    cases e3
theorem Box.same {H H' : Hp} {b l : Addr} (B : Box H b l) (s : Same H H') : Box H' b l := by
  obtain ⟨ns, z, h1, h2, h3⟩ := B.ex
  exact ⟨ns, z, s _ _ h1, s _ _ h2, h3⟩
def spBegun (K : PySem.W.Frag) : Sp := fun vs H Q _ => ∃ (a : Addr) (ns : List Int), vs = [.ref a] ∧ SqL K H a (ns.map V.int) ∧ ns.length ≤ 63 ∧
  ∀ (b l : Addr) (H' : Hp), H b = none → H l = none → Same H H' → Box H' b l → Q (.ref b) H'
def spTake : Sp := fun vs H Q _ => ∃ (b l : Addr) (m : Int), vs = [.ref b, .int m] ∧ Box H b l ∧ 0 < m ∧ m ≤ 1000000 ∧
  ∀ (n : Int) (H' : Hp), 0 ≤ n → n < m → Box H' b l → Kp b l H H' → Q (.int n) H'
section
variable {P : Program} {w : World} {K : PySem.W.Frag} {mg : Str → Option Value} {base : Heap}
theorem fun_binds {x qual : Str} {st : Stmt} {f : Addr} {fd : FuncData} {ps : List Str} (F : FnP K x qual st f fd)
    (h : ∀ (kV doc pm : Value) (an : Option Addr) (cdv ct : Value) (us : List Value), us.length = ps.length → bindArgs (PySem.W.fnOf x qual (defArgs st) (defBody st) (defScope st) .none kV doc pm an cdv ct) ⟨us, []⟩ = pure (ps.zip us)) : Binds K fd ps [] := FunD.bindsN F h
end
/-! ### begun -/
abbrev sBegun : Stmt := top 32
section
variable {P : Program} {w : World} {K : PySem.W.Frag} {mg : Str → Option Value} {base : Heap}
theorem scBegun : FnScope ["_law_script", "_law_stirred", "_law_cell"] ["_law_script"] (defScope sBegun) := ⟨rfl, rfl, rfl, by decide +kernel, rfl, by decide +kernel, by decide +kernel⟩
theorem ok_begun {f : Addr} {fd : FuncData} (F : FnP K "_law_begun" "_law_begun" sBegun f fd) (gint : mg "int" = none) (glist : mg "list" = none) (glen : mg "len" = none) :
    FnOk P w K mg base CX0 1 f fd ["_law_script"] (spBegun K) := by
  refine F.ok scBegun (fun vs H Q E h => ?_) (fun cdv A outer s H vs Q E hr h => ?_)
  · obtain ⟨a, ns, rfl, _⟩ := h
    rfl
  · obtain ⟨a, ns, rfl, hS, hlen, k⟩ := h
    have nd := scBegun.nd
    refine ⟨_, PSs.nox (pss_cons (ps_set (i := 1) nd rfl (.inl rfl) pe_int)
      (pss_cons (ps_for PassesOwn.never rfl (pi_list (pv 0)) (pg_name (i := 2) nd rfl (.inl rfl))
        (pss_one (ps_set (i := 1) nd rfl (.inl rfl) (pe_op op_modN (pe_callTy call_int1 (by rfl) gint boot_int (pa_cons (pe_op op_add (pe_op op_add (pe_op op_mul (pv 1) pe_int) (pe_op op_mul (pv 2) pe_int)) pe_int) pa_nil)) pe_int))))
      (pss_one (ps_ret (pe_lst (pa_cons (pe_callTy call_list_of (by rfl) glist (by decide +kernel) (pa_cons (pv 0) pa_nil))
        (pa_cons (pe_op op_mul (pv 1) (pe_callTy call_int1 (by rfl) gint boot_int (pa_cons (pe_cmpR op_gt (pe_callB call_len_seq (by rfl) glen PySem.boot_len (pa_cons (pv 0) pa_nil)) pe_int (nomark _)) pa_nil))) pa_nil))))))), ?_⟩
    refine ⟨_, rfl, a, rfl, ⟨_, hS⟩, for_list (K := K) (a := a) (xs := ns.map V.int) (fun i σ H2 => ∃ (z : Int) (v : Option V), σ = [some (.ref a), some (.int z), v] ∧ H2 = H)
      ⟨0, none, rfl, rfl⟩ (fun i σ H2 _ ⟨_, _, _, e⟩ => by rw [e]; exact hS) ?_ ?_⟩
    · rintro i y σ H2 hi ⟨z, v, rfl, rfl⟩
      obtain ⟨n, rfl⟩ : ∃ n, y = V.int n := by
        rw [List.getElem?_map] at hi
        cases e : ns[i]? with
        | none => rw [e] at hi; cases hi
        | some n => rw [e] at hi; exact ⟨n, (Option.some.inj hi).symm⟩
      refine ⟨_, rfl, _, _, rfl, rfl, .inr ⟨by decide, by decide⟩, _, rfl, _, _, rfl, rfl, .inr ⟨by decide, by decide⟩, _, _, rfl, rfl, _, _, rfl, rfl, .inl ⟨_, rfl, ?_⟩⟩
      exact ⟨_, _, rfl, rfl, (by show (2147483647 : Int) ≠ 0; decide), _, _, rfl, rfl⟩
    · rintro σ H2 ⟨z, v, rfl, rfl⟩
      refine ⟨_, rfl, a, _, rfl, .inl hS, fun l hl => ?_⟩
      have hS2 : SqL K (upd H2 l (.lst (ns.map V.int))) a (ns.map V.int) := Same.seq (Same.new (Same.refl H2) hl) hS
      refine ⟨_, rfl, _, rfl, a, _, rfl, .inl hS2, _, _, rfl, rfl, .inr ⟨_, rfl, ?_⟩⟩
      refine ⟨_, _, rfl, rfl, ?_, ?_⟩
      · refine .inr ?_
        split <;> exact ⟨by decide, by decide⟩
      · refine ⟨by show 2 ≤ sizeLine; decide, fun p hp => ?_⟩
        have npl : p ≠ l := fun e => by rw [e, upd_same] at hp; cases hp
        have hp0 : H2 p = none := by rw [upd_ne npl] at hp; exact hp
        refine k p l _ hp0 hl (Same.new (Same.new (Same.refl _) hl) hp) ⟨ns, _, upd_same, ?_, hlen⟩
        rw [upd_ne npl.symm, upd_same]
end
end Om

namespace Om
open PySem PySem.Spec PyProof.Rows L2
/-! ### data -/
theorem lay_ints : ∀ ns : List Int, PyData.canLayAll0 (ns.map PyData.int) = true
  | [] => by simp [PyData.canLayAll0]
  | n :: r => by simp [PyData.canLayAll0, PyData.canLay0, lay_ints r]
theorem dep_ints : ∀ ns : List Int, PyData.depthAll (ns.map PyData.int) = 0
  | [] => by simp [PyData.depthAll]
  | n :: r => by simp [PyData.depthAll, PyData.depth, dep_ints r]
theorem shaped_of {d : PyData} (h1 : d.canLay0 = true) (h2 : d.depth ≤ 64) : SeqAt.shaped d = true := by
  show (d.canLay0 && decide (d.depth ≤ 64)) = true
  rw [h1, decide_eq_true h2]
  rfl
theorem shaped_ints (ns : List Int) : SeqAt.shaped (.list (ns.map PyData.int)) = true :=
  shaped_of (by simp only [PyData.canLay0]; exact lay_ints ns) (by simp only [PyData.depth, dep_ints]; omega)
theorem shaped_nil : SeqAt.shaped (.list []) = true := shaped_of (by simp [PyData.canLay0, PyData.canLayAll0]) (by simp [PyData.depth, PyData.depthAll])
theorem dpAll_ints {K : PySem.W.Frag} {H : Hp} : ∀ ns : List Int, DpAll K H (ns.map V.int) (ns.map PyData.int)
  | [] => .nil
  | n :: r => .cons (.int n) (dpAll_ints r)
theorem eqv_ints_nil (ns : List Int) : PyData.eqv (.list (ns.map PyData.int)) (.list []) = ns.isEmpty := by
  cases ns <;> simp [PyData.eqv, PyData.eqvAll]
theorem fmod_pos {a m : Int} (h : 0 < m) : 0 ≤ a.fmod m ∧ a.fmod m < m := by
  rw [Int.fmod_eq_emod_of_nonneg _ (Int.le_of_lt h)]
  exact ⟨Int.emod_nonneg _ (by omega), Int.emod_lt_of_pos _ h⟩
theorem at0 {x : V} {r : List V} : atI (x :: r) 0 = some x := by
  unfold atI ixN
  rw [if_pos (by omega), if_pos (by simp)]
  rfl
theorem ix0 {x : V} {r : List V} : ixN (x :: r).length 0 = some 0 := by
  unfold ixN
  rw [if_pos (by omega), if_pos (by simp)]
  rfl
/-! ### take -/
abbrev sTake : Stmt := top 33
section
variable {P : Program} {w : World} {K : PySem.W.Frag} {mg : Str → Option Value} {base : Heap}
theorem scTake : FnScope ["_law_box", "_law_many", "_law_figure"] ["_law_box", "_law_many"] (defScope sTake) := ⟨rfl, rfl, rfl, by decide +kernel, rfl, by decide +kernel, by decide +kernel⟩
theorem ok_take {f : Addr} {fd : FuncData} (F : FnP K "_law_take" "_law_take" sTake f fd) (gint : mg "int" = none) :
    FnOk P w K mg base CX0 1 f fd ["_law_box", "_law_many"] spTake := by
  refine F.ok scTake (fun vs H Q E h => ?_) (fun cdv A outer s H vs Q E hr h => ?_)
  · obtain ⟨b, l, m, rfl, _⟩ := h
    rfl
  · obtain ⟨b, l, m, rfl, B, hm0, hm1, k⟩ := h
    have nd := scTake.nd
    have nbl := B.ne
    obtain ⟨ns, z, hb, hl, hlen⟩ := B.ex
    refine ⟨_, PSs.nox (pss_cons (ps_if (pt_cmpR (op_eqD hr.units) (pe_ix ix_list (pv 0) pe_int (fun _ _ => rfl)) (pe_lst pa_nil) (nomark _))
          (pss_cons (ps_asg (pe_op op_modN (pe_callTy call_int1 (by rfl) gint boot_int (pa_cons (pe_op op_mul (pe_ix ix_list (pv 0) pe_int (fun _ _ => rfl)) pe_int) pa_nil)) pe_int) (pg_sub (pv 0) pe_int set_list))
          (pss_one (ps_ret (pe_op op_modN (pe_callTy call_int1 (by rfl) gint boot_int (pa_cons (pe_op op_fdivN (pe_ix ix_list (pv 0) pe_int (fun _ _ => rfl)) pe_int) pa_nil)) (pv 1))))) pss_nil)
      (pss_cons (ps_set (i := 2) nd rfl (.inl rfl) (pe_ix ix_list (pe_ix ix_list (pv 0) pe_int (fun _ _ => rfl)) pe_int (fun _ _ => rfl)))
      (pss_cons (ps_asg (pe_op op_fdivN (pv 2) (pv 1)) (pg_sub (pe_ix ix_list (pv 0) pe_int (fun _ _ => rfl)) pe_int set_list))
      (pss_cons (ps_if (PW.pt (pw_or (pt_cmpR op_eq (pe_ix ix_list (pe_ix ix_list (pv 0) pe_int (fun _ _ => rfl)) pe_int (fun _ _ => rfl)) pe_int (nomark _))
            (pw_or1 (pt_cmpR op_eq (pe_ix ix_list (pe_ix ix_list (pv 0) pe_int (fun _ _ => rfl)) pe_int (fun _ _ => rfl)) (pe_un un_neg pe_int) (nomark _)))))
          (pss_one (ps_expr (pe_bm PySem.F.plainAttrs_list PySem.F.slot_list_pop PySem.F.type_list_pop mt_popAt (pe_ix ix_list (pv 0) pe_int (fun _ _ => rfl)) (pa_cons pe_int pa_nil)))) pss_nil)
      (pss_one (ps_ret (pe_op op_modN (pv 2) (pv 1)))))))), ?_⟩
    refine ⟨_, rfl, b, _, 0, _, rfl, rfl, .inl (.inl hb), rfl, by show 0 ≤ sizeLine; decide, fun e he => ?_⟩
    have ebe : b ≠ e := ne_of_none hb he
    have ele : l ≠ e := ne_of_none hl he
    have hb1 : (upd H e (.lst [])) b = some (.lst [.ref l, .int z]) := by rw [upd_ne ebe]; exact hb
    have hl1 : (upd H e (.lst [])) l = some (.lst (ns.map V.int)) := by rw [upd_ne ele]; exact hl
    have K1 : Kp b l H (upd H e (.lst [])) := Kp.of (Same.new (Same.refl H) he)
    refine ⟨_, _, .lst (.inl (.inl hl1)) (dpAll_ints ns), .lst (.inl (.inl upd_same)) .nil, shaped_ints ns, shaped_nil, _, rfl, ?_⟩
    rw [eqv_ints_nil]
    cases ns with
    | nil =>
      refine iteT ?_
      refine ⟨_, rfl, b, _, 1, _, rfl, rfl, .inl (.inl hb1), rfl, _, _, rfl, rfl, .inr ⟨by decide, by decide⟩, .inl ⟨_, rfl, ?_⟩⟩
      refine ⟨_, _, rfl, rfl, (by show (2147483647 : Int) ≠ 0; decide), _, rfl, b, _, 1, 1, rfl, rfl, hb1, rfl, ?_⟩
      refine ⟨_, rfl, b, _, 1, _, rfl, rfl, .inl (.inl upd_same), rfl, _, _, rfl, rfl, ⟨by decide, by decide⟩, .inl ⟨_, rfl, _, rfl, _, _, rfl, rfl, (by show m ≠ 0; omega), ?_⟩⟩
      refine k _ _ (fmod_pos hm0).1 (fmod_pos hm0).2 ⟨[], _, upd_same, ?_, hlen⟩ (K1.upd1)
      rw [upd_ne nbl.symm]
      exact hl1
    | cons n r =>
      refine iteF ?_
      refine ⟨_, rfl, b, _, 0, _, rfl, rfl, .inl (.inl hb1), rfl, l, _, 0, _, rfl, rfl, .inl (.inl hl1), at0, ?_⟩
      refine ⟨_, rfl, _, rfl, _, _, rfl, rfl, ⟨(by show m ≠ 0; omega), (by show m.natAbs < 1073741824; omega)⟩, _, rfl, b, _, 0, _, rfl, rfl, .inl (.inl hb1), rfl, l, _, 0, 0, rfl, rfl, hl1, ix0, ?_⟩
      have hb2 : (upd (upd H e (.lst [])) l (.lst (((n :: r).map V.int).set 0 (.int (n.fdiv m))))) b = some (.lst [.ref l, .int z]) := by rw [upd_ne nbl]; exact hb1
      have hl2 : (upd (upd H e (.lst [])) l (.lst (((n :: r).map V.int).set 0 (.int (n.fdiv m))))) l = some (.lst (((n.fdiv m) :: r).map V.int)) := upd_same
      refine ⟨_, rfl, b, _, 0, _, rfl, rfl, .inl (.inl hb2), rfl, l, _, 0, _, rfl, rfl, .inl (.inl hl2), at0, rfl, _, rfl, ?_⟩
      have fin : ∀ H3, Box H3 b l → Kp b l H H3 → Q (.int (n.fmod m)) H3 := fun H3 B3 k3 => k _ H3 (fmod_pos hm0).1 (fmod_pos hm0).2 B3 k3
      have pop : (tDrop (tBM K "list" rPopAt (tOp (rIxL K) (tVar 0) (tC (.int 0))) (tCons (tC (.int 0)) tNil))) { nx := fun σ H => (tRet (tOp (rI (fun _ j => j ≠ 0) fun i j => .int (i.fmod j)) (tVar 2) (tVar 1))) { nx := fun _ H' => Q .non H', rt := Q } σ H, rt := Q } [some (.ref b), some (.int m), some (.int n)] (upd (upd H e (.lst [])) l (.lst (((n :: r).map V.int).set 0 (.int (n.fdiv m))))) := by
        refine ⟨_, rfl, b, _, 0, _, rfl, rfl, .inl (.inl hb2), rfl, .inl ⟨rfl, _, .inl (.inl hl2)⟩, l, _, 0, 0, _, rfl, rfl, hl2, by decide, by decide, ?_, rfl, ?_⟩
        · simp [seqIndex?]
        · refine ⟨_, rfl, _, rfl, _, _, rfl, rfl, (by show m ≠ 0; omega), fin _ ⟨r, z, ?_, upd_same, ?_⟩ ?_⟩
          · rw [upd_ne nbl]; exact hb2
          · have := hlen; simp at this; omega
          · exact Kp.upd2 (Kp.upd2 K1)
      refine ite2 (fun hz => ?_) (fun hz => ?_)
      · exact iteT pop
      · refine ⟨_, rfl, b, _, 0, _, rfl, rfl, .inl (.inl hb2), rfl, l, _, 0, _, rfl, rfl, .inl (.inl hl2), at0, _, rfl, rfl, _, rfl, ?_⟩
        refine ite2 (fun hz => ?_) (fun hz => ?_)
        · exact pop
        · refine ⟨_, rfl, _, rfl, _, _, rfl, rfl, (by show m ≠ 0; omega), fin _ ⟨(n.fdiv m) :: r, z, hb2, hl2, ?_⟩ (Kp.upd2 K1)⟩
          have := hlen; simp at this ⊢; omega
end
end Om

namespace Om
open PySem PySem.Spec PyProof.Rows L2
/-! ### texts as lists of codes -/
def tx (cs : List Nat) : Str := ⟨cs.toArray⟩
theorem tx_cps (cs : List Nat) : (tx cs).cps.toList = cs := by simp [tx]
theorem tx_len (cs : List Nat) : (tx cs).length = cs.length := by simp [tx, Str.length]
theorem tx_app (a b : List Nat) : tx a ++ tx b = tx (a ++ b) := by
  show Str.append (tx a) (tx b) = tx (a ++ b)
  simp [tx, Str.append]
theorem tx_inj {a b : List Nat} (h : tx a = tx b) : a = b := by
  have e : (tx a).cps.toList = (tx b).cps.toList := by rw [h]
  rw [tx_cps, tx_cps] at e
  exact e
theorem of_tx (s : Str) : tx s.cps.toList = s := by
  obtain ⟨c⟩ := s
  simp [tx]
theorem join_tx : ∀ cs : List Nat, Str.join ⟨#[]⟩ (cs.map fun c => tx [c]) = tx cs
  | [] => rfl
  | [c] => rfl
  | c :: d :: r => by
    have ih := join_tx (d :: r)
    show tx [c] ++ (⟨#[]⟩ : Str) ++ Str.join ⟨#[]⟩ ((d :: r).map fun c => tx [c]) = tx (c :: d :: r)
    rw [ih]
    have e0 : (⟨#[]⟩ : Str) = tx [] := rfl
    rw [e0, tx_app, tx_app]
    rfl
theorem empty_tx : Str.ofString "" = (⟨#[]⟩ : Str) := by decide +kernel
def okSign (c : Nat) : Prop := c = 46 ∨ c = 126 ∨ (65 ≤ c ∧ c ≤ 90)
/-- what a law draws as rows -/
structure RowsOk (m : Nat) (rows : List (List Nat)) : Prop where
  h1 : 1 ≤ rows.length
  hm : rows.length ≤ m
  w : ∃ wd, 1 ≤ wd ∧ wd ≤ m ∧ ∀ r ∈ rows, r.length = wd ∧ ∀ c ∈ r, okSign c
def vt (r : List Nat) : V := .str (tx r)
def spRows : Sp := fun vs H Q _ => ∃ (b l : Addr) (m : Nat), vs = [.ref b, .int m] ∧ Box H b l ∧ 1 ≤ m ∧ m ≤ 12 ∧
  ∀ (p : Addr) (rows : List (List Nat)) (H' : Hp), RowsOk m rows → H p = none → H' p = some (.tup (rows.map vt)) → Box H' b l → Kp b l H H' → Q (.ref p) H'
def rJoin (K : PySem.W.Frag) : V → List V → Hp → VK → Prop := fun x xs H Q => ∃ a p, ∃ ys : List Str, x = .str a ∧ xs = [.ref p] ∧ (SqL K H p (ys.map V.str) ∨ SqT K H p (ys.map V.str)) ∧
      (ys.map (·.length)).sum + ys.length * a.length ≤ 16777216 ∧ Q (.str (Txt.join a ys)) H
theorem pe_joinK {X : Cx} {o e : Expr} {to te : TE} {apos pos : Pos} (ho : PE X o to) (he : PE X e te) (hs : starEach [e] X.env = [(false, eval e X.env)] := by rfl) (hbase : attributeBase o "join" X.env (eval o X.env) = eval o X.env := by rfl) (hline : (apos.endLine == pos.line) = true := by rfl) :
    PE X (.Call (.Attribute o "join" apos) [e] [] pos) (tM1 (rJoin X.K) to te) := pe_join ho he hs hbase hline
abbrev sRows : Stmt := top 35
/-- the scope of the i-th comprehension of a return's call -/
def retExpr (s : Stmt) : Expr := match s with
  | .Return (some e) _ => e
  | _ => .Constant .none 0 ⟨0, 0, 0, 0⟩
def arg0 (e : Expr) : Expr := match e with
  | .Call _ (a :: _) _ _ => a
  | _ => .Constant .none 0 ⟨0, 0, 0, 0⟩
def lcScope (e : Expr) : Scope := match e with
  | .ListComp _ _ sc _ => sc
  | _ => { kind := .function, names := [], isGenerator := false, isCoroutine := false }
def lcElt (e : Expr) : Expr := match e with
  | .ListComp e _ _ _ => e
  | _ => .Constant .none 0 ⟨0, 0, 0, 0⟩
def rowsLc : Expr := arg0 (retExpr ((defBody sRows).getD 2 (.Pass ⟨0, 0, 0, 0⟩)))
abbrev nRows : List Str := ["_law_box", "_law_most", "_law_height", "_law_width", "_law_signs", "_law_column", "_law_row"]
theorem scRows : FnScope nRows ["_law_box", "_law_most"] (defScope sRows) := ⟨rfl, rfl, rfl, by decide +kernel, rfl, by decide +kernel, by decide +kernel⟩
theorem blk1 : BlkOk nRows (defScope sRows) (lcScope rowsLc) [("_law_row", 6)] := blkOk_by (by decide +kernel)
/-- the scope of a comprehension within a def, as its own comprehensions see it -/
def relab (sc : Scope) (out : Scope) : Scope := { sc with names := sc.names.map fun (n, k) => if (k == NameKind.free && out.kind == .function && out.names.lookup n == some .cell) then (n, NameKind.cell) else (n, k) }
theorem blk2 : BlkOk nRows (relab (lcScope rowsLc) (defScope sRows)) (lcScope (arg0 (lcElt rowsLc))) [("_law_column", 5)] := blkOk_by (by decide +kernel)
def sg (i : Nat) : List Nat := [[46, 46, 46, 46, 126, 126, 65, 66, 75], [46, 46, 46, 46, 46, 46, 46, 46, 46, 46, 46, 126, 65, 66], [46, 46, 126, 126, 126, 126, 65], [65, 66, 75, 84, 90, 46, 46, 46, 46, 126]].getD i []
theorem sg_ok {i : Nat} (hi : i < 4) : ∀ c ∈ sg i, okSign c := by
  have : ∀ i : Fin 4, ∀ c ∈ sg i, c = 46 ∨ c = 126 ∨ (65 ≤ c ∧ c ≤ 90) := by decide
  exact this ⟨i, hi⟩
theorem sg_len {i : Nat} (hi : i < 4) : 1 ≤ (sg i).length ∧ (sg i).length ≤ 14 := by
  have : ∀ i : Fin 4, 1 ≤ (sg i).length ∧ (sg i).length ≤ 14 := by decide
  exact this ⟨i, hi⟩
def four : List V := [.str (Str.ofString "....~~ABK"), .str (Str.ofString "...........~AB"), .str (Str.ofString "..~~~~A"), .str (Str.ofString "ABKTZ....~")]
theorem four_at {n : Int} (h0 : 0 ≤ n) (h4 : n < 4) : atI four n = some (vt (sg n.toNat)) := by
  have e : n = 0 ∨ n = 1 ∨ n = 2 ∨ n = 3 := by omega
  have s0 : Str.ofString "....~~ABK" = tx (sg 0) := by decide +kernel
  have s1 : Str.ofString "...........~AB" = tx (sg 1) := by decide +kernel
  have s2 : Str.ofString "..~~~~A" = tx (sg 2) := by decide +kernel
  have s3 : Str.ofString "ABKTZ....~" = tx (sg 3) := by decide +kernel
  rcases e with rfl | rfl | rfl | rfl
  · show some (V.str _) = some (V.str _)
    rw [s0]; rfl
  · show some (V.str _) = some (V.str _)
    rw [s1]; rfl
  · show some (V.str _) = some (V.str _)
    rw [s2]; rfl
  · show some (V.str _) = some (V.str _)
    rw [s3]; rfl
theorem atI_of {α : Type} {xs : List α} {n : Int} (h0 : 0 ≤ n) (h1 : n < xs.length) : ∃ v, atI xs n = some v ∧ v ∈ xs := by
  have hj : n.toNat < xs.length := by omega
  refine ⟨xs[n.toNat], ?_, List.getElem_mem hj⟩
  have e : ((n.toNat : Nat) : Int) = n := by omega
  have z := atI_nat (xs := xs) (j := n.toNat) (v := xs[n.toNat]) (by simp [hj])
  rw [e] at z
  exact z
theorem tyes {σ : L2.St} {H : Hp} {f g : Hp → Prop} (h : f H) : tYes σ H fun b H3 => if b = true then f H3 else g H3 := by
  show (if true = true then f H else g H)
  rw [if_pos rfl]
  exact h
section
variable {P : Program} {w : World} {K : PySem.W.Frag} {mg : Str → Option Value} {base : Heap}
theorem ok_rows {f : Addr} {fd : FuncData} (F : FnP K "_law_rows" "_law_rows" sRows f fd) (T : Cal P w K mg base CX0 1 "_law_take" ["_law_box", "_law_many"] spTake)
    (grange : mg "range" = none) (gtuple : mg "tuple" = none) (glen : mg "len" = none) :
    FnOk P w K mg base CX0 2 f fd ["_law_box", "_law_most"] spRows := by
  refine F.ok scRows (fun vs H Q E h => ?_) (fun cdv A outer s H vs Q E hr h => ?_)
  · obtain ⟨b, l, m, rfl, _⟩ := h
    rfl
  · obtain ⟨b, l, m, rfl, B, hm0, hm1, k⟩ := h
    have nd := scRows.nd
    have nbl := B.ne
    refine ⟨_, PSs.nox (pss_cons (ps_asg (pe_tup (pa_cons (pe_op op_add pe_int (pe_cal T hr pass0 (pa_cons (pv 0) (pa_cons (pv 1) pa_nil)))) (pa_cons (pe_op op_add pe_int (pe_cal T hr pass0 (pa_cons (pv 0) (pa_cons (pv 1) pa_nil)))) pa_nil)))
          (pg_tup rfl (pgs_cons (pg_name (i := 2) nd rfl (.inl rfl)) (pgs_cons (pg_name (i := 3) nd rfl (.inr rfl)) pgs_nil))))
      (pss_cons (ps_set (i := 4) nd rfl (.inr rfl) (pe_ix ix_list (pe_lst (pa_cons pe_str (pa_cons pe_str (pa_cons pe_str (pa_cons pe_str pa_nil))))) (pe_cal T hr pass0 (pa_cons (pv 0) (pa_cons pe_int pa_nil))) (fun _ _ => rfl)))
      (pss_one (ps_ret (pe_callTy call_tuple_of (by rfl) gtuple (by decide +kernel) (pa_cons
        (pe_lc (own := [("_law_row", 6)]) (g := gName 6) (te := tM1 (rJoin K) _ _) rfl nd (pi_range1 rfl grange (pa_cons (pv 2) pa_nil)) blk1 (fun _ _ _ _ _ => pg_name (i := 6) nd rfl (.inl rfl)) (fun _ _ _ _ _ => pts_nil) (fun _ _ _ _ _ =>
          pe_joinK pe_str (pe_lc (own := [("_law_column", 5)]) (g := gName 5) rfl nd (pi_range1 rfl grange (pa_cons (pv 3) pa_nil)) blk2 (fun _ _ _ _ _ => pg_name (i := 5) nd rfl (.inl rfl)) (fun _ _ _ _ _ => pts_nil) (fun _ _ _ _ _ =>
            pe_ix ix_str (pv 4) (pe_cal T hr pass0 (pa_cons (pv 0) (pa_cons (pe_callB call_len_str (by rfl) glen PySem.boot_len (pa_cons (pv 4) pa_nil)) pa_nil))) (fun _ _ => rfl))))) pa_nil)))))), ?_⟩
    refine ⟨_, rfl, _, rfl, b, l, _, rfl, B, by omega, by omega, fun n1 H1 a1 a2 B1 K1 => ⟨_, _, rfl, rfl, ?_⟩⟩
    refine ⟨_, rfl, _, rfl, b, l, _, rfl, B1, by omega, by omega, fun n2 H2 b1 b2 B2 K2 => ⟨_, _, rfl, rfl, (by show 2 ≤ sizeLine; decide), fun p hp => ?_⟩⟩
    refine ⟨p, _, rfl, .inl (.inl upd_same), rfl, _, _, rfl, _, _, rfl, rfl, ?_⟩
    refine ⟨by show 4 ≤ sizeLine; decide, fun q hq => ?_⟩
    have B3 : Box (upd (upd H2 p (.tup [.int (1 + n1), .int (1 + n2)])) q (.lst four)) b l := B2.same (Same.new (Same.new (Same.refl H2) hp) hq)
    refine ⟨_, rfl, b, l, 4, rfl, B3, by decide, by decide, fun n3 H4 c1 c2 B4 K4 => ?_⟩
    obtain ⟨ns3, z3, hb3, hl3, _⟩ := B3.ex
    have K34 : Kp b l H H4 := ((K1.trans K2).trans (Kp.of (Same.new (Same.new (Same.refl H2) hp) hq))).trans K4
    have npb : q ≠ b := fun e => by
      have B2' := B2.same (Same.new (Same.refl H2) hp (o := .tup [.int (1 + n1), .int (1 + n2)]))
      obtain ⟨_, _, x1, _⟩ := B2'.ex
      rw [← e, hq] at x1; cases x1
    have npl : q ≠ l := fun e => by
      have B2' := B2.same (Same.new (Same.refl H2) hp (o := .tup [.int (1 + n1), .int (1 + n2)]))
      obtain ⟨_, _, _, x1, _⟩ := B2'.ex
      rw [← e, hq] at x1; cases x1
    have hq4 : H4 q = some (.lst four) := K4 q _ upd_same npb npl
    have i4 : n3.toNat < 4 := by omega
    refine ⟨q, _, n3, _, rfl, rfl, .inl (.inl hq4), four_at c1 c2, ?_⟩
    -- the rows
    have hwd : (1 + n2).toNat ≤ m := by omega
    refine ⟨_, rfl, _, rfl, by omega, by omega, fun D hD => lc_range (lo := 0) (n := (1 + n1).toNat) (fun j H' => ∃ rows : List (List Nat), rows.length = j ∧ (∀ r ∈ rows, r.length = (1 + n2).toNat ∧ ∀ c ∈ r, okSign c) ∧ H' D = some (.lst (rows.map vt)) ∧ Box H' b l ∧ Kp b l H4 H')
      ⟨[], rfl, by simp, upd_same, B4.same (Same.new (Same.refl _) hD), Kp.of (Same.new (Same.refl _) hD)⟩ ?_ ?_⟩
    · rintro j H' hj ⟨rows, e1, e2, e3, B5, K5⟩
      have nDb : D ≠ b := fun e => by
        obtain ⟨_, _, x1, _⟩ := B4.ex
        rw [← e, hD] at x1; cases x1
      have nDl : D ≠ l := fun e => by
        obtain ⟨_, _, _, x1, _⟩ := B4.ex
        rw [← e, hD] at x1; cases x1
      refine ⟨rfl, tyes ?_⟩
      refine ⟨⟨_, rfl⟩, _, rfl, _, rfl, by omega, by omega, fun D2 hD2 => lc_range (lo := 0) (n := (1 + n2).toNat) (fun i H6 => ∃ cs : List Nat, cs.length = i ∧ (∀ c ∈ cs, okSign c) ∧ H6 D2 = some (.lst (cs.map fun c => vt [c])) ∧ Box H6 b l ∧ Kp b l H' H6)
        ⟨[], rfl, by simp, upd_same, B5.same (Same.new (Same.refl _) hD2), Kp.of (Same.new (Same.refl _) hD2)⟩ ?_ ?_⟩
      · rintro i H6 hi ⟨cs, f1, f2, f3, B6, K6⟩
        have nb2 : D2 ≠ b := fun e => by
          obtain ⟨_, _, x1, _⟩ := B5.ex
          rw [← e, hD2] at x1; cases x1
        have nl2 : D2 ≠ l := fun e => by
          obtain ⟨_, _, _, x1, _⟩ := B5.ex
          rw [← e, hD2] at x1; cases x1
        have sl := sg_len i4
        refine ⟨rfl, tyes ?_⟩
        refine ⟨_, rfl, _, rfl, _, rfl, _, rfl, (by show (tx _).length ≤ sizeLine; rw [tx_len]; exact Nat.le_trans sl.2 (by decide)), b, l, _, rfl, B6, ?_, ?_, fun n H7 g1 g2 B7 K7 => ?_⟩
        · rw [tx_len]; omega
        · rw [tx_len]; omega
        · rw [tx_len] at g2
          obtain ⟨c, hc, hm⟩ := atI_of (xs := sg n3.toNat) g1 g2
          refine ⟨_, _, c, rfl, rfl, (by rw [tx_len]; exact Nat.le_trans sl.2 (by decide)), (by rw [tx_cps]; exact hc), ?_⟩
          have f4 := K7 D2 _ f3 nb2 nl2
          refine ⟨_, f4, ?_, cs ++ [c], by simp [f1], ?_, ?_, ?_, ?_⟩
          · rw [List.length_map, f1]
            exact Nat.lt_of_lt_of_le hi (Nat.le_trans hwd (Nat.le_trans hm1 (by decide)))
          · intro c' hc'
            rcases List.mem_append.mp hc' with h | h
            · exact f2 c' h
            · rw [List.mem_singleton.mp h]; exact sg_ok i4 c hm
          · rw [upd_same, List.map_append]; rfl
          · obtain ⟨u1, u2, u3, u4, u5⟩ := B7.ex
            exact ⟨u1, u2, by rw [upd_ne nb2.symm]; exact u3, by rw [upd_ne nl2.symm]; exact u4, u5⟩
          · intro x o hx n1' n2'
            have hne : x ≠ D2 := ne_of_none hx hD2
            rw [upd_ne hne]
            exact K7 x o (K6 x o hx n1' n2') n1' n2'
      · rintro H6 ⟨cs, f1, f2, f3, B6, K6⟩
        refine ⟨_, D2, cs.map fun c => tx [c], rfl, rfl, .inl (.inl (.inl (by rw [f3, List.map_map]; rfl))), ?_, ?_⟩
        · rw [empty_tx]
          have e5 : ∀ l : List Nat, ((l.map fun c => tx [c]).map (·.length)).sum = l.length := by
            intro l
            induction l with
            | nil => rfl
            | cons a r ih => simp only [List.map_cons, List.sum_cons, ih, tx_len, List.length_cons, List.length_nil]; omega
          rw [e5]
          show cs.length + _ * 0 ≤ _
          omega
        · rw [empty_tx, TL.join_eq, join_tx]
          have f4 := K6 D _ e3 nDb nDl
          refine ⟨_, f4, ?_, rows ++ [cs], by simp [e1], ?_, ?_, ?_, ?_⟩
          · rw [List.length_map, e1]
            exact Nat.lt_of_lt_of_le hj (Nat.le_trans (show (1 + n1).toNat ≤ 12 by omega) (by decide))
          · intro r hr'
            rcases List.mem_append.mp hr' with h | h
            · exact e2 r h
            · rw [List.mem_singleton.mp h]; exact ⟨f1, f2⟩
          · rw [upd_same, List.map_append]; rfl
          · obtain ⟨u1, u2, u3, u4, u5⟩ := B6.ex
            exact ⟨u1, u2, by rw [upd_ne nDb.symm]; exact u3, by rw [upd_ne nDl.symm]; exact u4, u5⟩
          · intro x o hx n1' n2'
            have hne : x ≠ D := ne_of_none hx hD
            rw [upd_ne hne]
            exact K6 x o (K5 x o hx n1' n2') n1' n2'
    · rintro H' ⟨rows, e1, e2, e3, B5, K5⟩
      refine ⟨D, _, rfl, .inl ⟨.inl (.inl e3), fun t ht => ?_⟩⟩
      have kall := K34.trans K5
      refine k t rows _ ⟨by omega, by omega, (1 + n2).toNat, by omega, by omega, e2⟩ ?_ upd_same (B5.same (Same.new (Same.refl _) ht)) (kall.trans (Kp.of (Same.new (Same.refl _) ht)))
      cases hh : H t with
      | none => rfl
      | some o =>
        by_cases h1 : t = b
        · obtain ⟨_, _, x1, _⟩ := B5.ex
          rw [← h1, ht] at x1; cases x1
        · by_cases h2 : t = l
          · obtain ⟨_, _, _, x1, _⟩ := B5.ex
            rw [← h2, ht] at x1; cases x1
          · have := kall t o hh h1 h2
            rw [ht] at this; cases this
end
end Om

/-! enumerate(tuple) and enumerate(text) -/
namespace PySem
open Sem (wp)
open Builtin
set_option maxHeartbeats 2000000 in
theorem om_enum_new {u : Value} {ob : Obj} {Hh : Heap → Prop} (B : Begins u ob Hh) :
    Meets (Builtin.«enumerate.__new__» ⟨[.type "enumerate", u], []⟩) (fun _ R z => Hh z.heap ∧
      R (.ok (.ret (.ref (z.heap.push ob).objs.size))) { z with heap := (z.heap.push ob).push { cls := .type "enumerate", data := .fields #[.none, .bool false, .ref z.heap.objs.size, rawInt 0, .none, .none] } }) :=
  Meets.of_wp fun pr wo Ar Re st hq => by
    obtain ⟨hp0, gg, dd, tt, oo⟩ := st
    obtain ⟨hB, hq⟩ := hq
    have hs0 := sub_enumerate
    have step : ∀ {A' : Around} {E : Value → Shared → Prop} {Q : Value → Shared → Prop}, Q (.ref hp0.objs.size) ⟨hp0.push ob, gg, dd, tt, oo⟩ → wpAny (model pr wo) A' (pyIter u) Q E ⟨hp0, gg, dd, tt, oo⟩ :=
      fun q => B.iter pr wo _ _ ⟨hp0, gg, dd, tt, oo⟩ _ hB q
    wp_walk using step
    refine wpAny_stack_any fun zz => wpAny_pure ?_
    split
    · rename_i cc _ _ _ _ _
      cases (cc == Value.type "enumerate") <;> (wp_walk using step; exact ⟨_, rfl, hq⟩)
    · wp_walk using step
      exact ⟨_, rfl, hq⟩
theorem om_enum_call {prog : Program} {w : World} {A : Around} {E : Value → Shared → Prop} {s : Shared} {u : Value} {ob : Obj} {Hh : Heap → Prop} {Q : Value → Shared → Prop} (B : Begins u ob Hh) (hB : Hh s.heap)
    (hq : ∀ h', IsEnum h' (s.heap.objs.size + 1) s.heap.objs.size 0 .none → h'.get? s.heap.objs.size = some ob → (∀ b o, s.heap.get? b = some o → h'.get? b = some o) → Q (.ref (s.heap.objs.size + 1)) { s with heap := h' }) :
    wpAny (model prog w) A (call (.type "enumerate") [u]) Q E s := by
  refine callType_new F.called_enumerate (by decide) (F.typeCall_enumerate_1 _) (F.newCall_enumerate_1 _) (fun obj => F.args_object_init_2 obj _) F.entry_enumerate_new (om_enum_new B) ⟨hB, ?_⟩
  have z1 : (s.heap.push ob).objs.size = s.heap.objs.size + 1 := Heap.size_push ..
  show _ ∧ _
  rw [z1]
  have z2 : IsEnum ((s.heap.push ob).push { cls := .type "enumerate", data := .fields #[.none, .bool false, .ref s.heap.objs.size, rawInt 0, .none, .none] }) (s.heap.objs.size + 1) s.heap.objs.size 0 .none := by
    have z3 := Heap.get?_push_size (s.heap.push ob) (o := { cls := .type "enumerate", data := .fields #[.none, .bool false, .ref s.heap.objs.size, rawInt 0, .none, .none] }) rfl
    rw [z1] at z3
    exact z3
  exact ⟨⟨_, z2, rfl⟩, hq _ z2 (Heap.get?_push_of_some _ (Heap.get?_push_size _ B.free)) fun b o x => Heap.get?_push_of_some _ (Heap.get?_push_of_some _ x)⟩
end PySem
namespace Om
open PySem PySem.Spec PyProof.Rows L2
/-- the tuple's items in new pairs -/
def IteT (K : PySem.W.Frag) (a : Addr) (xs : List V) : It :=
  ⟨fun i H => SqT K H a xs ∧ i < xs.length, fun i H v H' => ∃ T x, v = .ref T ∧ H T = none ∧ H' = upd H T (.tup [.int (i : Nat), x]) ∧ xs[i]? = some x, fun i H => SqT K H a xs ∧ xs.length = i⟩
theorem turn_enumT {P : Program} {w : World} {K : PySem.W.Frag} {elts : List Expr} {kk : Nat} {tpos : Pos} {a e it : Addr} {xs : List V} (nae : a ≠ e) (nai : a ≠ it) (nei : e ≠ it) :
    Turn P w K (.Tuple elts kk tpos) (IteT K a xs) [e, it] e (fun i h => (∃ old, IsEnum h e it ((i : Nat) : Int) old) ∧ h.IsTupleIter it a i) where
  mem := by simp
  obj := fun i h ⟨⟨old, he⟩, o, ho, hc, hd⟩ b hb => by
    rcases (show b = e ∨ b = it by simpa using hb) with rfl | rfl
    · exact ⟨_, he, fun v q => nomatch q⟩
    · exact ⟨o, ho, fun v q => by rw [hd] at q; cases q⟩
  keep := fun i h h' ⟨⟨old, he⟩, hi⟩ k => ⟨⟨old, k e (by simp) _ he⟩, hi.at fun o q => k it (by simp) o q⟩
  item := by
    intro X eP ew eK hc i pins s σ H E I hf ⟨⟨old, he⟩, hit⟩ ⟨hq, hlt⟩
    subst eP ew eK
    obtain ⟨its, rv, tu, hz⟩ := I.tuple hq
    have hx : xs[i]? = some xs[i] := by simp [hlt]
    obtain ⟨u, hu, ru⟩ := rv.get hx
    have el : e < s.heap.objs.size := Heap.lt_size he
    have il : it < s.heap.objs.size := by obtain ⟨_, q, _⟩ := hit; exact Heap.lt_size q
    have hsz : i < its.toArray.size := by
      have := rv.length
      simp
      omega
    have hd0 : X.A.in1.handled = none := I.ok.hd hc
    refine wpAny_pyNext_enum_itemD (Draws.tuple hd0 it a nai its.toArray) he ⟨hit, tu⟩ hsz nei (by simp [nei, Ne.symm nae]) fun x h' tk hx2 ho hst hT hs2 hk => ?_
    obtain rfl : x = u := by
      have e1 : its.toArray[i]? = some x := hx2
      have e2 : its.toArray[i]? = some u := by simpa using hu
      rw [e1] at e2
      exact Option.some.inj e2
    refine ⟨_, rfl, wpAny_letOwnedTupleGo_enum (s := { s with heap := h', toks := tk + 1 }) ho fun h2 he2 sb => ?_⟩
    have hT2 := (sb.2 _ (Nat.ne_of_gt el)).trans hT
    have new : ObjOk X.prog X.w (upd H s.heap.objs.size (.tup [.int (i : Nat), xs[i]])) h2 s.heap.objs.size (.tup [.int (i : Nat), xs[i]]) :=
      ⟨(show 2 ≤ sizeLine by decide), [.int i tk, x], .cons ⟨_, rfl⟩ (.cons ru .nil), _, hT2, rfl, _, rfl⟩
    have I1 : Inv X pins σ (upd H s.heap.objs.size (.tup [.int (i : Nat), xs[i]])) { s with heap := h2, toks := tk + 1 } :=
      I.turnedNew (ch := [e, it]) (fun b ob hb q => (sb.2 b (by rintro rfl; simp at hb)).trans (hk b ob (by rintro rfl; simp at hb) (by rintro rfl; simp at hb) q)) hf (Nat.le_refl _) new
    have ei : ((i + 1 : Nat) : Int) = (i : Int) + 1 := by omega
    refine ⟨.ref s.heap.objs.size, _, I1, rfl, ⟨_, _, rfl, I.hok.fresh (Nat.le_refl _), rfl, hx⟩, ⟨⟨x, by rw [ei]; exact he2⟩, hst.1.at fun o q => (sb.2 it (Ne.symm nei)).trans q⟩, fun b hb => ?_⟩
    have hlt2 : b < s.heap.objs.size := by
      rcases (show b = e ∨ b = it by simpa using hb) with rfl | rfl
      · exact el
      · exact il
    rw [upd_ne (Nat.ne_of_lt hlt2)]
    exact (hf b hb).1
  done := by
    intro X eP ew eK hc i pins s σ H E I hf ⟨⟨old, he⟩, hit⟩ ⟨hq, hle⟩
    subst eP ew eK
    obtain ⟨its, rv, tu, hz⟩ := I.tuple hq
    obtain ⟨f0, f1, f2, f3, f4, f5⟩ := hf it (by simp)
    have hl := rv.length
    have hd0 : X.A.in1.handled = none := I.ok.hd hc
    obtain rfl : i = its.toArray.size := by simp; omega
    exact wpAny_pyNext_enum_endD (Draws.tuple hd0 it a nai its.toArray) he ⟨hit, tu⟩ fun h' eb => ⟨rfl, I.turned (t' := s.toks) (fun b o hb q => eb b o hb q) f0 f1 f3 f4 f5⟩
  self := fun A i s Q E ⟨⟨_, he⟩, _⟩ h => wpAny_pyIter_enum he h
def iEnumT (K : PySem.W.Frag) (ta : TA) : TI := fun σ H R => ta σ H fun vs H1 => ∃ a xs, vs = [.ref a] ∧ SqT K H1 a xs ∧ R (IteT K a xs) H1
theorem pi_enumT {X : Cx} {e : Expr} {ta : TA} {p pos tpos : Pos} {elts : List Expr} {kk : Nat} (hg : Gl X "enumerate") (hm : X.mg "enumerate" = none) (ha : PA X [e] ta) (hs : starEach [e] X.env = [(false, eval e X.env)] := by rfl) :
    PI X (.Tuple elts kk tpos) (.Call (.Name "enumerate" p) [e] [] pos) (iEnumT X.K ta) := by
  constructor
  intro pins s σ H R I h
  refine Call_ (ld_blt I hg hm boot_enumerate (PyProof.Rows.callWith_type1 (thn (ha.run pos pins s σ H _ I h) fun us s1 ⟨vs, H1, I1, r1, a, xs, ev, hq, q⟩ => ?_) hs rfl))
  subst ev
  cases r1 with
  | cons ra rr =>
    cases rr
    cases ra
    obtain ⟨its, rv, tu, hz⟩ := I1.tuple hq
    have la : a < s1.heap.objs.size := by obtain ⟨o, ho, _⟩ := tu; exact Heap.lt_size ho
    refine om_enum_call (begins_tuple a its.toArray) tu fun h' he hi hk => wpAny_pyIter_enum he ?_
    have I2 : Inv X pins σ H1 { s1 with heap := h' } := I1.kept (t' := s1.toks) hk
    refine ⟨s1.heap.objs.size + 1, [s1.heap.objs.size + 1, s1.heap.objs.size], _, _, H1, rfl, I2, turn_enumT (a := a) (xs := xs) (Nat.ne_of_lt (Nat.lt_succ_of_lt la)) (Nat.ne_of_lt la) (Nat.succ_ne_self _), ⟨⟨.none, he⟩, _, hi, rfl, rfl⟩, fun b hb => ?_, q⟩
    have hb2 : s1.heap.objs.size ≤ b := by
      rcases (show b = s1.heap.objs.size + 1 ∨ b = s1.heap.objs.size by simpa using hb) with rfl | rfl
      · omega
      · exact Nat.le_refl _
    exact I1.fpOk hb2 (I1.hok.fresh hb2)
/-- for i, x in enumerate(t): one turn from Pv i to Pv (i + 1) -/
theorem for_enumT {K : PySem.W.Frag} {a : Addr} {xs : List V} {g : TG} {tb : TS} {D : Ends} {σ : L2.St} {H : Hp} (Pv : Nat → L2.St → Hp → Prop) (h0 : Pv 0 σ H) (hl : ∀ i σ H, i ≤ xs.length → Pv i σ H → SqT K H a xs)
    (hs : ∀ i x T σ H, xs[i]? = some x → Pv i σ H → H T = none → g (.ref T) σ (upd H T (.tup [.int (i : Nat), x])) fun σ2 H2 => tb { D with nx := Pv (i + 1), ct := Pv (i + 1), bk := D.nx } σ2 H2) (hd : ∀ σ H, Pv xs.length σ H → D.nx σ H) :
    ∃ W : Nat → Nat → L2.St → Hp → Prop, (∃ m, W 0 m σ H) ∧ ∀ i m σ H, W i m σ H → ((IteT K a xs).stop i H ∧ D.nx σ H) ∨ ((IteT K a xs).go i H ∧ ∃ Nx : L2.St → Hp → Prop, (∀ σ' H', Nx σ' H' → ∃ m', m' < m ∧ W (i + 1) m' σ' H') ∧
      ∀ x H', (IteT K a xs).yld i H x H' → g x σ H' fun σ2 H2 => tb { D with nx := Nx, ct := Nx, bk := D.nx } σ2 H2) := by
  refine ⟨fun i m σ H => m = xs.length - i ∧ i ≤ xs.length ∧ Pv i σ H, ⟨xs.length, by omega, Nat.zero_le _, h0⟩, ?_⟩
  rintro i m σ H ⟨rfl, hi, p⟩
  have q := hl i σ H hi p
  by_cases hlt : i < xs.length
  · refine .inr ⟨⟨q, hlt⟩, Pv (i + 1), fun σ' H' p' => ⟨xs.length - (i + 1), by omega, rfl, hlt, p'⟩, fun x H' hy => ?_⟩
    obtain ⟨T, y, rfl, hT, rfl, hx⟩ := hy
    exact hs i y T σ H hx p hT
  · obtain rfl : i = xs.length := by omega
    exact .inl ⟨⟨q, rfl⟩, hd σ H p⟩
end Om

/-! the first wrong sign of rows: the program's way and the law's -/
namespace Om
def okB (c : Nat) : Bool := decide (c = 46 ∨ c = 126 ∨ (65 ≤ c ∧ c ≤ 90))
theorem okB_iff (c : Nat) : okB c = true ↔ okSign c := by unfold okB okSign; exact decide_eq_true_iff
/-- the first of n columns from i on that is missing or wrong -/
def fw (r : List Nat) : Nat → Nat → Option Nat
  | 0, _ => none
  | n + 1, i => if i = r.length ∨ okB (r.getD i 0) = false then some i else fw r n (i + 1)
def fwEnd (r : List Nat) (wd : Nat) : Option Nat := if wd < r.length then some wd else none
def orElse' (a b : Option Nat) : Option Nat := match a with
  | some c => some c
  | none => b
def fwc (r : List Nat) (wd : Nat) : Option Nat := orElse' (fw r wd 0) (fwEnd r wd)
def chkF (wd : Nat) : List (List Nat) → Nat → Option (Nat × Nat)
  | [], _ => none
  | r :: rs, i => if i = 12 then some (i, 0) else match fwc r wd with
    | some c => some (i, c)
    | none => chkF wd rs (i + 1)
def wdOf (r : List Nat) : Nat := max 1 (min r.length 12)
def chk : List (List Nat) → Option (Nat × Nat)
  | [] => some (0, 0)
  | r :: rs => chkF (wdOf r) (r :: rs) 0
def dc (w0 : Nat) (r : List Nat) : Nat → Nat → Option Nat
  | 0, _ => none
  | n + 1, i => if 12 ≤ i ∨ w0 ≤ i ∨ okB (r.getD i 0) = false then some i else dc w0 r n (i + 1)
def dcEnd (w0 : Nat) (r : List Nat) : Option Nat := if r.length < w0 then some r.length else none
def dcc (w0 : Nat) (r : List Nat) : Option Nat := orElse' (dc w0 r r.length 0) (dcEnd w0 r)
def dueF (w0 : Nat) : List (List Nat) → Nat → Option (Nat × Nat)
  | [], _ => none
  | r :: rs, i => if i = 12 then some (12, 0) else match dcc w0 r with
    | some c => some (i, c)
    | none => dueF w0 rs (i + 1)
def due : List (List Nat) → Option (Nat × Nat)
  | [] => some (0, 0)
  | [] :: _ => some (0, 0)
  | (c :: r) :: rs => dueF (r.length + 1) ((c :: r) :: rs) 0
theorem row_same {r : List Nat} {w0 wd : Nat} (hwd : wd = min w0 12) (hc : w0 ≤ 12 ∨ r.length = w0) :
    ∀ (m i n k : Nat), m = wd - i → i ≤ wd → i ≤ r.length → n = wd - i → k = r.length - i → orElse' (fw r n i) (fwEnd r wd) = orElse' (dc w0 r k i) (dcEnd w0 r) := by
  intro m
  induction m with
  | zero =>
    intro i n k hm hi hr hn hk
    obtain rfl : i = wd := by omega
    obtain rfl : n = 0 := by omega
    show fwEnd r i = _
    unfold fwEnd
    by_cases hl : i < r.length
    · rw [if_pos hl]
      obtain ⟨k', rfl⟩ : ∃ k', k = k' + 1 := ⟨k - 1, by omega⟩
      unfold dc
      rw [if_pos (by omega)]
      rfl
    · rw [if_neg hl]
      obtain rfl : k = 0 := by omega
      show none = dcEnd w0 r
      unfold dcEnd
      rw [if_neg (by omega)]
  | succ m ih =>
    intro i n k hm hi hr hn hk
    obtain ⟨n', rfl⟩ : ∃ n', n = n' + 1 := ⟨n - 1, by omega⟩
    by_cases he : i = r.length
    · obtain rfl : k = 0 := by omega
      unfold fw
      rw [if_pos (.inl he)]
      show some i = dcEnd w0 r
      unfold dcEnd
      rw [if_pos (by omega), he]
    · obtain ⟨k', rfl⟩ : ∃ k', k = k' + 1 := ⟨k - 1, by omega⟩
      unfold fw dc
      by_cases hb : okB (r.getD i 0) = false
      · rw [if_pos (.inr hb), if_pos (.inr (.inr hb))]
        rfl
      · rw [if_neg (by intro h; rcases h with h | h; exact he h; exact hb h), if_neg (by intro h; rcases h with h | h | h; omega; omega; exact hb h)]
        exact ih (i + 1) n' k' (by omega) (by omega) (by omega) (by omega) (by omega)
theorem fwc_dcc {r : List Nat} {w0 : Nat} (hc : w0 ≤ 12 ∨ r.length = w0) : fwc r (min w0 12) = dcc w0 r :=
  row_same (wd := min w0 12) rfl hc _ 0 _ _ rfl (Nat.zero_le _) (Nat.zero_le _) rfl rfl
theorem chkF_dueF {w0 : Nat} (h : w0 ≤ 12) : ∀ (rs : List (List Nat)) (i : Nat), chkF (min w0 12) rs i = dueF w0 rs i
  | [], _ => rfl
  | r :: rs, i => by
    unfold chkF dueF
    by_cases hi : i = 12
    · rw [if_pos hi, if_pos hi, hi]
    · rw [if_neg hi, if_neg hi, fwc_dcc (.inl h), chkF_dueF h rs (i + 1)]
theorem chk_due : ∀ rows : List (List Nat), chk rows = due rows
  | [] => rfl
  | [] :: rs => rfl
  | (c :: r) :: rs => by
    have hw : wdOf (c :: r) = min (r.length + 1) 12 := by unfold wdOf; simp only [List.length_cons]; omega
    show chkF (wdOf (c :: r)) ((c :: r) :: rs) 0 = dueF (r.length + 1) ((c :: r) :: rs) 0
    rw [hw]
    by_cases h : r.length + 1 ≤ 12
    · exact chkF_dueF h _ 0
    · unfold chkF dueF
      rw [if_neg (by decide), if_neg (by decide), fwc_dcc (r := c :: r) (w0 := r.length + 1) (.inr rfl)]
      have hs : ∃ x, dcc (r.length + 1) (c :: r) = some x := by
        rw [← fwc_dcc (r := c :: r) (w0 := r.length + 1) (.inr rfl)]
        unfold fwc fwEnd
        cases hf : fw (c :: r) (min (r.length + 1) 12) 0 with
        | some x => exact ⟨x, rfl⟩
        | none => exact ⟨_, if_pos (by simp only [List.length_cons]; omega)⟩
      obtain ⟨x, hx⟩ := hs
      rw [hx]
/-- rows that are good -/
theorem fw_none {r : List Nat} (h : ∀ c ∈ r, okSign c) : ∀ n i, i + n ≤ r.length → fw r n i = none
  | 0, _, _ => rfl
  | n + 1, i, hi => by
    unfold fw
    have h1 : okB (r.getD i 0) = true := by
      rw [okB_iff, List.getD_eq_getElem?_getD, List.getElem?_eq_getElem (by omega)]
      exact h _ (List.getElem_mem _)
    rw [if_neg (by rintro (h | h); · omega
                   · rw [h1] at h; cases h), fw_none h n (i + 1) (by omega)]
theorem chkF_none {wd : Nat} : ∀ (rs : List (List Nat)) (i : Nat), i + rs.length ≤ 12 → (∀ r ∈ rs, r.length = wd ∧ ∀ c ∈ r, okSign c) → chkF wd rs i = none
  | [], _, _, _ => rfl
  | r :: rs, i, hi, h => by
    obtain ⟨h1, h2⟩ := h r (List.mem_cons_self ..)
    unfold chkF
    have e : fwc r wd = none := by
      unfold fwc fwEnd
      rw [fw_none h2 wd 0 (by omega), if_neg (by omega)]
      rfl
    simp only [List.length_cons] at hi
    rw [if_neg (by omega), e]
    exact chkF_none rs (i + 1) (by omega) fun r hr => h r (List.mem_cons_of_mem _ hr)
theorem chk_rows {m : Nat} {rows : List (List Nat)} (h : RowsOk m rows) (hm : m ≤ 12) : chk rows = none := by
  obtain ⟨h1, h2, wd, w1, w2, hr⟩ := h
  cases rows with
  | nil => simp at h1
  | cons r rs =>
    have e := (hr r (List.mem_cons_self ..)).1
    have hw : wdOf r = wd := by unfold wdOf; omega
    show chkF (wdOf r) (r :: rs) 0 = none
    rw [hw]
    exact chkF_none _ 0 (by omega) hr
end Om

namespace Om
open PySem PySem.Spec PyProof.Rows L2
abbrev sFwc : Stmt := top 20
abbrev sChk : Stmt := top 19
abbrev sII : Stmt := inClass (top 3) 0
abbrev sIslI : Stmt := inClass (top 16) 0
def allSigns : Str := Str.ofString ".ABCDEFGHIJKLMNOPQRSTUVWXYZ~"
theorem allSigns_cps : allSigns.cps.toList = [46, 65, 66, 67, 68, 69, 70, 71, 72, 73, 74, 75, 76, 77, 78, 79, 80, 81, 82, 83, 84, 85, 86, 87, 88, 89, 90, 126] := by decide +kernel
theorem mem_allSigns (c : Nat) : decide (c ∈ allSigns.cps.toList) = okB c := by
  rw [allSigns_cps]
  unfold okB
  apply decide_eq_decide.mpr
  simp only [List.mem_cons, List.not_mem_nil, or_false]
  omega
def optV : Option Nat → V
  | some c => .int (c : Nat)
  | none => .non
def spFwc : Sp := fun vs H Q _ => ∃ (r : List Nat) (wd : Nat), vs = [.str (tx r), .int wd] ∧ r.length ≤ 1000 ∧ wd ≤ 12 ∧ Q (optV (fwc r wd)) H
theorem small_le {n : Nat} (h : n ≤ 1000) : n ≤ sizeLine := Nat.le_of_lt (small1000 h)
theorem fw_succ (r : List Nat) (n i : Nat) : fw r (n + 1) i = if i = r.length ∨ okB (r.getD i 0) = false then some i else fw r n (i + 1) := rfl
section
variable {P : Program} {w : World} {K : PySem.W.Frag} {mg : Str → Option Value} {base : Heap}
theorem scFwc : FnScope ["signs", "width", "column"] ["signs", "width"] (defScope sFwc) := ⟨rfl, rfl, rfl, by decide +kernel, rfl, by decide +kernel, by decide +kernel⟩
theorem ok_fwc {f : Addr} {fd : FuncData} (F : FnP K "_first_wrong_column" "_first_wrong_column" sFwc f fd) (grange : mg "range" = none) (glen : mg "len" = none) (gall : ∃ t, mg "ALL_SIGNS" = some (.str allSigns t)) :
    FnOk P w K mg base CX0 1 f fd ["signs", "width"] spFwc := by
  obtain ⟨t0, gall⟩ := gall
  refine F.ok scFwc (fun vs H Q E h => ?_) (fun cdv A outer s H vs Q E hr h => ?_)
  · obtain ⟨r, wd, rfl, _⟩ := h
    rfl
  · obtain ⟨r, wd, rfl, hl, hw, k⟩ := h
    have nd := scFwc.nd
    have hl2 : (tx r).length ≤ sizeLine := by rw [tx_len]; exact small_le hl
    refine ⟨_, PSs.nox (pss_cons (ps_for PassesOwn.never rfl (pi_range1 rfl grange (pa_cons (pv 1) pa_nil)) (pg_name (i := 2) nd rfl (.inl rfl))
        (pss_one (ps_if (PW.pt (pw_or (pt_cmpR op_eq (pv 2) (pe_callB call_len_str (by rfl) glen PySem.boot_len (pa_cons (pv 0) pa_nil)) (nomark _))
            (pw_or1 (pt_cmpR op_notIn_sign (pe_ix ix_str (pv 0) (pv 2) (fun _ _ => rfl)) (pe_glob (v := .str allSigns) rfl gall ⟨_, rfl⟩) rfl)))) (pss_one (ps_ret (pv 2))) pss_nil)))
      (pss_cons (ps_if (pt_cmpR op_gt (pe_callB call_len_str (by rfl) glen PySem.boot_len (pa_cons (pv 0) pa_nil)) (pv 1) (nomark _)) (pss_one (ps_ret (pv 1))) pss_nil)
      (pss_one (ps_ret pe_non)))), ?_⟩
    refine ⟨_, rfl, _, rfl, by omega, by omega, for_range (lo := 0) (n := (wd : Int).toNat) (fun i σ H' => H' = H ∧ (∃ v, σ = [some (.str (tx r)), some (.int wd), v]) ∧ fw r wd 0 = fw r (wd - i) i ∧ i ≤ r.length) ⟨rfl, ⟨none, rfl⟩, rfl, Nat.zero_le _⟩ ?_ ?_⟩
    · rintro i σ H' hi ⟨rfl, ⟨v, rfl⟩, hf, hir⟩
      have hi' : i < wd := by omega
      obtain ⟨n, hn⟩ : ∃ n, wd - i = n + 1 := ⟨wd - i - 1, by omega⟩
      have hn2 : n = wd - (i + 1) := by omega
      rw [hn, fw_succ] at hf
      refine ⟨_, rfl, _, rfl, _, rfl, hl2, rfl, _, rfl, ?_⟩
      have e1 : decide (V.int (0 + (i : Int)) = V.int ((tx r).length : Nat)) = decide (i = r.length) := by
        rw [tx_len]
        apply decide_eq_decide.mpr
        constructor
        · intro h; injection h with h; omega
        · intro h; subst h; rw [Int.zero_add]
      have ret : (i = r.length ∨ okB (r.getD i 0) = false) → Q (.int (0 + (i : Int))) H' := fun h => by
        rw [if_pos h] at hf
        have e2 : fwc r wd = some i := by
          unfold fwc
          rw [hf]
          rfl
        rw [e2] at k
        rw [Int.zero_add]
        exact k
      show (if decide (V.int (0 + (i : Int)) = V.int ((tx r).length : Nat)) = true then _ else _)
      rw [e1]
      refine ite2 (fun hz => ?_) (fun hz => ?_)
      · refine iteT ⟨_, rfl, ?_⟩
        exact ret (.inl (of_decide_eq_true hz))
      · have hne : i ≠ r.length := fun e => hz (decide_eq_true e)
        have hlt : i < r.length := by omega
        · refine ⟨_, rfl, _, rfl, _, _, r[i], rfl, rfl, hl2, ?_, _, _, rfl, rfl, _, rfl, ?_⟩
          · rw [tx_cps, Int.zero_add]
            exact atI_nat (by simp [hlt])
          · rw [mem_allSigns]
            have e3 : r.getD i 0 = r[i] := by rw [List.getD_eq_getElem?_getD, List.getElem?_eq_getElem hlt]; rfl
            rw [e3] at ret hf
            cases hb : okB r[i] with
            | false =>
              refine iteT ⟨_, rfl, ?_⟩
              exact ret (.inr hb)
            | true =>
              refine iteF ?_
              refine ⟨rfl, ⟨_, rfl⟩, ?_, hlt⟩
              rw [hf, if_neg (by rintro (h | h); · exact hne h
                                 · rw [hb] at h; cases h), hn2]
    · rintro σ H' ⟨rfl, ⟨v, rfl⟩, hf, hir⟩
      have e0 : (wd : Int).toNat = wd := by omega
      rw [e0, Nat.sub_self] at hf
      have hf : fw r wd 0 = none := hf
      refine ⟨_, rfl, _, rfl, hl2, _, rfl, _, _, rfl, rfl, _, rfl, ?_⟩
      have e2 : fwc r wd = fwEnd r wd := by
        unfold fwc
        rw [hf]
        rfl
      rw [e2] at k
      rw [tx_len]
      refine ite2 (fun hz => ?_) (fun hz => ?_)
      · have hz' : (wd : Int) < (r.length : Nat) := of_decide_eq_true hz
        refine ⟨_, rfl, ?_⟩
        unfold fwEnd at k
        rw [if_pos (by omega)] at k
        exact k
      · have hz' : ¬ (wd : Int) < (r.length : Nat) := fun h => hz (decide_eq_true h)
        unfold fwEnd at k
        rw [if_neg (by omega)] at k
        exact k
end
end Om

namespace Om
open PySem PySem.Spec PyProof.Rows L2
/-- what the top says of InvalidIsland, at C, its __init__ at fI -/
structure IsI (K : PySem.W.Frag) (mg : Str → Option Value) (C fI : Addr) : Prop where
  oex : OexC K C
  noR : PySem.W.findIn K (.ref C) "row" = some none
  noC : PySem.W.findIn K (.ref C) "column" = some none
  iC : PySem.W.findIn K (.ref C) "__init__" = some (some (.ref fI))
  tI : PySem.W.typeIn K (.ref fI) = some (.type "function")
  gC : mg "InvalidIsland" = some (.ref C)
def xdII (x y : V) : List (Str × V) := [(("column" : Str), y), (("row" : Str), x)]
def spII (C : Addr) : Sp := fun vs H Q _ => ∃ (a : Addr) (x y : V), vs = [.ref a, x, y] ∧ H a = some (exo a C none) ∧
  ∀ dx, H dx = none → dx ≠ a → Q .non (upd (upd (upd H dx (exd dx [(("row" : Str), x)])) a (exo a C (some dx))) dx (exd dx (xdII x y)))
theorem mkII {C : Addr} {H1 : Hp} {W : XK} {x y : V} (k : ∀ d H', H1 d = none → Same H1 H' → H' d = some (.xd (xdII x y)) → W (.ref C) (some d) H') :
    [x, y].length ≤ 1000 ∧ ∀ a, H1 a = none → spII C (.ref a :: ([x, y] ++ [])) (upd H1 a (exo a C none)) (fun v H2 => v = .non ∧ ∃ (d : Addr) (fs : List (Str × V)), H2 a = some (exo a C (some d)) ∧ H2 d = some (exd d fs) ∧ H1 d = none ∧ W (.ref C) (some d) (upd (del H2 a) d (.xd fs))) (fun _ _ _ => False) := by
  refine ⟨by simp, fun a ha => ⟨a, x, y, rfl, upd_same, fun dx h1 h2 => ⟨rfl, dx, _, ?_, upd_same, ?_, ?_⟩⟩⟩
  · rw [upd_ne (Ne.symm h2), upd_same]
  · rw [upd_ne h2] at h1; exact h1
  · rw [upd_ne h2] at h1
    refine k dx _ h1 (fun c o hc => ?_) upd_same
    have n1 : c ≠ dx := ne_of_none hc h1
    have n2 : c ≠ a := ne_of_none hc ha
    rw [upd_ne n1, del_ne n2, upd_ne n1, upd_ne n2, upd_ne n1, upd_ne n2]
    exact hc
theorem Same.tup {K : PySem.W.Frag} {H H' : Hp} {a : Addr} {xs : List V} (e : Same H H') (h : SqT K H a xs) : SqT K H' a xs := by
  rcases h with (h | ⟨o, h⟩) | h
  · exact .inl (.inl (e _ _ h))
  · exact .inl (.inr ⟨o, e _ _ h⟩)
  · exact .inr h
theorem chkF_cons (wd : Nat) (r : List Nat) (rs : List (List Nat)) (i : Nat) : chkF wd (r :: rs) i = if i = 12 then some (i, 0) else match fwc r wd with
    | some c => some (i, c)
    | none => chkF wd rs (i + 1) := rfl
def spChk (K : PySem.W.Frag) (C : Addr) : Sp := fun vs H Q E => ∃ (a : Addr) (rows : List (List Nat)), vs = [.ref a] ∧ SqT K H a (rows.map vt) ∧ rows.length ≤ 1000 ∧ (∀ r ∈ rows, r.length ≤ 1000) ∧
  (chk rows = none → ∀ H', Same H H' → Q .non H') ∧ ∀ r c, chk rows = some (r, c) → ∀ d H', H d = none → Same H H' → H' d = some (.xd (xdII (.int (r : Nat)) (.int (c : Nat)))) → E (.ref C) (some d) H'
section
variable {P : Program} {w : World} {K : PySem.W.Frag} {mg : Str → Option Value} {base : Heap} {C fI : Addr}
theorem scII : FnScope ["self", "row", "column"] ["self", "row", "column"] (defScope sII) := ⟨rfl, rfl, rfl, by decide +kernel, rfl, by decide +kernel, by decide +kernel⟩
theorem ok_II {fd : FuncData} (F : FnP K "__init__" "InvalidIsland.__init__" sII fI fd) (T : IsI K mg C fI) : FnOk P w K mg base CX0 1 fI fd ["self", "row", "column"] (spII C) := by
  refine F.ok scII (fun vs H Q E h => ?_) (fun cdv A outer s H vs Q E hr h => ?_)
  · obtain ⟨a, x, y, rfl, _⟩ := h
    rfl
  · obtain ⟨a, x, y, rfl, ha, k⟩ := h
    refine ⟨_, PSs.nox (pss_cons (ps_ost (pv 0) (pv 1)) (pss_one (ps_ost (pv 0) (pv 2)))), ?_⟩
    refine ⟨_, rfl, _, rfl, a, C, rfl, T.oex, T.noR, .inl ⟨ha, fun dx h1 h2 => ?_⟩⟩
    exact ⟨_, rfl, _, rfl, a, C, rfl, T.oex, T.noC, .inr ⟨dx, _, upd_same, (by rw [upd_ne h2]; exact upd_same), by simp, k dx h1 h2⟩⟩
abbrev nChk : List Str := ["rows", "width", "row", "signs", "column"]
theorem scChk : FnScope nChk ["rows"] (defScope sChk) := ⟨rfl, rfl, rfl, by decide +kernel, rfl, by decide +kernel, by decide +kernel⟩
theorem ok_chk {f : Addr} {fd fdI : FuncData} (F : FnP K "_check_rows" "_check_rows" sChk f fd) (T : IsI K mg C fI) (FI : FnOk P w K mg base CX0 1 fI fdI ["self", "row", "column"] (spII C)) (bI : Binds K fdI ["self", "row", "column"] [])
    (G : Cal P w K mg base CX0 1 "_first_wrong_column" ["signs", "width"] spFwc) (glen : mg "len" = none) (gmax : mg "max" = none) (gmin : mg "min" = none) (genum : mg "enumerate" = none) (glg : ∃ t, mg "LARGEST" = some (.int 12 t)) :
    FnOk P w K mg base (L2.CX P w) 3 f fd ["rows"] (spChk K C) := by
  obtain ⟨t0, glg⟩ := glg
  refine F.ok scChk (fun vs H Q E h => ?_) (fun cdv A outer s H vs Q E hr h => ?_)
  · obtain ⟨a, rows, rfl, _⟩ := h
    rfl
  · obtain ⟨a, rows, rfl, hS, hl, hrl, kN, kS⟩ := h
    have nd := scChk.nd
    have hr1 : Room 1 _ := hr.mono (by decide)
    refine ⟨_, pss_cons (ps_if (pt_cmpR op_eq (pe_callB call_len_seq (by rfl) glen PySem.boot_len (pa_cons (pv 0) pa_nil)) pe_int (nomark _))
          (pss_one (ps_raise rfl (takes_of rfl rfl rfl rfl) (pmk_oex T.oex T.iC T.tI FI hr bI .nil pass0 rfl T.gC (pa_cons pe_int (pa_cons pe_int pa_nil))))) pss_nil)
      (pss_cons (ps_set (i := 1) nd rfl (.inl rfl) (pe_callB (call_max2 rfl) (by rfl) gmax (by decide +kernel) (pa_cons pe_int (pa_cons
          (pe_callB (call_min2 rfl) (by rfl) gmin (by decide +kernel) (pa_cons (pe_callB call_len_str (by rfl) glen PySem.boot_len (pa_cons (pe_ix ix_tup (pv 0) pe_int (fun _ _ => rfl)) pa_nil)) (pa_cons (pe_glob (v := .int 12) rfl glg ⟨_, rfl⟩) pa_nil))) pa_nil))))
      (pss_one (ps_for (passes_of rfl) rfl (pi_enumT rfl genum (pa_cons (pv 0) pa_nil)) (pg_tup rfl (pgs_cons (pg_name (i := 2) nd rfl (.inl rfl)) (pgs_cons (pg_name (i := 3) nd rfl (.inl rfl)) pgs_nil)))
        (pss_cons (ps_if (pt_cmpR op_eq (pv 2) (pe_glob (v := .int 12) rfl glg ⟨_, rfl⟩) (nomark _))
            (pss_one (ps_raise rfl (takes_of rfl rfl rfl rfl) (pmk_oex T.oex T.iC T.tI FI hr bI .nil pass0 rfl T.gC (pa_cons (pv 2) (pa_cons pe_int pa_nil))))) pss_nil)
        (pss_cons (ps_set (i := 4) nd rfl (.inl rfl) (pe_cal G hr1 pass0 (pa_cons (pv 3) (pa_cons (pv 1) pa_nil))))
        (pss_one (ps_if (pt_cmpR op_notN (pv 4) pe_non (nomark _))
            (pss_one (ps_raise rfl (takes_of rfl rfl rfl rfl) (pmk_oex T.oex T.iC T.tI FI hr bI .nil pass0 rfl T.gC (pa_cons (pv 2) (pa_cons (pv 4) pa_nil))))) pss_nil))))))), ?_⟩
    refine ⟨_, rfl, a, _, rfl, .inr hS, rfl, _, rfl, ?_⟩
    cases rows with
    | nil =>
      refine iteT ?_
      exact mkII (W := E) fun d H' h1 h2 h3 => kS 0 0 rfl d H' h1 h2 h3
    | cons r0 rs =>
      have hne : ¬ decide (V.int (((r0 :: rs).map vt).length : Nat) = V.int 0) = true := fun h => by
        have h := of_decide_eq_true h
        injection h with h
        simp only [List.length_map, List.length_cons] at h
        omega
      rw [if_neg hne]
      have hr0 : (tx r0).length ≤ sizeLine := by rw [tx_len]; exact small_le (hrl r0 (List.mem_cons_self ..))
      refine ⟨_, rfl, a, _, 0, _, rfl, rfl, hS, at0, _, rfl, hr0, _, _, rfl, _, _, rfl, ?_⟩
      have ew : (if (if (12 : Int) < ((tx r0).length : Nat) then (12 : Int) else ((tx r0).length : Nat)) > 1 then (if (12 : Int) < ((tx r0).length : Nat) then (12 : Int) else ((tx r0).length : Nat)) else 1) = ((wdOf r0 : Nat) : Int) := by
        rw [tx_len]
        unfold wdOf
        split <;> split <;> omega
      rw [ew]
      have hwd : wdOf r0 ≤ 12 := by unfold wdOf; omega
      refine ⟨_, rfl, a, _, rfl, hS, for_enumT (K := K) (a := a) (xs := (r0 :: rs).map vt) (fun i σ H' => Same H H' ∧ (∃ v2 v3 v4, σ = [some (.ref a), some (.int (wdOf r0 : Nat)), v2, v3, v4]) ∧ chk (r0 :: rs) = chkF (wdOf r0) ((r0 :: rs).drop i) i)
        ⟨Same.refl H, ⟨_, _, _, rfl⟩, rfl⟩ (fun i σ H' _ p => Same.tup p.1 hS) ?_ ?_⟩
      · rintro i x T1 σ H1 hx ⟨sm, ⟨v2, v3, v4, rfl⟩, hc⟩ hT1
        rw [List.getElem?_map] at hx
        cases hri : (r0 :: rs)[i]? with
        | none => rw [hri] at hx; cases hx
        | some r =>
          rw [hri] at hx
          obtain rfl : vt r = x := Option.some.inj hx
          have hlt : i < (r0 :: rs).length := (List.getElem?_eq_some_iff.mp hri).1
          have hre : (r0 :: rs)[i] = r := (List.getElem?_eq_some_iff.mp hri).2
          have hmem : r ∈ r0 :: rs := hre ▸ List.getElem_mem hlt
          rw [List.drop_eq_getElem_cons hlt, hre, chkF_cons] at hc
          have sm1 : Same H (upd H1 T1 (.tup [.int (i : Nat), vt r])) := Same.new sm hT1
          refine ⟨T1, _, rfl, .inl (.inl upd_same), rfl, _, _, rfl, _, _, rfl, rfl, ?_⟩
          refine ⟨_, rfl, rfl, _, rfl, ?_⟩
          refine ite2 (fun hz => ?_) (fun hz => ?_)
          · have hz := of_decide_eq_true hz
            injection hz with hz
            have hi : i = 12 := by omega
            rw [if_pos hi] at hc
            refine ⟨_, rfl, ?_⟩
            exact mkII (W := E) fun d H' h1 h2 h3 => kS i 0 hc d H' (Same.free sm1 h1) (sm1.trans h2) h3
          · have hi : i ≠ 12 := fun h => hz (decide_eq_true (by rw [h]; rfl))
            rw [if_neg hi] at hc
            refine ⟨_, rfl, _, rfl, r, wdOf r0, rfl, hrl r hmem, hwd, ?_⟩
            refine ⟨_, rfl, rfl, _, rfl, ?_⟩
            cases hf : fwc r (wdOf r0) with
            | none =>
              rw [hf] at hc
              refine iteF ?_
              exact ⟨sm1, ⟨_, _, _, rfl⟩, hc⟩
            | some c =>
              rw [hf] at hc
              refine iteT ⟨_, rfl, _, rfl, ?_⟩
              exact mkII (W := E) fun d H' h1 h2 h3 => kS i c hc d H' (Same.free sm1 h1) (sm1.trans h2) h3
      · rintro σ H1 ⟨sm, ⟨v2, v3, v4, rfl⟩, hc⟩
        have e0 : (r0 :: rs).drop ((r0 :: rs).map vt).length = [] := by simp
        rw [e0] at hc
        exact kN hc H1 sm
end
end Om

namespace Om
open PySem PySem.Spec PyProof.Rows L2 LamX
theorem iteT' {b : Bool} {A B : Prop} (h : b = true) (a : A) : if b = true then A else B := by
  rw [h, if_pos rfl]
  exact a
theorem iteF' {b : Bool} {A B : Prop} (h : b = false) (a : B) : if b = true then A else B := by
  rw [h, if_neg Bool.false_ne_true]
  exact a
end Om

namespace Om
open PySem PySem.Spec PyProof.Rows L2 LamX
/-! ### a text of some signs, several times -/
theorem foldl_rep (cs : List Nat) : ∀ (n : Nat) (acc : List Nat), (List.replicate n cs.toArray).foldl (· ++ ·) acc.toArray = (acc ++ (List.replicate n cs).flatten).toArray
  | 0, acc => by simp
  | n + 1, acc => by
    rw [List.replicate_succ, List.foldl_cons]
    have e : acc.toArray ++ cs.toArray = (acc ++ cs).toArray := by simp
    rw [e, foldl_rep cs n (acc ++ cs), List.replicate_succ, List.flatten_cons, List.append_assoc]
def rMulS : R2 := fun x y H Q => ∃ (cs : List Nat) (k : Int), x = .str (tx cs) ∧ y = .int k ∧ cs ≠ [] ∧ cs.length ≤ 1000 ∧ 2 ≤ k ∧ k ≤ 1000 ∧ Q (.str (tx (List.replicate k.toNat cs).flatten)) H
theorem op_mulS {X : Cx} : OpR X (binaryOp .Mult) rMulS := by
  rintro pins s σ H x y v u Q I rx ry ⟨cs, k, rfl, rfl, hne, hl, h2, h3, q⟩
  obtain ⟨t, rfl⟩ := rx
  obtain ⟨t', rfl⟩ := ry
  have hk : (List.replicate k.toNat cs).flatten.length ≤ 1000000 := by
    rw [PyProof.Rows.lm_len_rep_flat]
    have a1 : k.toNat * cs.length ≤ 1000 * 1000 := Nat.mul_le_mul (by omega) hl
    omega
  have hm : (tx cs).length * k.toNat ≤ 1000000 := by
    rw [tx_len]
    have a1 : cs.length * k.toNat ≤ 1000 * 1000 := Nat.mul_le_mul hl (by omega)
    omega
  have n1 : ¬ k < 1 := by omega
  have n2 : (k == 1 || (tx cs).length == 0) = false := by
    rw [tx_len, Bool.or_eq_false_iff]
    refine ⟨by simpa using (show ¬ k = 1 by omega), ?_⟩
    cases cs with
    | nil => exact absurd rfl hne
    | cons a r => rfl
  refine PySem.P.mul_str ?_ (fun _ _ => ?_) (fun _ _ => ?_) ?_
  · rw [decide_eq_false (show ¬ k < -(2 ^ 63 : Int) by omega), decide_eq_false (show ¬ k ≥ 2 ^ 63 by omega)]
    rfl
  · have e1 : (1000 : Int) ≤ (2 ^ 63 - 1) / k := by
      rw [Int.le_ediv_iff_mul_le (by omega)]
      have : 1000 * k ≤ 1000 * 1000 := Int.mul_le_mul_of_nonneg_left h3 (by omega)
      omega
    rw [tx_len]
    omega
  · refine decide_eq_false (show ¬ (tx cs).length * k.toNat > sizeLine from Nat.not_lt.mpr (Nat.le_trans hm (by decide)))
  · rw [if_neg n1, if_neg (by rw [n2]; exact Bool.false_ne_true)]
    have e2 : (⟨(List.replicate k.toNat (tx cs).cps).foldl (· ++ ·) #[]⟩ : Str) = tx (List.replicate k.toNat cs).flatten := by
      have := foldl_rep cs k.toNat []
      unfold tx
      rw [← List.nil_append (List.replicate k.toNat cs).flatten, ← this]
    rw [e2]
    exact ⟨by rw [tx_len]; exact Nat.le_trans hk (by decide), .str (tx (List.replicate k.toNat cs).flatten), H, I.tok _, ⟨_, rfl⟩, q⟩
/-! ### the island is made -/
/-- what the top says of Island, at CI -/
structure IslF (K : PySem.W.Frag) (mg : Str → Option Value) (CI fN : Addr) : Prop where
  cl : Cls K CI
  nR : NoAttr K CI "_rows"
  made : Mk K CI fN
  gI : mg "Island" = some (.ref CI)
def islFs (a : Addr) : List (Str × V) := putF "_rows" (.ref a) []
def spIsl (K : PySem.W.Frag) (CI C0 : Addr) : Sp := fun vs H Q E => ∃ (p dx a : Addr) (rows : List (List Nat)), vs = [.ref p, .ref a] ∧ H p = some (.ins CI dx []) ∧ SqT K H a (rows.map vt) ∧ rows.length ≤ 1000 ∧ (∀ r ∈ rows, r.length ≤ 1000) ∧
  (chk rows = none → ∀ H', (∀ b o, H b = some o → b ≠ p → H' b = some o) → H' p = some (.ins CI dx (islFs a)) → Q .non H') ∧
  ∀ r c, chk rows = some (r, c) → ∀ d H', H d = none → Same H H' → H' d = some (.xd (xdII (.int (r : Nat)) (.int (c : Nat)))) → E (.ref C0) (some d) H'
section
variable {P : Program} {w : World} {K : PySem.W.Frag} {mg : Str → Option Value} {base : Heap} {CI C0 fN : Addr}
theorem scIsl : FnScope ["self", "rows"] ["self", "rows"] (defScope sIslI) := ⟨rfl, rfl, rfl, by decide +kernel, rfl, by decide +kernel, by decide +kernel⟩
theorem ok_isl {fd : FuncData} (F : FnP K "__init__" "Island.__init__" sIslI fN fd) (T : IslF K mg CI fN) (G : Cal P w K mg base (L2.CX P w) 3 "_check_rows" ["rows"] (spChk K C0)) (gtuple : mg "tuple" = none) :
    FnOk P w K mg base (L2.CX P w) 4 fN fd ["self", "rows"] (spIsl K CI C0) := by
  refine F.ok scIsl (fun vs H Q E h => ?_) (fun cdv A outer s H vs Q E hr h => ?_)
  · obtain ⟨p, dx, a, rows, rfl, _⟩ := h
    rfl
  · obtain ⟨p, dx, a, rows, rfl, hp, hS, hl, hrl, kN, kS⟩ := h
    refine ⟨_, pss_cons (ps_expr (pe_cal G hr (E := E) (passes_call (W := fun cls d _ H => E cls d H) (takes_of rfl rfl rfl rfl) fun _ _ _ _ h => h) (pa_cons (pv 1) pa_nil)))
      (pss_one (ps_fld (pv 0) (pe_callTy call_tuple_of (by rfl) gtuple (by decide +kernel) (pa_cons (pv 1) pa_nil)) rfl)), ?_⟩
    refine ⟨_, rfl, a, rows, rfl, hS, hl, hrl, fun e H1 s1 => ?_, fun r c e d H' h1 h2 h3 => kS r c e d H' h1 h2 h3⟩
    refine ⟨_, rfl, a, _, rfl, .inr ⟨Same.tup s1 hS, ?_⟩⟩
    refine ⟨_, rfl, p, CI, dx, [], rfl, s1 _ _ hp, T.cl, T.nR, by decide, ?_⟩
    exact kN e _ (fun b o hb n => by rw [upd_ne n]; exact s1 _ _ hb) upd_same
end
end Om


namespace Om
open PySem PySem.Spec PyProof.Rows L2 LamX
def ansII (r c : Nat) : List V := [.str "InvalidIsland", .int (r : Nat), .int (c : Nat)]
def Lo (rows : List (List Nat)) : Prop := ∀ r ∈ rows, ∀ c ∈ r, c < 1000
/-! ### what stays from step to step of a law -/
/-- all but tables and the box stay -/
def Lv (b l : Addr) (H H' : Hp) : Prop := ∀ c o, H c = some o → (∀ ps, o ≠ .tbl ps) → c ≠ b → c ≠ l → H' c = some o
theorem Lv.refl (b l : Addr) (H : Hp) : Lv b l H H := fun _ _ h _ _ _ => h
theorem Lv.trans {b l : Addr} {H H1 H2 : Hp} (u : Lv b l H H1) (v : Lv b l H1 H2) : Lv b l H H2 := fun c o h n n1 n2 => v c o (u c o h n n1 n2) n n1 n2
theorem Kp.lv {b l : Addr} {H H' : Hp} (k : Kp b l H H') : Lv b l H H' := fun c o h _ n1 n2 => k c o h n1 n2
theorem lv_ext {b l : Addr} {H H' : Hp} (k : ExtN H H') : Lv b l H H' := fun c o h n _ _ => k c o h n
theorem lv_same {b l : Addr} {H H' : Hp} (k : Same H H') : Lv b l H H' := fun c o h _ _ _ => k c o h
theorem Lv.tup {K : PySem.W.Frag} {b l a : Addr} {H H' : Hp} {xs : List V} (v : Lv b l H H') (B : Box H b l) (h : SqT K H a xs) : SqT K H' a xs := by
  obtain ⟨ns, z, h1, h2, _⟩ := B.ex
  rcases h with (h | ⟨o, h⟩) | h
  · exact .inl (.inl (v _ _ h (fun ps e => by cases e) (ne_of h h1 fun e => by cases e) (ne_of h h2 fun e => by cases e)))
  · exact .inl (.inr ⟨o, v _ _ h (fun ps e => by cases e) (ne_of h h1 fun e => by cases e) (ne_of h h2 fun e => by cases e)⟩)
  · exact .inr h
theorem Box.ext {b l : Addr} {H H' : Hp} (B : Box H b l) (k : ExtN H H') : Box H' b l := by
  obtain ⟨ns, z, h1, h2, h3⟩ := B.ex
  exact ⟨ns, z, k _ _ h1 (fun ps e => by cases e), k _ _ h2 (fun ps e => by cases e), h3⟩
theorem tabs_kp {T : List (Addr × Str)} {b l : Addr} {H H' : Hp} (t : Tabs T H) (B : Box H b l) (k : Kp b l H H') : Tabs T H' := fun p hp => by
  obtain ⟨ns, z, h1, h2, _⟩ := B.ex
  obtain ⟨ps, q1, q2, q3⟩ := t p hp
  refine ⟨ps, k _ _ q1 (ne_of q1 h1 fun e => by cases e) (ne_of q1 h2 fun e => by cases e), q2, fun pos cv hc => ?_⟩
  obtain ⟨c, e1, e2⟩ := q3 pos cv hc
  exact ⟨c, e1, k _ _ e2 (ne_of e2 h1 fun e => by unfold CodeO at e; cases e) (ne_of e2 h2 fun e => by unfold CodeO at e; cases e)⟩
/-! ### tuples cut and put together -/
theorem catA_read {K : PySem.W.Frag} {a b : Addr} {xs ys : List V} {H : Hp} {Q : VK} (hx : SqT K H a xs) (hy : SqT K H b ys) (hl : xs.length + ys.length ≤ sizeLine) (k : ∀ p H', Same H H' → SqT K H' p (xs ++ ys) → Q (.ref p) H') : rCatA K (.ref a) (.ref b) H Q :=
  ⟨a, b, xs, ys, rfl, rfl, hx, hy, hl, fun e => k b H (Same.refl H) (by rw [e]; exact hy), fun _ e => k a H (Same.refl H) (by rw [e, List.append_nil]; exact hx), fun _ _ p hp => k p _ (Same.new (Same.refl H) hp) (.inl (.inl upd_same))⟩
theorem slA_read {K : PySem.W.Frag} {a : Addr} {xs : List V} {lo hi : Option Int} {H : Hp} {Q : VK} (hx : SqT K H a xs) (k : ∀ p H', Same H H' → SqT K H' p (cutV xs lo hi) → Q (.ref p) H') : rSlA K (.ref a) lo hi H Q := by
  refine ⟨a, xs, rfl, hx, fun ⟨e1, e2⟩ => k a H (Same.refl H) ?_, fun _ p hp => k p _ (Same.new (Same.refl H) hp) (.inl (.inl upd_same))⟩
  unfold cutV
  rw [e1, e2, List.drop_zero, Nat.sub_zero, List.take_length]
  exact hx
/-! ### rows with some bound -/
structure Good (rows : List (List Nat)) : Prop where
  len : rows.length ≤ 900
  row : ∀ r ∈ rows, r.length ≤ 1000 ∧ ∀ c ∈ r, c < 1000
theorem Good.lens {rows : List (List Nat)} (g : Good rows) : ∀ r ∈ rows, r.length ≤ 1000 := fun r h => (g.row r h).1
theorem Good.lo {rows : List (List Nat)} (g : Good rows) : Lo rows := fun r h => (g.row r h).2
theorem Good.le {rows : List (List Nat)} (g : Good rows) : rows.length ≤ 1000 := Nat.le_trans g.len (by decide)
theorem RowsOk.good {m : Nat} {rows : List (List Nat)} (h : RowsOk m rows) (hm : m ≤ 12) : Good rows := by
  obtain ⟨h1, h2, wd, w1, w2, hr⟩ := h
  refine ⟨by omega, fun r hr' => ⟨by have := (hr r hr').1; omega, fun c hc => ?_⟩⟩
  rcases (hr r hr').2 c hc with e | e | e <;> omega
theorem cutV_rows (rows : List (List Nat)) (lo hi : Option Int) : ∃ rs : List (List Nat), cutV (rows.map vt) lo hi = rs.map vt ∧ rs.length ≤ rows.length ∧ ∀ r ∈ rs, r ∈ rows := by
  refine ⟨(rows.drop (HT.sIx (rows.map vt).length 0 lo)).take (HT.sIx (rows.map vt).length (rows.map vt).length hi - HT.sIx (rows.map vt).length 0 lo), ?_, ?_, fun r h => List.mem_of_mem_drop (List.mem_of_mem_take h)⟩
  · unfold cutV
    rw [List.map_take, List.map_drop]
  · rw [List.length_take, List.length_drop]
    omega
theorem cutS_tx (r : List Nat) (lo hi : Option Int) : ∃ q : List Nat, cutS (tx r) lo hi = tx q ∧ q.length ≤ r.length ∧ ∀ c ∈ q, c ∈ r := by
  refine ⟨_, rfl, ?_, fun c h => ?_⟩
  · rw [List.length_take, List.length_drop, tx_cps]
    omega
  · have := List.mem_of_mem_drop (List.mem_of_mem_take h)
    rwa [tx_cps] at this
/-! ### the answers of _law_error and of _law_due -/
end Om

namespace Om
open PySem PySem.Spec PyProof.Rows L2 LamX
/-! ### own __getitem__, __contains__, __len__, __eq__ -/
/-- the class at C finds the name as the def at f -/
structure OwnM (K : PySem.W.Frag) (C : Addr) (n : Str) (f : Addr) : Prop where
  at_ : PySem.W.findIn K (.ref C) n = some (some (.ref f))
  fn : PySem.W.isFn K (.ref f) = true
  isF : PySem.W.fnIn K f = true
section
variable {X : Cx} {CX : CXT} {k : Nat} {C f : Addr} {fd : FuncData} {ps : List Str} {sp : Sp} {E : XK}
theorem run_fnS {A : Around} {pins : List (Addr × Obj)} {σ : L2.St} {H : Hp} {s : Shared} {Q : VK} {us : List Value} {vs : List V} (F : FnOk X.prog X.w X.K X.mg X.base CX k f fd ps sp) (sb : Sub X k A) (hb : Binds X.K fd ps []) (hx : Passes CX X E) (I : Inv X pins σ H s)
    (r : Vals vs us) (h : sp vs H Q E) : wpAny (model X.prog X.w) A (call (.ref f) us) (EP X pins σ Q) X.xe s := by
  have e0 : Env0 X.prog X.w X.K X.mg X.base A X.stack s H := by
    have e := I.env0
    exact ⟨by rw [sb.fr]; exact e.frames, e.mod, e.bs, e.bsz, e.funs, e.frf, e.hok, e.bare⟩
  have hl : us.length = ps.length := by rw [← r.length]; exact F.len _ _ _ _ h
  refine wpAny_call (codeAny_mono (F.run A X.stack s H ⟨us, []⟩ us vs Q E sb.room e0 (by
    have := hb s us I.kIn (by simpa using hl)
    simpa using this) r h) fun r s' hq => ?_)
  cases r with
  | error e => exact hx pins σ H s e s' I hq
  | ok fl =>
    cases fl with
    | ret w =>
      obtain ⟨v, H', I', rz, q⟩ := I.after hq
      exact ⟨v, H', I', rz, q⟩
    | next => exact False.elim hq
    | brk => exact False.elim hq
    | cont => exact False.elim hq
def rIxOwn (C : Addr) (sp : Sp) (E : XK) : R2 := fun x y H Q => ∃ a dx fs, x = .ref a ∧ H a = some (.ins C dx fs) ∧ sp [x, y] H Q E
theorem pe_ixOwn {a b : Expr} {ta tb : TE} {pos : Pos} (M : OwnM X.K C "__getitem__" f) (F : FnOk X.prog X.w X.K X.mg X.base CX k f fd ps sp) (hr : Room (k + 1) X.A) (hb : Binds X.K fd ps []) (hx : Passes CX X E) (ha : PE X a ta) (hi : PE X b tb)
    (hsl : ∀ v u, subscripted b true v u = runValue (.builtin "lifetime.subscript" ⟨[v, u], []⟩) := by intro v u; rfl) : PE X (.Subscript a b pos) (tOp (rIxOwn C sp E) ta tb) := by
  refine ⟨fun pins s σ H Q I h => ?_⟩
  refine Subscript_ (binT ha hi I h fun v u s2 x y H2 I2 rx ry q => ?_)
  obtain ⟨p, dx, fs, rfl, hp, q⟩ := q
  cases rx
  obtain ⟨mA, J, _⟩ := ins_get I2.hok hp
  obtain ⟨od, J, _⟩ := J.look
  obtain ⟨m, hF⟩ := I2.fr
  exact PySem.W.sub_K hF I2.ok.mod.kin J M.at_ M.isF M.fn (run_fnS F ⟨hr.in1, rfl⟩ hb hx I2 (.cons (show RelV (V.ref p) (Value.ref p) from rfl) (.cons ry .nil)) q) (hsl _ _)
def rInOwn (C : Addr) (sp : Sp) (E : XK) : R2 := fun x y H Q => ∃ a dx fs, y = .ref a ∧ H a = some (.ins C dx fs) ∧ sp [y, x] H (fun v H' => ∃ b, v = .bl b ∧ Q (.bl b) H') E
theorem op_inOwn (M : OwnM X.K C "__contains__" f) (F : FnOk X.prog X.w X.K X.mg X.base CX k f fd ps sp) (hr : Room k X.A) (hb : Binds X.K fd ps []) (hx : Passes CX X E) : OpR X (compareOp .In) (rInOwn C sp E) := by
  intro pins s σ H x y v u Q I rx ry h
  obtain ⟨p, dx, fs, rfl, hp, q⟩ := h
  cases ry
  obtain ⟨mA, J, _⟩ := ins_get I.hok hp
  obtain ⟨od, J, _⟩ := J.look
  obtain ⟨m, hF⟩ := I.fr
  refine PySem.W.in_K hF I.ok.mod.kin J M.at_ M.fn (wpAny_mono (run_fnS F ⟨hr, rfl⟩ hb hx I (.cons (show RelV (V.ref p) (Value.ref p) from rfl) (.cons rx .nil)) q) (fun r s' z => ?_) fun _ _ z => z)
  obtain ⟨z, H', I', rz, b, ez, q⟩ := z
  subst ez
  cases rz
  exact wpAny_truthy_bool ⟨.bl b, H', I', rfl, q⟩
def rNotInOwn (C : Addr) (sp : Sp) (E : XK) : R2 := fun x y H Q => ∃ a dx fs, y = .ref a ∧ H a = some (.ins C dx fs) ∧ sp [y, x] H (fun v H' => ∃ b, v = .bl b ∧ Q (.bl (!b)) H') E
theorem op_notInOwn (M : OwnM X.K C "__contains__" f) (F : FnOk X.prog X.w X.K X.mg X.base CX k f fd ps sp) (hr : Room k X.A) (hb : Binds X.K fd ps []) (hx : Passes CX X E) : OpR X (compareOp .NotIn) (rNotInOwn C sp E) := by
  intro pins s σ H x y v u Q I rx ry h
  obtain ⟨p, dx, fs, rfl, hp, q⟩ := h
  cases ry
  obtain ⟨mA, J, _⟩ := ins_get I.hok hp
  obtain ⟨od, J, _⟩ := J.look
  obtain ⟨m, hF⟩ := I.fr
  refine PySem.W.notIn_K hF I.ok.mod.kin J M.at_ M.fn (wpAny_mono (run_fnS F ⟨hr, rfl⟩ hb hx I (.cons (show RelV (V.ref p) (Value.ref p) from rfl) (.cons rx .nil)) q) (fun r s' z => ?_) fun _ _ z => z)
  obtain ⟨z, H', I', rz, b, ez, q⟩ := z
  subst ez
  cases rz
  exact wpAny_truthy_bool ⟨.bl (!b), H', I', rfl, q⟩
/-- both sides instances of C -/
def rEqOwn (C : Addr) (sp : Sp) (E : XK) : R2 := fun x y H Q => ∃ a dx fs b dy gs, x = .ref a ∧ H a = some (.ins C dx fs) ∧ y = .ref b ∧ H b = some (.ins C dy gs) ∧ sp [x, y] H (fun v H' => ∃ b, v = .bl b ∧ Q (.bl b) H') E
theorem op_eqOwn (M : OwnM X.K C "__eq__" f) (F : FnOk X.prog X.w X.K X.mg X.base CX k f fd ps sp) (hr : Room k X.A) (hb : Binds X.K fd ps []) (hx : Passes CX X E) : OpR X (compareOp .Eq) (rEqOwn C sp E) := by
  intro pins s σ H x y v u Q I rx ry h
  obtain ⟨p, dx, fs, q', dy, gs, rfl, hp, rfl, hq, q⟩ := h
  cases rx
  cases ry
  obtain ⟨mA, J, _⟩ := ins_get I.hok hp
  obtain ⟨od, J, _⟩ := J.look
  obtain ⟨mB, J', _⟩ := ins_get I.hok hq
  obtain ⟨od', J', _⟩ := J'.look
  obtain ⟨m, hF⟩ := I.fr
  show wpAny (model X.prog X.w) X.A (richCompare .Eq _ _) _ _ _
  refine PySem.W.cmp_K (op := .Eq) (tb := .ref C) hr.units0 hF I.ok.mod.kin J J'.type (by simp [PySem.W.notFirst]) M.at_ M.fn (wpAny_mono (run_fnS F ⟨hr, rfl⟩ hb hx I (.cons (show RelV (V.ref p) (Value.ref p) from rfl) (.cons (show RelV (V.ref q') (Value.ref q') from rfl) .nil)) q) (fun r s' z => ?_) fun _ _ z => z)
  obtain ⟨z, H', I', rz, b, ez, q⟩ := z
  subst ez
  cases rz
  exact ⟨.bl b, H', I', rfl, q⟩
/-- len(o) -/
def rLenOwn (C : Addr) (sp : Sp) (E : XK) : List V → Hp → VK → Prop := fun xs H Q => ∃ a dx fs, xs = [.ref a] ∧ H a = some (.ins C dx fs) ∧ sp xs H (fun v H' => ∃ n : Int, v = .int n ∧ 0 ≤ n ∧ n < 2 ^ 63 ∧ Q (.int n) H') E
theorem call_lenOwn (M : OwnM X.K C "__len__" f) (F : FnOk X.prog X.w X.K X.mg X.base CX k f fd ps sp) (hr : Room (k + 1) X.A) (hb : Binds X.K fd ps []) (hx : Passes CX X E) : CallR X (.builtin "len") (rLenOwn C sp E) := by
  intro pins s σ H xs us Q I r h
  obtain ⟨p, dx, fs, rfl, hp, q⟩ := h
  cases r with
  | cons r1 r2 =>
    cases r2
    cases r1
    obtain ⟨mA, J, _⟩ := ins_get I.hok hp
    obtain ⟨od, J, _⟩ := J.look
    obtain ⟨m, hF⟩ := I.fr
    refine PySem.W.len_K hF I.ok.mod.kin J M.at_ M.fn (wpAny_mono (run_fnS F ⟨hr.in1, rfl⟩ hb hx I (.cons (show RelV (V.ref p) (Value.ref p) from rfl) .nil) q) (fun r s' z => ?_) fun _ _ z => z)
    obtain ⟨z, H', I', rz, n, ez, n0, n1, q⟩ := z
    subst ez
    obtain ⟨t, rfl⟩ := rz
    exact ⟨⟨n0, n1⟩, .int n, H', I'.tok (s'.toks + 1), ⟨_, rfl⟩, q⟩
end
end Om


namespace Om
open PySem PySem.Spec PyProof.Rows L2
/-! ### enumerate(text) -/
def IteS (x : Str) : It :=
  ⟨fun i _ => i < x.cps.size, fun i H v H' => ∃ T c, v = .ref T ∧ H T = none ∧ H' = upd H T (.tup [.int (i : Nat), .str ⟨#[c]⟩]) ∧ x.cps[i]? = some c, fun i _ => x.cps.size = i⟩
theorem turn_enumS {P : Program} {w : World} {K : PySem.W.Frag} {elts : List Expr} {kk : Nat} {tpos : Pos} {e it : Addr} {x : Str} {t : Tok} (nei : e ≠ it) :
    Turn P w K (.Tuple elts kk tpos) (IteS x) [e, it] e (fun i h => (∃ old, IsEnum h e it ((i : Nat) : Int) old) ∧ h.IsStrIter it (strIterType x) x t i) where
  mem := by simp
  obj := fun i h ⟨⟨old, he⟩, o, ho, hc, hd⟩ b hb => by
    rcases (show b = e ∨ b = it by simpa using hb) with rfl | rfl
    · exact ⟨_, he, fun v q => nomatch q⟩
    · exact ⟨o, ho, fun v q => by rw [hd] at q; cases q⟩
  keep := fun i h h' ⟨⟨old, he⟩, hi⟩ k => ⟨⟨old, k e (by simp) _ he⟩, let ⟨o, q, r⟩ := hi; ⟨o, k it (by simp) o q, r⟩⟩
  item := by
    intro X eP ew eK hc i pins s σ H E I hf ⟨⟨old, he⟩, hit⟩ hlt
    subst eP ew eK
    have el : e < s.heap.objs.size := Heap.lt_size he
    have il : it < s.heap.objs.size := by obtain ⟨_, q, _⟩ := hit; exact Heap.lt_size q
    have hd0 : X.A.in1.handled = none := I.ok.hd hc
    refine wpAny_pyNext_enum_itemD (Draws.text hd0 it x t) he hit hlt nei (by simp [nei]) fun v h' tk hx2 ho hst hT hs2 hk => ?_
    obtain ⟨c, u, hxc, rfl⟩ := hx2
    refine ⟨_, rfl, wpAny_letOwnedTupleGo_enum (s := { s with heap := h', toks := tk + 1 }) ho fun h2 he2 sb => ?_⟩
    have hT2 := (sb.2 _ (Nat.ne_of_gt el)).trans hT
    have new : ObjOk X.prog X.w (upd H s.heap.objs.size (.tup [.int (i : Nat), .str ⟨#[c]⟩])) h2 s.heap.objs.size (.tup [.int (i : Nat), .str ⟨#[c]⟩]) :=
      ⟨(show 2 ≤ sizeLine by decide), [.int i tk, .str ⟨#[c]⟩ u], .cons ⟨_, rfl⟩ (.cons ⟨_, rfl⟩ .nil), _, hT2, rfl, _, rfl⟩
    have I1 : Inv X pins σ (upd H s.heap.objs.size (.tup [.int (i : Nat), .str ⟨#[c]⟩])) { s with heap := h2, toks := tk + 1 } :=
      I.turnedNew (ch := [e, it]) (fun b ob hb q => (sb.2 b (by rintro rfl; simp at hb)).trans (hk b ob (by rintro rfl; simp at hb) (by rintro rfl; simp at hb) q)) hf (Nat.le_refl _) new
    have ei : ((i + 1 : Nat) : Int) = (i : Int) + 1 := by omega
    refine ⟨.ref s.heap.objs.size, _, I1, rfl, ⟨_, c, rfl, I.hok.fresh (Nat.le_refl _), rfl, hxc⟩, ⟨⟨.str ⟨#[c]⟩ u, by rw [ei]; exact he2⟩, let ⟨o, q, r⟩ := hst; ⟨o, (sb.2 it (Ne.symm nei)).trans q, r⟩⟩, fun b hb => ?_⟩
    have hlt2 : b < s.heap.objs.size := by
      rcases (show b = e ∨ b = it by simpa using hb) with rfl | rfl
      · exact el
      · exact il
    rw [upd_ne (Nat.ne_of_lt hlt2)]
    exact (hf b hb).1
  done := by
    intro X eP ew eK hc i pins s σ H E I hf ⟨⟨old, he⟩, hit⟩ hle
    subst eP ew eK
    obtain ⟨f0, f1, f2, f3, f4, f5⟩ := hf it (by simp)
    have hd0 : X.A.in1.handled = none := I.ok.hd hc
    obtain rfl : i = x.cps.size := Eq.symm hle
    exact wpAny_pyNext_enum_endD (Draws.text hd0 it x t) he hit fun h' eb => ⟨rfl, I.turned (t' := s.toks) (fun b o hb q => eb b o hb q) f0 f1 f3 f4 f5⟩
  self := fun A i s Q E ⟨⟨_, he⟩, _⟩ h => wpAny_pyIter_enum he h
def iEnumS (ta : TA) : TI := fun σ H R => ta σ H fun vs H1 => ∃ x, vs = [.str x] ∧ R (IteS x) H1
theorem pi_enumS {X : Cx} {e : Expr} {ta : TA} {p pos tpos : Pos} {elts : List Expr} {kk : Nat} (hg : Gl X "enumerate") (hm : X.mg "enumerate" = none) (ha : PA X [e] ta) (hs : starEach [e] X.env = [(false, eval e X.env)] := by rfl) :
    PI X (.Tuple elts kk tpos) (.Call (.Name "enumerate" p) [e] [] pos) (iEnumS ta) := by
  constructor
  intro pins s σ H R I h
  refine Call_ (ld_blt I hg hm boot_enumerate (PyProof.Rows.callWith_type1 (thn (ha.run pos pins s σ H _ I h) fun us s1 ⟨vs, H1, I1, r1, x, ev, q⟩ => ?_) hs rfl))
  subst ev
  cases r1 with
  | cons ra rr =>
    cases rr
    obtain ⟨t, rfl⟩ := ra
    refine om_enum_call (begins_text x t) trivial fun h' he hi hk => wpAny_pyIter_enum he ?_
    have I2 : Inv X pins σ H1 { s1 with heap := h' } := I1.kept (t' := s1.toks) hk
    refine ⟨s1.heap.objs.size + 1, [s1.heap.objs.size + 1, s1.heap.objs.size], _, _, H1, rfl, I2, turn_enumS (x := x) (t := t) (Nat.succ_ne_self _), ⟨⟨.none, he⟩, _, hi, rfl, rfl⟩, fun b hb => ?_, q⟩
    have hb2 : s1.heap.objs.size ≤ b := by
      rcases (show b = s1.heap.objs.size + 1 ∨ b = s1.heap.objs.size by simpa using hb) with rfl | rfl
      · omega
      · exact Nat.le_refl _
    exact I1.fpOk hb2 (I1.hok.fresh hb2)
end Om


namespace Om
open PySem PySem.Spec PyProof.Rows L2
/-! ### walks of enumerate; a comprehension of two for over walks -/
def YEnum (xs : Nat → Option V) : Nat → Hp → V → Hp → Prop := fun i H v H' => ∃ T x, v = .ref T ∧ H T = none ∧ H' = upd H T (.tup [.int (i : Nat), x]) ∧ xs i = some x
theorem walk_enumT {K : PySem.W.Frag} {a : Addr} {xs : List V} : Walk (IteT K a xs) xs.length (fun H => SqT K H a xs) (YEnum fun i => xs[i]?) :=
  ⟨fun i _ hi q => ⟨q, hi⟩, fun _ q => ⟨q, rfl⟩, fun _ _ _ _ _ _ y => y⟩
theorem walk_enumS {x : Str} : Walk (IteS x) x.cps.size (fun _ => True) (YEnum fun i => x.cps[i]?.map fun c => .str ⟨#[c]⟩) :=
  ⟨fun i _ hi _ => hi, fun _ _ => rfl, fun i H v H' _ _ y => by
    obtain ⟨T, c, e1, e2, e3, e4⟩ := y
    exact ⟨T, _, e1, e2, e3, by show (x.cps[i]?).map _ = _; rw [e4]; rfl⟩⟩
section
variable {J : It} {n : Nat} {G : Hp → Prop} {Y : Nat → Hp → V → Hp → Prop}
/-- the inner walk of a comprehension of two for: Pv by the inner turn -/
theorem in_it (w : Walk J n G Y) {g : TG} {tt : TT} {te : TE} {vs : List Nat} {σ : L2.St} {H : Hp} {D : Addr} {Nx : Hp → Prop} (Pv : Nat → Hp → Prop) (h0 : Pv 0 H) (hG : ∀ i H, i ≤ n → Pv i H → G H)
    (hs : ∀ i x H H', i < n → Pv i H → Y i H x H' → g x (wipe σ vs) H' fun σ2 H2 => wipe σ2 vs = wipe σ vs ∧ tt σ2 H2 fun b H3 =>
      if b = true then te σ2 H3 fun y H4 => ∃ acc, H4 D = some (.lst acc) ∧ acc.length < sizeLine ∧ Pv (i + 1) (upd H4 D (.lst (acc ++ [y]))) else Pv (i + 1) H3) (hd : ∀ H, Pv n H → Nx H) :
    ∃ W1 : Nat → Nat → Hp → Prop, (∃ m, W1 0 m H) ∧ ∀ j k H, W1 j k H →
      (J.stop j H ∧ Nx H) ∨ (J.go j H ∧ ∃ Nx1 : Hp → Prop, (∀ H', Nx1 H' → ∃ k', k' < k ∧ W1 (j + 1) k' H') ∧ ∀ x H', J.yld j H x H' → g x (wipe σ vs) H' fun σ3 H5 => wipe σ3 vs = wipe σ vs ∧ tt σ3 H5 fun b H6 =>
        if b = true then te σ3 H6 fun y H7 => ∃ acc, H7 D = some (.lst acc) ∧ acc.length < sizeLine ∧ Nx1 (upd H7 D (.lst (acc ++ [y]))) else Nx1 H6) := by
  refine ⟨fun i m H => m = n - i ∧ i ≤ n ∧ Pv i H, ⟨n, by simp, Nat.zero_le _, h0⟩, ?_⟩
  rintro i m H ⟨rfl, hi, p⟩
  have q := hG i H hi p
  by_cases hlt : i < n
  · exact .inr ⟨w.goes i H hlt q, Pv (i + 1), fun H' p' => ⟨n - (i + 1), by omega, rfl, hlt, p'⟩, fun x H' y => hs i x H H' hlt p (w.yields i H x H' hlt q y)⟩
  · have e : i = n := by omega
    subst e
    exact .inl ⟨w.stops H q, hd H p⟩
/-- the outer walk: what a turn's inner part does is told by B, from Pv i to Pv (i + 1) -/
theorem out_it (w : Walk J n G Y) {H1 : Hp} {D : Addr} {Qd : Hp → Prop} {B : (Hp → Prop) → V → Hp → Prop} (Pv : Nat → Hp → Prop) (h0 : Pv 0 (upd H1 D (.lst []))) (hG : ∀ i H, i ≤ n → Pv i H → G H)
    (hs : ∀ i x H H', i < n → Pv i H → Y i H x H' → B (Pv (i + 1)) x H') (hd : ∀ H, Pv n H → Qd H) :
    ∃ W : Nat → Nat → Hp → Prop, (∃ m, W 0 m (upd H1 D (.lst []))) ∧ ∀ i m H, W i m H →
      (J.stop i H ∧ Qd H) ∨ (J.go i H ∧ ∃ Nx : Hp → Prop, (∀ H', Nx H' → ∃ m', m' < m ∧ W (i + 1) m' H') ∧ ∀ x H', J.yld i H x H' → B Nx x H') := by
  refine ⟨fun i m H => m = n - i ∧ i ≤ n ∧ Pv i H, ⟨n, by simp, Nat.zero_le _, h0⟩, ?_⟩
  rintro i m H ⟨rfl, hi, p⟩
  have q := hG i H hi p
  by_cases hlt : i < n
  · exact .inr ⟨w.goes i H hlt q, Pv (i + 1), fun H' p' => ⟨n - (i + 1), by omega, rfl, hlt, p'⟩, fun x H' y => hs i x H H' hlt p (w.yields i H x H' hlt q y)⟩
  · have e : i = n := by omega
    subst e
    exact .inl ⟨w.stops H q, hd H p⟩
end
end Om


namespace Om
open PySem PySem.Spec PyProof.Rows L2
abbrev sInR : Stmt := top 13
abbrev sLies : Stmt := top 18
def inR (v lo hi : Int) : Bool := decide (lo ≤ v) && decide (v ≤ hi)
def insd (rows : List (List Nat)) (i j : Int) : Bool := inR i 0 ((rows.length : Int) - 1) && inR j 0 (((rows.headD []).length : Int) - 1)
def spInR : Sp := fun vs H Q _ => ∃ v lo hi : Int, vs = [.int v, .int lo, .int hi] ∧ Q (.bl (inR v lo hi)) H
/-- rows of an island as they are kept -/
structure Shp (rows : List (List Nat)) : Prop where
  len : rows.length ≤ 1000
  row : ∀ r ∈ rows, r.length ≤ 1000
  ne : rows ≠ []
def spLies (K : PySem.W.Frag) : Sp := fun vs H Q _ => ∃ (p c : Addr) (rows : List (List Nat)) (i j : Int), vs = [.ref p, .ref c] ∧ SqT K H p (rows.map vt) ∧ Shp rows ∧ SqT K H c [.int i, .int j] ∧ Q (.bl (insd rows i j)) H
section
variable {P : Program} {w : World} {K : PySem.W.Frag} {mg : Str → Option Value} {base : Heap}
abbrev nInR : List Str := ["value", "least", "most"]
theorem scInR : FnScope nInR nInR (defScope sInR) := ⟨rfl, rfl, rfl, by decide +kernel, rfl, by decide +kernel, by decide +kernel⟩
theorem ok_inR {f : Addr} {fd : FuncData} (F : FnP K "in_range" "in_range" sInR f fd) (gisi : mg "isinstance" = none) (gint : mg "int" = none) (gbool : mg "bool" = none) : FnOk P w K mg base CX0 1 f fd nInR spInR := by
  refine F.ok scInR (fun vs H Q E h => ?_) (fun cdv A outer s H vs Q E hr h => ?_)
  · obtain ⟨v, lo, hi, rfl, _⟩ := h
    rfl
  · obtain ⟨v, lo, hi, rfl, k⟩ := h
    refine ⟨_, PSs.nox (pss_one (ps_ret (pe_and (pe_callB call_isi (by rfl) gisi (by decide +kernel) (pa_cons (pv 0) (pa_cons (pe_bltn (v := .ty "int") (by rfl) gint boot_int rfl) pa_nil)))
      (pe_and (pe_not (pe_callB call_isi (by rfl) gisi (by decide +kernel) (pa_cons (pv 0) (pa_cons (pe_bltn (v := .ty "bool") (by rfl) gbool (by decide +kernel) rfl) pa_nil))))
        (pe_one (pe_chain op_le op_le (pv 1) (pv 0) (pv 2))))))), ?_⟩
    refine ⟨_, rfl, _, _, _, _, _, rfl, .ty "int", .base (.int _), kit_ty (a := "int") (b := "int") (r := true) (by decide +kernel), ?_⟩
    refine ⟨true, rfl, iteT ?_⟩
    refine ⟨_, rfl, _, _, _, _, _, rfl, .ty "bool", .base (.int _), kit_ty (a := "int") (b := "bool") (r := false) (by decide +kernel), false, rfl, true, rfl, iteT ?_⟩
    refine ⟨_, rfl, _, rfl, _, _, rfl, rfl, _, rfl, ?_⟩
    unfold inR at k
    cases e : decide (lo ≤ v) with
    | true =>
      rw [e, Bool.true_and] at k
      exact iteT ⟨_, rfl, _, _, rfl, rfl, k⟩
    | false =>
      rw [e, Bool.false_and] at k
      exact iteF k
theorem scLies : FnScope ["rows", "cell", "row", "column"] ["rows", "cell"] (defScope sLies) := ⟨rfl, rfl, rfl, by decide +kernel, rfl, by decide +kernel, by decide +kernel⟩
theorem ok_lies {f : Addr} {fd : FuncData} (F : FnP K "_lies_within" "_lies_within" sLies f fd) (G : Cal P w K mg base CX0 1 "in_range" nInR spInR) (glen : mg "len" = none) : FnOk P w K mg base CX0 2 f fd ["rows", "cell"] (spLies K) := by
  refine F.ok scLies (fun vs H Q E h => ?_) (fun cdv A outer s H vs Q E hr h => ?_)
  · obtain ⟨p, c, rows, i, j, rfl, _⟩ := h
    rfl
  · obtain ⟨p, c, rows, i, j, rfl, hS, sh, hC, k⟩ := h
    have nd := scLies.nd
    have hr1 : Room 1 _ := hr.mono (by decide)
    refine ⟨_, PSs.nox (pss_cons (ps_asg (pv 1) (pg_tup rfl (pgs_cons (pg_name (i := 2) nd rfl (.inl rfl)) (pgs_cons (pg_name (i := 3) nd rfl (.inl rfl)) pgs_nil))))
      (pss_one (ps_ret (pe_and (pe_cal G hr1 pass0 (pa_cons (pv 2) (pa_cons pe_int (pa_cons (pe_op op_sub (pe_callB call_len_seq (by rfl) glen PySem.boot_len (pa_cons (pv 0) pa_nil)) pe_int) pa_nil))))
        (pe_one (pe_cal G hr1 pass0 (pa_cons (pv 3) (pa_cons pe_int (pa_cons (pe_op op_sub (pe_callB call_len_str (by rfl) glen PySem.boot_len (pa_cons (pe_ix ix_tup (pv 0) pe_int (fun _ _ => rfl)) pa_nil)) pe_int) pa_nil))))))))), ?_⟩
    obtain ⟨r0, rs, rfl⟩ : ∃ r0 rs, rows = r0 :: rs := by
      cases rows with
      | nil => exact absurd rfl sh.ne
      | cons r0 rs => exact ⟨r0, rs, rfl⟩
    have hr0 : (tx r0).length ≤ sizeLine := by rw [tx_len]; exact small_le (sh.row r0 (List.mem_cons_self ..))
    refine ⟨_, rfl, c, _, rfl, hC, rfl, _, _, rfl, _, _, rfl, rfl, ?_⟩
    refine ⟨_, rfl, _, rfl, p, _, rfl, .inr hS, _, _, rfl, rfl, i, 0, _, rfl, ?_⟩
    refine ⟨_, rfl, ?_⟩
    have k2 : Q (.bl (inR i 0 ((((r0 :: rs).map vt).length : Nat) - 1) && inR j 0 (((tx r0).length : Nat) - 1))) H := by
      rw [tx_len, List.length_map]; exact k
    cases e : inR i 0 ((((r0 :: rs).map vt).length : Nat) - 1) with
    | false =>
      rw [e, Bool.false_and] at k2
      exact iteF k2
    | true =>
      rw [e, Bool.true_and] at k2
      refine iteT ?_
      exact ⟨_, rfl, _, rfl, p, _, 0, _, rfl, rfl, hS, at0, _, rfl, hr0, _, _, rfl, rfl, j, 0, _, rfl, k2⟩
end
end Om


namespace Om
open PySem PySem.Spec PyProof.Rows L2
/-! ### rows as data -/
def dt (r : List Nat) : PyData := .str (tx r)
theorem dpAll_rows {K : PySem.W.Frag} {H : Hp} : ∀ rows : List (List Nat), DpAll K H (rows.map vt) (rows.map dt)
  | [] => .nil
  | r :: rs => .cons (.str _) (dpAll_rows rs)
theorem strOk_tx {r : List Nat} (h : ∀ c ∈ r, c < 1000) : PyData.strOk (tx r) = true := by
  unfold PyData.strOk
  rw [Array.all_eq_true']
  intro c hc
  have hc' : c ∈ r := by
    have : c ∈ (tx r).cps.toList := by simpa using hc
    rwa [tx_cps] at this
  have := h c hc'
  exact decide_eq_true (by omega)
theorem lay_rows : ∀ {rows : List (List Nat)}, Lo rows → PyData.canLayAll0 (rows.map dt) = true
  | [], _ => by simp [PyData.canLayAll0]
  | r :: rs, h => by
    have h1 : PyData.strOk (tx r) = true := strOk_tx (h r (List.mem_cons_self ..))
    simp only [List.map_cons, PyData.canLayAll0, dt, PyData.canLay0, h1, lay_rows (rows := rs) fun r hr => h r (List.mem_cons_of_mem _ hr), Bool.and_self]
theorem dep_rows : ∀ rows : List (List Nat), PyData.depthAll (rows.map dt) = 0
  | [] => by simp [PyData.depthAll]
  | r :: rs => by simp [PyData.depthAll, PyData.depth, dt, dep_rows rs]
theorem shaped_rows {rows : List (List Nat)} (h : Lo rows) : SeqAt.shaped (.tuple (rows.map dt)) = true :=
  shaped_of (by simp only [PyData.canLay0]; exact lay_rows h) (by simp only [PyData.depth, dep_rows]; omega)
theorem eqv_str (a b : List Nat) : PyData.eqv (.str (tx a)) (.str (tx b)) = decide (a = b) := by
  rw [Bool.eq_iff_iff, decide_eq_true_iff]
  constructor
  · intro h
    have h2 : tx a = tx b := by simpa [PyData.eqv] using h
    exact tx_inj h2
  · rintro rfl
    simp [PyData.eqv]
theorem eqvAll_rows : ∀ a b : List (List Nat), PyData.eqvAll (a.map dt) (b.map dt) = decide (a = b)
  | [], [] => by simp [PyData.eqvAll]
  | [], _ :: _ => by simp [PyData.eqvAll]
  | _ :: _, [] => by simp [PyData.eqvAll]
  | r :: rs, q :: qs => by
    have e1 : PyData.eqvAll ((r :: rs).map dt) ((q :: qs).map dt) = (PyData.eqv (dt r) (dt q) && PyData.eqvAll (rs.map dt) (qs.map dt)) := by simp [PyData.eqvAll]
    rw [e1, eqvAll_rows rs qs, dt, dt, eqv_str, Bool.eq_iff_iff]
    simp
theorem eqv_rows (a b : List (List Nat)) : PyData.eqv (.tuple (a.map dt)) (.tuple (b.map dt)) = decide (a = b) := by
  have e1 : PyData.eqv (.tuple (a.map dt)) (.tuple (b.map dt)) = PyData.eqvAll (a.map dt) (b.map dt) := by simp [PyData.eqv]
  rw [e1, eqvAll_rows]
end Om


namespace Om
open PySem PySem.Spec PyProof.Rows L2
/-! ### an island's methods -/
abbrev sIslM (i : Nat) : Stmt := inClass (top 16) i
/-- an island at a: its rows -/
def Isl (K : PySem.W.Frag) (CI : Addr) (H : Hp) (a : Addr) (rows : List (List Nat)) : Prop := ∃ dx p, H a = some (.ins CI dx (islFs p)) ∧ SqT K H p (rows.map vt)
structure Good2 (rows : List (List Nat)) : Prop extends Shp rows where
  rect : ∀ r ∈ rows, r.length = (rows.headD []).length
  lo : Lo rows
def sgAt (rows : List (List Nat)) (i j : Int) : Nat := (rows.getD i.toNat []).getD j.toNat 0
theorem Isl.same {K : PySem.W.Frag} {CI a : Addr} {H H' : Hp} {rows : List (List Nat)} (h : Isl K CI H a rows) (s : Same H H') : Isl K CI H' a rows := by
  obtain ⟨dx, p, h1, h2⟩ := h
  exact ⟨dx, p, s _ _ h1, Same.tup s h2⟩
theorem islFs_at (p : Addr) : (islFs p).lookup ("_rows" : Str) = some (.ref p) := rfl
theorem insd_at {rows : List (List Nat)} {i j : Int} (g : Good2 rows) (h : insd rows i j = true) : ∃ r c, rows[i.toNat]? = some r ∧ r[j.toNat]? = some c ∧ sgAt rows i j = c ∧ r ∈ rows ∧ 0 ≤ i ∧ 0 ≤ j := by
  unfold insd inR at h
  simp only [Bool.and_eq_true, decide_eq_true_eq] at h
  obtain ⟨⟨h1, h2⟩, h3, h4⟩ := h
  have hi : i.toNat < rows.length := by omega
  have hm : rows[i.toNat] ∈ rows := List.getElem_mem hi
  have hl := g.rect _ hm
  have hj : j.toNat < (rows[i.toNat]).length := by omega
  refine ⟨rows[i.toNat], (rows[i.toNat])[j.toNat], by simp [hi], by simp [hj], ?_, hm, h1, h3⟩
  unfold sgAt
  have e1 : rows.getD i.toNat [] = rows[i.toNat] := by rw [List.getD_eq_getElem?_getD, List.getElem?_eq_getElem hi, Option.getD_some]
  rw [e1, List.getD_eq_getElem?_getD, List.getElem?_eq_getElem hj, Option.getD_some]
/-- an own error class made with a text -/
structure ErrU (K : PySem.W.Frag) (mg : Str → Option Value) (x : Str) (C : Addr) : Prop where
  q : PySem.W.excIn K C [.type "ValueError", .type "Exception", .type "BaseException", .type "object"] "ValueError.__new__" = true
  kp : PySem.W.keepIn K (.ref C) = true
  r1 : PySem.W.subIn K (.ref C) (.type "BaseException") = some true
  r2 : PySem.W.typeIn K (.ref C) = some (.type "type")
  g : mg x = some (.ref C)
def spGet (K : PySem.W.Frag) (CI CU : Addr) : Sp := fun vs H Q E => ∃ (a c : Addr) (rows : List (List Nat)) (i j : Int), vs = [.ref a, .ref c] ∧ Isl K CI H a rows ∧ Good2 rows ∧ SqT K H c [.int i, .int j] ∧
  (insd rows i j = true → Q (vt [sgAt rows i j]) H) ∧ (insd rows i j = false → E (.ref CU) none H)
def hasC (rows : List (List Nat)) (i j : Int) : Bool := insd rows i j && !decide (sgAt rows i j = 126)
def spHas (K : PySem.W.Frag) (CI : Addr) : Sp := fun vs H Q _ => ∃ (a c : Addr) (rows : List (List Nat)) (i j : Int), vs = [.ref a, .ref c] ∧ Isl K CI H a rows ∧ Good2 rows ∧ SqT K H c [.int i, .int j] ∧ Q (.bl (hasC rows i j)) H
def spIEq (K : PySem.W.Frag) (CI : Addr) : Sp := fun vs H Q _ => ∃ (a b : Addr) (r1 r2 : List (List Nat)), vs = [.ref a, .ref b] ∧ Isl K CI H a r1 ∧ Isl K CI H b r2 ∧ Lo r1 ∧ Lo r2 ∧ Q (.bl (decide (r1 = r2))) H
def spIRows (K : PySem.W.Frag) (CI : Addr) : Sp := fun vs H Q _ => ∃ (a dx p : Addr), vs = [.ref a] ∧ H a = some (.ins CI dx (islFs p)) ∧ Q (.ref p) H
def spIHgt (K : PySem.W.Frag) (CI : Addr) : Sp := fun vs H Q _ => ∃ (a : Addr) (rows : List (List Nat)), vs = [.ref a] ∧ Isl K CI H a rows ∧ Q (.int (rows.length : Nat)) H
def spIWid (K : PySem.W.Frag) (CI : Addr) : Sp := fun vs H Q _ => ∃ (a : Addr) (rows : List (List Nat)), vs = [.ref a] ∧ Isl K CI H a rows ∧ Shp rows ∧ Q (.int ((rows.headD []).length : Nat)) H
/-- what isinstance asks of the class -/
structure InsF (K : PySem.W.Frag) (C : Addr) : Prop where
  ha : PySem.W.findIn K (.ref C) "__class__" = some (some (.builtin "object.__class__"))
  hn : PySem.W.specialIn K (.builtin "object.__class__") "__get__" = some (some (.builtin "getset_descriptor.__get__"))
  ht : PySem.W.takesIn K (.builtin "object.__class__") = some true
  hm : PySem.W.mroIn K C (.type "object") = some true
theorem kit_self {K : PySem.W.Frag} {C : Addr} : PySem.W.kitOne K (.ref C) (.ref C) = some true := by
  unfold PySem.W.kitOne
  rw [if_pos (by simp)]
section
variable {P : Program} {w : World} {K : PySem.W.Frag} {mg : Str → Option Value} {base : Heap} {CI CU fN : Addr}
abbrev nGet : List Str := ["self", "cell", "row", "column"]
theorem scGet : FnScope nGet ["self", "cell"] (defScope (sIslM 7)) := ⟨rfl, rfl, rfl, by decide +kernel, rfl, by decide +kernel, by decide +kernel⟩
theorem ok_get {f : Addr} {fd : FuncData} (F : FnP K "__getitem__" "Island.__getitem__" (sIslM 7) f fd) (T : IslF K mg CI fN) (U : ErrU K mg "UnknownCell" CU) (G : Cal P w K mg base CX0 2 "_lies_within" ["rows", "cell"] (spLies K)) : FnOk P w K mg base (L2.CX P w) 3 f fd ["self", "cell"] (spGet K CI CU) := by
  refine F.ok scGet (fun vs H Q E h => ?_) (fun cdv A outer s H vs Q E hr h => ?_)
  · obtain ⟨a, c, rows, i, j, rfl, _⟩ := h
    rfl
  · obtain ⟨a, c, rows, i, j, rfl, hI, g, hC, k1, k2⟩ := h
    have nd := scGet.nd
    have hr2 : Room 2 _ := hr.mono (by decide)
    refine ⟨_, pss_cons (ps_if (pt_not (pt_val (pe_cal G hr2 pass0 (pa_cons (pe_fld (pv 0) rfl) (pa_cons (pv 1) pa_nil)))))
        (pss_one (ps_raise rfl (takes_of rfl rfl rfl rfl) (pmk_own PySem.F.excBase_ValueError U.q U.g U.kp (raises_own U.r1 U.r2) rfl))) pss_nil)
      (pss_cons (ps_asg (pv 1) (pg_tup rfl (pgs_cons (pg_name (i := 2) nd rfl (.inl rfl)) (pgs_cons (pg_name (i := 3) nd rfl (.inl rfl)) pgs_nil))))
      (pss_one (ps_ret (pe_ix ix_str (pe_ix ix_tup (pe_fld (pv 0) rfl) (pv 2) (fun _ _ => rfl)) (pv 3) (fun _ _ => rfl))))), ?_⟩
    obtain ⟨dx, p, hp, hS⟩ := hI
    refine ⟨_, rfl, a, CI, dx, _, .ref p, rfl, hp, T.cl, T.nR, rfl, ?_⟩
    refine ⟨_, rfl, p, c, rows, i, j, rfl, hS, g.toShp, hC, _, rfl, ?_⟩
    cases e : insd rows i j with
    | false => exact iteT (k2 e)
    | true =>
      refine iteF ?_
      obtain ⟨r, ch, h1, h2, h3, hm, hi, hj⟩ := insd_at g e
      refine ⟨_, rfl, c, _, rfl, hC, rfl, _, _, rfl, _, _, rfl, rfl, ?_⟩
      refine ⟨_, rfl, a, CI, dx, _, .ref p, rfl, hp, T.cl, T.nR, rfl, ?_⟩
      have ei : atI (rows.map vt) i = some (vt r) := by
        have z := atI_nat (xs := rows.map vt) (j := i.toNat) (v := vt r) (by rw [List.getElem?_map, h1]; rfl)
        rwa [Int.toNat_of_nonneg hi] at z
      have ej : atI (tx r).cps.toList j = some ch := by
        have z := atI_nat (xs := (tx r).cps.toList) (j := j.toNat) (v := ch) (by rw [tx_cps]; exact h2)
        rwa [Int.toNat_of_nonneg hj] at z
      refine ⟨_, rfl, p, _, i, _, rfl, rfl, hS, ei, _, rfl, _, j, ch, rfl, rfl, (by rw [tx_len]; exact small_le (g.row r hm)), ej, ?_⟩
      have k := k1 e
      rw [h3] at k
      exact k
theorem scHas : FnScope ["self", "cell"] ["self", "cell"] (defScope (sIslM 8)) := ⟨rfl, rfl, rfl, by decide +kernel, rfl, by decide +kernel, by decide +kernel⟩
theorem ok_has {f : Addr} {fd : FuncData} (F : FnP K "__contains__" "Island.__contains__" (sIslM 8) f fd) (T : IslF K mg CI fN) (G : Cal P w K mg base CX0 2 "_lies_within" ["rows", "cell"] (spLies K)) (gw : ∃ t, mg "WATER" = some (.str (Str.ofString "~") t)) :
    FnOk P w K mg base CX0 3 f fd ["self", "cell"] (spHas K CI) := by
  obtain ⟨t0, gw⟩ := gw
  refine F.ok scHas (fun vs H Q E h => ?_) (fun cdv A outer s H vs Q E hr h => ?_)
  · obtain ⟨a, c, rows, i, j, rfl, _⟩ := h
    rfl
  · obtain ⟨a, c, rows, i, j, rfl, hI, g, hC, k⟩ := h
    have nd := scHas.nd
    have hr2 : Room 2 _ := hr.mono (by decide)
    refine ⟨_, PSs.nox (pss_one (ps_ret (pe_and (pe_cal G hr2 pass0 (pa_cons (pe_fld (pv 0) rfl) (pa_cons (pv 1) pa_nil)))
      (pe_one (pe_cmpR op_ne (pe_ix ix_str (pe_ix ix_tup (pe_fld (pv 0) rfl) (pe_ix ix_tup (pv 1) pe_int (fun _ _ => rfl)) (fun _ _ => rfl)) (pe_ix ix_tup (pv 1) pe_int (fun _ _ => rfl)) (fun _ _ => rfl))
        (pe_glob (v := .str (Str.ofString "~")) rfl gw ⟨_, rfl⟩) (nomark _)))))), ?_⟩
    obtain ⟨dx, p, hp, hS⟩ := hI
    refine ⟨_, rfl, a, CI, dx, _, .ref p, rfl, hp, T.cl, T.nR, rfl, ?_⟩
    refine ⟨_, rfl, p, c, rows, i, j, rfl, hS, g.toShp, hC, _, rfl, ?_⟩
    unfold hasC at k
    cases e : insd rows i j with
    | false =>
      rw [e, Bool.false_and] at k
      exact iteF k
    | true =>
      rw [e, Bool.true_and] at k
      refine iteT ?_
      obtain ⟨r, ch, h1, h2, h3, hm, hi, hj⟩ := insd_at g e
      have ei : atI (rows.map vt) i = some (vt r) := by
        have z := atI_nat (xs := rows.map vt) (j := i.toNat) (v := vt r) (by rw [List.getElem?_map, h1]; rfl)
        rwa [Int.toNat_of_nonneg hi] at z
      have ej : atI (tx r).cps.toList j = some ch := by
        have z := atI_nat (xs := (tx r).cps.toList) (j := j.toNat) (v := ch) (by rw [tx_cps]; exact h2)
        rwa [Int.toNat_of_nonneg hj] at z
      refine ⟨_, rfl, a, CI, dx, _, .ref p, rfl, hp, T.cl, T.nR, rfl, ?_⟩
      refine ⟨_, rfl, c, _, 0, _, rfl, rfl, hC, rfl, p, _, i, _, rfl, rfl, hS, ei, ?_⟩
      refine ⟨_, rfl, c, _, 1, _, rfl, rfl, hC, rfl, _, j, ch, rfl, rfl, (by rw [tx_len]; exact small_le (g.row r hm)), ej, ?_⟩
      rw [h3] at k
      have e2 : (decide (V.str ⟨#[ch]⟩ = V.str (Str.ofString "~"))) = decide (ch = 126) := by
        have z : Str.ofString "~" = (⟨#[126]⟩ : Str) := by decide +kernel
        rw [z]
        apply decide_eq_decide.mpr
        simp
      refine ⟨rfl, ?_⟩
      show Q (.bl (!decide (V.str ⟨#[ch]⟩ = V.str (Str.ofString "~")))) H
      rw [e2]
      exact k
theorem scIEq : FnScope ["self", "other"] ["self", "other"] (defScope (sIslM 10)) := ⟨rfl, rfl, rfl, by decide +kernel, rfl, by decide +kernel, by decide +kernel⟩
theorem ok_ieq {f : Addr} {fd : FuncData} (F : FnP K "__eq__" "Island.__eq__" (sIslM 10) f fd) (T : IslF K mg CI fN) (N : InsF K CI) (gisi : mg "isinstance" = none) : FnOk P w K mg base CX0 1 f fd ["self", "other"] (spIEq K CI) := by
  refine F.ok scIEq (fun vs H Q E h => ?_) (fun cdv A outer s H vs Q E hr h => ?_)
  · obtain ⟨a, b, r1, r2, rfl, _⟩ := h
    rfl
  · obtain ⟨a, b, r1, r2, rfl, ⟨dx, p, hp, hS⟩, ⟨dy, q, hq, hS2⟩, l1, l2, k⟩ := h
    refine ⟨_, PSs.nox (pss_one (ps_ret (pe_and (pe_callB call_isi (by rfl) gisi (by decide +kernel) (pa_cons (pv 1) (pa_cons (pe_glob (v := .ref CI) rfl T.gI rfl) pa_nil)))
      (pe_one (pe_cmpR (op_eqD hr.units) (pe_fld (pv 0) rfl) (pe_fld (pv 1) rfl) (nomark _)))))), ?_⟩
    refine ⟨_, rfl, _, _, _, _, _, rfl, .own CI, .base (.ins hq T.cl N.ha N.hn N.ht N.hm), kit_self, true, rfl, iteT ?_⟩
    refine ⟨_, rfl, a, CI, dx, _, .ref p, rfl, hp, T.cl, T.nR, rfl, ?_⟩
    refine ⟨_, rfl, b, CI, dy, _, .ref q, rfl, hq, T.cl, T.nR, rfl, ?_⟩
    refine ⟨_, _, .tup hS (dpAll_rows r1), .tup hS2 (dpAll_rows r2), shaped_rows l1, shaped_rows l2, ?_⟩
    rw [eqv_rows]
    exact k
theorem scI1 (i : Nat) (h : i = 1 ∨ i = 2 ∨ i = 3) : FnScope ["self"] ["self"] (defScope (sIslM i)) := by
  rcases h with rfl | rfl | rfl <;> exact ⟨rfl, rfl, rfl, by decide +kernel, rfl, by decide +kernel, by decide +kernel⟩
theorem ok_irows {f : Addr} {fd : FuncData} (F : FnP K "rows" "Island.rows" (sIslM 1) f fd) (T : IslF K mg CI fN) : FnOk P w K mg base CX0 1 f fd ["self"] (spIRows K CI) := by
  refine F.ok (scI1 1 (.inl rfl)) (fun vs H Q E h => ?_) (fun cdv A outer s H vs Q E hr h => ?_)
  · obtain ⟨a, dx, p, rfl, _⟩ := h
    rfl
  · obtain ⟨a, dx, p, rfl, hp, k⟩ := h
    exact ⟨_, PSs.nox (pss_one (ps_ret (pe_fld (pv 0) rfl))), _, rfl, a, CI, dx, _, .ref p, rfl, hp, T.cl, T.nR, rfl, k⟩
theorem ok_iwid {f : Addr} {fd : FuncData} (F : FnP K "width" "Island.width" (sIslM 3) f fd) (T : IslF K mg CI fN) (glen : mg "len" = none) : FnOk P w K mg base CX0 1 f fd ["self"] (spIWid K CI) := by
  refine F.ok (scI1 3 (.inr (.inr rfl))) (fun vs H Q E h => ?_) (fun cdv A outer s H vs Q E hr h => ?_)
  · obtain ⟨a, rows, rfl, _⟩ := h
    rfl
  · obtain ⟨a, rows, rfl, ⟨dx, p, hp, hS⟩, sh, k⟩ := h
    obtain ⟨r0, rs, rfl⟩ : ∃ r0 rs, rows = r0 :: rs := by
      cases rows with
      | nil => exact absurd rfl sh.ne
      | cons r0 rs => exact ⟨r0, rs, rfl⟩
    have hr0 : (tx r0).length ≤ sizeLine := by rw [tx_len]; exact small_le (sh.row r0 (List.mem_cons_self ..))
    refine ⟨_, PSs.nox (pss_one (ps_ret (pe_callB call_len_str (by rfl) glen PySem.boot_len (pa_cons (pe_ix ix_tup (pe_fld (pv 0) rfl) pe_int (fun _ _ => rfl)) pa_nil)))), ?_⟩
    refine ⟨_, rfl, a, CI, dx, _, .ref p, rfl, hp, T.cl, T.nR, rfl, p, _, 0, _, rfl, rfl, hS, at0, _, rfl, hr0, ?_⟩
    rw [tx_len]
    exact k
end
end Om


namespace Om
open PySem PySem.Spec PyProof.Rows L2
/-! ### Dp stays -/
theorem Same.lst {K : PySem.W.Frag} {H H' : Hp} {a : Addr} {xs : List V} (e : Same H H') (h : SqL K H a xs) : SqL K H' a xs := by
  rcases h with (h | ⟨o, h⟩) | h
  · exact .inl (.inl (e _ _ h))
  · exact .inl (.inr ⟨o, e _ _ h⟩)
  · exact .inr h
theorem dp_mono {K : PySem.W.Frag} {H H' : Hp} (hS : ∀ a xs, SqT K H a xs → SqT K H' a xs) (hL : ∀ a xs, SqL K H a xs → SqL K H' a xs) {v : V} {d : PyData} (h : Dp K H v d) : Dp K H' v d :=
  Dp.rec (motive_1 := fun v d _ => Dp K H' v d) (motive_2 := fun vs ds _ => DpAll K H' vs ds) .non .bl .int .str (fun s _ ih => .lst (hL _ _ s) ih) (fun s _ ih => .tup (hS _ _ s) ih) .nil (fun _ _ i1 i2 => .cons i1 i2) h
theorem dpAll_mono {K : PySem.W.Frag} {H H' : Hp} (hS : ∀ a xs, SqT K H a xs → SqT K H' a xs) (hL : ∀ a xs, SqL K H a xs → SqL K H' a xs) {vs : List V} {ds : List PyData} (h : DpAll K H vs ds) : DpAll K H' vs ds :=
  DpAll.rec (motive_1 := fun v d _ => Dp K H' v d) (motive_2 := fun vs ds _ => DpAll K H' vs ds) .non .bl .int .str (fun s _ ih => .lst (hL _ _ s) ih) (fun s _ ih => .tup (hS _ _ s) ih) .nil (fun _ _ i1 i2 => .cons i1 i2) h
theorem Same.dp {K : PySem.W.Frag} {H H' : Hp} {v : V} {d : PyData} (e : Same H H') (h : Dp K H v d) : Dp K H' v d := dp_mono (fun _ _ => Same.tup e) (fun _ _ => Same.lst e) h
theorem Same.dpAll {K : PySem.W.Frag} {H H' : Hp} {v : List V} {d : List PyData} (e : Same H H') (h : DpAll K H v d) : DpAll K H' v d := dpAll_mono (fun _ _ => Same.tup e) (fun _ _ => Same.lst e) h
theorem dpAll_app {K : PySem.W.Frag} {H : Hp} : ∀ {a : List V} {da : List PyData} {b : List V} {db : List PyData}, DpAll K H a da → DpAll K H b db → DpAll K H (a ++ b) (da ++ db)
  | [], [], _, _, .nil, h => h
  | _ :: _, _ :: _, _, _, .cons x y, h => .cons x (dpAll_app y h)
theorem dpAll_len {K : PySem.W.Frag} {H : Hp} : ∀ {a : List V} {da : List PyData}, DpAll K H a da → a.length = da.length
  | [], [], .nil => rfl
  | _ :: _, _ :: _, .cons _ y => by rw [List.length_cons, List.length_cons, dpAll_len y]
/-! ### pairs of numbers in a list that grows at D -/
def cdp (c : Nat × Nat) : PyData := .tuple [.int (c.1 : Nat), .int (c.2 : Nat)]
theorem SqT.other {K : PySem.W.Frag} {H : Hp} {a D : Addr} {xs acc : List V} {o : HO} (h : SqT K H a xs) (hD : H D = some (.lst acc)) : SqT K (upd H D o) a xs := by
  rcases h with (h | ⟨ob, h⟩) | h
  · have n : a ≠ D := fun e => by rw [e, hD] at h; cases h
    exact .inl (.inl (by rw [upd_ne n]; exact h))
  · have n : a ≠ D := fun e => by rw [e, hD] at h; cases h
    exact .inl (.inr ⟨ob, by rw [upd_ne n]; exact h⟩)
  · exact .inr h
theorem pairs_other {K : PySem.W.Frag} {H : Hp} {D : Addr} {acc : List V} {o : HO} (hD : H D = some (.lst acc)) : ∀ {xs : List V} {cs : List (Nat × Nat)}, DpAll K H xs (cs.map cdp) → DpAll K (upd H D o) xs (cs.map cdp)
  | [], [], .nil => .nil
  | _ :: _, _ :: _, .cons h t => by
    refine .cons ?_ (pairs_other hD t)
    unfold cdp at h ⊢
    cases h with
    | tup s al =>
      refine .tup (SqT.other s hD) ?_
      cases al with
      | cons h1 t1 =>
        cases h1
        cases t1 with
        | cons h2 t2 =>
          cases h2
          cases t2
          exact .cons (.int _) (.cons (.int _) .nil)
/-! ### the cells of land -/
def rowCells (r : List Nat) (i n : Nat) : List (Nat × Nat) := ((List.range n).filter fun j => !decide (r.getD j 0 = 126)).map fun j => (i, j)
def cellsTo (rows : List (List Nat)) (n : Nat) : List (Nat × Nat) := (List.range n).flatMap fun i => rowCells (rows.getD i []) i (rows.getD i []).length
def cellsOf (rows : List (List Nat)) : List (Nat × Nat) := cellsTo rows rows.length
theorem rowCells_succ (r : List Nat) (i n : Nat) : rowCells r i (n + 1) = if r.getD n 0 = 126 then rowCells r i n else rowCells r i n ++ [(i, n)] := by
  unfold rowCells
  rw [List.range_succ, List.filter_append, List.map_append]
  by_cases h : r.getD n 0 = 126
  · rw [if_pos h]
    simp only [List.filter_cons, h, decide_true, Bool.not_true, Bool.false_eq_true, if_false, List.filter_nil, List.map_nil, List.append_nil]
  · rw [if_neg h]
    have e : (!decide (r.getD n 0 = 126)) = true := by rw [decide_eq_false h]; rfl
    simp only [List.filter_cons, e, if_true, List.filter_nil, List.map_cons, List.map_nil]
theorem cellsTo_succ (rows : List (List Nat)) (n : Nat) : cellsTo rows (n + 1) = cellsTo rows n ++ rowCells (rows.getD n []) n (rows.getD n []).length := by
  unfold cellsTo
  rw [List.range_succ, List.flatMap_append]
  simp
theorem rowCells_len (r : List Nat) (i n : Nat) : (rowCells r i n).length ≤ n := by
  unfold rowCells
  rw [List.length_map]
  exact Nat.le_trans (List.length_filter_le ..) (by rw [List.length_range]; exact Nat.le_refl _)
theorem cellsTo_len {rows : List (List Nat)} {w : Nat} (hw : ∀ r ∈ rows, r.length ≤ w) : ∀ n, n ≤ rows.length → (cellsTo rows n).length ≤ n * w
  | 0, _ => by simp [cellsTo]
  | n + 1, h => by
    rw [cellsTo_succ, List.length_append]
    have h1 := cellsTo_len hw n (by omega)
    have hm : rows.getD n [] ∈ rows := by
      rw [List.getD_eq_getElem?_getD, List.getElem?_eq_getElem (by omega), Option.getD_some]
      exact List.getElem_mem _
    have h2 := rowCells_len (rows.getD n []) n (rows.getD n []).length
    have h3 := hw _ hm
    rw [Nat.succ_mul]
    omega
theorem getD_at {rows : List (List Nat)} {i : Nat} {r : List Nat} (h : rows[i]? = some r) : rows.getD i [] = r := by
  rw [List.getD_eq_getElem?_getD, h, Option.getD_some]
/-- an island as it may be -/
structure Vd (rows : List (List Nat)) : Prop extends Good2 rows where
  hgt : rows.length ≤ 12
  wid : ∀ r ∈ rows, 1 ≤ r.length ∧ r.length ≤ 12
theorem RowsOk.vd {m : Nat} {rows : List (List Nat)} (h : RowsOk m rows) (hm : m ≤ 12) : Vd rows := by
  obtain ⟨h1, h2, wd, w1, w2, hr⟩ := h
  have g := RowsOk.good ⟨h1, h2, wd, w1, w2, hr⟩ hm
  refine ⟨⟨⟨g.le, g.lens, fun e => by rw [e] at h1; simp at h1⟩, fun r hr' => ?_, g.lo⟩, by omega, fun r hr' => by have := (hr r hr').1; omega⟩
  cases rows with
  | nil => cases hr'
  | cons r0 rs =>
    have e1 := (hr r hr').1
    have e2 := (hr r0 (List.mem_cons_self ..)).1
    show r.length = r0.length
    omega
def spICells (K : PySem.W.Frag) (CI : Addr) : Sp := fun vs H Q _ => ∃ (a : Addr) (rows : List (List Nat)), vs = [.ref a] ∧ Isl K CI H a rows ∧ Vd rows ∧ ∀ v H', Same H H' → Dp K H' v (.list ((cellsOf rows).map cdp)) → Q v H'
end Om

namespace Om
open PySem PySem.Spec PyProof.Rows L2
/-! ### _law_alike of two readings of the same data -/
abbrev sAlike : Stmt := top 34
/-- none, bools, ints, texts, tuples and lists of such, some deep -/
def okD : Nat → PyData → Bool
  | 0, _ => false
  | _ + 1, .none => true
  | _ + 1, .bool _ => true
  | _ + 1, .int _ => true
  | _ + 1, .str x => PyData.strOk x
  | n + 1, .list ds => decide (ds.length ≤ 10000) && ds.all (okD n)
  | n + 1, .tuple ds => decide (ds.length ≤ 10000) && ds.all (okD n)
  | _ + 1, .dict _ => false
theorem dpAll_at {K : PySem.W.Frag} {H : Hp} : ∀ {xs : List V} {ds : List PyData}, DpAll K H xs ds → ∀ {i : Nat} {e : PyData}, ds[i]? = some e → ∃ v, xs[i]? = some v ∧ Dp K H v e
  | [], [], .nil, i, e, h => by simp at h
  | v :: _, d :: _, .cons h1 t, 0, e, h => by
    have h : some d = some e := h
    cases h
    exact ⟨v, rfl, h1⟩
  | v :: _, d :: _, .cons h1 t, i + 1, e, h => by
    obtain ⟨u, h2, h3⟩ := dpAll_at t (i := i) (e := e) h
    exact ⟨u, h2, h3⟩
def tyD : PyData → String
  | .none => "NoneType"
  | .bool _ => "bool"
  | .int _ => "int"
  | .str _ => "str"
  | .list _ => "list"
  | .tuple _ => "tuple"
  | .dict _ => "dict"
theorem sqL_ty {K : PySem.W.Frag} {H : Hp} {a : Addr} {xs : List V} (h : SqL K H a xs) : TyX K H (.ref a) (.type "list") := by
  rcases h with (h | ⟨o, h⟩) | h
  · exact .base (.lst h)
  · exact .base (.frz h)
  · obtain ⟨o, its, n, e1, e2, _⟩ := h
    exact .kList e1 e2
theorem sqT_ty {K : PySem.W.Frag} {H : Hp} {a : Addr} {xs : List V} (h : SqT K H a xs) : TyX K H (.ref a) (.type "tuple") := by
  rcases h with (h | ⟨o, h⟩) | h
  · exact .base (.tup h)
  · exact .fTuple h
  · obtain ⟨o, its, n, e1, e2, _⟩ := h
    exact .kTuple e1 e2
theorem dp_ty {K : PySem.W.Frag} {H : Hp} {v : V} {d : PyData} (h : Dp K H v d) : TyX K H v (.type (tyD d)) := by
  cases h with
  | non => exact .base .non
  | bl b => exact .base (.bl b)
  | int i => exact .base (.int i)
  | str x => exact .base (.str x)
  | lst s _ => exact sqL_ty s
  | tup s _ => exact sqT_ty s
def spAlike (K : PySem.W.Frag) (n : Nat) : Sp := fun vs H Q _ => ∃ (x y : V) (d : PyData), vs = [x, y] ∧ Dp K H x d ∧ Dp K H y d ∧ okD n d = true ∧ Q (.bl true) H
abbrev nAlike : List Str := ["_law_found", "_law_due", "_law_k"]
theorem scAlike : FnScope nAlike ["_law_found", "_law_due"] (defScope sAlike) := ⟨rfl, rfl, rfl, by decide +kernel, rfl, by decide +kernel, by decide +kernel⟩
section
variable {P : Program} {w : World} {K : PySem.W.Frag} {mg : Str → Option Value} {base : Heap}
theorem ok_alike {f : Addr} {fd : FuncData} (F : FnP K "_law_alike" "_law_alike" sAlike f fd) (hg : mg "_law_alike" = some (.ref f)) (hk : PySem.W.keepIn K (.ref f) = true) (hb : Binds K fd ["_law_found", "_law_due"] [])
    (gisi : mg "isinstance" = none) (gint : mg "int" = none) (gbool : mg "bool" = none) (gstr : mg "str" = none) (gtuple : mg "tuple" = none) (glist : mg "list" = none) (glen : mg "len" = none) (grange : mg "range" = none) :
    ∀ n, FnOk P w K mg base CX0 (n + 1) f fd ["_law_found", "_law_due"] (spAlike K n) := by
  intro n
  induction n with
  | zero =>
    refine F.ok scAlike (fun vs H Q E h => ?_) (fun cdv A outer s H vs Q E hr h => ?_)
    · obtain ⟨x, y, d, _, _, _, h, _⟩ := h
      cases h
    · obtain ⟨x, y, d, _, _, _, h, _⟩ := h
      cases h
  | succ n ih =>
    have G : Cal P w K mg base CX0 (n + 1) "_law_alike" ["_law_found", "_law_due"] (spAlike K n) := ⟨_, _, ih, hg, hk, hb⟩
    refine F.ok scAlike (fun vs H Q E h => ?_) (fun cdv A outer s H vs Q E hr h => ?_)
    · obtain ⟨x, y, d, rfl, _⟩ := h
      rfl
    · obtain ⟨x, y, d, rfl, hx, hy, ok, k⟩ := h
      have nd := scAlike.nd
      refine ⟨_, PSs.nox (pss_cons (ps_if (pt_cmpR op_isN (pv 1) pe_non (nomark _)) (pss_one (ps_ret (pe_cmpR op_isN (pv 0) pe_non (nomark _)))) pss_nil)
        (pss_cons (ps_if (pt_val (pe_callB call_isi (by rfl) gisi (by decide +kernel) (pa_cons (pv 1) (pa_cons (pe_bltn (v := .ty "bool") (by rfl) gbool (by decide +kernel) rfl) pa_nil))))
            (pss_one (ps_ret (pe_and (pe_callB call_isi (by rfl) gisi (by decide +kernel) (pa_cons (pv 0) (pa_cons (pe_bltn (v := .ty "bool") (by rfl) gbool (by decide +kernel) rfl) pa_nil))) (pe_one (pe_cmpR (op_eqD hr.units) (pv 0) (pv 1) (nomark _)))))) pss_nil)
        (pss_cons (ps_if (pt_val (pe_callB call_isi (by rfl) gisi (by decide +kernel) (pa_cons (pv 1) (pa_cons (pe_bltn (v := .ty "int") (by rfl) gint boot_int rfl) pa_nil))))
            (pss_one (ps_ret (pe_and (pe_callB call_isi (by rfl) gisi (by decide +kernel) (pa_cons (pv 0) (pa_cons (pe_bltn (v := .ty "int") (by rfl) gint boot_int rfl) pa_nil)))
              (pe_and (pe_not (pe_callB call_isi (by rfl) gisi (by decide +kernel) (pa_cons (pv 0) (pa_cons (pe_bltn (v := .ty "bool") (by rfl) gbool (by decide +kernel) rfl) pa_nil)))) (pe_one (pe_cmpR (op_eqD hr.units) (pv 0) (pv 1) (nomark _))))))) pss_nil)
        (pss_cons (ps_if (pt_val (pe_callB call_isi (by rfl) gisi (by decide +kernel) (pa_cons (pv 1) (pa_cons (pe_bltn (v := .ty "str") (by rfl) gstr (by decide +kernel) rfl) pa_nil))))
            (pss_one (ps_ret (pe_and (pe_callB call_isi (by rfl) gisi (by decide +kernel) (pa_cons (pv 0) (pa_cons (pe_bltn (v := .ty "str") (by rfl) gstr (by decide +kernel) rfl) pa_nil))) (pe_one (pe_cmpR (op_eqD hr.units) (pv 0) (pv 1) (nomark _)))))) pss_nil)
        (pss_cons (ps_if (PW.pt (pw_or (pt_cmpR op_ne (pe_callB call_isi (by rfl) gisi (by decide +kernel) (pa_cons (pv 1) (pa_cons (pe_bltn (v := .ty "tuple") (by rfl) gtuple (by decide +kernel) rfl) pa_nil)))
                (pe_callB call_isi (by rfl) gisi (by decide +kernel) (pa_cons (pv 0) (pa_cons (pe_bltn (v := .ty "tuple") (by rfl) gtuple (by decide +kernel) rfl) pa_nil))) (nomark _))
              (pw_or1 (pt_cmpR op_ne (pe_callB call_isi (by rfl) gisi (by decide +kernel) (pa_cons (pv 1) (pa_cons (pe_bltn (v := .ty "list") (by rfl) glist (by decide +kernel) rfl) pa_nil)))
                (pe_callB call_isi (by rfl) gisi (by decide +kernel) (pa_cons (pv 0) (pa_cons (pe_bltn (v := .ty "list") (by rfl) glist (by decide +kernel) rfl) pa_nil))) (nomark _))))) (pss_one (ps_ret pe_bl)) pss_nil)
        (pss_cons (ps_if (pt_cmpR op_ne (pe_callB call_len_seq (by rfl) glen PySem.boot_len (pa_cons (pv 0) pa_nil)) (pe_callB call_len_seq (by rfl) glen PySem.boot_len (pa_cons (pv 1) pa_nil)) (nomark _)) (pss_one (ps_ret pe_bl)) pss_nil)
        (pss_cons (ps_for PassesOwn.never rfl (pi_range1 rfl grange (pa_cons (pe_callB call_len_seq (by rfl) glen PySem.boot_len (pa_cons (pv 1) pa_nil)) pa_nil)) (pg_name (i := 2) nd rfl (.inl rfl))
            (pss_one (ps_if (pt_not (pt_val (pe_cal G hr pass0 (pa_cons (pe_ix ix_seq (pv 0) (pv 2) (fun _ _ => rfl)) (pa_cons (pe_ix ix_seq (pv 1) (pv 2) (fun _ _ => rfl)) pa_nil))))) (pss_one (ps_ret pe_bl)) pss_nil)))
        (pss_one (ps_ret pe_bl))))))))), ?_⟩
      have ex := dp_ty hx
      have ey := dp_ty hy
      have kt : ∀ {a b : String} {r : Bool}, kitB a b = some r → PySem.W.kitOne K (.type a) (.type b) = some r := fun h => kit_ty h
      have bb := kt (a := "bool") (b := "bool") (r := true) (by decide +kernel)
      have ib := kt (a := "int") (b := "bool") (r := false) (by decide +kernel)
      have ii := kt (a := "int") (b := "int") (r := true) (by decide +kernel)
      have sb := kt (a := "str") (b := "bool") (r := false) (by decide +kernel)
      have si := kt (a := "str") (b := "int") (r := false) (by decide +kernel)
      have ss := kt (a := "str") (b := "str") (r := true) (by decide +kernel)
      have lb := kt (a := "list") (b := "bool") (r := false) (by decide +kernel)
      have li := kt (a := "list") (b := "int") (r := false) (by decide +kernel)
      have ls := kt (a := "list") (b := "str") (r := false) (by decide +kernel)
      have lt := kt (a := "list") (b := "tuple") (r := false) (by decide +kernel)
      have ll := kt (a := "list") (b := "list") (r := true) (by decide +kernel)
      have tb := kt (a := "tuple") (b := "bool") (r := false) (by decide +kernel)
      have ti := kt (a := "tuple") (b := "int") (r := false) (by decide +kernel)
      have ts := kt (a := "tuple") (b := "str") (r := false) (by decide +kernel)
      have tt := kt (a := "tuple") (b := "tuple") (r := true) (by decide +kernel)
      have tl := kt (a := "tuple") (b := "list") (r := false) (by decide +kernel)
      refine ⟨_, rfl, rfl, _, rfl, ?_⟩
      -- what follows for a list, a tuple at both: the items one by one
      have items : ∀ (xs ys : List V) (ds : List PyData), DpAll K H xs ds → DpAll K H ys ds → ds.all (okD n) = true →
          ∀ i, i < ys.length → ∃ v u, xs[i]? = some v ∧ ys[i]? = some u ∧ ∃ e, Dp K H v e ∧ Dp K H u e ∧ okD n e = true := fun xs ys ds h1 h2 h3 i hi => by
        have hl := dpAll_len h2
        have hi2 : i < ds.length := by omega
        have he : ds[i]? = some ds[i] := by simp [hi2]
        obtain ⟨v, a1, a2⟩ := dpAll_at h1 he
        obtain ⟨u, b1, b2⟩ := dpAll_at h2 he
        exact ⟨v, u, a1, b1, _, a2, b2, List.all_eq_true.mp h3 _ (List.getElem_mem hi2)⟩
      cases d with
      | none =>
        cases hx
        cases hy
        exact iteT ⟨_, rfl, rfl, k⟩
      | dict kvs => cases ok
      | bool b =>
        cases hx
        cases hy
        refine iteF ⟨_, rfl, _, _, _, _, _, rfl, .ty "bool", ey, bb, true, rfl, iteT ?_⟩
        refine ⟨_, rfl, _, _, _, _, _, rfl, .ty "bool", ex, bb, true, rfl, iteT ?_⟩
        refine ⟨_, rfl, _, rfl, _, _, .bl b, .bl b, rfl, rfl, ?_⟩
        show Q (.bl (PyData.eqv (.bool b) (.bool b))) H
        rw [PySem.SeqAt.eqv_refl _ rfl]
        exact k
      | int i =>
        cases hx
        cases hy
        refine iteF ⟨_, rfl, _, _, _, _, _, rfl, .ty "bool", ey, ib, false, rfl, iteF ?_⟩
        refine ⟨_, rfl, _, _, _, _, _, rfl, .ty "int", ey, ii, true, rfl, iteT ?_⟩
        refine ⟨_, rfl, _, _, _, _, _, rfl, .ty "int", ex, ii, true, rfl, iteT ?_⟩
        refine ⟨_, rfl, _, _, _, _, _, rfl, .ty "bool", ex, ib, false, rfl, true, rfl, iteT ?_⟩
        refine ⟨_, rfl, _, rfl, _, _, .int i, .int i, rfl, rfl, ?_⟩
        show Q (.bl (PyData.eqv (.int i) (.int i))) H
        rw [PySem.SeqAt.eqv_refl _ rfl]
        exact k
      | str z =>
        cases hx
        cases hy
        have hz : PyData.strOk z = true := ok
        have lay : PyData.canLay0 (.str z) = true := by simp only [PyData.canLay0]; exact hz
        have sh : SeqAt.shaped (.str z) = true := shaped_of lay (by simp [PyData.depth])
        refine iteF ⟨_, rfl, _, _, _, _, _, rfl, .ty "bool", ey, sb, false, rfl, iteF ?_⟩
        refine ⟨_, rfl, _, _, _, _, _, rfl, .ty "int", ey, si, false, rfl, iteF ?_⟩
        refine ⟨_, rfl, _, _, _, _, _, rfl, .ty "str", ey, ss, true, rfl, iteT ?_⟩
        refine ⟨_, rfl, _, _, _, _, _, rfl, .ty "str", ex, ss, true, rfl, iteT ?_⟩
        refine ⟨_, rfl, _, rfl, _, _, .str z, .str z, sh, sh, ?_⟩
        show Q (.bl (PyData.eqv (.str z) (.str z))) H
        rw [PySem.SeqAt.eqv_refl _ lay]
        exact k
      | list ds =>
        cases hx with
        | lst sx ax =>
          rename_i a xs
          cases hy with
          | lst sy ay =>
            rename_i b ys
            have ok2 : (decide (ds.length ≤ 10000) && ds.all (okD n)) = true := ok
            obtain ⟨o1, o2⟩ := Bool.and_eq_true_iff.mp ok2
            have it := items xs ys ds ax ay o2
            refine iteF ⟨_, rfl, _, _, _, _, _, rfl, .ty "bool", ey, lb, false, rfl, iteF ?_⟩
            refine ⟨_, rfl, _, _, _, _, _, rfl, .ty "int", ey, li, false, rfl, iteF ?_⟩
            refine ⟨_, rfl, _, _, _, _, _, rfl, .ty "str", ey, ls, false, rfl, iteF ?_⟩
            refine ⟨_, rfl, _, _, _, _, _, rfl, .ty "tuple", ey, lt, _, rfl, _, _, _, _, _, rfl, .ty "tuple", ex, lt, ?_⟩
            refine ⟨rfl, _, rfl, iteF' (by rw [decide_eq_true rfl]; rfl) ?_⟩
            refine ⟨_, rfl, _, _, _, _, _, rfl, .ty "list", ey, ll, _, rfl, _, _, _, _, _, rfl, .ty "list", ex, ll, ?_⟩
            refine ⟨rfl, _, rfl, iteF' (by rw [decide_eq_true rfl]; rfl) ?_⟩
            have lx : xs.length = ys.length := by rw [dpAll_len ax, dpAll_len ay]
            have lb1 : ys.length ≤ 10000 := by
              rw [dpAll_len ay]
              exact of_decide_eq_true o1
            refine ⟨_, rfl, a, xs, rfl, .inl sx, _, rfl, b, ys, rfl, .inl sy, rfl, _, rfl, iteF' (by rw [lx, decide_eq_true rfl]; rfl) ?_⟩
            refine ⟨_, rfl, b, ys, rfl, .inl sy, _, rfl, by omega, by omega, for_range (lo := 0) (n := ((ys.length : Nat) : Int).toNat) (fun i σ H' => H' = H ∧ ∃ v, σ = [some (V.ref a), some (V.ref b), v]) ⟨rfl, _, rfl⟩ ?_ ?_⟩
            · rintro i σ H' hi ⟨rfl, v0, rfl⟩
              obtain ⟨v, u, h1, h2, e, d1, d2, d3⟩ := it i (by omega)
              have e1 : atI xs (0 + ((i : Nat) : Int)) = some v := by rw [Int.zero_add]; exact atI_nat h1
              have e2 : atI ys (0 + ((i : Nat) : Int)) = some u := by rw [Int.zero_add]; exact atI_nat h2
              refine ⟨_, rfl, _, rfl, .inl ⟨a, xs, _, v, rfl, rfl, sx, e1, _, rfl, _, rfl, .inl ⟨b, ys, _, u, rfl, rfl, sy, e2, ?_⟩⟩⟩
              exact ⟨v, u, e, rfl, d1, d2, d3, true, rfl, iteF ⟨rfl, _, rfl⟩⟩
            · rintro σ H' ⟨rfl, v0, rfl⟩
              exact k
      | tuple ds =>
        cases hx with
        | tup sx ax =>
          rename_i a xs
          cases hy with
          | tup sy ay =>
            rename_i b ys
            have ok2 : (decide (ds.length ≤ 10000) && ds.all (okD n)) = true := ok
            obtain ⟨o1, o2⟩ := Bool.and_eq_true_iff.mp ok2
            have it := items xs ys ds ax ay o2
            refine iteF ⟨_, rfl, _, _, _, _, _, rfl, .ty "bool", ey, tb, false, rfl, iteF ?_⟩
            refine ⟨_, rfl, _, _, _, _, _, rfl, .ty "int", ey, ti, false, rfl, iteF ?_⟩
            refine ⟨_, rfl, _, _, _, _, _, rfl, .ty "str", ey, ts, false, rfl, iteF ?_⟩
            refine ⟨_, rfl, _, _, _, _, _, rfl, .ty "tuple", ey, tt, _, rfl, _, _, _, _, _, rfl, .ty "tuple", ex, tt, ?_⟩
            refine ⟨rfl, _, rfl, iteF' (by rw [decide_eq_true rfl]; rfl) ?_⟩
            refine ⟨_, rfl, _, _, _, _, _, rfl, .ty "list", ey, tl, _, rfl, _, _, _, _, _, rfl, .ty "list", ex, tl, ?_⟩
            refine ⟨rfl, _, rfl, iteF' (by rw [decide_eq_true rfl]; rfl) ?_⟩
            have lx : xs.length = ys.length := by rw [dpAll_len ax, dpAll_len ay]
            have lb1 : ys.length ≤ 10000 := by
              rw [dpAll_len ay]
              exact of_decide_eq_true o1
            refine ⟨_, rfl, a, xs, rfl, .inr sx, _, rfl, b, ys, rfl, .inr sy, rfl, _, rfl, iteF' (by rw [lx, decide_eq_true rfl]; rfl) ?_⟩
            refine ⟨_, rfl, b, ys, rfl, .inr sy, _, rfl, by omega, by omega, for_range (lo := 0) (n := ((ys.length : Nat) : Int).toNat) (fun i σ H' => H' = H ∧ ∃ v, σ = [some (V.ref a), some (V.ref b), v]) ⟨rfl, _, rfl⟩ ?_ ?_⟩
            · rintro i σ H' hi ⟨rfl, v0, rfl⟩
              obtain ⟨v, u, h1, h2, e, d1, d2, d3⟩ := it i (by omega)
              have e1 : atI xs (0 + ((i : Nat) : Int)) = some v := by rw [Int.zero_add]; exact atI_nat h1
              have e2 : atI ys (0 + ((i : Nat) : Int)) = some u := by rw [Int.zero_add]; exact atI_nat h2
              refine ⟨_, rfl, _, rfl, .inr (.inl ⟨a, xs, _, v, rfl, rfl, sx, e1, _, rfl, _, rfl, .inr (.inl ⟨b, ys, _, u, rfl, rfl, sy, e2, ?_⟩)⟩)⟩
              exact ⟨v, u, e, rfl, d1, d2, d3, true, rfl, iteF ⟨rfl, _, rfl⟩⟩
            · rintro σ H' ⟨rfl, v0, rfl⟩
              exact k
end
end Om

namespace Om
open PySem PySem.Spec PyProof.Rows L2
section
variable {P : Program} {w : World} {K : PySem.W.Frag} {mg : Str → Option Value} {base : Heap} {CI CU fN : Addr}
def cellsLc : Expr := retExpr ((defBody (sIslM 4)).getD 0 (.Pass ⟨0, 0, 0, 0⟩))
abbrev nCells : List Str := ["self", "row", "signs", "column", "sign"]
theorem scCells : FnScope nCells ["self"] (defScope (sIslM 4)) := ⟨rfl, rfl, rfl, by decide +kernel, rfl, by decide +kernel, by decide +kernel⟩
theorem blkCells : BlkOk nCells (defScope (sIslM 4)) (lcScope cellsLc) [("row", 1), ("signs", 2), ("column", 3), ("sign", 4)] := blkOk_by (by decide +kernel)
theorem ok_icells {f : Addr} {fd : FuncData} (F : FnP K "cells" "Island.cells" (sIslM 4) f fd) (T : IslF K mg CI fN) (genum : mg "enumerate" = none) (gw : ∃ t, mg "WATER" = some (.str (Str.ofString "~") t)) : FnOk P w K mg base CX0 1 f fd ["self"] (spICells K CI) := by
  obtain ⟨t0, gw⟩ := gw
  refine F.ok scCells (fun vs H Q E h => ?_) (fun cdv A outer s H vs Q E hr h => ?_)
  · obtain ⟨a, rows, rfl, _⟩ := h
    rfl
  · obtain ⟨a, rows, rfl, ⟨dx, p, hp, hS⟩, vd, k⟩ := h
    have nd := scCells.nd
    refine ⟨_, PSs.nox (pss_one (ps_ret (pe_lc2 (own := [("row", 1), ("signs", 2), ("column", 3), ("sign", 4)]) (vs1 := [3, 4]) (g := gTup K 2 (gCons (gName 1) (gCons (gName 2) gNil))) (g1 := gTup K 2 (gCons (gName 3) (gCons (gName 4) gNil))) rfl nd (pi_enumT rfl genum (pa_cons (pe_fld (pv 0) rfl) pa_nil)) blkCells (by decide)
      (fun _ _ _ _ _ => pg_tup rfl (pgs_cons (pg_name (i := 1) nd rfl (.inl rfl)) (pgs_cons (pg_name (i := 2) nd rfl (.inl rfl)) pgs_nil))) (fun _ _ _ _ _ => pts_nil)
      (fun _ _ _ _ _ => pi_enumS rfl genum (pa_cons (pv 2) pa_nil))
      (fun _ _ _ _ _ => pg_tup rfl (pgs_cons (pg_name (i := 3) nd rfl (.inl rfl)) (pgs_cons (pg_name (i := 4) nd rfl (.inl rfl)) pgs_nil)))
      (fun _ _ _ _ _ => pts_one (pt_cmpR op_ne (pv 4) (pe_glob (v := .str (Str.ofString "~")) rfl gw ⟨_, rfl⟩) (nomark _)))
      (fun _ _ _ _ _ => pe_tup (pa_cons (pv 1) (pa_cons (pv 3) pa_nil)))))), ?_⟩
    refine ⟨_, rfl, a, CI, dx, _, .ref p, rfl, hp, T.cl, T.nR, rfl, p, _, rfl, hS, fun D hD => ?_⟩
    have ez : Str.ofString "~" = (⟨#[126]⟩ : Str) := by decide +kernel
    refine out_it (walk_enumT (K := K) (a := p) (xs := rows.map vt)) (fun i H' => ∃ acc, H' D = some (.lst acc) ∧ DpAll K H' acc ((cellsTo rows i).map cdp) ∧ Same H H') ⟨[], upd_same, .nil, Same.new (Same.refl H) hD⟩
      (fun i H' _ q => by obtain ⟨_, _, _, q⟩ := q; exact Same.tup q hS) ?_ ?_
    · rintro i x H1 H2 hi ⟨acc, h1, h2, h3⟩ ⟨T1, y, rfl, hT, rfl, hy⟩
      rw [List.length_map] at hi
      obtain ⟨r, hr1⟩ : ∃ r, rows[i]? = some r := ⟨rows[i], by simp [hi]⟩
      have hy2 : y = vt r := by
        have hy : (rows.map vt)[i]? = some y := hy
        rw [List.getElem?_map, hr1] at hy
        exact (Option.some.inj hy).symm
      subst hy2
      have hm : r ∈ rows := List.mem_of_getElem? hr1
      have hDT : D ≠ T1 := fun e => by rw [← e, h1] at hT; cases hT
      have s1 : Same H1 (upd H1 T1 (.tup [.int (i : Nat), vt r])) := Same.new (Same.refl H1) hT
      refine ⟨T1, _, rfl, .inl (.inl upd_same), rfl, _, _, rfl, _, _, rfl, rfl, rfl, tyes ?_⟩
      refine ⟨_, rfl, tx r, rfl, in_it (walk_enumS (x := tx r)) (fun j H' => ∃ acc, H' D = some (.lst acc) ∧ DpAll K H' acc ((cellsTo rows i ++ rowCells r i j).map cdp) ∧ Same H H')
        ⟨acc, s1 _ _ h1, by simp only [rowCells, List.range_zero, List.filter_nil, List.map_nil, List.append_nil]; exact Same.dpAll s1 h2, h3.trans s1⟩ (fun _ _ _ _ => trivial) ?_ ?_⟩
      · rintro j x H3 H4 hj ⟨acc2, g1, g2, g3⟩ ⟨T2, y2, rfl, hT2, rfl, hy2⟩
        have hj' : j < r.length := by
          have e : (tx r).cps.size = r.length := by rw [← Array.length_toList, tx_cps]
          rwa [e] at hj
        obtain ⟨c, hc⟩ : ∃ c, r[j]? = some c := ⟨r[j], by simp [hj']⟩
        have hy3 : y2 = .str ⟨#[c]⟩ := by
          have hy2 : ((tx r).cps[j]?).map (fun c => V.str ⟨#[c]⟩) = some y2 := hy2
          have e : (tx r).cps[j]? = some c := by
            rw [← Array.getElem?_toList, tx_cps]
            exact hc
          rw [e] at hy2
          exact (Option.some.inj hy2).symm
        subst hy3
        have s2 : Same H3 (upd H3 T2 (.tup [.int (j : Nat), .str ⟨#[c]⟩])) := Same.new (Same.refl H3) hT2
        have hcd : r.getD j 0 = c := by rw [List.getD_eq_getElem?_getD, hc, Option.getD_some]
        refine ⟨T2, _, rfl, .inl (.inl upd_same), rfl, _, _, rfl, _, _, rfl, rfl, rfl, ?_⟩
        refine ⟨_, rfl, rfl, _, rfl, ?_⟩
        have e2 : (decide (V.str ⟨#[c]⟩ = V.str (Str.ofString "~"))) = decide (c = 126) := by
          rw [ez]
          apply decide_eq_decide.mpr
          simp
        show if (!decide (V.str ⟨#[c]⟩ = V.str (Str.ofString "~"))) = true then _ else _
        rw [e2, rowCells_succ, hcd]
        have w1 : (cellsTo rows i).length ≤ i * 12 := cellsTo_len (fun r hr => (vd.wid r hr).2) i (by omega)
        have w2 := rowCells_len r i j
        have w3 := (vd.wid r hm).2
        have w4 := vd.hgt
        have hlen := dpAll_len g2
        rw [List.length_map, List.length_append] at hlen
        by_cases h126 : c = 126
        · rw [if_pos h126]
          refine iteF' (by rw [decide_eq_true h126]; rfl) ?_
          exact ⟨acc2, s2 _ _ g1, Same.dpAll s2 g2, g3.trans s2⟩
        · rw [if_neg h126]
          refine iteT' (by rw [decide_eq_false h126]; rfl) ?_
          refine ⟨_, rfl, _, rfl, (by show 2 ≤ sizeLine; decide), fun q hq => ?_⟩
          have s3 : Same H3 (upd (upd H3 T2 (.tup [.int (j : Nat), .str ⟨#[c]⟩])) q (.tup [.int (i : Nat), .int (j : Nat)])) := s2.trans (Same.new (Same.refl _) hq)
          have g4 := s3 _ _ g1
          have hqD : D ≠ q := fun e => by rw [← e, s2 _ _ g1] at hq; cases hq
          refine ⟨acc2, g4, Nat.lt_of_lt_of_le (show acc2.length < 1000 by omega) (by decide), acc2 ++ [.ref q], upd_same, ?_, ?_⟩
          · rw [← List.append_assoc, List.map_append]
            refine dpAll_app (pairs_other g4 (Same.dpAll s3 g2)) (.cons ?_ .nil)
            exact .tup (.inl (.inl (by rw [upd_ne (Ne.symm hqD)]; exact upd_same))) (.cons (.int _) (.cons (.int _) .nil))
          · intro b o hb
            have hne : b ≠ D := ne_of_none hb hD
            rw [upd_ne hne]
            exact s3 _ _ (g3 b o hb)
      · rintro H3 ⟨acc2, g1, g2, g3⟩
        have e : (tx r).cps.size = r.length := by rw [← Array.length_toList, tx_cps]
        rw [e] at g2
        refine ⟨acc2, g1, ?_, g3⟩
        rw [cellsTo_succ, getD_at hr1]
        exact g2
    · rintro H1 ⟨acc, h1, h2, h3⟩
      rw [List.length_map] at h2
      exact k _ H1 h3 (.lst (.inl (.inl h1)) h2)
end
end Om

namespace Om
open PySem PySem.Spec PyProof.Rows L2 LamX
/-! ### the heap of numbers that a law draws from -/
abbrev Bx (H : Hp) (b l : Addr) : Prop := Box H b l
theorem Bx.new {H : Hp} {b l D : Addr} (B : Box H b l) (hD : H D = none) : D ≠ b ∧ D ≠ l := by
  obtain ⟨_, _, x1, x2, _⟩ := B.ex
  exact ⟨(fun e => by rw [← e, hD] at x1; cases x1), (fun e => by rw [← e, hD] at x2; cases x2)⟩
end Om

namespace Om
open PySem PySem.Spec PyProof.Rows L2 LamX
/-! ### data without lists stay when the numbers are drawn -/
mutual
def noL : PyData → Bool
  | .list _ => false
  | .tuple ds => noLs ds
  | .dict _ => false
  | .none => true
  | .bool _ => true
  | .int _ => true
  | .str _ => true
def noLs : List PyData → Bool
  | [] => true
  | d :: r => noL d && noLs r
end
theorem SqT.kp {K : PySem.W.Frag} {H H' : Hp} {b l a : Addr} {xs : List V} (B : Bx H b l) (k : Kp b l H H') (h : SqT K H a xs) : SqT K H' a xs := by
  obtain ⟨ns, z, h1, h2, _⟩ := B.ex
  rcases h with (h | ⟨o, h⟩) | h
  · exact .inl (.inl (k _ _ h (ne_of h h1 fun e => by cases e) (ne_of h h2 fun e => by cases e)))
  · exact .inl (.inr ⟨o, k _ _ h (ne_of h h1 fun e => by cases e) (ne_of h h2 fun e => by cases e)⟩)
  · exact .inr h
theorem dp_noL {K : PySem.W.Frag} {H H' : Hp} {v : V} {d : PyData} (hS : ∀ a xs, SqT K H a xs → SqT K H' a xs) (hn : noL d = true) (h : Dp K H v d) : Dp K H' v d :=
  Dp.rec (motive_1 := fun v d _ => noL d = true → Dp K H' v d) (motive_2 := fun vs ds _ => noLs ds = true → DpAll K H' vs ds) (fun _ => .non) (fun b _ => .bl b) (fun i _ => .int i) (fun x _ => .str x)
    (fun _ _ _ hn => by simp [noL] at hn) (fun s _ ih hn => .tup (hS _ _ s) (ih (by simpa [noL] using hn))) (fun _ => .nil) (fun _ _ i1 i2 hn => by
      rw [noLs, Bool.and_eq_true] at hn
      exact .cons (i1 hn.1) (i2 hn.2)) h hn
theorem dpAll_noL {K : PySem.W.Frag} {H H' : Hp} : ∀ {vs : List V} {ds : List PyData} (hS : ∀ a xs, SqT K H a xs → SqT K H' a xs) (hn : noLs ds = true) (h : DpAll K H vs ds), DpAll K H' vs ds
  | [], [], _, _, .nil => .nil
  | _ :: _, _ :: _, hS, hn, .cons h t => by
    rw [noLs, Bool.and_eq_true] at hn
    exact .cons (dp_noL hS hn.1 h) (dpAll_noL hS hn.2 t)
theorem SqT.updL {K : PySem.W.Frag} {H : Hp} {D a : Addr} {xs ys zs : List V} (hD : H D = some (.lst ys)) (h : SqT K H a xs) : SqT K (upd H D (.lst zs)) a xs := by
  rcases h with (h | ⟨o, h⟩) | h
  · exact .inl (.inl (by rw [upd_ne (ne_of h hD fun e => by cases e)]; exact h))
  · exact .inl (.inr ⟨o, by rw [upd_ne (ne_of h hD fun e => by cases e)]; exact h⟩)
  · exact .inr h
theorem Bx.updL {H : Hp} {b l D : Addr} {ys : List V} (B : Bx H b l) (nb : D ≠ b) (nl : D ≠ l) : Bx (upd H D (.lst ys)) b l := by
  obtain ⟨u1, u2, u4, u5, u6⟩ := B.ex
  exact ⟨u1, u2, by rw [upd_ne nb.symm]; exact u4, by rw [upd_ne nl.symm]; exact u5, u6⟩
theorem Kp.updL {H H0 : Hp} {b l D : Addr} {ys : List V} (k : Kp b l H0 H) (hD : H0 D = none) : Kp b l H0 (upd H D (.lst ys)) := by
  intro x o hx n1 n2
  rw [upd_ne (ne_of_none hx hD)]
  exact k x o hx n1 n2
theorem Kp.ins {b l a C dx : Addr} {H H' : Hp} {fs : List (Str × V)} (k : Kp b l H H') (B : Bx H b l) (h : H a = some (.ins C dx fs)) : H' a = some (.ins C dx fs) := by
  obtain ⟨ns, z, h1, h2, _⟩ := id B.ex
  exact k _ _ h (ne_of h h1 fun e => by cases e) (ne_of h h2 fun e => by cases e)
theorem Isl.kp {K : PySem.W.Frag} {H H' : Hp} {CI a b l : Addr} {rows : List (List Nat)} (B : Bx H b l) (k : Kp b l H H') (h : Isl K CI H a rows) : Isl K CI H' a rows := by
  obtain ⟨dx, p, hp, hS⟩ := h
  exact ⟨dx, p, k.ins B hp, SqT.kp B k hS⟩
theorem noL_cells : ∀ cs : List (Nat × Nat), noLs (cs.map cdp) = true
  | [] => rfl
  | c :: r => by
    have ih := noL_cells r
    simp only [List.map_cons, noLs, cdp, noL, ih, Bool.and_self]
/-! ### _law_alike of two readings of the same data -/
theorem ixsK {X : Cx} {K : PySem.W.Frag} (hK : X.K = K) : IxR X (rIx K) := by
  subst hK
  exact ix_seq
theorem pss_no {X : Cx} {st : List Stmt} : PSs X st (fun _ _ _ => False) := ⟨fun _ _ _ _ _ _ h => False.elim h⟩
def asgExpr (s : Stmt) : Expr := match s with
  | .Assign _ e _ => e
  | _ => .Constant .none 0 ⟨0, 0, 0, 0⟩
def noS : Stmt := .Pass ⟨0, 0, 0, 0⟩
def inIf (s : Stmt) (i : Nat) : Stmt := match s with
  | .If _ b _ _ => b.getD i noS
  | _ => noS
def inFor (s : Stmt) (i : Nat) : Stmt := match s with
  | .For _ _ b _ _ => b.getD i noS
  | _ => noS
def cmpL (e : Expr) : Expr := match e with
  | .Compare a _ _ _ => a
  | _ => .Constant .none 0 ⟨0, 0, 0, 0⟩
end Om

namespace Om
open PySem PySem.Spec PyProof.Rows L2 LamX
/-! ### signs at places -/
def sg2 (rows : List (List Nat)) (i j : Nat) : Nat := (rows.getD i []).getD j 0
structure Rect (rows : List (List Nat)) (h w : Nat) : Prop where
  len : rows.length = h
  row : ∀ r ∈ rows, r.length = w
theorem rect_getD {rows : List (List Nat)} {h w : Nat} (R : Rect rows h w) {i : Nat} (hi : i < h) : rows.getD i [] ∈ rows ∧ (rows.getD i []).length = w := by
  have hi2 : i < rows.length := by rw [R.len]; exact hi
  have e : rows.getD i [] = rows[i] := by rw [List.getD_eq_getElem?_getD, List.getElem?_eq_getElem hi2, Option.getD_some]
  rw [e]
  exact ⟨List.getElem_mem hi2, R.row _ (List.getElem_mem hi2)⟩
/-! ### cells -/
theorem cells_mem (rows : List (List Nat)) (a b : Nat) : (a, b) ∈ cellsOf rows ↔ a < rows.length ∧ b < (rows.getD a []).length ∧ sg2 rows a b ≠ 126 := by
  unfold cellsOf cellsTo rowCells sg2
  simp only [List.mem_flatMap, List.mem_range, List.mem_map, List.mem_filter, Bool.not_eq_true', decide_eq_false_iff_not, Prod.mk.injEq]
  constructor
  · rintro ⟨i, hi, j, ⟨hj1, hj2⟩, rfl, rfl⟩
    exact ⟨hi, hj1, hj2⟩
  · rintro ⟨h1, h2, h3⟩
    exact ⟨a, h1, b, ⟨h2, h3⟩, rfl, rfl⟩
theorem eqv_cell (c : Nat × Nat) (i j : Int) : PyData.eqv (cdp c) (.tuple [.int i, .int j]) = (decide (((c.1 : Nat) : Int) = i) && decide (((c.2 : Nat) : Int) = j)) := by
  simp only [cdp, PyData.eqv, PyData.eqvAll, Bool.and_true]
  rfl
theorem cells_any {rows : List (List Nat)} (g : Good2 rows) (i j : Int) : (((cellsOf rows).map cdp).any fun z => PyData.eqv z (.tuple [.int i, .int j])) = hasC rows i j := by
  rw [Bool.eq_iff_iff, List.any_map, List.any_eq_true]
  constructor
  · rintro ⟨⟨a, b⟩, hm, h⟩
    have h : PyData.eqv (cdp (a, b)) (.tuple [.int i, .int j]) = true := h
    rw [eqv_cell, Bool.and_eq_true, decide_eq_true_eq, decide_eq_true_eq] at h
    obtain ⟨rfl, rfl⟩ := h
    obtain ⟨h1, h2, h3⟩ := (cells_mem rows a b).mp hm
    have hl := g.rect _ (rect_getD (h := rows.length) (w := (rows.headD []).length) ⟨rfl, g.rect⟩ h1).1
    unfold hasC insd inR sgAt
    simp only [Int.toNat_natCast, Bool.and_eq_true, decide_eq_true_eq, Bool.not_eq_true', decide_eq_false_iff_not]
    exact ⟨by omega, h3⟩
  · intro h
    unfold hasC insd inR sgAt at h
    simp only [Bool.and_eq_true, decide_eq_true_eq, Bool.not_eq_true', decide_eq_false_iff_not] at h
    obtain ⟨⟨⟨h1, h2⟩, h3, h4⟩, h5⟩ := h
    have hl := g.rect _ (rect_getD (h := rows.length) (w := (rows.headD []).length) ⟨rfl, g.rect⟩ (i := i.toNat) (by omega)).1
    refine ⟨(i.toNat, j.toNat), (cells_mem rows _ _).mpr ⟨by omega, by omega, h5⟩, ?_⟩
    show PyData.eqv (cdp (i.toNat, j.toNat)) (.tuple [.int i, .int j]) = true
    rw [eqv_cell, Bool.and_eq_true, decide_eq_true_eq, decide_eq_true_eq]
    exact ⟨by show ((i.toNat : Nat) : Int) = i; omega, by show ((j.toNat : Nat) : Int) = j; omega⟩
theorem lay_cells (cs : List (Nat × Nat)) : PyData.canLayAll0 (cs.map cdp) = true := by
  induction cs with
  | nil => simp [PyData.canLayAll0]
  | cons c r ih => simp only [List.map_cons, PyData.canLayAll0, cdp, PyData.canLay0, ih, Bool.and_self]
theorem dep_cells (cs : List (Nat × Nat)) : PyData.depthAll (cs.map cdp) ≤ 1 := by
  induction cs with
  | nil => simp [PyData.depthAll]
  | cons c r ih => simp [PyData.depthAll, cdp, PyData.depth]; omega
theorem sh_cells (cs : List (Nat × Nat)) : SeqAt.shaped (.list (cs.map cdp)) = true := shaped_of (by simp only [PyData.canLay0]; exact lay_cells cs) (by have := dep_cells cs; simp only [PyData.depth]; omega)
theorem sh_pair (i j : Int) : SeqAt.shaped (.tuple [.int i, .int j]) = true := shaped_of (by simp [PyData.canLay0, PyData.canLayAll0]) (by simp [PyData.depth, PyData.depthAll])
theorem eqv_pair (i j : Int) : PyData.eqv (.tuple [.int i, .int j]) (.tuple [.int i, .int j]) = true := PySem.SeqAt.eqv_refl _ (by simp [PyData.canLay0, PyData.canLayAll0])
/-! ### rules, what digs tell -/
inductive Rl where
  | plain
  | rows
  | near (m : Nat)
def Rl.vs : Rl → List V
  | .plain => [.str "plain"]
  | .rows => [.str "rows"]
  | .near m => [.str "near", .int (m : Nat)]
def Rl.ds : Rl → List PyData
  | .plain => [.str "plain"]
  | .rows => [.str "rows"]
  | .near m => [.str "near", .int (m : Nat)]
def Rl.d (r : Rl) : PyData := .tuple r.ds
def iabs (i : Int) : Int := if i < 0 then -i else i
abbrev Cell := Nat × Nat
def cvs (c : Cell) : List V := [.int (c.1 : Nat), .int (c.2 : Nat)]
def away (c p : Cell) : Int := iabs ((c.1 : Int) - (p.1 : Int)) + iabs ((c.2 : Int) - (p.2 : Int))
def toldR (a b : Nat) : Str := if b = a then "level" else if b < a then "north" else "south"
def told (r : Rl) (c p : Cell) : Str := if c = p then "found" else match r with
  | .plain => "empty"
  | .rows => toldR c.1 p.1
  | .near m => if away c p ≤ (m : Int) then "near" else "far"
theorem cell_dp {K : PySem.W.Frag} {H : Hp} {a : Addr} {c : Cell} (h : SqT K H a (cvs c)) : Dp K H (.ref a) (cdp c) := .tup h (.cons (.int _) (.cons (.int _) .nil))
theorem cell_at {K : PySem.W.Frag} {H : Hp} {v : V} {c : Cell} (h : Dp K H v (cdp c)) : ∃ a, v = .ref a ∧ SqT K H a (cvs c) := by
  unfold cdp at h
  cases h with
  | tup s t =>
    cases t with
    | cons h1 t =>
      cases h1
      cases t with
      | cons h2 t =>
        cases h2
        cases t
        exact ⟨_, rfl, s⟩
theorem eqv_cells (c p : Cell) : PyData.eqv (cdp c) (cdp p) = decide (c = p) := by
  have z := eqv_cell c (p.1 : Nat) (p.2 : Nat)
  show PyData.eqv (cdp c) (.tuple [.int (p.1 : Nat), .int (p.2 : Nat)]) = _
  rw [z, Bool.eq_iff_iff]
  simp only [Bool.and_eq_true, decide_eq_true_eq, Int.natCast_inj]
  constructor
  · rintro ⟨h1, h2⟩
    exact Prod.ext h1 h2
  · rintro rfl
    exact ⟨rfl, rfl⟩
theorem sh_cell (c : Cell) : SeqAt.shaped (cdp c) = true := sh_pair _ _
/-- which words a rule knows -/
def words : Rl → List Str
  | .plain => ["found", "empty"]
  | .rows => ["found", "north", "south", "level"]
  | .near _ => ["found", "near", "far"]
theorem told_mem (r : Rl) (c p : Cell) : told r c p ∈ words r := by
  unfold told
  split
  · cases r <;> simp [words]
  · cases r with
    | plain => simp [words]
    | rows =>
      show toldR _ _ ∈ _
      unfold toldR
      split
      · simp [words]
      · split <;> simp [words]
    | near m =>
      show (if _ then _ else _ : Str) ∈ _
      split <;> simp [words]
/-! ### x in (a written tuple of data) -/
def rInT (K : PySem.W.Frag) : R2 := fun x y H Q => ∃ d ds, Dp K H x d ∧ Dp K H y (.tuple ds) ∧ SeqAt.shaped d = true ∧ SeqAt.shaped (.tuple ds) = true ∧ Q (.bl (ds.any fun z => PyData.eqv z d)) H
theorem op_inT {X : Cx} (hu : X.A.units + 65 < cLine) : OpR X (compareOp .In) (rInT X.K) := by
  intro pins s σ H x y v u Q I rx ry h
  obtain ⟨d, ds, hd, he, sd, se, q⟩ := h
  obtain ⟨as, r1⟩ := Dp.reads I d x v hd rx
  obtain ⟨bs, r2⟩ := Dp.reads I (.tuple ds) y u he ry
  exact SeqAt.in_tuple_reads r2 r1 (SeqAt.canLay_of_shaped se) (SeqAt.canLay_of_shaped sd) (room_in_shaped sd hu) ⟨.bl _, H, I, rfl, q⟩
end Om

namespace Om
open PySem PySem.Spec PyProof.Rows L2 LamX
theorem ixtK {X : Cx} {K : PySem.W.Frag} (hK : X.K = K) : IxR X (rIxT K) := by
  subst hK
  exact ix_tup
/-! ### cells that stand in the heap -/
abbrev TC := List (Addr × Cell)
def CA (H : Hp) (t : TC) : Prop := ∀ p ∈ t, H p.1 = some (.tup (cvs p.2))
def vz (t : TC) : List V := t.map fun p => V.ref p.1
def cz (t : TC) : List Cell := t.map fun p => p.2
theorem CA.nil {H : Hp} : CA H [] := fun p hp => by cases hp
theorem CA.same {H H' : Hp} {t : TC} (h : CA H t) (s : Same H H') : CA H' t := fun p hp => s _ _ (h p hp)
theorem CA.updL {H : Hp} {D : Addr} {ys zs : List V} {t : TC} (h : CA H t) (hD : H D = some (.lst ys)) : CA (upd H D (.lst zs)) t := fun p hp => by
  rw [upd_ne (ne_of (h p hp) hD fun e => by cases e)]
  exact h p hp
theorem CA.kp {H H' : Hp} {b l : Addr} {t : TC} (h : CA H t) (B : Bx H b l) (k : Kp b l H H') : CA H' t := fun p hp => by
  obtain ⟨ns, z, h1, h2, _⟩ := B.ex
  exact k _ _ (h p hp) (ne_of (h p hp) h1 fun e => by cases e) (ne_of (h p hp) h2 fun e => by cases e)
theorem CA.app {H : Hp} {t u : TC} (h1 : CA H t) (h2 : CA H u) : CA H (t ++ u) := fun p hp => (List.mem_append.mp hp).elim (h1 p) (h2 p)
theorem CA.one {H : Hp} {a : Addr} {c : Cell} (h : H a = some (.tup (cvs c))) : CA H [(a, c)] := fun p hp => by
  rw [List.mem_singleton] at hp
  subst hp
  exact h
theorem CA.dp {K : PySem.W.Frag} {H : Hp} : ∀ {t : TC}, CA H t → DpAll K H (vz t) ((cz t).map cdp)
  | [], _ => .nil
  | p :: t, h => .cons (cell_dp (.inl (.inl (h p (List.mem_cons_self ..))))) (CA.dp fun q hq => h q (List.mem_cons_of_mem _ hq))
theorem vz_len (t : TC) : (vz t).length = t.length := List.length_map ..
theorem cz_len (t : TC) : (cz t).length = t.length := List.length_map ..
theorem vz_app (t u : TC) : vz (t ++ u) = vz t ++ vz u := List.map_append
theorem cz_app (t u : TC) : cz (t ++ u) = cz t ++ cz u := List.map_append
theorem vz_of {xs : List V} {t : TC} (h : ∀ x ∈ xs, x ∈ vz t) : ∃ u : TC, xs = vz u ∧ ∀ p ∈ u, p ∈ t := by
  induction xs with
  | nil => exact ⟨[], rfl, fun p hp => by cases hp⟩
  | cons x r ih =>
    obtain ⟨u, e, hu⟩ := ih fun y hy => h y (List.mem_cons_of_mem _ hy)
    obtain ⟨p, hp, rfl⟩ := List.mem_map.mp (h x (List.mem_cons_self ..))
    refine ⟨p :: u, by rw [e]; rfl, fun q hq => ?_⟩
    rcases List.mem_cons.mp hq with rfl | hq
    · exact hp
    · exact hu q hq
def binR (e : Expr) : Expr := match e with
  | .BinOp _ _ e _ => e
  | _ => .Constant .none 0 ⟨0, 0, 0, 0⟩
end Om

namespace Om
open PySem PySem.Spec PyProof.Rows L2 LamX
theorem vz_erase : ∀ (t : TC) (k : Nat), (vz t).eraseIdx k = vz (t.eraseIdx k)
  | [], _ => rfl
  | _ :: _, 0 => rfl
  | a :: r, k + 1 => by
    show V.ref a.1 :: (vz r).eraseIdx k = V.ref a.1 :: vz (r.eraseIdx k)
    rw [vz_erase r k]
theorem eqv_cells_nil (cs : List Cell) : PyData.eqv (.list (cs.map cdp)) (.list []) = cs.isEmpty := by
  cases cs <;> simp [PyData.eqv, PyData.eqvAll]
theorem perm_map {α β : Type} {f : α → β} {ys zs : List β} (h : ys.Perm zs) : ∀ l : List α, zs = l.map f → ∃ u : List α, u.Perm l ∧ ys = u.map f := by
  induction h with
  | nil =>
    intro l e
    cases l with
    | nil => exact ⟨[], List.Perm.refl _, rfl⟩
    | cons a l => cases e
  | cons x _ ih =>
    intro l e
    cases l with
    | nil => cases e
    | cons a l =>
      injection e with e1 e2
      obtain ⟨u, h1, h2⟩ := ih l e2
      exact ⟨a :: u, h1.cons a, by rw [e1, h2]; rfl⟩
  | swap x y _ =>
    intro l e
    cases l with
    | nil => cases e
    | cons a l =>
      cases l with
      | nil => cases e
      | cons b l =>
        injection e with e1 e2
        injection e2 with e2 e3
        exact ⟨b :: a :: l, List.Perm.swap a b l, by rw [e1, e2, e3]; rfl⟩
  | trans _ _ ih1 ih2 =>
    intro l e
    obtain ⟨u, h1, h2⟩ := ih2 l e
    obtain ⟨u2, h3, h4⟩ := ih1 u h2
    exact ⟨u2, h3.trans h1, h4⟩
theorem erase_perm {α : Type} : ∀ {l : List α} {j : Nat} (h : j < l.length), ([l[j]] ++ l.eraseIdx j).Perm l
  | a :: l, 0, _ => List.Perm.refl _
  | a :: l, j + 1, h => by
    have ih := erase_perm (l := l) (j := j) (Nat.lt_of_succ_lt_succ h)
    show ([l[j]'(Nat.lt_of_succ_lt_succ h)] ++ a :: l.eraseIdx j).Perm (a :: l)
    exact List.Perm.trans (List.Perm.swap a _ _) (ih.cons a)
end Om

/-! sets of tuples of ints made by a comprehension: one clause, two clauses -/
namespace Om
open PySem PySem.Spec PyProof.Rows L2
/-! ### one tuple put in -/
section
variable {P : Program} {w : World} {A : Around} {E : Value → Shared → Prop} {s : Shared} {a : Addr} {L : List (Addr × List Int)} {es : Array (Int × Value)} {ep : Nat} {t : SetTable}
theorem setT_add {x : Addr} {k : List Int} {Q : Value → Shared → Prop} (R : SetTR P w s.heap a L es ep t) (hx : IsT P w s.heap k x) (hu : A.units + 3 < cLine) (hfew : L.length + 1 < 64)
    (hQ : ∀ h' tk L', Heap.SameBut a s.heap h' → SetT0 P w h' a L' → (k ∈ L.map (·.2) → L' = L) → (k ∉ L.map (·.2) → L'.Perm ((x, k) :: L)) → Q .none { s with heap := h', toks := tk }) :
    wpAny (model P w) A (call (.builtin "set.add") [.ref a, .ref x]) Q E s := by
  obtain ⟨o, ho, hex, hd⟩ := R.ob
  refine wpAny_call_entry F.slot_set_add ⟨o, ho, hex.1⟩ F.entry_set_add ?_ (F.args_set_add_2 _ _)
  unfold Builtin.«set.add» Builtin.Frozenset.oneOther
  simp only [List.isEmpty_nil, bind_assoc]
  unfold Builtin.Frozenset.addrOf setAdd
  refine wpAny_bind (wpAny_pure ?_)
  try dsimp only
  refine wpAny_bind (wpAny_pure ?_)
  try dsimp only
  refine wpAny_bind (wpAny_holding (wpAny_bind (wpAny_pyHash_tuple (by first | (show A.units + _ < _; omega) | omega) hx ?_)))
  refine add_at (s := { s with toks := s.toks + (k.length + 1) }) R hx (by first | (show A.units + _ < _; omega) | omega) hfew fun b h' L' es' ep' t' sb R' c1 c2 => ?_
  exact wpAny_pure ⟨_, rfl, hQ h' _ L' sb R'.t0 c1 c2⟩
end

/-! ### over the layer: what is put in -/
section
variable {X : Cx}
theorem addT_ok {pins : List (Addr × Obj)} {σ : L2.St} {H : Hp} {s : Shared} {E : Value → Shared → Prop} {D b : Addr} {k : List Int} {L : List (Addr × List Int)} {Q : Value → Shared → Prop} (I : Inv X pins σ H s) (hu : X.A.units + 3 < cLine)
    (hD : H D = some (SetTO X.prog X.w D L)) (hL : ∀ p ∈ L, SqT X.K H p.1 (p.2.map V.int)) (hb : SqT X.K H b (k.map V.int)) (hfew : L.length + 1 < 64)
    (h : ∀ s' L', (k ∈ L.map (·.2) → L' = L) → (k ∉ L.map (·.2) → L'.Perm ((b, k) :: L)) → Inv X pins σ (upd H D (SetTO X.prog X.w D L')) s' → Q .none s') :
    wpAny (model X.prog X.w) X.A (call (.builtin "set.add") [.ref D, .ref b]) Q E s := by
  have R0 : SetT0 X.prog X.w s.heap D L := (I.hok D _ hD).1
  obtain ⟨es, ep, t, R⟩ := R0.full fun p hp => I.isT (hL p hp)
  refine setT_add R (I.isT hb) hu hfew fun h' tk L' sb R' c1 c2 => ?_
  have he : ∃ u, h'.get? D = some u := by
    have ⟨_, _, _, ⟨o, ho, _⟩, _⟩ := R'.ex
    exact ⟨o, ho⟩
  exact h _ L' c1 c2 (I.write (e := D) (t' := tk) (by rw [hD]; trivial) (.inl rfl) (fun c u hc hu => (sb.2 c hc).trans hu) he (setTO_new R'))
end

/-! ### a clause's loop, whatever it does with an item -/
def clauseTurn (node : Expr) (k : Nat) (tg iter : Expr) (ifs : List Expr) (it acc : Value) (env : Env) (act : Sem PySem.Fin → Sem PySem.Fin) : Sem PySem.Fin := do
  standAt iter.pos
  match ← pyNext it with
  | none => pure (.done .next)
  | some v =>
    letOwnedTupleGo tg it v
    assign tg env v
    let mut ok := true
    for c in ifs do
      if ok then ok ← isTrue c env (eval c env)
    if ok then act (again (.compLoop node k it acc env)) else again (.compLoop node k it acc env)
/-- slots that know at least as much -/
def Knows (σ0 σ' : L2.St) : Prop := σ0.length = σ'.length ∧ ∀ (j : Nat) v, σ0[j]? = some (some v) → σ'[j]? = some (some v)
theorem thnE {α : Type} {t : Sem α} {Q Q' : α → Shared → Prop} {M : Model} {A : Around} {E E' : Value → Shared → Prop} {s : Shared} (hE : ∀ e s, ¬ E e s) (h : wpAny M A t Q E s) (hQ : ∀ a s, Q a s → Q' a s) : wpAny M A t Q' E' s := wpAny_mono h hQ fun e s z => (hE e s z).elim
theorem clause_loop {X : Cx} (hc : X.calm = true) (hxe : ∀ e s, ¬ X.xe e s) {elt : Expr} {cs : List Comprehension} {scope : Scope} {pos : Pos} {node : Expr} (en : node = .SetComp elt cs scope pos) {k : Nat} {tg iter : Expr} {ifs : List Expr} {it : Addr} {acc : Value} {act : Sem PySem.Fin → Sem PySem.Fin} {R : PySem.Result → Shared → Prop}
    (hturn : compTurn node k (.ref it) acc X.env = clauseTurn node k tg iter ifs (.ref it) acc X.env act)
    {pins : List (Addr × Obj)} {σ0 : L2.St} {fp : List Addr} {tn : Nat → Heap → Prop} {J : It} (T : Turn X.prog X.w X.K tg J fp it tn) {g : TG} {tt : TT} (pg : PG X tg g) (pt : PTs X ifs tt)
    (stat : ∀ {H' : Hp}, (∀ b ∈ fp, H' b = none) → ∀ b ∈ fp, FpOk X pins H' b)
    {Fin : Hp → Prop} {ok : L2.St → Prop} {Body : L2.St → Hp → (Hp → Prop) → Prop}
    (body : ∀ {σ2 : L2.St} {Hx : Heap} {s : Shared} {H : Hp} {Nx : Hp → Prop}, ok σ2 → Inv X (pins ++ pinsAt fp Hx) σ2 H s → Body σ2 H Nx → ∀ (kont : Sem PySem.Fin) (P : PySem.Fin → Shared → Prop) (E : Value → Shared → Prop), (∀ s', (∃ σ' H', Inv X (pins ++ pinsAt fp Hx) σ' H' s' ∧ Knows σ0 σ' ∧ Nx H') → wpAny (model X.prog X.w) X.A kont P E s') → wpAny (model X.prog X.w) X.A (act kont) P E s)
    (hok : ∀ {σ2 : L2.St}, ok σ2 → Knows σ0 σ2) {W : Nat → Nat → Hp → Prop}
    (turn : ∀ i m H, W i m H → (J.stop i H ∧ Fin H) ∨ (J.go i H ∧ ∃ Nx : Hp → Prop, (∀ H', Nx H' → ∃ m', m' < m ∧ W (i + 1) m' H') ∧ ∀ x H', J.yld i H x H' → g x σ0 H' fun σ2 H2 => ok σ2 ∧ tt σ2 H2 fun b H3 => if b = true then Body σ2 H3 Nx else Nx H3))
    (hend : ∀ H' s', Inv X pins σ0 H' s' → Fin H' → R (.ok .next) s')
    {s : Shared} {H : Hp} {m0 : Nat} (I : Inv X pins σ0 H s) (st : tn 0 s.heap) (nfp : ∀ b ∈ fp, H b = none) (w0 : W 0 m0 H) :
    codeAny (model X.prog X.w) X.A (.compLoop node k (.ref it) acc X.env) R s := by
  subst en
  refine codeAny_loop rfl (fun n s' => ∃ i H', Inv X pins σ0 H' s' ∧ tn i s'.heap ∧ (∀ b ∈ fp, H' b = none) ∧ W i n H') ?_ m0 ⟨0, H, I, st, nfp, w0⟩
  rintro n s5 ⟨i, H5, I5, st5, n5, w5⟩
  show wpAny _ X.A ((compTurn (.SetComp elt cs scope pos) k (.ref it) acc X.env).onRaise (fun x => do noteFrame x X.env; theTreesLotGoes x)) _ _ s5
  refine wpAny_noted ?_
  rw [hturn]
  unfold clauseTurn
  refine wpAny_bind (wpAny_standAt (wpAny_bind ?_))
  rcases turn i n H5 w5 with ⟨stop, qq⟩ | ⟨go, Nx, hNx, step⟩
  · refine thnF (T.done X rfl rfl rfl hc i pins s5 σ0 H5 (fun _ _ => False) I5 (stat n5) st5 stop) fun r s6 ⟨hr, I6⟩ => ?_
    subst hr
    exact wpAny_pure (hend H5 s6 I6 qq)
  · refine thnF (T.item X rfl rfl rfl hc i pins s5 σ0 H5 (fun _ _ => False) I5 (stat n5) st5 go) fun r s6 ⟨u, hr, h6⟩ => ?_
    subst hr
    dsimp only
    refine wpAny_bind (thnF h6 fun _ s7 ⟨x, H7, I7, r7, y7, st7, n7⟩ => ?_)
    have I7' := I7.pinned (stat n7) (T.obj _ _ st7)
    have fin : ∀ {σ' : L2.St} {s' : Shared} {H' : Hp}, Inv X (pins ++ pinsAt fp s7.heap) σ' H' s' → Knows σ0 σ' → Nx H' → ∃ m, m < n ∧ ∃ i H', Inv X pins σ0 H' s' ∧ tn i s'.heap ∧ (∀ b ∈ fp, H' b = none) ∧ W i m H' := fun {σ' s' H'} I' kn nx => by
      obtain ⟨m', hm, w'⟩ := hNx H' nx
      have held : ∀ b ∈ fp, ∀ o, s7.heap.get? b = some o → s'.heap.get? b = some o ∧ H' b = none := fun b hb o e =>
        ⟨(I'.pin (b, o) (List.mem_append_right _ (List.mem_append_right _ (mem_pinsAt hb e)))).1, (I'.pin (b, o) (List.mem_append_right _ (List.mem_append_right _ (mem_pinsAt hb e)))).2.1⟩
      refine ⟨m', hm, i + 1, H', I'.unpinned.weak kn.1 kn.2, T.keep _ _ _ st7 fun b hb o e => (held b hb o e).1, fun b hb => ?_, w'⟩
      obtain ⟨o, e, _⟩ := T.obj _ _ st7 b hb
      exact (held b hb o e).2
    refine wpAny_bind (thnE hxe (pg.run _ s7 σ0 H7 x u _ I7' r7 (step x H7 y7)) fun _ s8 ⟨σ8, H8, I8, k8, q8⟩ => ?_)
    refine wpAny_bind (thnE hxe (pt.run _ s8 σ8 H8 _ I8 q8) fun b s9 ⟨H9, I9, q9⟩ => ?_)
    cases b with
    | false => exact wpAny_pure ⟨rfl, fin I9 (hok k8) q9⟩
    | true => exact body k8 I9 q9 _ _ _ fun s' ⟨σ', H', I', kn, nx⟩ => wpAny_pure ⟨rfl, fin I' kn nx⟩
end Om

namespace Om
open PySem PySem.Spec PyProof.Rows L2
section
variable {X : Cx}
abbrev newSetObj (w : World) : Obj := { cls := .type "set", dict := none, data := .set #[] 0 (.fresh 0 0 (!w.params.followText "set-order")) }
/-- the block of a set comprehension is entered: D the new set, Rd what is known of it -/
theorem sc_enter {pins : List (Addr × Obj)} {s : Shared} {σ : L2.St} {H : Hp} {Q : VK} {elt tg iter : Expr} {ifs : List Expr} {rest : List Comprehension} {scope : Scope} {own : List (Str × Nat)} {pos pos' : Pos} {wi : TI} {use : Option (Value → Sem Unit)} {Qf : Value → Shared → Prop} {Rd : It → Addr → Hp → Prop}
    (hc : X.calm = true) (hN : X.N.Nodup) (I : Inv X pins σ H s) (hi : PI X tg iter wi) (ok : BlkOk X.N X.env.scope scope own) (hs : ∀ x, foldedSetIterable iter X.env x = pure x) (h : wi σ H fun J H1 => ∀ D, H1 D = none → Rd J D (upd H1 D (SetTO X.prog X.w D [])))
    (hRR : ∀ D C s' m H', Inv X pins σ H' s' → Q (.ref D) H' → s'.heap.Ns C m → FpOk X pins H' C → compPost (model X.prog X.w) X.A X.xe use Qf (.ref D) C (.ok .next) s')
    (loop : ∀ (it : Addr) (fp : List Addr) (tn : Nat → Heap → Prop) (J : It) (D C : Addr) (cl : List (Str × Addr)) (s3 s4 : Shared) (H3 : Hp), Rd J D H3 → Inv (X.blk s3 H3 scope (compEnvC scope cl C X.env) fp) [] (wipe σ (own.map (·.2))) H3 s4 → Turn X.prog X.w X.K tg J fp it tn → tn 0 s4.heap → (∀ b ∈ fp, H3 b = none) →
      (∀ {H' : Hp}, (∀ b ∈ fp, H' b = none) → ∀ b ∈ fp, FpOk (X.blk s3 H3 scope (compEnvC scope cl C X.env) fp) [] H' b) →
      (∀ H5 s6, Inv (X.blk s3 H3 scope (compEnvC scope cl C X.env) fp) [] (wipe σ (own.map (·.2))) H5 s6 → Q (.ref D) H5 → compPost (model X.prog X.w) X.A X.xe use Qf (.ref D) C (.ok .next) s6) →
      codeAny (model X.prog X.w) X.A (.compLoop (.SetComp elt (⟨tg, iter, ifs, 0⟩ :: rest) scope pos) 0 (.ref it) (.ref D) (compEnvC scope cl C X.env)) (compPost (model X.prog X.w) X.A X.xe use Qf (.ref D) C) s4) :
    wpAny (model X.prog X.w) X.A (comprehension (.SetComp elt (⟨tg, iter, ifs, 0⟩ :: rest) scope pos) scope X.env pos' (newSet (.type "set")) false (eval iter X.env) use) Qf X.xe s := by
  have cells : ∀ y ∈ scope.names, y.2 = .free → ∃ c, X.env.cells.lookup y.1 = some c := fun y hy e => (ok.free y hy e).elim (fun k => I.ok.has _ (.inl k)) fun k => I.ok.has _ (.inr k)
  refine wpAny_comprehension_free (use := use) rfl hs (closure_ok cells) ok.kind (fun y hy e => by rw [ok.uniq y hy, e])
    (thn (hi.run pins s σ H _ I h) fun xv s1 hx => thn hx fun itv s2 h2 => ?_)
  obtain ⟨it, fp, tn, J, H2, rfl, I2, T, st2, f2, q⟩ := h2
  refine PpSet.newSet_ok (newEnv_comp ?_)
  have hn2 : H2 s2.heap.objs.size = none := I2.hok.fresh (Nat.le_refl _)
  have rd := q _ hn2
  have I3 : Inv X pins σ (upd H2 s2.heap.objs.size (SetTO X.prog X.w s2.heap.objs.size [])) { s2 with heap := s2.heap.push (newSetObj X.w) } :=
    I2.laid (t' := s2.toks) (fun b o e => Heap.get?_push_of_some _ e) (Nat.le_refl _) (setTO_new (setTR_fresh (Heap.get?_push_size _ rfl)).t0)
  have below : ∀ b ∈ fp, b < s2.heap.objs.size := fun b hb => by
    obtain ⟨o, e, _⟩ := T.obj _ _ st2 b hb
    exact Heap.lt_size e
  have st3 : tn 0 (s2.heap.push (newSetObj X.w)) := T.keep _ _ _ st2 fun b _ o e => Heap.get?_push_of_some _ e
  have f3 : ∀ b ∈ fp, FpOk X pins (upd H2 s2.heap.objs.size (SetTO X.prog X.w s2.heap.objs.size [])) b ∧ b < (s2.heap.push (newSetObj X.w)).objs.size := fun b hb =>
    ⟨⟨by rw [upd_ne (Nat.ne_of_lt (below b hb))]; exact (f2 b hb).1, (f2 b hb).2⟩, by rw [Heap.size_push]; exact Nat.lt_succ_of_lt (below b hb)⟩
  generalize hS3 : ({ s2 with heap := s2.heap.push (newSetObj X.w) } : Shared) = s3 at I3
  have hh3 : s2.heap.push (newSetObj X.w) = s3.heap := by rw [← hS3]
  rw [hh3] at st3 f3
  generalize s2.heap.objs.size = D at I3 f3 rd hn2 ⊢
  generalize hH3 : upd H2 D (SetTO X.prog X.w D []) = H3 at I3 f3 rd
  have I4 := block_start I3 ok hN f3
  have st4 : tn 0 (pushCells (s3.heap.push { cls := .type "dict", data := .dict #[] }) scope.names) := T.keep _ _ _ st3 fun b _ o e => pushCells_keeps _ _ _ _ (Heap.get?_push_of_some _ e)
  have nfp : ∀ b ∈ fp, H3 b = none := fun b hb => (f3 b hb).1.1
  show codeAny _ _ (.compStart (.SetComp elt (⟨tg, iter, ifs, 0⟩ :: rest) scope pos) 0 (.ref it) (.ref D) (compEnvC scope (cellsFrom (s3.heap.objs.size + 1) scope.names (cloFrom X.env.cells scope.names [])) s3.heap.objs.size X.env)) (compPost (model X.prog X.w) X.A X.xe use Qf (.ref D) s3.heap.objs.size) { s3 with heap := pushCells (s3.heap.push { cls := .type "dict", data := .dict #[] }) scope.names }
  have L := loop it fp tn J D s3.heap.objs.size (cellsFrom (s3.heap.objs.size + 1) scope.names (cloFrom X.env.cells scope.names [])) s3 _ H3 rd I4 T st4 nfp
    (fun hn b hb => ⟨hn b hb, (I4.ok.exf b hb).1, I4.ok.exfs b hb, .inl hb, fun x c e => (I4.ok.exf b hb).2 x c e, fun p hp => absurd (show p ∈ ([] : List (Addr × Obj)) ++ [] from hp) (by simp)⟩)
    (fun H5 s6 I6 qq => by
      have I7 : Inv X pins σ H5 s6 := I3.call' (ch := fp) I6.os I6.base I6.hok I6.bare fun b hb => ⟨(f3 b hb).1.2.2.2.1, (f3 b hb).1.2.1, (f3 b hb).1.2.2.2.2.1, (f3 b hb).1.2.2.2.2.2⟩
      have nC : H5 s3.heap.objs.size = none := I6.free
      obtain ⟨m, hn, _⟩ := I6.loc
      exact hRR D s3.heap.objs.size s6 m H5 I7 qq hn (I3.fpOk (Nat.le_refl _) nC))
  exact PpSet.codeAny_compStart_set L (T.self X.A 0 _ _ _ st4 L)
end
section
variable {prog : Program} {w : World} {A : Around} {R : PySem.Result → Shared → Prop} {s : Shared} {env : Env}
/-- the second clause begins -/
theorem sc_start1 {elt : Expr} {c0 : Comprehension} {target iter : Expr} {ifs : List Expr} {scope : Scope} {pos : Pos} {it acc : Value}
    (h0 : codeAny (model prog w) A (.compLoop (.SetComp elt [c0, ⟨target, iter, ifs, 0⟩] scope pos) 1 it acc env) R s)
    (h : wpAny (model prog w) A (pyIter it) (fun it' s' => codeAny (model prog w) A (.compLoop (.SetComp elt [c0, ⟨target, iter, ifs, 0⟩] scope pos) 1 it' acc env) R s') (notedBy (model prog w) A env fun x s' => R (.error x) s') s) :
    codeAny (model prog w) A (.compStart (.SetComp elt [c0, ⟨target, iter, ifs, 0⟩] scope pos) 1 it acc env) R s := by
  refine codeAny_of_tree ?_
  show wpAny _ _ ((compStart (.SetComp elt [c0, ⟨target, iter, ifs, 0⟩] scope pos) 1 it acc env).onRaise (fun x => do noteFrame x env; standAt theWindowsPlace)) _ _ s
  refine wpAny_notedAt ?_
  unfold compStart
  refine wpAny_bind (wpAny_askSetting (wpAny_ite ?_))
  split
  · first
      | exact wpAny_bind (wpAny_pure (wpAny_pure (And.intro rfl h0)))
      | exact wpAny_pure (And.intro rfl h0)
  · refine wpAny_bind (wpAny_rule ?_)
    refine wpAny_bind (wpAny_standAt (wpAny_bind (wpAny_mono h (fun it' s' h' => wpAny_pure (And.intro rfl h')) fun _ _ x => x)))
end
section
variable {X : Cx}
/-! ### what is read -/
abbrev ownS (own : List (Str × Nat)) : List Nat := own.map fun p => p.2
/-- an item comes into the set at D -/
def tPut (K : PySem.W.Frag) (P : Program) (w : World) (D : Addr) (te : TE) : L2.St → Hp → (Hp → Prop) → Prop := fun σ H Nx => te σ H fun y H4 => ∃ (b : Addr) (k : List Int) (L : List (Addr × List Int)), y = .ref b ∧ SqT K H4 b (k.map V.int) ∧ H4 D = some (SetTO P w D L) ∧ (∀ p ∈ L, SqT K H4 p.1 (p.2.map V.int)) ∧ L.length + 1 < 64 ∧
  ∀ L', (k ∈ L.map (·.2) → L' = L) → (k ∉ L.map (·.2) → L'.Perm ((b, k) :: L)) → Nx (upd H4 D (SetTO P w D L'))
/-- a walk by turns: W holds, Fin at the end, Act of an item -/
def Wlk (J : It) (W : Nat → Nat → Hp → Prop) (Fin : Hp → Prop) (Act : V → Hp → (Hp → Prop) → Prop) : Prop := ∀ i m H, W i m H → (J.stop i H ∧ Fin H) ∨ (J.go i H ∧ ∃ Nx : Hp → Prop, (∀ H', Nx H' → ∃ m', m' < m ∧ W (i + 1) m' H') ∧ ∀ x H', J.yld i H x H' → Act x H' Nx)
/-- {elt for target in iter if ..} -/
def tSc1 (K : PySem.W.Frag) (P : Program) (w : World) (wi : TI) (g : TG) (tt : TT) (te : TE) (vs : List Nat) : TE := fun σ H Q => wi σ H fun J H1 => ∀ D, H1 D = none → ∃ W : Nat → Nat → Hp → Prop, (∃ m, W 0 m (upd H1 D (SetTO P w D []))) ∧
  Wlk J W (fun H => Q (.ref D) H) fun x H' Nx => g x (wipe σ vs) H' fun σ2 H2 => wipe σ2 vs = wipe σ vs ∧ tt σ2 H2 fun b H3 => if b = true then tPut K P w D te σ2 H3 Nx else Nx H3
/-- {elt for target in iter if .. for target1 in iter1 if ..} -/
def tSc2 (K : PySem.W.Frag) (P : Program) (w : World) (wi : TI) (g : TG) (tt : TT) (wi1 : TI) (g1 : TG) (tt1 : TT) (te : TE) (vs vs1 : List Nat) : TE := fun σ H Q => wi σ H fun J H1 => ∀ D, H1 D = none → ∃ W : Nat → Nat → Hp → Prop, (∃ m, W 0 m (upd H1 D (SetTO P w D []))) ∧
  Wlk J W (fun H => Q (.ref D) H) fun x H' Nx => g x (wipe σ vs) H' fun σ2 H2 => wipe σ2 vs = wipe σ vs ∧ tt σ2 H2 fun b H3 => if b = true then wi1 σ2 H3 fun J1 H4 => ∃ W1 : Nat → Nat → Hp → Prop, (∃ m, W1 0 m H4) ∧
      Wlk J1 W1 Nx fun x1 H5 Nx1 => g1 x1 (wipe σ2 vs1) H5 fun σ3 H6 => wipe σ3 vs1 = wipe σ2 vs1 ∧ tt1 σ3 H6 fun b1 H7 => if b1 = true then tPut K P w D te σ3 H7 Nx1 else Nx1 H7
    else Nx H3
theorem knows_wipe {σ0 σ2 : L2.St} {vs : List Nat} (h : wipe σ2 vs = σ0) : Knows σ0 σ2 := ⟨by rw [← h, wipe_length], fun j v e => by rw [← h] at e; exact (wipe_some e).1⟩
/-- the act of the innermost clause -/
theorem put_act {X : Cx} {pins : List (Addr × Obj)} {elt : Expr} {te : TE} {D : Addr} {σ : L2.St} {s : Shared} {H : Hp} {Nx : Hp → Prop} (hu : X.A.units + 3 < cLine) (hxe : ∀ e s, ¬ X.xe e s) (pe : PE X elt te) (I : Inv X pins σ H s) (h : tPut X.K X.prog X.w D te σ H Nx) :
    wpAny (model X.prog X.w) X.A (do let v ← eval elt X.env; standAt elt.pos; let _ ← call (.builtin "set.add") [.ref D, v]) (fun _ s' => ∃ H', Inv X pins σ H' s' ∧ Nx H') (fun _ _ => False) s := by
  refine wpAny_bind (thnE hxe (pe.run pins s σ H _ I h) fun z s1 ⟨y, H1, I1, r1, b, k, L, ey, hb, hD, hL, hf, nx⟩ => ?_)
  subst ey
  cases r1
  refine wpAny_bind (wpAny_standAt (wpAny_bind ?_))
  exact addT_ok I1 hu hD hL hb hf fun s' L' c1 c2 I' => wpAny_pure ⟨_, I', nx L' c1 c2⟩
abbrev BlkX (X : Cx) (scope : Scope) (J : Cx → Prop) : Prop := ∀ (s : Shared) (H : Hp) (C : Addr) (cl : List (Str × Addr)) (fp : List Addr), J (X.blk s H scope (compEnvC scope cl C X.env) fp)
theorem pe_sc1 {elt tg iter : Expr} {ifs : List Expr} {scope : Scope} {own : List (Str × Nat)} {pos : Pos} {wi : TI} {g : TG} {tt : TT} {te : TE} (hc : X.calm = true) (hu : X.A.units + 3 < cLine) (hN : X.N.Nodup) (hi : PI X tg iter wi) (ok : BlkOk X.N X.env.scope scope own)
    (hg : BlkX X scope fun Y => PG Y tg g) (ht : BlkX X scope fun Y => PTs Y ifs tt) (he : BlkX X scope fun Y => PE Y elt te) (hs : ∀ x, foldedSetIterable iter X.env x = pure x := by intro _; rfl) :
    PE X (.SetComp elt [⟨tg, iter, ifs, 0⟩] scope pos) (tSc1 X.K X.prog X.w wi g tt te (ownS own)) := by
  refine ⟨fun pins s σ H Q I h => ?_⟩
  rw [PpSet.eval_SetComp]
  refine sc_enter (Q := Q) (Rd := fun J D H0 => ∃ W : Nat → Nat → Hp → Prop, (∃ m, W 0 m H0) ∧ Wlk J W (fun H => Q (.ref D) H) fun x H' Nx => g x (wipe σ (ownS own)) H' fun σ2 H2 => wipe σ2 (ownS own) = wipe σ (ownS own) ∧ tt σ2 H2 fun b H3 => if b = true then tPut X.K X.prog X.w D te σ2 H3 Nx else Nx H3)
    hc hN I hi ok hs h (fun D C s' m H' I' q hn f => ⟨m, hn, fun h'' sb => ?_⟩) fun it fp tn J D C cl s3 s4 H3 rd I4 T st4 nfp stat back => ?_
  · obtain ⟨f0, f1, f2, f3, f4, f5⟩ := f
    exact ⟨.ref D, H', I'.turned (t' := s'.toks) (fun b o hb e => (sb.2 b hb).trans e) f0 f1 f3 f4 f5, rfl, q⟩
  · obtain ⟨W, ⟨m0, w0⟩, wlk⟩ := rd
    exact clause_loop (X := X.blk s3 H3 scope (compEnvC scope cl C X.env) fp) hc (fun _ _ h => h) rfl (iter := iter) (act := fun kont => (do let v ← eval elt (compEnvC scope cl C X.env); standAt elt.pos; let _ ← call (.builtin "set.add") [.ref D, v]) >>= fun _ => kont) rfl T (hg s3 H3 C cl fp) (ht s3 H3 C cl fp) stat (ok := fun σ2 => wipe σ2 (ownS own) = wipe σ (ownS own))
      (body := fun {σ2 Hx s H Nx} o I2 b kont P E hk => wpAny_bind (thnF (put_act (X := X.blk s3 H3 scope (compEnvC scope cl C X.env) fp) hu (fun _ _ h => h) (he s3 H3 C cl fp) I2 b) fun _ s' ⟨H', I', nx⟩ => hk s' ⟨σ2, H', I', knows_wipe o, nx⟩))
      knows_wipe wlk back I4 st4 nfp w0
theorem pe_sc2 {elt tg iter tg1 iter1 : Expr} {ifs ifs1 : List Expr} {scope : Scope} {own : List (Str × Nat)} {vs1 : List Nat} {pos : Pos} {wi wi1 : TI} {g g1 : TG} {tt tt1 : TT} {te : TE} (hc : X.calm = true) (hu : X.A.units + 3 < cLine) (hN : X.N.Nodup) (hi : PI X tg iter wi) (ok : BlkOk X.N X.env.scope scope own) (hv : ∀ i ∈ vs1, i ∈ ownS own)
    (hg : BlkX X scope fun Y => PG Y tg g) (ht : BlkX X scope fun Y => PTs Y ifs tt) (hi1 : BlkX X scope fun Y => PI Y tg1 iter1 wi1) (hg1 : BlkX X scope fun Y => PG Y tg1 g1) (ht1 : BlkX X scope fun Y => PTs Y ifs1 tt1) (he : BlkX X scope fun Y => PE Y elt te)
    (hs : ∀ x, foldedSetIterable iter X.env x = pure x := by intro _; rfl) (hs1 : ∀ env x, foldedSetIterable iter1 env x = pure x := by intro _ _; rfl) :
    PE X (.SetComp elt [⟨tg, iter, ifs, 0⟩, ⟨tg1, iter1, ifs1, 0⟩] scope pos) (tSc2 X.K X.prog X.w wi g tt wi1 g1 tt1 te (ownS own) vs1) := by
  refine ⟨fun pins s σ H Q I h => ?_⟩
  rw [PpSet.eval_SetComp]
  refine sc_enter (Q := Q) (Rd := fun J D H0 => ∃ W : Nat → Nat → Hp → Prop, (∃ m, W 0 m H0) ∧ Wlk J W (fun H => Q (.ref D) H) fun x H' Nx => g x (wipe σ (ownS own)) H' fun σ2 H2 => wipe σ2 (ownS own) = wipe σ (ownS own) ∧ tt σ2 H2 fun b H3 => if b = true then wi1 σ2 H3 fun J1 H4 => ∃ W1 : Nat → Nat → Hp → Prop, (∃ m, W1 0 m H4) ∧
      Wlk J1 W1 Nx fun x1 H5 Nx1 => g1 x1 (wipe σ2 vs1) H5 fun σ3 H6 => wipe σ3 vs1 = wipe σ2 vs1 ∧ tt1 σ3 H6 fun b1 H7 => if b1 = true then tPut X.K X.prog X.w D te σ3 H7 Nx1 else Nx1 H7
    else Nx H3)
    hc hN I hi ok hs h (fun D C s' m H' I' q hn f => ⟨m, hn, fun h'' sb => ?_⟩) fun it fp tn J D C cl s3 s4 H3 rd I4 T st4 nfp stat back => ?_
  · obtain ⟨f0, f1, f2, f3, f4, f5⟩ := f
    exact ⟨.ref D, H', I'.turned (t' := s'.toks) (fun b o hb e => (sb.2 b hb).trans e) f0 f1 f3 f4 f5, rfl, q⟩
  · obtain ⟨W, ⟨m0, w0⟩, wlk⟩ := rd
    refine clause_loop (X := X.blk s3 H3 scope (compEnvC scope cl C X.env) fp) hc (fun _ _ h => h) rfl (iter := iter)
      (act := fun kont => do
        let x ← eval iter1 (compEnvC scope cl C X.env)
        standAt iter1.pos
        let x ← foldedSetIterable iter1 (compEnvC scope cl C X.env) x
        let _ ← runOwn (.compStart (.SetComp elt [⟨tg, iter, ifs, 0⟩, ⟨tg1, iter1, ifs1, 0⟩] scope pos) 1 (← holding [x] (pyIter x)) (.ref D) (compEnvC scope cl C X.env)) (compEnvC scope cl C X.env)
        kont)
      rfl T (hg s3 H3 C cl fp) (ht s3 H3 C cl fp) stat (ok := fun σ2 => wipe σ2 (ownS own) = wipe σ (ownS own)) (body := fun {σ2 Hx s5 H5 Nx} o I2 b kont P E hk => ?_)
      knows_wipe wlk back I4 st4 nfp w0
    refine wpAny_bind (thnF ((hi1 s3 H3 C cl fp).run _ s5 σ2 H5 _ I2 b) fun xv s6 h6 => ?_)
    refine wpAny_bind (wpAny_standAt (wpAny_bind (wpAny_of_eq (hs1 _ xv) (wpAny_bind (wpAny_holding (thnF h6 fun itv s7 h7 => ?_))))))
    obtain ⟨it1, fp1, tn1, J1, H7, rfl, I7, T1, st7, f7, W1, ⟨m1, w1⟩, wlk1⟩ := h7
    refine wpAny_bind (wpAny_runOwn ?_)
    rw [Around.mark_none]
    have L : codeAny (model X.prog X.w) X.A (.compLoop (.SetComp elt [⟨tg, iter, ifs, 0⟩, ⟨tg1, iter1, ifs1, 0⟩] scope pos) 1 (.ref it1) (.ref D) (compEnvC scope cl C X.env)) (fun r s' => match r with
        | .ok _ => ∃ H', L2.Inv (X.blk s3 H3 scope (compEnvC scope cl C X.env) fp) ([] ++ pinsAt fp Hx) (wipe σ2 vs1) H' s' ∧ Nx H'
        | .error _ => False) s7 :=
      clause_loop (X := X.blk s3 H3 scope (compEnvC scope cl C X.env) fp) hc (fun _ _ h => h) rfl (iter := iter1) (act := fun kont => (do let v ← eval elt (compEnvC scope cl C X.env); standAt elt.pos; let _ ← call (.builtin "set.add") [.ref D, v]) >>= fun _ => kont) rfl T1 (hg1 s3 H3 C cl fp) (ht1 s3 H3 C cl fp) (fun hn b hb => ⟨hn b hb, (f7 b hb).2⟩) (ok := fun σ3 => wipe σ3 vs1 = wipe σ2 vs1)
        (body := fun {σ3 Hy s8 H8 Ny} o3 I8 b8 kont P E hk => wpAny_bind (thnF (put_act (X := X.blk s3 H3 scope (compEnvC scope cl C X.env) fp) hu (fun _ _ h => h) (he s3 H3 C cl fp) I8 b8) fun _ s' ⟨H', I', nx⟩ => hk s' ⟨σ3, H', I', knows_wipe o3, nx⟩))
        knows_wipe wlk1 (fun H' s' I' nx => ⟨H', I', nx⟩) (I7.weak (wipe_length _ _) fun j v e => (wipe_some e).1) st7 (fun b hb => (f7 b hb).1) w1
    have kw : Knows (wipe σ (ownS own)) (wipe σ2 vs1) := by
      refine ⟨by rw [← o, wipe_length, wipe_length], fun j v e => ?_⟩
      rw [← o] at e
      obtain ⟨e1, e2⟩ := wipe_some e
      rw [wipe_out fun z => e2 (hv j z)]
      exact e1
    refine codeAny_mono (sc_start1 L (T1.self X.A 0 _ _ _ st7 L)) fun r s' hr => ?_
    cases r with
    | error e => exact hr.elim
    | ok f =>
      obtain ⟨H', I', nx⟩ := hr
      exact hk s' ⟨wipe σ2 vs1, H', I', kw, nx⟩
end
end Om

/-! sorted of a set of tuples of ints of any lengths -/
namespace Om
open PySem PySem.Spec PyProof.Rows L2 PySem.W PySem.SeqAt
theorem perm_of_map {α β : Type} (f : α → β) : ∀ {vs ws : List β}, vs.Perm ws → ∀ L : List α, ws = L.map f → ∃ L1 : List α, L1.Perm L ∧ vs = L1.map f := by
  intro vs ws p
  induction p with
  | nil => exact fun L e => ⟨L, .refl _, e⟩
  | cons x _ ih =>
    intro L e
    cases L with
    | nil => cases e
    | cons y L =>
      injection e with e1 e2
      obtain ⟨L1, h1, h2⟩ := ih L e2
      exact ⟨y :: L1, h1.cons y, by rw [List.map_cons, ← h2, e1]⟩
  | swap x y l =>
    intro L e
    cases L with
    | nil => cases e
    | cons a L =>
      cases L with
      | nil => cases e
      | cons b L =>
        injection e with e1 e2
        injection e2 with e2 e3
        exact ⟨b :: a :: L, .swap a b L, by rw [List.map_cons, List.map_cons, ← e1, ← e2, ← e3]⟩
  | trans _ _ ih1 ih2 =>
    intro L e
    obtain ⟨L2, h3, h4⟩ := ih2 L e
    obtain ⟨L1, h1, h2⟩ := ih1 L2 h4
    exact ⟨L1, h1.trans h3, h2⟩
/-- a tuple of ints, as data -/
def itup (ns : List Int) : PyData := .tuple (ns.map .int)
theorem itup_alike (a b : List Int) : alike (itup a) (itup b) = true := by
  show alike (.tuple (a.map .int)) (.tuple (b.map .int)) = true
  rw [alike]
  exact PySem.W.alike_ints a b
theorem itup_depth (a : List Int) : (itup a).depth = 1 := by
  show (PyData.tuple (a.map .int)).depth = 1
  simp [PyData.depth, PySem.W.depth_ints]
section
variable {prog : Program} {w : World} {A : Around} {E : Value → Shared → Prop} {s : Shared}
theorem mapM_each {α β : Type} {M : Model} {f : α → Sem β} {g : α → β} : ∀ (l : List α) {Q : List β → Shared → Prop}, (∀ v ∈ l, ∀ (Q' : β → Shared → Prop), Q' (g v) s → wpAny M A (f v) Q' E s) → Q (l.map g) s → wpAny M A (l.mapM f) Q E s
  | [], _, _, h => by rw [List.mapM_nil]; exact wpAny_pure h
  | x :: l, Q, hf, h => by
    rw [List.mapM_cons]
    exact wpAny_bind (hf x (.head _) _ (wpAny_bind (mapM_each l (Q := fun bs s' => wpAny M A (pure (g x :: bs)) Q E s') (fun v hv => hf v (.tail _ hv)) (wpAny_pure h))))
/-- one tuple of ints against another, as sorting compares -/
theorem oneLt_itup {f : Bool} {x y : List Int} {a b : Value} {as bs : List Addr} {Q : Bool → Shared → Prop} (ra : Reads s.heap a (itup x) as) (rb : Reads s.heap b (itup y) bs) (hu : A.units + 1 < cLine) (hq : Q (dataLt (itup x) (itup y)) s) : wpAny (model prog w) A (oneLt' f a b) Q E s := by
  have hroom : A.units + min (itup x).depth (itup y).depth < cLine := by rw [itup_depth, itup_depth]; exact hu
  cases f with
  | false => exact oneLt_alike (fun h => nomatch h) ra rb (itup_alike x y) (fun h => nomatch h) hroom hq
  | true =>
    have hal : alikeAll (x.map PyData.int) (y.map PyData.int) = true := PySem.W.alike_ints x y
    have hq' : Q (dataLt (.tuple (x.map .int)) (.tuple (y.map .int))) s := hq
    cases ra with
    | @tuple l o vs n _ as₁ h1 h2 h3 h4 =>
      cases rb with
      | @tuple l' o' vs' n' _ bs₁ k1 k2 k3 k4 =>
        have n1 : vs.size = (x.map PyData.int).length := by simpa using ReadsAll.length _ _ _ h4
        have n2 : vs'.size = (y.map PyData.int).length := by simpa using ReadsAll.length _ _ _ k4
        rw [dataLt_tuple, ← firstLt_toks _ _ hal, ← n1, ← n2] at hq'
        obtain ⟨cls, dd, data, sl⟩ := o
        obtain ⟨cls2, dd2, data2, sl2⟩ := o'
        simp only at h2 h3 k2 k3
        subst h2 h3 k2 k3
        rw [oneLt'_eq]
        simp only [if_true]
        refine wpAny_bind (wpAny_cRoomFor (by omega) ?_)
        refine wpAny_bind (wpAny_callSpecialIfBound?_slot (T := "tuple") ⟨_, h1, rfl⟩ PySem.F.slot_tuple_lt (call_meets PySem.F.slot_tuple_lt ⟨_, h1, rfl⟩ PySem.F.entry_tuple_lt (PySem.F.args_tuple_lt_2 _ _) (tuple_ltAt l l' vs vs' n n' dd dd2 sl sl2 (pairEq (x.map .int) (y.map .int)) fun j => dataLt ((x.map PyData.int).getD j .none) ((y.map PyData.int).getD j .none)) ⟨h1, k1, fun j j1 j2 => ?_, fun j j1 j2 hj => ?_, ?_⟩))
        · have hr : A.units + min (PyData.tuple (x.map .int)).depth (PyData.tuple (y.map .int)).depth < cLine := hroom
          have := eqAt_alikeAll (x.map .int) (y.map .int) A.in1 s vs.toList vs'.toList _ _ h4 k4 hal (room_in hr) j (by simpa using j1) (by simpa using j2)
          simpa using this
        · have hr : A.units + min (PyData.tuple (x.map .int)).depth (PyData.tuple (y.map .int)).depth < cLine := hroom
          have := rcLt_alikeAll (x.map .int) (y.map .int) A.in1 s vs.toList vs'.toList _ _ h4 k4 hal (room_in hr) j (by simpa using j1) (by simpa using j2) hj
          simpa using this
        · exact wpAny_truthy_bool hq'
/-- the first item of a tuple of ints, if there is one -/
def fstI (h : Heap) (v : Value) : Option Value := match v with
  | .ref a => match h.get? a with
    | some o => match o.data with
      | .seq items _ => items[0]?
      | _ => none
    | none => none
  | _ => none
theorem first_itup {x : List Int} {a : Value} {as : List Addr} {Q : Option Value → Shared → Prop} (ra : Reads s.heap a (itup x) as) (h : Q (fstI s.heap a) s) : wpAny (model prog w) A (firstOfTuple' a) Q E s := by
  cases ra with
  | @tuple l o vs n _ as₁ h1 h2 h3 h4 =>
    have e : fstI s.heap (.ref l) = vs[0]? := by
      unfold fstI
      simp only [h1, h3]
    rw [e] at h
    rw [kas_first_eq]
    refine wpAny_bind (Looks.here (show Looks (model prog w) s.heap (typeOf (.ref l)) o.cls from (Looks.ld h1).andThen .now) ?_)
    rw [h2, if_neg (by first | decide | simp)]
    exact wpAny_bind (listItems_at h1 h3 (wpAny_pure h))
theorem fst_some {h : Heap} {x : List Int} {a : Value} {as : List Addr} (ra : Reads h a (itup x) as) : (fstI h a).isSome = !x.isEmpty := by
  cases ra with
  | @tuple l o vs n _ as₁ h1 h2 h3 h4 =>
    have e : fstI h (.ref l) = vs[0]? := by
      unfold fstI
      simp only [h1, h3]
    have n1 : vs.size = x.length := by
      have := ReadsAll.length _ _ _ h4
      simpa using this
    rw [e]
    cases x with
    | nil => rw [show vs[0]? = none from Array.getElem?_eq_none (by rw [n1]; exact Nat.zero_le _)]; rfl
    | cons y ys =>
      have hp : 0 < vs.size := by rw [n1]; exact Nat.succ_pos _
      rw [Array.getElem?_eq_getElem hp]; rfl
theorem type_itup {M : Model} {h : Heap} {x : List Int} {a : Value} {as : List Addr} (ra : Reads h a (itup x) as) : Looks M h (typeOf a) (.type "tuple") := looks_reads ra
/-- tuples of ints can be sorted, whatever their lengths are -/
theorem sorts_itups {vs : List Value} {bs : List (List Int)} (e : EachIs (fun v d => ∃ as, Reads s.heap v d as) vs (bs.map itup)) (hu : A.units + 1 < cLine) : SortsAt prog w A s (dataKind s.heap (bs.map itup)) vs := by
  have hal : AllAlike (bs.map itup) := AllAlike.of itup_alike
  by_cases hne : ∀ b ∈ bs, b ≠ []
  · refine SortsAt.data e hal (.inl fun d hd => ?_) fun d hd => ?_
    · obtain ⟨b, hb, rfl⟩ := List.mem_map.mp hd
      cases b with
      | nil => exact absurd rfl (hne _ hb)
      | cons y ys => exact ⟨_, _, rfl⟩
    · obtain ⟨b, _, rfl⟩ := List.mem_map.mp hd
      rw [itup_depth]
      exact hu
  have rd : ∀ v ∈ vs, ∃ x ∈ bs, ∃ as, Reads s.heap v (itup x) as := fun v hv => by
    obtain ⟨d, hd, as, r⟩ := e.left v hv
    obtain ⟨x, hx, rfl⟩ := List.mem_map.mp hd
    exact ⟨x, hx, as, r⟩
  have lt : ∀ f : Bool, ∀ (E : Value → Shared → Prop) (x y : Value) (a b : List (Int ⊕ List Nat)) {Q : Bool → Shared → Prop}, (dataKind s.heap (bs.map itup)).keyOf x = some a → (dataKind s.heap (bs.map itup)).keyOf y = some b → Q ((dataKind s.heap (bs.map itup)).blt a b) s → wpAny (model prog w) A (oneLt' f x y) Q E s := by
    intro f E x y a b Q ha hb hq
    obtain ⟨d, as, hd, ra, rfl⟩ := dataKind_inv ha
    obtain ⟨d', as', hd', rb, rfl⟩ := dataKind_inv hb
    obtain ⟨p, _, rfl⟩ := List.mem_map.mp hd
    obtain ⟨q, _, rfl⟩ := List.mem_map.mp hd'
    exact oneLt_itup ra rb hu hq
  have keys : ∀ v, v ∈ vs → ∃ a, (dataKind s.heap (bs.map itup)).keyOf v = some a := fun v hv => by
    obtain ⟨d, hd, as, r⟩ := e.left v hv
    exact ⟨_, dataKind_some hal hd r⟩
  have some_nil : ∃ v ∈ vs, (fstI s.heap v).isSome = false := by
    refine Classical.byContradiction fun hn => hne fun b hb e2 => hn ?_
    subst e2
    have : ∀ {vs : List Value} {bs : List (List Int)}, EachIs (fun v d => ∃ as, Reads s.heap v d as) vs (bs.map itup) → [] ∈ bs → ∃ v ∈ vs, (fstI s.heap v).isSome = false := by
      intro vs bs
      induction bs generalizing vs with
      | nil => exact fun _ hb => absurd hb (by simp)
      | cons b bs ih =>
        intro e hb
        cases e with
        | @cons v _ vs' _ h t =>
          rcases List.mem_cons.mp hb with z | z
          · subst z
            obtain ⟨as, r⟩ := h
            exact ⟨v, List.mem_cons_self, by rw [fst_some r]; rfl⟩
          · obtain ⟨u, hu, k⟩ := ih t z
            exact ⟨u, List.mem_cons_of_mem _ hu, k⟩
    exact this e hb
  obtain ⟨v0, hv0, k0⟩ := some_nil
  have hall : ¬ (((vs.map (fstI s.heap)).toArray.all fun x => x.isSome) = true) := by
    simp only [List.all_toArray, List.all_map, List.all_eq_true]
    intro h
    have := h v0 hv0
    simp only [Function.comp] at this
    rw [k0] at this
    cases this
  have first : ∀ (E : Value → Shared → Prop) {Q : List (Option Value) → Shared → Prop}, Q (vs.map (fstI s.heap)) s → wpAny (model prog w) A (vs.mapM firstOfTuple') Q E s := fun E Q h => mapM_each vs (fun v hv Q' q => by
    obtain ⟨x, _, as, r⟩ := rd v hv
    exact first_itup r q) h
  by_cases h0 : (((vs.map (fstI s.heap)).toArray[0]?).bind id).isSome = true
  · refine ⟨keys, general', fun E x y a b Q ha hb hq => lt false E x y a b ha hb hq, fun h2 E Q hq => ?_⟩
    rw [keyKind'_eq, List.mapM_toArray, map_eq_pure_bind]
    refine wpAny_bind (wpAny_bind (first E (wpAny_pure ?_)))
    rw [if_neg hall, if_pos h0]
    exact wpAny_pure hq
  · refine ⟨keys, oneType', fun E x y a b Q ha hb hq => by rw [keyLt'_oneType]; exact lt true E x y a b ha hb hq, fun h2 E Q hq => ?_⟩
    rw [keyKind'_eq, List.mapM_toArray, map_eq_pure_bind]
    refine wpAny_bind (wpAny_bind (first E (wpAny_pure ?_)))
    rw [if_neg hall, if_neg h0]
    rw [oneTypeOnly'_eq, List.mapM_toArray, map_eq_pure_bind]
    refine wpAny_bind (wpAny_bind (wpAny_bind (kas_mapM (r := Value.type "tuple") _ (fun v hv Q' q => by
      obtain ⟨x, _, as, r⟩ := rd v hv
      exact (type_itup r).here q) (wpAny_pure ?_))))
    obtain ⟨v₁, rest, e1⟩ : ∃ v₁ rest, vs = v₁ :: rest := by
      cases vs with
      | nil => simp at h2
      | cons v r => exact ⟨v, r, rfl⟩
    subst e1
    have hall2 : ((List.map (fun _ => Value.type "tuple") (v₁ :: rest)).toArray.all fun x => x == Value.type "tuple") = true := by
      simp only [List.all_toArray, List.all_map, List.all_eq_true]
      intro _ _
      exact beq_self_eq_true _
    have h0 : (List.map (fun _ => Value.type "tuple") (v₁ :: rest)).toArray[0]? = some (Value.type "tuple") := by simp
    rw [h0]
    simp only [hall2, if_true]
    exact wpAny_pure (wpAny_pure hq)
/-- sorted(a set of tuples of ints): a list of its members -/
theorem sorted_setG {P : Program} {w : World} {A : Around} {E : Value → Shared → Prop} {s : Shared} {a : Addr} {L : List (Addr × List Int)} {es : Array (Int × Value)} {ep : Nat} {t : SetTable} {Q : Value → Shared → Prop} (R : SetTR P w s.heap a L es ep t) (hh : A.handled = none) (hu : A.units + 64 < cLine)
    (hQ : ∀ s' p (out : Array Value) (c : Nat) (L' : List (Addr × List Int)), (∀ b o, s.heap.get? b = some o → s'.heap.get? b = some o) → s'.gens = s.gens → s'.os = s.os → s.heap.objs.size ≤ p →
      s'.heap.get? p = some (seqObj "list" out c) → out.toList = L'.map (fun q => Value.ref q.1) → L'.Perm L → Q (.ref p) s') :
    wpAny (model P w) A (call (.builtin "sorted") [.ref a]) Q E s := by
  obtain ⟨o, ho, hex, hd⟩ := R.ob
  have hsz := R.size
  have hfew := R.few
  refine Calls.call_function_entry kind_sorted plain_sorted entry_sorted (args_sorted1 _) ?_
  unfold Builtin.«sorted»
  refine wpAny_bind (m := checkCount "sorted" 1 1 _) (wpAny_pure ?_)
  refine wpAny_bind (collect_set (A := A.in1) hh ⟨o, ho, hex.1, hd⟩ R.fits (by unfold scanBound; omega) R.tab.ris R.led fun s1 vs k1 hz g1 o1 pm => ?_)
  have hes : es.toList.map (·.2) = L.map fun q => Value.ref q.1 := by
    rw [R.rows]
    unfold L2.rowsOf
    rw [List.map_map]
    rfl
  rw [hes] at pm
  obtain ⟨L1, p1, e1⟩ := perm_of_map (fun q : Addr × List Int => Value.ref q.1) pm L rfl
  have hvl : vs.length ≤ sizeLine := by rw [e1, List.length_map, p1.length_eq, sizeLine_eq]; omega
  refine wpAny_bind (wpAny_newList ?_ hvl)
  have hoL : (s1.heap.push (seqObj "list" vs.toArray 0)).get? s1.heap.objs.size = some (seqObj "list" vs.toArray 0) := Heap.get?_push_size _ rfl
  have old : ∀ b u, s.heap.get? b = some u → (s1.heap.push (seqObj "list" vs.toArray 0)).get? b = some u := fun b u e => Heap.get?_push_of_some _ (k1 b u e)
  have rdAll : ∀ (h' : Heap), (∀ b u, s.heap.get? b = some u → b ≠ s1.heap.objs.size → h'.get? b = some u) → ∀ q ∈ L, ∃ as, Reads h' (.ref q.1) (itup q.2) as := by
    intro h' hk q hq
    obtain ⟨b, items, n, hb⟩ := id (R.tup q hq)
    obtain ⟨hbo, hbc, hbd, hbi⟩ := hb
    have hne : q.1 ≠ s1.heap.objs.size := fun z => by
      have := Heap.lt_size (k1 _ _ hbo)
      rw [z] at this
      exact absurd this (Nat.lt_irrefl _)
    have rdI : ∀ (ks : List Int) (us : List Value), ItemsAre (intKind P w) ks us → ∃ as, ReadsAll h' us (ks.map PyData.int) as := by
      intro ks us it
      induction it with
      | nil => exact ⟨_, .nil⟩
      | @cons k u ks us h1 _ ih =>
        obtain ⟨as, r⟩ := ih
        have hi : Value.isInt k u = true := h1
        obtain ⟨tk, rfl⟩ := Value.isInt_shape hi
        exact ⟨_, .cons (.int _ _) r⟩
    obtain ⟨as, r⟩ := rdI _ _ hbi
    exact ⟨_, .tuple (hk _ _ hbo hne) hbc hbd r⟩
  have eachR : ∀ (h' : Heap), (∀ b u, s.heap.get? b = some u → b ≠ s1.heap.objs.size → h'.get? b = some u) → ∀ L2 : List (Addr × List Int), (∀ q ∈ L2, q ∈ L) → EachIs (fun v d => ∃ as, Reads h' v d as) (L2.map fun q => Value.ref q.1) ((L2.map (·.2)).map itup) := by
    intro h' hk L2
    induction L2 with
    | nil => exact fun _ => .nil
    | cons q L2 ih => exact fun hs => .cons (rdAll h' hk q (hs q List.mem_cons_self)) (ih fun r hr => hs r (List.mem_cons_of_mem _ hr))
  have hk2 : ∀ b u, s.heap.get? b = some u → b ≠ s1.heap.objs.size → (sortingHeap (s1.heap.push (seqObj "list" vs.toArray 0)) s1.heap.objs.size vs).get? b = some u := fun b u e hb => sortingHeap_old hb (old b u e)
  have e2 := eachR _ hk2 L1 fun q hq => p1.mem_iff.mp hq
  rw [← e1] at e2
  have units1 : A.in1.in1.units + 1 < cLine := by show A.units + 1 + 1 + 1 < cLine; omega
  have R' : EachIs (fun (v : Value) (q : Addr × List Int) => v = Value.ref q.1) vs L1 := by
    rw [e1]
    clear e1 e2 hvl p1
    induction L1 with
    | nil => exact .nil
    | cons q L1 ih => exact .cons rfl ih
  have eb : (L1.map (·.2)).map itup = L1.map fun q => itup q.2 := by rw [List.map_map]; rfl
  have er : EachIs (fun (v : Value) (q : Addr × List Int) => ∃ as, Reads (sortingHeap (s1.heap.push (seqObj "list" vs.toArray 0)) s1.heap.objs.size vs) v (itup q.2) as) vs L1 := by
    have : ∀ {vs : List Value} {L1 : List (Addr × List Int)} {h' : Heap}, EachIs (fun v d => ∃ as, Reads h' v d as) vs ((L1.map (·.2)).map itup) → EachIs (fun (v : Value) (q : Addr × List Int) => ∃ as, Reads h' v (itup q.2) as) vs L1 := by
      intro vs L1 h'
      induction L1 generalizing vs with
      | nil => intro e; cases e; exact .nil
      | cons q L1 ih => intro e; cases e with | cons h t => exact .cons h (ih t)
    exact this e2
  have S := sorts_itups (prog := P) (w := w) (A := A.in1.in1) (s := { s1 with heap := sortingHeap (s1.heap.push (seqObj "list" vs.toArray 0)) s1.heap.objs.size vs }) e2 units1
  refine wpAny_bind (wpAny_holding (wpAny_call_entry (s := { s1 with heap := s1.heap.push (seqObj "list" vs.toArray 0) }) slot_list_sort ⟨_, hoL, rfl⟩ entry_list_sort (list_sort_vals hoL S hvl ⟨.none, rfl, ?_⟩) (args_list_sort _)))
  have out := sortVals_data (enc := fun q : Addr × List Int => itup q.2) false R' er (by rw [← eb]; exact AllAlike.of itup_alike)
  rw [eb]
  generalize hov : sortVals (dataKind (sortingHeap (s1.heap.push (seqObj "list" vs.toArray 0)) s1.heap.objs.size vs) (L1.map fun q => itup q.2)) false vs vs = ov at out ⊢
  obtain ⟨c, hc⟩ := sortedHeap_at (vs := vs) (out := ov.toArray) hoL
  have eo : ∀ {ov : List Value} {L2 : List (Addr × List Int)}, EachIs (fun (v : Value) (q : Addr × List Int) => v = Value.ref q.1) ov L2 → ov = L2.map fun q => Value.ref q.1 := by
    intro ov L2 e
    induction e with
    | nil => rfl
    | cons h _ ih => rw [h, ih]; rfl
  refine wpAny_pure ⟨_, rfl, hQ _ s1.heap.objs.size ov.toArray c (L1.mergeSort (dataLe false fun q => itup q.2)) (fun b u e => ?_) g1 o1 hz hc (by simpa using eo out) ((List.mergeSort_perm _ _).trans p1)⟩
  have q := k1 b u e
  have hlt := Heap.lt_size q
  show (sortedHeap (s1.heap.push (seqObj "list" vs.toArray 0)) s1.heap.objs.size vs ov.toArray).get? b = some u
  rw [sortedHeap_old (Nat.ne_of_lt hlt) (by rw [size_push']; exact Nat.lt_succ_of_lt hlt)]
  exact Heap.get?_push_of_some _ q
end
/-! ### over the layer -/
/-- sorted(a set of tuples of ints): a new list of its members, in some order -/
def rSortSet (K : PySem.W.Frag) (P : Program) (w : World) : List V → Hp → VK → Prop := fun vs H Q => ∃ (a : Addr) (L : List (Addr × List Int)), vs = [V.ref a] ∧ H a = some (SetTO P w a L) ∧ (∀ p ∈ L, SqT K H p.1 (p.2.map V.int)) ∧
  ∀ (L' : List (Addr × List Int)) (p : Addr), L'.Perm L → (L'.map (·.2)).Nodup → H p = none → Q (.ref p) (upd H p (.lst (L'.map fun q => V.ref q.1)))
theorem cr_sortSet {X : Cx} (hc : X.calm = true) (hu : X.A.units + 64 < cLine) : CallR X (.builtin "sorted") (rSortSet X.K X.prog X.w) := by
  intro pins s σ H vs us Q I r h
  obtain ⟨a, L, rfl, ha, hk, q⟩ := h
  have R0 : SetT0 X.prog X.w s.heap a L := (I.hok a _ ha).1
  obtain ⟨es, ep, t, R⟩ := R0.full fun p hp => I.isT (hk p hp)
  rw [Vals.ref1 r]
  refine sorted_setG R (I.ok.hd hc) hu fun s' p out c L' k g o hp hg hout pm => ?_
  have hlen : (L'.map fun q => V.ref q.1).length ≤ sizeLine := by rw [List.length_map, pm.length_eq, sizeLine_eq]; have := R.few; omega
  have hn : H p = none := I.hok.fresh hp
  have hv : Vals (L'.map fun q => V.ref q.1) out.toList := by rw [hout]; exact vals_of_refs L'
  have J : Inv X pins σ (upd H p (.lst (L'.map fun q => V.ref q.1))) { s with heap := s'.heap, gens := s'.gens, drawn := s'.drawn, toks := s'.toks } :=
    I.call (ch := []) (Un.laid k hp hn) (I.hok.laid k hp ⟨hlen, out.toList, c, hv, hg⟩) (by rw [g]; exact I.bare) (fun _ z => nomatch z)
  have e : s' = { s with heap := s'.heap, gens := s'.gens, drawn := s'.drawn, toks := s'.toks } := by
    cases s'
    cases s
    cases o
    rfl
  rw [e]
  exact ⟨.ref p, _, J, rfl, q L' p pm ((pm.map (·.2)).nodup_iff.mpr R.nd) hn⟩
end Om

/-! {k: v for target in iter if ..}, the keys tuples of ints and texts -/
namespace Om
open PySem PySem.Spec PyProof.Rows L2
section
variable {X : Cx}
theorem d_setT {pins : List (Addr × Obj)} {σ : L2.St} {H : Hp} {s : Shared} {E : Value → Shared → Prop} {D b : Addr} {kvs : List (List L2.Key × V)} {k : List L2.Key} {v : V} {r : Value} {Q : Unit → Shared → Prop} (I : Inv X pins σ H s) (hu : X.A.units + 1 < cLine) (hD : H D = some (.dT kvs)) (hb : H b = some (.tup (k.map kV))) (hl : kvs.length < sizeLine)
    (rv : RelV v r) (h : ∀ s', Inv X pins σ (upd H D (.dT (putK kvs k v))) s' → Q () s') : wpAny (model X.prog X.w) X.A (dictSet D (.ref b) r) Q E s := by
  obtain ⟨z, hd, xs, rel, dd⟩ := dt_of I.hok hD
  have hz : xs.length ≤ sizeLine := by rw [← Paired.length rel]; exact z
  have hl2 : (putK kvs k v).length ≤ sizeLine := by have := length_putK kvs k v; omega
  refine wpAny_dictSet_heap (hsz := hz) (show _ < cLine from by omega) (key_of I.hok hb) dd fun h' dd' hs => h _ ?_
  obtain ⟨q, es, ep, hq, h2, h3, h4, _, h5⟩ := dd'
  refine d_write I (by rw [hD]; exact True.intro) hs ⟨q, hq⟩ ⟨hl2, hd, _, (rel.put k hb rv).keeps fun c ys ec => ?_, q, es, ep, hq, h2, h3, h4, h5⟩
  rw [upd_ne (ne_of ec hD (fun z => nomatch z))]
  exact ec
end
theorem clauseD_loop {X : Cx} (hc : X.calm = true) (hxe : ∀ e s, ¬ X.xe e s) {kx vx : Expr} {cs : List Comprehension} {scope : Scope} {pos : Pos} {node : Expr} (en : node = .DictComp kx vx cs scope pos) {k : Nat} {tg iter : Expr} {ifs : List Expr} {it : Addr} {acc : Value} {act : Sem PySem.Fin → Sem PySem.Fin} {R : PySem.Result → Shared → Prop}
    (hturn : compTurn node k (.ref it) acc X.env = clauseTurn node k tg iter ifs (.ref it) acc X.env act)
    {pins : List (Addr × Obj)} {σ0 : L2.St} {fp : List Addr} {tn : Nat → Heap → Prop} {J : It} (T : Turn X.prog X.w X.K tg J fp it tn) {g : TG} {tt : TT} (pg : PG X tg g) (pt : PTs X ifs tt)
    (stat : ∀ {H' : Hp}, (∀ b ∈ fp, H' b = none) → ∀ b ∈ fp, FpOk X pins H' b)
    {Fin : Hp → Prop} {ok : L2.St → Prop} {Body : L2.St → Hp → (Hp → Prop) → Prop}
    (body : ∀ {σ2 : L2.St} {Hx : Heap} {s : Shared} {H : Hp} {Nx : Hp → Prop}, ok σ2 → Inv X (pins ++ pinsAt fp Hx) σ2 H s → Body σ2 H Nx → ∀ (kont : Sem PySem.Fin) (P : PySem.Fin → Shared → Prop) (E : Value → Shared → Prop), (∀ s', (∃ σ' H', Inv X (pins ++ pinsAt fp Hx) σ' H' s' ∧ Knows σ0 σ' ∧ Nx H') → wpAny (model X.prog X.w) X.A kont P E s') → wpAny (model X.prog X.w) X.A (act kont) P E s)
    (hok : ∀ {σ2 : L2.St}, ok σ2 → Knows σ0 σ2) {W : Nat → Nat → Hp → Prop}
    (turn : ∀ i m H, W i m H → (J.stop i H ∧ Fin H) ∨ (J.go i H ∧ ∃ Nx : Hp → Prop, (∀ H', Nx H' → ∃ m', m' < m ∧ W (i + 1) m' H') ∧ ∀ x H', J.yld i H x H' → g x σ0 H' fun σ2 H2 => ok σ2 ∧ tt σ2 H2 fun b H3 => if b = true then Body σ2 H3 Nx else Nx H3))
    (hend : ∀ H' s', Inv X pins σ0 H' s' → Fin H' → R (.ok .next) s')
    {s : Shared} {H : Hp} {m0 : Nat} (I : Inv X pins σ0 H s) (st : tn 0 s.heap) (nfp : ∀ b ∈ fp, H b = none) (w0 : W 0 m0 H) :
    codeAny (model X.prog X.w) X.A (.compLoop node k (.ref it) acc X.env) R s := by
  subst en
  refine codeAny_loop rfl (fun n s' => ∃ i H', Inv X pins σ0 H' s' ∧ tn i s'.heap ∧ (∀ b ∈ fp, H' b = none) ∧ W i n H') ?_ m0 ⟨0, H, I, st, nfp, w0⟩
  rintro n s5 ⟨i, H5, I5, st5, n5, w5⟩
  show wpAny _ X.A ((compTurn (.DictComp kx vx cs scope pos) k (.ref it) acc X.env).onRaise (fun x => do noteFrame x X.env; theTreesLotGoes x)) _ _ s5
  refine wpAny_noted ?_
  rw [hturn]
  unfold clauseTurn
  refine wpAny_bind (wpAny_standAt (wpAny_bind ?_))
  rcases turn i n H5 w5 with ⟨stop, qq⟩ | ⟨go, Nx, hNx, step⟩
  · refine thnF (T.done X rfl rfl rfl hc i pins s5 σ0 H5 (fun _ _ => False) I5 (stat n5) st5 stop) fun r s6 ⟨hr, I6⟩ => ?_
    subst hr
    exact wpAny_pure (hend H5 s6 I6 qq)
  · refine thnF (T.item X rfl rfl rfl hc i pins s5 σ0 H5 (fun _ _ => False) I5 (stat n5) st5 go) fun r s6 ⟨u, hr, h6⟩ => ?_
    subst hr
    dsimp only
    refine wpAny_bind (thnF h6 fun _ s7 ⟨x, H7, I7, r7, y7, st7, n7⟩ => ?_)
    have I7' := I7.pinned (stat n7) (T.obj _ _ st7)
    have fin : ∀ {σ' : L2.St} {s' : Shared} {H' : Hp}, Inv X (pins ++ pinsAt fp s7.heap) σ' H' s' → Knows σ0 σ' → Nx H' → ∃ m, m < n ∧ ∃ i H', Inv X pins σ0 H' s' ∧ tn i s'.heap ∧ (∀ b ∈ fp, H' b = none) ∧ W i m H' := fun {σ' s' H'} I' kn nx => by
      obtain ⟨m', hm, w'⟩ := hNx H' nx
      have held : ∀ b ∈ fp, ∀ o, s7.heap.get? b = some o → s'.heap.get? b = some o ∧ H' b = none := fun b hb o e =>
        ⟨(I'.pin (b, o) (List.mem_append_right _ (List.mem_append_right _ (mem_pinsAt hb e)))).1, (I'.pin (b, o) (List.mem_append_right _ (List.mem_append_right _ (mem_pinsAt hb e)))).2.1⟩
      refine ⟨m', hm, i + 1, H', I'.unpinned.weak kn.1 kn.2, T.keep _ _ _ st7 fun b hb o e => (held b hb o e).1, fun b hb => ?_, w'⟩
      obtain ⟨o, e, _⟩ := T.obj _ _ st7 b hb
      exact (held b hb o e).2
    refine wpAny_bind (thnE hxe (pg.run _ s7 σ0 H7 x u _ I7' r7 (step x H7 y7)) fun _ s8 ⟨σ8, H8, I8, k8, q8⟩ => ?_)
    refine wpAny_bind (thnE hxe (pt.run _ s8 σ8 H8 _ I8 q8) fun b s9 ⟨H9, I9, q9⟩ => ?_)
    cases b with
    | false => exact wpAny_pure ⟨rfl, fin I9 (hok k8) q9⟩
    | true => exact body k8 I9 q9 _ _ _ fun s' ⟨σ', H', I', kn, nx⟩ => wpAny_pure ⟨rfl, fin I' kn nx⟩
section
variable {X : Cx}
/-- a pair comes into the dict at D -/
def tPutT (D : Addr) (tk tv : TE) : L2.St → Hp → (Hp → Prop) → Prop := fun σ H Nx => tk σ H fun y H4 => tv σ H4 fun z H5 => ∃ (b : Addr) (kvs : List (List L2.Key × V)) (k : List L2.Key), y = .ref b ∧ H5 b = some (.tup (k.map kV)) ∧ H5 D = some (.dT kvs) ∧ kvs.length < sizeLine ∧ Nx (upd H5 D (.dT (putK kvs k z)))
def tDcT (wi : TI) (g : TG) (tt : TT) (tk tv : TE) (vs : List Nat) : TE := fun σ H Q => wi σ H fun J H1 => ∀ D, H1 D = none → ∃ W : Nat → Nat → Hp → Prop, (∃ m, W 0 m (upd H1 D (.dT []))) ∧
  Wlk J W (fun H => Q (.ref D) H) fun x H' Nx => g x (wipe σ vs) H' fun σ2 H2 => wipe σ2 vs = wipe σ vs ∧ tt σ2 H2 fun b H3 => if b = true then tPutT D tk tv σ2 H3 Nx else Nx H3
theorem pe_dcT {kx vx tg iter : Expr} {ifs : List Expr} {scope : Scope} {own : List (Str × Nat)} {pos : Pos} {wi : TI} {g : TG} {tt : TT} {tk tv : TE} (hc : X.calm = true) (hu : X.A.units + 3 < cLine) (hN : X.N.Nodup) (hi : PI X tg iter wi) (ok : BlkOk X.N X.env.scope scope own)
    (hg : BlkX X scope fun Y => PG Y tg g) (ht : BlkX X scope fun Y => PTs Y ifs tt) (hk : BlkX X scope fun Y => PE Y kx tk) (he : BlkX X scope fun Y => PE Y vx tv) (hs : ∀ x, foldedSetIterable iter X.env x = pure x := by intro _; rfl) :
    PE X (.DictComp kx vx [⟨tg, iter, ifs, 0⟩] scope pos) (tDcT wi g tt tk tv (ownS own)) := by
  refine ⟨fun pins s σ H Q I h => ?_⟩
  rw [arm_eval_DictComp]
  have cells : ∀ y ∈ scope.names, y.2 = .free → ∃ c, X.env.cells.lookup y.1 = some c := fun y hy e => (ok.free y hy e).elim (fun k => I.ok.has _ (.inl k)) fun k => I.ok.has _ (.inr k)
  refine wpAny_comprehension_free rfl hs (closure_ok cells) ok.kind (fun y hy e => by rw [ok.uniq y hy, e])
    (thn (hi.run pins s σ H _ I h) fun xv s1 hx => thn hx fun itv s2 h2 => ?_)
  obtain ⟨it, fp, tn, J, H2, rfl, I2, T, st2, f2, q⟩ := h2
  refine wpAny_newObj_type (newEnv_comp ?_)
  have hn2 : H2 s2.heap.objs.size = none := I2.hok.fresh (Nat.le_refl _)
  obtain ⟨W, ⟨m0, w0⟩, wlk⟩ := q _ hn2
  have I3 : Inv X pins σ (upd H2 s2.heap.objs.size (.dT [])) { s2 with heap := s2.heap.push { cls := .type "dict", data := .dict #[] } } :=
    I2.laid (t' := s2.toks) (fun b o e => Heap.get?_push_of_some _ e) (Nat.le_refl _) (dt_empty s2.heap I2.big)
  have below : ∀ b ∈ fp, b < s2.heap.objs.size := fun b hb => by
    obtain ⟨o, e, _⟩ := T.obj _ _ st2 b hb
    exact Heap.lt_size e
  have st3 : tn 0 (s2.heap.push { cls := .type "dict", data := .dict #[] }) := T.keep _ _ _ st2 fun b _ o e => Heap.get?_push_of_some _ e
  have f3 : ∀ b ∈ fp, FpOk X pins (upd H2 s2.heap.objs.size (.dT [])) b ∧ b < (s2.heap.push { cls := .type "dict", data := .dict #[] }).objs.size := fun b hb =>
    ⟨⟨by rw [upd_ne (Nat.ne_of_lt (below b hb))]; exact (f2 b hb).1, (f2 b hb).2⟩, by rw [Heap.size_push]; exact Nat.lt_succ_of_lt (below b hb)⟩
  generalize hS3 : ({ s2 with heap := s2.heap.push { cls := .type "dict", data := .dict #[] } } : Shared) = s3 at I3
  have hh3 : s2.heap.push { cls := .type "dict", data := .dict #[] } = s3.heap := by rw [← hS3]
  rw [hh3] at st3 f3
  generalize s2.heap.objs.size = D at I3 f3 w0 wlk hn2 ⊢
  generalize hH3 : upd H2 D (.dT []) = H3 at I3 f3 w0
  have I4 := block_start I3 ok hN f3
  have st4 : tn 0 (pushCells (s3.heap.push { cls := .type "dict", data := .dict #[] }) scope.names) := T.keep _ _ _ st3 fun b _ o e => pushCells_keeps _ _ _ _ (Heap.get?_push_of_some _ e)
  have nfp : ∀ b ∈ fp, H3 b = none := fun b hb => (f3 b hb).1.1
  have back : ∀ H5 s6, Inv (X.blk s3 H3 scope (compEnvC scope (cellsFrom (s3.heap.objs.size + 1) scope.names (cloFrom X.env.cells scope.names [])) s3.heap.objs.size X.env) fp) [] (wipe σ (ownS own)) H5 s6 → Q (.ref D) H5 →
      compPost (model X.prog X.w) X.A X.xe none (EP X pins σ Q) (.ref D) s3.heap.objs.size (.ok .next) s6 := fun H5 s6 I6 qq => by
    have I7 : Inv X pins σ H5 s6 := I3.call' (ch := fp) I6.os I6.base I6.hok I6.bare fun b hb => ⟨(f3 b hb).1.2.2.2.1, (f3 b hb).1.2.1, (f3 b hb).1.2.2.2.2.1, (f3 b hb).1.2.2.2.2.2⟩
    have nC : H5 s3.heap.objs.size = none := I6.free
    obtain ⟨m, hn, _⟩ := I6.loc
    obtain ⟨f0, f1, f2, f3', f4, f5⟩ := I3.fpOk (Nat.le_refl _) nC
    exact ⟨m, hn, fun h'' sb => ⟨.ref D, H5, I7.turned (t' := s6.toks) (fun b o hb e => (sb.2 b hb).trans e) f0 f1 f3' f4 f5, rfl, qq⟩⟩
  show codeAny _ _ (.compStart (.DictComp kx vx [⟨tg, iter, ifs, 0⟩] scope pos) 0 (.ref it) (.ref D) (compEnvC scope (cellsFrom (s3.heap.objs.size + 1) scope.names (cloFrom X.env.cells scope.names [])) s3.heap.objs.size X.env)) (compPost (model X.prog X.w) X.A X.xe none (EP X pins σ Q) (.ref D) s3.heap.objs.size) { s3 with heap := pushCells (s3.heap.push { cls := .type "dict", data := .dict #[] }) scope.names }
  have L : codeAny (model X.prog X.w) X.A (.compLoop (.DictComp kx vx [⟨tg, iter, ifs, 0⟩] scope pos) 0 (.ref it) (.ref D) (compEnvC scope (cellsFrom (s3.heap.objs.size + 1) scope.names (cloFrom X.env.cells scope.names [])) s3.heap.objs.size X.env)) (compPost (model X.prog X.w) X.A X.xe none (EP X pins σ Q) (.ref D) s3.heap.objs.size) { s3 with heap := pushCells (s3.heap.push { cls := .type "dict", data := .dict #[] }) scope.names } := by
    generalize cellsFrom (s3.heap.objs.size + 1) scope.names (cloFrom X.env.cells scope.names []) = cl at I4 back ⊢
    generalize s3.heap.objs.size = C at I4 back ⊢
    exact clauseD_loop (X := X.blk s3 H3 scope (compEnvC scope cl C X.env) fp) hc (fun _ _ h => h) rfl (iter := iter)
      (act := fun kont => (do
        let kv ← eval kx (compEnvC scope cl C X.env)
        let vv ← holding [kv] (eval vx (compEnvC scope cl C X.env))
        standAt { kx.pos with endLine := vx.pos.endLine, endCol := vx.pos.endCol }
        holding [kv, vv] (dictSet D kv vv)) >>= fun _ => kont)
      (compTurn_dict ..) T (hg s3 H3 C cl fp) (ht s3 H3 C cl fp)
      (fun hn b hb => ⟨hn b hb, (I4.ok.exf b hb).1, I4.ok.exfs b hb, .inl hb, fun x c e => (I4.ok.exf b hb).2 x c e, fun p hp => absurd (show p ∈ ([] : List (Addr × Obj)) ++ [] from hp) (by simp)⟩)
      (ok := fun σ2 => wipe σ2 (ownS own) = wipe σ (ownS own))
      (Body := fun σ2 H3 Nx => tPutT D tk tv σ2 H3 Nx)
      (body := fun {σ2 Hx s H Nx} o I2 b kont P E hk' => by
        refine wpAny_bind (wpAny_bind (thnE (fun _ _ h => h) ((hk s3 H3 C cl fp).run _ s σ2 H _ I2 b) fun z s1 ⟨y, H1, I1, r1, q1⟩ => wpAny_bind (wpAny_holding (thnE (fun _ _ h => h) ((he s3 H3 C cl fp).run _ s1 σ2 H1 _ I1 q1) fun z2 s5 ⟨y2, H5, I5, r2, bb, kvs, kk, ey, hb, hD, hl, nx⟩ => ?_))))
        subst ey
        cases r1
        refine wpAny_bind (wpAny_standAt (wpAny_holding ?_))
        exact d_setT (X := X.blk s3 H3 scope (compEnvC scope cl C X.env) fp) I5 (show _ < cLine from Nat.lt_of_le_of_lt (Nat.add_le_add_left (by decide) _) hu) hD hb hl r2 fun s' I' => hk' s' ⟨σ2, _, I', knows_wipe o, nx⟩)
      knows_wipe wlk back I4 st4 nfp w0
  exact codeAny_compStart_dict L (T.self X.A 0 _ _ _ st4 L)
end
end Om

/-! {k: v}, k a tuple of ints and texts -/
namespace Om
open PySem PySem.Spec PyProof.Rows L2
section
variable {X : Cx}
def tDisp1T (tk tv : TE) : TE := fun σ H Q => ∀ p, H p = none → tk σ (upd H p (.dT [])) fun y H1 => tv σ H1 fun z H2 => ∃ (b : Addr) (k : List L2.Key), y = .ref b ∧ H2 b = some (.tup (k.map kV)) ∧ H2 p = some (.dT []) ∧ Q (.ref p) (upd H2 p (.dT [(k, z)]))
theorem pe_disp1T {pos : Pos} {k v : Expr} {tk tv : TE} (hu : X.A.units + 1 < cLine) (hk : PE X k tk) (hv : PE X v tv) : PE X (.Dict [some k] [v] pos) (tDisp1T tk tv) := by
  refine ⟨fun pins s σ H Q I h => ?_⟩
  have hn := I.hok.fresh (Nat.le_refl s.heap.objs.size)
  have I1 := I.laid (a := s.heap.objs.size) (o := .dT []) (h' := s.heap.push { cls := .type "dict", data := .dict #[] }) (t' := s.toks) (fun _ _ q => Heap.get?_push_of_some _ q) (Nat.le_refl _) (dt_empty s.heap I.big)
  refine wpAny_Dict_any rfl rfl (by simp) (show 1 ≤ 15 by decide) ?_
  refine pairTrees_cons_walk (thn (hk.run pins _ σ _ _ I1 (h _ hn)) fun u s1 ⟨y, H1, I2, r1, q1⟩ => thn (hv.run pins s1 σ H1 _ I2 q1) fun u2 s2 ⟨z, H2, I3, r2, b, kk, ey, hb, hD, q⟩ => ?_)
  subst ey
  cases r1
  refine pairTrees_nil_walk ?_
  show wpAny _ _ (storeAll s.heap.objs.size [(Value.ref b, u2)]) _ _ _
  unfold storeAll
  refine wpAny_bind (wpAny_bind (d_setT I3 hu hD hb (by decide) r2 fun s' I' => wpAny_pure ?_))
  exact wpAny_pure ⟨.ref s.heap.objs.size, _, I', rfl, q⟩
end
end Om

/-! list(d) and sorted(d), the keys of d tuples of ints -/
namespace Om
open PySem PySem.Spec PyProof.Rows L2
def KeyI (H : Hp) (L : List (Addr × List Int)) : Prop := ∀ q ∈ L, H q.1 = some (.tup (q.2.map V.int))
theorem keys_of {H : Hp} : ∀ {kvs : List (List L2.Key × V)} {xs : List (List L2.Key × Addr × Value)} {ks : List (List Int)}, KT H kvs xs → kvs.map (·.1) = ks.map (fun l => l.map Sum.inl) → ∃ L : List (Addr × List Int), L.map (·.2) = ks ∧ L.map (·.1) = xs.map (·.2.1) ∧ KeyI H L := by
  intro kvs xs ks h
  unfold KT at h
  induction h generalizing ks with
  | nil =>
    intro e
    cases ks with
    | nil => exact ⟨[], rfl, rfl, fun q hq => by cases hq⟩
    | cons k r => cases e
  | @cons p q ps qs hpq t ih =>
    intro e
    cases ks with
    | nil => cases e
    | cons k r =>
      rw [List.map_cons, List.map_cons] at e
      injection e with e1 e2
      obtain ⟨L, h1, h2, h3⟩ := ih e2
      obtain ⟨g1, g2, _⟩ := hpq
      refine ⟨(q.2.1, k) :: L, by rw [List.map_cons, h1], by rw [List.map_cons, List.map_cons, h2], fun x hx => ?_⟩
      rcases List.mem_cons.mp hx with rfl | hx
      · show H q.2.1 = some (.tup (k.map V.int))
        rw [g2, e1, List.map_map]
        rfl
      · exact h3 x hx
section
variable {X : Cx}
/-- what the keys of a dict are, collected -/
theorem keys_acc {P : Program} {w : World} {H : Hp} {h : Heap} {d : Addr} {kvs : List (List L2.Key × V)} {xs : List (List L2.Key × Addr × Value)} {ks : List (List Int)} {es : Array DictEntry} {acc : Array Value} (rel : KT H kvs xs) (e : kvs.map (·.1) = ks.map (fun l => l.map Sum.inl)) (hsz : es.size = xs.length)
    (hent : ∀ i (hi : i < es.size), ∃ y, xs[i]? = some y ∧ es[i].key = .ref y.2.1) (hacc : acc.size = es.size ∧ ∀ (j : Nat) (v : Value), acc[j]? = some v → ∃ hi : j < es.size, v = es[j].key) :
    ∃ L : List (Addr × List Int), L.map (·.2) = ks ∧ KeyI H L ∧ acc.toList = L.map (fun q => Value.ref q.1) := by
  obtain ⟨L, h1, h2, h3⟩ := keys_of rel e
  refine ⟨L, h1, h3, List.ext_getElem? fun j => ?_⟩
  have hl : L.length = xs.length := by
    have := congrArg List.length h2
    rw [List.length_map, List.length_map] at this
    exact this
  by_cases hj : j < es.size
  · obtain ⟨y, hy, hk⟩ := hent j hj
    have hja : j < acc.size := by rw [hacc.1]; exact hj
    obtain ⟨hi, hv⟩ := hacc.2 j acc[j] (Array.getElem?_eq_getElem hja)
    have hL : (L.map (·.1))[j]? = some y.2.1 := by rw [h2, List.getElem?_map, hy]; rfl
    rw [List.getElem?_map] at hL
    obtain ⟨q, hq, eq⟩ := Option.map_eq_some_iff.mp hL
    rw [Array.getElem?_toList, Array.getElem?_eq_getElem hja, hv, hk, List.getElem?_map, hq, ← eq]
    rfl
  · rw [Array.getElem?_toList, Array.getElem?_eq_none (by rw [hacc.1]; omega), List.getElem?_map, List.getElem?_eq_none (by omega)]
    rfl
def rListT : List V → Hp → VK → Prop := fun vs H Q => ∃ (a : Addr) (kvs : List (List L2.Key × V)) (ks : List (List Int)), vs = [V.ref a] ∧ H a = some (.dT kvs) ∧ kvs.map (·.1) = ks.map (fun l => l.map Sum.inl) ∧
  ∀ (L : List (Addr × List Int)) (p : Addr), L.map (·.2) = ks → KeyI H L → H p = none → Q (.ref p) (upd H p (.lst (L.map fun q => V.ref q.1)))
theorem cr_listT (hc : X.calm = true) : CallR X (.type "list") rListT := by
  intro pins s σ H vs us Q I r h
  obtain ⟨a, kvs, ks, rfl, ha, hks, q⟩ := h
  rw [Vals.ref1 r]
  obtain ⟨z, hd, xs, rel, dd⟩ := dt_of I.hok ha
  obtain ⟨es, ep, raw, hsz, hent⟩ := dd.raw
  have hz : es.size ≤ sizeLine := by rw [hsz, ← Paired.length rel]; exact z
  refine PySem.W.kdl_call (KdlSrc.rawDict (prog := X.prog) (w := X.w) (d := a) (es := es) (ep := ep) hd) (I.ok.hd hc) raw hz fun h' tk acc c hk hS hacc => ?_
  obtain ⟨L, h1, h3, e⟩ := keys_acc (P := X.prog) (w := X.w) (h := s.heap) (d := a) rel hks hsz (fun i hi => let ⟨y, h1, h2, _⟩ := hent i hi; ⟨y, h1, h2⟩) hacc
  have hn : H s.heap.objs.size = none := I.hok.fresh (Nat.le_refl _)
  have hll : L.length ≤ sizeLine := by
    have := congrArg List.length e
    rw [Array.length_toList, List.length_map, hacc.1] at this
    omega
  exact ⟨.ref s.heap.objs.size, upd H s.heap.objs.size (.lst (L.map fun q => V.ref q.1)), I.laid (t' := tk) (fun b o q => hk b o q) (Nat.le_refl _) ⟨by rw [List.length_map]; exact hll, acc.toList, c, by rw [e]; exact vals_of_refs L, by rw [Array.toArray_toList]; exact hS⟩, rfl, q L _ h1 h3 hn⟩
/-- sorted(d), the keys of n ints in [0, B) -/
def rSortDT (n : Nat) (B : Int) : List V → Hp → VK → Prop := fun vs H Q => ∃ (a : Addr) (kvs : List (List L2.Key × V)) (ks : List (List Int)), vs = [V.ref a] ∧ H a = some (.dT kvs) ∧ kvs.map (·.1) = ks.map (fun l => l.map Sum.inl) ∧ ks.length < 64 ∧ (∀ l ∈ ks, l.length = n ∧ TS.Bd B l) ∧
  ∀ (L : List (Addr × List Int)) (p : Addr), (L.map (·.2)).Perm ks → KeyI H L → L.Pairwise (fun q r => TS.code B q.2 ≤ TS.code B r.2) → H p = none → Q (.ref p) (upd H p (.lst (L.map fun q => V.ref q.1)))
theorem cr_sortDT {n : Nat} {B : Int} (hc : X.calm = true) (hn1 : 1 ≤ n) : CallR X (.builtin "sorted") (rSortDT n B) := by
  intro pins s σ H vs us Q I r h
  obtain ⟨a, kvs, ks, rfl, ha, hks, hfew, hB, q⟩ := h
  rw [Vals.ref1 r]
  obtain ⟨z, hd, xs, rel, dd⟩ := dt_of I.hok ha
  obtain ⟨es, ep, raw, hsz, hent⟩ := dd.raw
  have hz : es.size ≤ sizeLine := by rw [hsz, ← Paired.length rel]; exact z
  refine Calls.call_function_entry kind_sorted plain_sorted entry_sorted (args_sorted1 _) ?_
  unfold Builtin.«sorted»
  refine wpAny_bind (m := checkCount "sorted" 1 1 _) (wpAny_pure ?_)
  refine wpAny_bind (PySem.W.kdu_collect (A := X.A.in1) (KdlSrc.rawDict (prog := X.prog) (w := X.w) (d := a) (es := es) (ep := ep) hd) (I.ok.hd hc) raw hz fun h' tk acc hk hacc => ?_)
  obtain ⟨L, h1, h3, e⟩ := keys_acc (P := X.prog) (w := X.w) (h := s.heap) (d := a) rel hks hsz (fun i hi => let ⟨y, h1, h2, _⟩ := hent i hi; ⟨y, h1, h2⟩) hacc
  have hLl : L.length = ks.length := by rw [← h1, List.length_map]
  have hvl : acc.toList.length < 64 := by rw [e, List.length_map, hLl]; exact hfew
  refine wpAny_bind (wpAny_newList ?_ (by rw [sizeLine_eq]; omega))
  have hoL : (h'.push (seqObj "list" acc.toList.toArray 0)).get? h'.objs.size = some (seqObj "list" acc.toList.toArray 0) := Heap.get?_push_size _ rfl
  have tk1 : ∀ p ∈ L, TS.TupInts (h'.push (seqObj "list" acc.toList.toArray 0)) (.ref p.1) p.2 := fun p hp => (tupI_raw I (.inl (.inl (h3 p hp)))).keeps fun b u eb _ => Heap.get?_push_of_some _ (hk b u eb)
  have x : TS.TupsOk (h'.push (seqObj "list" acc.toList.toArray 0)) n B acc.toList := fun v hv => by
    rw [e] at hv
    obtain ⟨p, hp, rfl⟩ := List.mem_map.mp hv
    obtain ⟨b1, b2⟩ := hB p.2 (by rw [← h1]; exact List.mem_map.mpr ⟨p, hp, rfl⟩)
    exact ⟨p.2, tk1 p hp, b1, b2⟩
  refine wpAny_bind (wpAny_holding (TS.call_sort_tups (s := { s with heap := h'.push (seqObj "list" acc.toList.toArray 0), toks := tk }) hoL hvl hn1 x fun out a1 a2 => ?_))
  obtain ⟨c, hcp⟩ := sortedHeap_at (vs := acc.toList) (out := out) hoL
  obtain ⟨L', p', e'⟩ := perm_of_map (fun q : Addr × List Int => Value.ref q.1) (e ▸ a1) L rfl
  have pw : L'.Pairwise (fun q r => TS.code B q.2 ≤ TS.code B r.2) := by
    rw [e'] at a2
    refine List.Pairwise.imp_of_mem (fun {q r} hq hr hle => ?_) (List.pairwise_map.mp a2)
    have f1 := (tk1 q (p'.mem_iff.mp hq)).ints
    have f2 := (tk1 r (p'.mem_iff.mp hr)).ints
    rw [← f1, ← f2]
    exact hle
  have hgone : s.heap.get? h'.objs.size = none := by
    cases eg : s.heap.get? h'.objs.size with
    | none => rfl
    | some u => exact absurd (Heap.lt_size (hk _ _ eg)) (Nat.lt_irrefl _)
  have hn2 : H h'.objs.size = none := I.hok.gone hgone
  have hlen : (L'.map fun q => V.ref q.1).length ≤ sizeLine := by rw [List.length_map, p'.length_eq, hLl, sizeLine_eq]; omega
  refine wpAny_pure ⟨_, rfl, .ref h'.objs.size, upd H h'.objs.size (.lst (L'.map fun q => V.ref q.1)), ?_, rfl, q L' _ (by rw [← h1]; exact p'.map _) (fun y hy => h3 y (p'.mem_iff.mp hy)) pw hn2⟩
  have kp : ∀ b u, s.heap.get? b = some u → (sortedHeap (h'.push (seqObj "list" acc.toList.toArray 0)) h'.objs.size acc.toList out).get? b = some u := fun b u eb => by
    have q1 := hk b u eb
    have hlt := Heap.lt_size q1
    rw [sortedHeap_old (Nat.ne_of_lt hlt) (by rw [size_push']; exact Nat.lt_succ_of_lt hlt)]
    exact Heap.get?_push_of_some _ q1
  exact I.laidN (t' := tk) kp hgone hn2 ⟨hlen, out.toList, c, by rw [e']; exact vals_of_refs L', by rw [Array.toArray_toList]; exact hcp⟩
end
end Om

namespace Om
open PySem PySem.Spec PyProof.Rows L2 LamX PySem PySem.W
/-! ### min(a list of tuples of ints, not empty): one of its items, as it stands -/
def rMinT (K : PySem.W.Frag) : List V → Hp → VK → Prop := fun vs H Q => ∃ (a : Addr) (L : List (Addr × List Int)), vs = [V.ref a] ∧ SqL K H a (L.map fun q => V.ref q.1) ∧ L ≠ [] ∧ (∀ q ∈ L, H q.1 = some (.tup (q.2.map V.int))) ∧ ∀ q ∈ L, Q (.ref q.1) H
theorem dpTs {K : PySem.W.Frag} {H : Hp} : ∀ {L : List (Addr × List Int)}, (∀ q ∈ L, H q.1 = some (.tup (q.2.map V.int))) → DpAll K H (L.map fun q => V.ref q.1) (L.map fun q => itup q.2)
  | [], _ => .nil
  | q :: L, h => .cons (.tup (.inl (.inl (h q List.mem_cons_self))) (dpAll_ints _)) (dpTs fun x hx => h x (List.mem_cons_of_mem _ hx))
theorem dep_ts : ∀ L : List (Addr × List Int), PyData.depthAll (L.map fun q => itup q.2) ≤ 1
  | [] => by simp [PyData.depthAll]
  | q :: L => by
    have h2 := dep_ts L
    rw [List.map_cons]
    show max (itup q.2).depth (PyData.depthAll (L.map fun q => itup q.2)) ≤ 1
    rw [itup_depth]
    omega
theorem alikeTs (L : List (Addr × List Int)) : AlikeAll (L.map fun q => itup q.2) := by
  refine ⟨fun x hx y hy => ?_, fun x hx => ?_⟩
  · obtain ⟨p, _, rfl⟩ := List.mem_map.mp hx
    obtain ⟨q, _, rfl⟩ := List.mem_map.mp hy
    exact itup_alike _ _
  · obtain ⟨p, _, rfl⟩ := List.mem_map.mp hx
    exact fun e => by cases e
theorem vals_at {vs : List V} {us : List Value} (r : Vals vs us) {i : Nat} {u : Value} (h : us[i]? = some u) : ∃ v, vs[i]? = some v ∧ RelV v u := by
  induction r generalizing i with
  | nil => simp at h
  | cons h1 _ ih =>
    cases i with
    | zero => exact ⟨_, rfl, by rw [← Option.some.inj h]; exact h1⟩
    | succ i => exact ih h
theorem cr_minT {X : Cx} (hc : X.calm = true) (hu : X.A.units + 64 < cLine) : CallR X (.builtin "min") (rMinT X.K) := by
  intro pins s σ H xs us Q I rx h
  obtain ⟨a, L, rfl, hs, hne, hT, q⟩ := h
  obtain ⟨its, rv, hl, _⟩ := I.list hs
  rw [Vals.ref1 rx]
  obtain ⟨as, hr⟩ := Dp.readsAll I _ _ its (dpTs hT) rv
  have hd := dep_ts L
  have hal := alikeTs L
  obtain ⟨p, L', rfl⟩ := List.exists_cons_of_ne_nil hne
  rw [List.map_cons] at hd hr hal
  refine min_list_data (I.ok.hd hc) hl.isList hr hal (by omega) fun i v h' tk bs hv _ hk => ?_
  obtain ⟨z, hz, rz⟩ := vals_at rv (show its[i]? = some v by simpa using hv)
  rw [List.getElem?_map] at hz
  cases hq : (p :: L')[i]? with
  | none => rw [hq] at hz; cases hz
  | some y =>
    rw [hq] at hz
    obtain rfl : V.ref y.1 = z := Option.some.inj hz
    exact ⟨_, H, I.kept hk, rz, q y (List.mem_of_getElem? hq)⟩
end Om

namespace Om
open PySem PySem.Spec PyProof.Rows L2 LamX
theorem nilArgs {σ : L2.St} {H : Hp} {Q : List V → Hp → Prop} (h : Q [] H) : tNil σ H Q := h
theorem noPart {σ : L2.St} {H : Hp} {Q : Option Int → Hp → Prop} (h : Q none H) : tNoPart σ H Q := h
theorem Same.updN {H H' : Hp} {D : Addr} {o : HO} (s : Same H H') (h : H D = none) : Same H (upd H' D o) := by
  intro b q hb
  rw [upd_ne (ne_of_none hb h)]
  exact s _ _ hb
theorem Same.none {H H' : Hp} {a : Addr} (s : Same H H') (h : H' a = none) : H a = none := by
  cases e : H a with
  | none => rfl
  | some o => rw [s _ _ e] at h; cases h
/-! ### cells of ints, land or not -/
abbrev IC := Int × Int
def icv (c : IC) : List V := [.int c.1, .int c.2]
def ick (c : IC) : List L2.Key := [.inl c.1, .inl c.2]
theorem ick_v (c : IC) : (ick c).map kV = icv c := rfl
theorem ick_inj {c d : IC} (h : ick c = ick d) : c = d := by
  unfold ick at h
  injection h with h1 h2
  injection h2 with h2 _
  exact Prod.ext (Sum.inl.inj h1) (Sum.inl.inj h2)
abbrev TI := List (Addr × IC)
def CI2 (H : Hp) (t : TI) : Prop := ∀ p ∈ t, H p.1 = some (.tup (icv p.2))
def vzI (t : TI) : List V := t.map fun p => V.ref p.1
def czI (t : TI) : List IC := t.map fun p => p.2
theorem CI2.same {H H' : Hp} {t : TI} (h : CI2 H t) (s : Same H H') : CI2 H' t := fun p hp => s _ _ (h p hp)
theorem vzI_len (t : TI) : (vzI t).length = t.length := List.length_map ..
theorem czI_len (t : TI) : (czI t).length = t.length := List.length_map ..
theorem vzI_app (t u : TI) : vzI (t ++ u) = vzI t ++ vzI u := List.map_append
theorem czI_app (t u : TI) : czI (t ++ u) = czI t ++ czI u := List.map_append
def rsL : List Int := [-1, 0, 1, 0]
def csL : List Int := [0, 1, 0, -1]
def adjI (c : IC) (f : Nat) : IC := (c.1 + rsL.getD f 0, c.2 + csL.getD f 0)
def adjL (c : IC) : List IC := (List.range 4).map (adjI c)
/-- a global name of a tuple of ints -/
structure TupF (K : PySem.W.Frag) (mg : Str → Option Value) (x : Str) (xs : List Int) : Prop where
  ex : ∃ p, mg x = some (.ref p) ∧ ∀ H, SqT K H p (xs.map V.int)
abbrev sNextC : Stmt := top 24
abbrev sBes : Stmt := top 25
def spNextC (K : PySem.W.Frag) : Sp := fun vs H Q _ => ∃ (a : Addr) (c : IC) (f : Nat), vs = [.ref a] ∧ SqT K H a [.int c.1, .int c.2, .int (f : Nat)] ∧ f < 4 ∧ ∀ p, H p = none → Q (.ref p) (upd H p (.tup (icv (adjI c f))))
def spBes (K : PySem.W.Frag) : Sp := fun vs H Q _ => ∃ (a : Addr) (c : IC), vs = [.ref a] ∧ SqT K H a (icv c) ∧ ∀ (D : Addr) (t : TI) (H' : Hp), Same H H' → H' D = some (.lst (vzI t)) → CI2 H' t → czI t = adjL c → Q (.ref D) H'
section
variable {P : Program} {w : World} {K : PySem.W.Frag} {mg : Str → Option Value} {base : Heap}
abbrev nNC : List Str := ["state", "row", "column", "facing"]
theorem scNC : FnScope nNC ["state"] (defScope sNextC) := ⟨rfl, rfl, rfl, by decide +kernel, rfl, by decide +kernel, by decide +kernel⟩
theorem ok_nextC {f : Addr} {fd : FuncData} (F : FnP K "next_cell" "next_cell" sNextC f fd) (gr : TupF K mg "ROW_STEPS" rsL) (gc : TupF K mg "COLUMN_STEPS" csL) : FnOk P w K mg base CX0 1 f fd ["state"] (spNextC K) := by
  obtain ⟨pr, gr, hrs⟩ := gr.ex
  obtain ⟨pc, gc, hcs⟩ := gc.ex
  refine F.ok scNC (fun vs H Q E h => ?_) (fun cdv A outer s H vs Q E hr h => ?_)
  · obtain ⟨a, c, f, rfl, _⟩ := h
    rfl
  · obtain ⟨a, c, f, rfl, hS, hf, k⟩ := h
    have nd := scNC.nd
    refine ⟨_, PSs.nox (pss_cons (ps_asg (pv 0) (pg_tup rfl (pgs_cons (pg_name (i := 1) nd rfl (.inl rfl)) (pgs_cons (pg_name (i := 2) nd rfl (.inl rfl)) (pgs_cons (pg_name (i := 3) nd rfl (.inl rfl)) pgs_nil)))))
      (pss_one (ps_ret (pe_tup (pa_cons (pe_op op_add (pv 1) (pe_ix ix_tup (pe_glob (v := .ref pr) rfl gr rfl) (pv 3) (fun _ _ => rfl))) (pa_cons (pe_op op_add (pv 2) (pe_ix ix_tup (pe_glob (v := .ref pc) rfl gc rfl) (pv 3) (fun _ _ => rfl))) pa_nil)))))), ?_⟩
    refine ⟨_, rfl, a, _, rfl, hS, rfl, _, _, rfl, _, _, rfl, _, _, rfl, rfl, ?_⟩
    have ar : atI (rsL.map V.int) ((f : Nat) : Int) = some (.int (rsL.getD f 0)) := by
      refine atI_nat ?_
      rw [List.getElem?_map, List.getD_eq_getElem?_getD, List.getElem?_eq_getElem (show f < rsL.length from hf)]
      rfl
    have ac : atI (csL.map V.int) ((f : Nat) : Int) = some (.int (csL.getD f 0)) := by
      refine atI_nat ?_
      rw [List.getElem?_map, List.getD_eq_getElem?_getD, List.getElem?_eq_getElem (show f < csL.length from hf)]
      rfl
    refine ⟨_, rfl, _, rfl, pr, _, _, _, rfl, rfl, hrs H, ar, _, _, rfl, rfl, ?_⟩
    refine ⟨_, rfl, _, rfl, pc, _, _, _, rfl, rfl, hcs H, ac, _, _, rfl, rfl, ?_⟩
    exact ⟨by show 2 ≤ sizeLine; decide, fun p hp => k p hp⟩
abbrev nBe : List Str := ["cell", "row", "column", "facing"]
theorem scBe : FnScope nBe ["cell"] (defScope sBes) := ⟨rfl, rfl, rfl, by decide +kernel, rfl, by decide +kernel, by decide +kernel⟩
def beLc : Expr := retExpr ((defBody sBes).getD 1 noS)
theorem blkBe : BlkOk nBe (defScope sBes) (lcScope beLc) [("facing", 3)] := blkOk_by (by decide +kernel)
theorem ok_bes {f : Addr} {fd : FuncData} (F : FnP K "cells_beside" "cells_beside" sBes f fd) (NC : Cal P w K mg base CX0 1 "next_cell" ["state"] (spNextC K)) (gr : TupF K mg "ROW_STEPS" rsL) (grange : mg "range" = none) (glen : mg "len" = none) : FnOk P w K mg base CX0 2 f fd ["cell"] (spBes K) := by
  obtain ⟨pr, gr, hrs⟩ := gr.ex
  refine F.ok scBe (fun vs H Q E h => ?_) (fun cdv A outer s H vs Q E hr h => ?_)
  · obtain ⟨a, c, rfl, _⟩ := h
    rfl
  · obtain ⟨a, c, rfl, hS, k⟩ := h
    have nd := scBe.nd
    refine ⟨_, PSs.nox (pss_cons (ps_asg (pv 0) (pg_tup rfl (pgs_cons (pg_name (i := 1) nd rfl (.inr rfl)) (pgs_cons (pg_name (i := 2) nd rfl (.inr rfl)) pgs_nil))))
      (pss_one (ps_ret (pe_lc (own := [("facing", 3)]) (g := gName 3) rfl nd (pi_range1 rfl grange (pa_cons (pe_callB call_len_seq (by rfl) glen PySem.boot_len (pa_cons (pe_glob (v := .ref pr) rfl gr rfl) pa_nil)) pa_nil)) blkBe (fun _ _ _ _ _ => pg_name (i := 3) nd rfl (.inl rfl)) (fun _ _ _ _ _ => pts_nil)
        (fun _ _ _ _ _ => pe_cal NC hr pass0 (pa_cons (pe_tup (pa_cons (pv 1) (pa_cons (pv 2) (pa_cons (pv 3) pa_nil)))) pa_nil)))))), ?_⟩
    refine ⟨_, rfl, a, _, rfl, hS, rfl, _, _, rfl, _, _, rfl, rfl, ?_⟩
    refine ⟨pr, _, rfl, .inr (hrs H), 4, rfl, by decide, by decide, fun D hD => ?_⟩
    refine lc_range (lo := 0) (n := (4 : Int).toNat) (fun i H1 => ∃ t : TI, H1 D = some (.lst (vzI t)) ∧ CI2 H1 t ∧ czI t = (adjL c).take i ∧ Same H H1) ⟨[], upd_same, (fun p hp => by cases hp), by rw [List.take_zero]; rfl, Same.new (Same.refl H) hD⟩ ?_ ?_
    · rintro i H1 hi ⟨t, t1, t2, t3, s1⟩
      have hi4 : i < 4 := hi
      refine ⟨rfl, tyes ?_⟩
      refine ⟨_, rfl, _, rfl, _, rfl, by show 3 ≤ sizeLine; decide, fun q hq => nilArgs ?_⟩
      have s2 := Same.new (Same.refl H1) hq (o := .tup [.int c.1, .int c.2, .int (0 + (i : Int))])
      have hq2 : (upd H1 q (.tup [.int c.1, .int c.2, .int (0 + (i : Int))])) q = some (.tup [.int c.1, .int c.2, .int ((i : Nat) : Int)]) := by rw [upd_same, Int.zero_add]
      refine ⟨q, c, i, rfl, .inl (.inl hq2), hi4, fun p hp => ?_⟩
      have s3 := Same.new (Same.refl _) hp (o := .tup (icv (adjI c i)))
      have s13 := s2.trans s3
      have t1' := s13 _ _ t1
      have lt : t.length ≤ 4 := by
        have := congrArg List.length t3
        rw [czI_len, List.length_take] at this
        omega
      have nDp : D ≠ p := fun e => by
        have := s2 _ _ t1
        rw [e, hp] at this
        cases this
      refine ⟨vzI t, t1', Nat.lt_of_le_of_lt (show _ ≤ 100 by rw [vzI_len]; omega) (by decide), t ++ [(p, adjI c i)], by rw [upd_same, vzI_app]; rfl, fun x hx => ?_, ?_, Same.updN (s1.trans s13) hD⟩
      · have hx2 : (upd (upd H1 q (.tup [.int c.1, .int c.2, .int (0 + (i : Int))])) p (.tup (icv (adjI c i)))) x.1 = some (.tup (icv x.2)) := by
          rcases List.mem_append.mp hx with h | h
          · exact s13 _ _ (t2 x h)
          · rw [List.mem_singleton.mp h]
            exact upd_same
        rw [upd_ne (ne_of hx2 t1' fun e => by cases e)]
        exact hx2
      · have ea : (adjL c)[i]? = some (adjI c i) := by
          unfold adjL
          rw [List.getElem?_map, List.getElem?_range hi4]
          rfl
        rw [czI_app, t3, List.take_succ, ea]
        rfl
    · rintro H1 ⟨t, t1, t2, t3, s1⟩
      have e4 : (adjL c).take (4 : Int).toNat = adjL c := List.take_of_length_le (by unfold adjL; rw [List.length_map, List.length_range]; decide)
      rw [e4] at t3
      exact k D t H1 s1 t1 t2 t3
end
end Om

namespace Om
open PySem PySem.Spec PyProof.Rows L2 LamX
/-! ### dicts by cells -/
def dkv (kvs : List (IC × Nat)) : List (List L2.Key × V) := kvs.map fun x => (ick x.1, V.int ((x.2 : Nat) : Int))
def lkv (ls : List IC) : List (List L2.Key × V) := ls.map fun c => (ick c, V.bl true)
theorem dkv_len (kvs : List (IC × Nat)) : (dkv kvs).length = kvs.length := List.length_map ..
theorem lkv_len (ls : List IC) : (lkv ls).length = ls.length := List.length_map ..
theorem dkv_some {kvs : List (IC × Nat)} (nd : (kvs.map (·.1)).Nodup) {c : IC} {n : Nat} (h : (c, n) ∈ kvs) : valV (dkv kvs) (ick c) = some (V.int ((n : Nat) : Int)) := by
  unfold valV dkv
  induction kvs with
  | nil => exact absurd h (by simp)
  | cons x r ih =>
    obtain ⟨n1, n2⟩ := List.nodup_cons.mp nd
    rw [List.map_cons, List.find?_cons]
    by_cases e : x.1 = c
    · have : decide (ick x.1 = ick c) = true := decide_eq_true (by rw [e])
      rw [this]
      rcases List.mem_cons.mp h with h | h
      · rw [← h]; rfl
      · exact absurd (List.mem_map.mpr ⟨_, h, e.symm⟩) n1
    · have : decide (ick x.1 = ick c) = false := decide_eq_false fun z => e (ick_inj z)
      rw [this]
      rcases List.mem_cons.mp h with h | h
      · exact absurd (by rw [← h]) e
      · exact ih n2 h
theorem dkv_none {kvs : List (IC × Nat)} {c : IC} (h : c ∉ kvs.map (·.1)) : valV (dkv kvs) (ick c) = none := by
  unfold valV dkv
  rw [List.find?_eq_none.mpr fun x hx => ?_]
  · rfl
  · obtain ⟨y, hy, rfl⟩ := List.mem_map.mp hx
    have : y.1 ≠ c := fun e => h (List.mem_map.mpr ⟨y, hy, e⟩)
    simpa using fun z => this (ick_inj z)
theorem dkv_put {kvs : List (IC × Nat)} {c : IC} {n : Nat} (h : c ∉ kvs.map (·.1)) : putK (dkv kvs) (ick c) (V.int ((n : Nat) : Int)) = dkv (kvs ++ [(c, n)]) := by
  unfold putK dkv
  rw [if_neg, List.map_append]
  · rfl
  · rw [List.any_eq_true]
    rintro ⟨x, hx, e⟩
    obtain ⟨y, hy, rfl⟩ := List.mem_map.mp hx
    exact h (List.mem_map.mpr ⟨y, hy, ick_inj (of_decide_eq_true e)⟩)
theorem lkv_val (ls : List IC) (c : IC) : valV (lkv ls) (ick c) = if c ∈ ls then some (V.bl true) else none := by
  unfold valV lkv
  induction ls with
  | nil => rfl
  | cons x r ih =>
    rw [List.map_cons, List.find?_cons]
    by_cases e : x = c
    · have : decide (ick x = ick c) = true := decide_eq_true (by rw [e])
      rw [this, if_pos (by rw [e]; exact List.mem_cons_self)]
      rfl
    · have : decide (ick x = ick c) = false := decide_eq_false fun z => e (ick_inj z)
      rw [this]
      show Option.map _ (List.find? _ (r.map fun c => (ick c, V.bl true))) = _
      rw [ih]
      by_cases h : c ∈ r
      · rw [if_pos h, if_pos (List.mem_cons_of_mem _ h)]
      · rw [if_neg h, if_neg fun z => (List.mem_cons.mp z).elim (fun z => e z.symm) h]
theorem lkv_put (ls : List IC) (c : IC) : putK (lkv ls) (ick c) (V.bl true) = lkv (if c ∈ ls then ls else ls ++ [c]) := by
  unfold putK lkv
  by_cases h : c ∈ ls
  · rw [if_pos, if_pos h, List.map_map]
    · refine List.map_congr_left fun x _ => ?_
      show (if ick x = ick c then (ick x, V.bl true) else (ick x, V.bl true)) = _
      split <;> rfl
    · rw [List.any_eq_true]
      exact ⟨_, List.mem_map.mpr ⟨c, h, rfl⟩, decide_eq_true rfl⟩
  · rw [if_neg, if_neg h, List.map_append]
    · rfl
    · rw [List.any_eq_true]
      rintro ⟨x, hx, e⟩
      obtain ⟨y, hy, rfl⟩ := List.mem_map.mp hx
      rw [ick_inj (of_decide_eq_true e)] at hy
      exact h hy
/-! ### the fewest paces, level by level -/
structure Bfs (L : List IC) (b : IC) (kvs : List (IC × Nat)) (E : List IC) (n : Nat) : Prop where
  nd : (kvs.map (·.1)).Nodup
  b0 : (b, 0) ∈ kvs
  zero : ∀ c, (c, 0) ∈ kvs → c = b
  lnd : ∀ c m, (c, m) ∈ kvs → c = b ∨ c ∈ L
  prev : ∀ c m, (c, m + 1) ∈ kvs → ∃ c', (c', m) ∈ kvs ∧ c ∈ adjL c'
  edge : ∀ c, c ∈ E ↔ (c, n) ∈ kvs
  top : ∀ c m, (c, m) ∈ kvs → m ≤ n
  clo : ∀ c m, (c, m) ∈ kvs → m < n → ∀ d ∈ adjL c, d ∈ L → ∃ m', (d, m') ∈ kvs ∧ m' ≤ m + 1
/-- what paces_from returns -/
structure Pc (L : List IC) (b : IC) (kvs : List (IC × Nat)) : Prop where
  nd : (kvs.map (·.1)).Nodup
  b0 : (b, 0) ∈ kvs
  zero : ∀ c, (c, 0) ∈ kvs → c = b
  lnd : ∀ c m, (c, m) ∈ kvs → c = b ∨ c ∈ L
  prev : ∀ c m, (c, m + 1) ∈ kvs → ∃ c', (c', m) ∈ kvs ∧ c ∈ adjL c'
  clo : ∀ c m, (c, m) ∈ kvs → ∀ d ∈ adjL c, d ∈ L → ∃ m', (d, m') ∈ kvs ∧ m' ≤ m + 1
theorem Bfs.start (L : List IC) (b : IC) : Bfs L b [(b, 0)] [b] 0 where
  nd := by simp
  b0 := List.mem_cons_self
  zero := fun c h => by simpa using h
  lnd := fun c m h => by
    have : (c, m) = (b, 0) := List.mem_singleton.mp h
    exact .inl (Prod.mk.inj this).1
  prev := fun c m h => by
    have : (c, m + 1) = (b, 0) := List.mem_singleton.mp h
    exact absurd (Prod.mk.inj this).2 (by omega)
  edge := fun c => by simp
  top := fun c m h => by
    have : (c, m) = (b, 0) := List.mem_singleton.mp h
    rw [(Prod.mk.inj this).2]
    exact Nat.le_refl _
  clo := fun c m _ h => absurd h (Nat.not_lt_zero _)
theorem Bfs.next {L : List IC} {b : IC} {kvs : List (IC × Nat)} {E E' : List IC} {n : Nat} (B : Bfs L b kvs E n) (nd : E'.Nodup) (hE : ∀ d, d ∈ E' ↔ (∃ c ∈ E, d ∈ adjL c) ∧ d ∈ L ∧ d ∉ kvs.map (·.1)) : Bfs L b (kvs ++ E'.map fun d => (d, n + 1)) E' (n + 1) := by
  have mem : ∀ c m, (c, m) ∈ kvs ++ E'.map (fun d => (d, n + 1)) ↔ (c, m) ∈ kvs ∨ (c ∈ E' ∧ m = n + 1) := fun c m => by
    rw [List.mem_append]
    refine or_congr Iff.rfl ⟨fun h => ?_, fun ⟨h, e⟩ => List.mem_map.mpr ⟨c, h, by rw [e]⟩⟩
    obtain ⟨d, hd, e⟩ := List.mem_map.mp h
    obtain ⟨e1, e2⟩ := Prod.mk.inj e
    exact ⟨e1 ▸ hd, e2.symm⟩
  refine ⟨?_, (mem _ _).mpr (.inl B.b0), fun c h => ?_, fun c m h => ?_, fun c m h => ?_, fun c => ?_, fun c m h => ?_, fun c m h hm d hd hL => ?_⟩
  · rw [List.map_append, List.map_map, List.nodup_append]
    refine ⟨B.nd, ?_, fun x hx y hy e => ?_⟩
    · have : (E'.map ((fun x : IC × Nat => x.1) ∘ fun d => (d, n + 1))) = E' := by
        rw [show ((fun x : IC × Nat => x.1) ∘ fun d => (d, n + 1)) = id from rfl, List.map_id]
      rw [this]
      exact nd
    · obtain ⟨d, hd, rfl⟩ := List.mem_map.mp hy
      exact ((hE d).mp hd).2.2 (by rw [← (show x = d from e)]; exact hx)
  · rcases (mem _ _).mp h with h | ⟨_, h⟩
    · exact B.zero c h
    · omega
  · rcases (mem _ _).mp h with h | ⟨h, _⟩
    · exact B.lnd c m h
    · exact .inr ((hE c).mp h).2.1
  · rcases (mem _ _).mp h with h | ⟨h, e⟩
    · obtain ⟨c', h1, h2⟩ := B.prev c m h
      exact ⟨c', (mem _ _).mpr (.inl h1), h2⟩
    · obtain ⟨⟨c', h1, h2⟩, _⟩ := (hE c).mp h
      have : m = n := by omega
      exact ⟨c', (mem _ _).mpr (.inl (by rw [this]; exact (B.edge c').mp h1)), h2⟩
  · constructor
    · exact fun h => (mem _ _).mpr (.inr ⟨h, rfl⟩)
    · intro h
      rcases (mem _ _).mp h with h | ⟨h, _⟩
      · exact absurd (B.top c _ h) (by omega)
      · exact h
  · rcases (mem _ _).mp h with h | ⟨_, e⟩
    · exact Nat.le_succ_of_le (B.top c m h)
    · omega
  · rcases (mem _ _).mp h with h | ⟨_, e⟩
    · by_cases h2 : m < n
      · obtain ⟨m', h3, h4⟩ := B.clo c m h h2 d hd hL
        exact ⟨m', (mem _ _).mpr (.inl h3), h4⟩
      · have e : m = n := by omega
        rw [e] at h
        by_cases hk : d ∈ kvs.map (·.1)
        · obtain ⟨⟨d', m'⟩, h3, e3⟩ := List.mem_map.mp hk
          have e3 : d' = d := e3
          subst e3
          exact ⟨m', (mem _ _).mpr (.inl h3), by have := B.top d' m' h3; omega⟩
        · exact ⟨n + 1, (mem _ _).mpr (.inr ⟨(hE d).mpr ⟨⟨c, (B.edge c).mpr h, hd⟩, hL, hk⟩, rfl⟩), by omega⟩
    · omega
theorem Bfs.done {L : List IC} {b : IC} {kvs : List (IC × Nat)} {n : Nat} (B : Bfs L b kvs [] n) : Pc L b kvs :=
  ⟨B.nd, B.b0, B.zero, B.lnd, B.prev, fun c m h => B.clo c m h (by
    have h1 := B.top c m h
    have h2 : m ≠ n := fun e => absurd ((B.edge c).mpr (by rw [← e]; exact h)) (by simp)
    omega)⟩
theorem nodup_le {α : Type} [DecidableEq α] : ∀ (l D : List α), l.Nodup → (∀ x ∈ l, x ∈ D) → l.length ≤ D.length
  | [], _, _, _ => Nat.zero_le _
  | x :: l, D, hn, hs => by
    obtain ⟨h1, h2⟩ := List.nodup_cons.mp hn
    have hx : x ∈ D := hs x List.mem_cons_self
    have h3 := nodup_le l (D.erase x) h2 fun y hy => (List.mem_erase_of_ne fun e => h1 (by rw [← e]; exact hy)).mpr (hs y (List.mem_cons_of_mem _ hy))
    rw [List.length_erase_of_mem hx] at h3
    have := List.length_pos_of_mem hx
    rw [List.length_cons]
    omega
theorem Bfs.len {L : List IC} {b : IC} {kvs : List (IC × Nat)} {E : List IC} {n : Nat} (B : Bfs L b kvs E n) : kvs.length ≤ L.length + 1 := by
  have h := nodup_le (kvs.map (·.1)) (b :: L) B.nd fun x hx => by
    obtain ⟨⟨c, m⟩, h1, rfl⟩ := List.mem_map.mp hx
    rcases B.lnd c m h1 with h | h
    · exact List.mem_cons.mpr (.inl h)
    · exact List.mem_cons_of_mem _ h
  rw [List.length_map, List.length_cons] at h
  exact h
end Om

namespace Om
open PySem PySem.Spec PyProof.Rows L2 LamX
theorem wlk_it {J : It} {n : Nat} {G : Hp → Prop} {Y : Nat → Hp → V → Hp → Prop} (wk : Walk J n G Y) {Fin : Hp → Prop} {Act : V → Hp → (Hp → Prop) → Prop} {H0 : Hp} (Pv : Nat → Hp → Prop) (h0 : Pv 0 H0) (hG : ∀ i H, i ≤ n → Pv i H → G H)
    (hs : ∀ i x H H', i < n → Pv i H → Y i H x H' → Act x H' (Pv (i + 1))) (hd : ∀ H, Pv n H → Fin H) : ∃ W : Nat → Nat → Hp → Prop, (∃ m, W 0 m H0) ∧ Wlk J W Fin Act := by
  refine ⟨fun i m H => m = n - i ∧ i ≤ n ∧ Pv i H, ⟨n, by simp, Nat.zero_le _, h0⟩, ?_⟩
  rintro i m H ⟨rfl, hi, p⟩
  have q := hG i H hi p
  by_cases hlt : i < n
  · exact .inr ⟨wk.goes i H hlt q, Pv (i + 1), fun H' p' => ⟨n - (i + 1), by omega, rfl, hlt, p'⟩, fun x H' y => hs i x H H' hlt p (wk.yields i H x H' hlt q y)⟩
  · have e : i = n := by omega
    subst e
    exact .inl ⟨wk.stops H q, hd H p⟩
theorem pi_listK {X : Cx} {K : PySem.W.Frag} {tg l : Expr} {tl : TE} (hK : X.K = K) (h : PE X l tl) : PI X tg l (iList K tl) := by
  subst hK
  exact pi_list h
def icl (c : IC) : List Int := [c.1, c.2]
theorem icl_v (c : IC) : (icl c).map V.int = icv c := rfl
theorem icl_inj {c d : IC} (h : icl c = icl d) : c = d := by
  unfold icl at h
  injection h with h1 h2
  injection h2 with h2 _
  exact Prod.ext h1 h2
/-! ### a set of cells at D -/
structure SI (P : Program) (w : World) (H : Hp) (D : Addr) (L : List (Addr × List Int)) (acc : List IC) : Prop where
  at_ : H D = some (SetTO P w D L)
  nd : (L.map (·.2)).Nodup
  tup : ∀ q ∈ L, H q.1 = some (.tup (q.2.map V.int))
  mem : ∀ k, k ∈ L.map (·.2) ↔ k ∈ acc.map icl
theorem SI.same {P : Program} {w : World} {H H' : Hp} {D : Addr} {L : List (Addr × List Int)} {acc : List IC} (S : SI P w H D L acc) (s : Same H H') : SI P w H' D L acc := ⟨s _ _ S.at_, S.nd, fun q hq => s _ _ (S.tup q hq), S.mem⟩
theorem SI.put {P : Program} {w : World} {H : Hp} {D b : Addr} {L L' : List (Addr × List Int)} {acc : List IC} {c : IC} (S : SI P w H D L acc) (hb : H b = some (.tup (icv c))) (c1 : icl c ∈ L.map (·.2) → L' = L) (c2 : icl c ∉ L.map (·.2) → L'.Perm ((b, icl c) :: L)) :
    SI P w (upd H D (SetTO P w D L')) D L' (acc ++ [c]) := by
  have ne : ∀ {a : Addr} {xs : List V}, H a = some (.tup xs) → a ≠ D := fun h e => by rw [e, S.at_] at h; cases h
  have memA : ∀ k, k ∈ (acc ++ [c]).map icl ↔ k ∈ acc.map icl ∨ k = icl c := fun k => by
    rw [List.map_append, List.mem_append]
    exact or_congr Iff.rfl (by simp)
  by_cases h : icl c ∈ L.map (·.2)
  · rw [c1 h]
    refine ⟨upd_same, S.nd, fun q hq => by rw [upd_ne (ne (S.tup q hq))]; exact S.tup q hq, fun k => ?_⟩
    rw [memA, S.mem]
    exact ⟨.inl, fun z => z.elim id fun e => by rw [e]; exact (S.mem _).mp h⟩
  · have p := c2 h
    refine ⟨upd_same, ((p.map (·.2)).nodup_iff).mpr (List.nodup_cons.mpr ⟨h, S.nd⟩), fun q hq => ?_, fun k => ?_⟩
    · have hq2 : H q.1 = some (.tup (q.2.map V.int)) := by
        rcases List.mem_cons.mp (p.mem_iff.mp hq) with e | e
        · rw [e]; exact hb
        · exact S.tup q e
      rw [upd_ne (ne hq2)]
      exact hq2
    · rw [memA, (p.map (·.2)).mem_iff, List.map_cons, List.mem_cons, S.mem]
      exact or_comm
theorem ti_of {H : Hp} : ∀ {L : List (Addr × List Int)}, (∀ q ∈ L, ∃ c, q.2 = icl c ∧ H q.1 = some (.tup (icv c))) → ∃ t : TI, L = t.map (fun p => (p.1, icl p.2)) ∧ CI2 H t
  | [], _ => ⟨[], rfl, fun p hp => by cases hp⟩
  | q :: L, h => by
    obtain ⟨t, e, ht⟩ := ti_of fun x hx => h x (List.mem_cons_of_mem _ hx)
    obtain ⟨c, e1, e2⟩ := h q List.mem_cons_self
    refine ⟨(q.1, c) :: t, by rw [e, List.map_cons, ← e1], fun p hp => ?_⟩
    rcases List.mem_cons.mp hp with rfl | hp
    · exact e2
    · exact ht p hp
def But2 (d : Addr) (H H' : Hp) : Prop := ∀ c o, H c = some o → c ≠ d → H' c = some o
abbrev sPF : Stmt := top 29
def spPF (K : PySem.W.Frag) : Sp := fun vs H Q _ => ∃ (la ba : Addr) (tl : TI) (b : IC), vs = [.ref la, .ref ba] ∧ SqL K H la (vzI tl) ∧ CI2 H tl ∧ tl.length ≤ 62 ∧ H ba = some (.tup (icv b)) ∧
  ∀ (D : Addr) (kvs : List (IC × Nat)) (H' : Hp), H D = none → Same H H' → H' D = some (.dT (dkv kvs)) → Pc (czI tl) b kvs → Q (.ref D) H'
section
variable {P : Program} {w : World} {K : PySem.W.Frag} {mg : Str → Option Value} {base : Heap}
abbrev nPF : List Str := ["cells", "begin", "cell", "land", "paces", "edge", "number", "one"]
theorem scPF : FnScope nPF ["cells", "begin"] (defScope sPF) := ⟨rfl, rfl, rfl, by decide +kernel, rfl, by decide +kernel, by decide +kernel⟩
def dcS (e : Expr) : Scope := match e with
  | .DictComp _ _ _ s _ => s
  | .SetComp _ _ s _ => s
  | _ => defScope sPF
def whB (s : Stmt) : List Stmt := match s with
  | .While _ b _ _ => b
  | _ => []
def pfD : Expr := asgExpr ((defBody sPF).getD 0 noS)
def pfS : Expr := arg0 (asgExpr ((whB ((defBody sPF).getD 3 noS)).getD 1 noS))
theorem blkPF1 : BlkOk nPF (defScope sPF) (dcS pfD) [("cell", 2)] := blkOk_by (by decide +kernel)
theorem blkPF2 : BlkOk nPF (defScope sPF) (dcS pfS) [("one", 7), ("cell", 2)] := blkOk_by (by decide +kernel)
theorem ok_pf {f : Addr} {fd : FuncData} (F : FnP K "paces_from" "paces_from" sPF f fd) (BS : Cal P w K mg base CX0 2 "cells_beside" ["cell"] (spBes K)) (glen : mg "len" = none) (gsorted : mg "sorted" = none) : FnOk P w K mg base CX0 3 f fd ["cells", "begin"] (spPF K) := by
  refine F.ok scPF (fun vs H Q E h => ?_) (fun cdv A outer s H vs Q E hr h => ?_)
  · obtain ⟨la, ba, tl, b, rfl, _⟩ := h
    rfl
  · obtain ⟨la, ba, tl, b, rfl, hL, hC, hl, hb, k⟩ := h
    have nd := scPF.nd
    have hu := hr.units
    have hu3 : _ + 3 < cLine := Nat.lt_of_le_of_lt (Nat.add_le_add_left (show 3 ≤ 64 by decide) _) hu
    have hu1 : _ + 1 < cLine := Nat.lt_of_le_of_lt (Nat.add_le_add_left (show 1 ≤ 64 by decide) _) hu
    refine ⟨_, PSs.nox (pss_cons (ps_set (i := 3) nd rfl (.inr rfl) (pe_dcT (own := [("cell", 2)]) (g := gName 2) rfl hu3 nd (pi_list (pv 0)) blkPF1 (fun _ _ _ _ _ => pg_name (i := 2) nd rfl (.inl rfl)) (fun _ _ _ _ _ => pts_nil) (fun _ _ _ _ _ => pv 2) (fun _ _ _ _ _ => pe_bl)))
      (pss_cons (ps_set (i := 4) nd rfl (.inr rfl) (pe_disp1T hu1 (pv 1) pe_int))
      (pss_cons (ps_set (i := 5) nd rfl (.inl rfl) (pe_lst (pa_cons (pv 1) pa_nil)))
      (pss_cons (ps_while PassesOwn.never (pt_cmpR op_gt (pe_callB call_len_seq (by rfl) glen PySem.boot_len (pa_cons (pv 5) pa_nil)) pe_int (nomark _))
        (pss_cons (ps_set (i := 6) nd rfl (.inl rfl) (pe_op op_add (pe_dget hu1 (pv 4) (pe_ix ix_list (pv 5) pe_int (fun _ _ => rfl)) (fun _ _ => rfl)) pe_int))
        (pss_cons (ps_set (i := 5) nd rfl (.inl rfl) (pe_callB (cr_sortSet rfl hu) (by rfl) gsorted (by decide +kernel) (pa_cons (pe_sc2 (own := [("one", 7), ("cell", 2)]) (vs1 := [2]) (g := gName 7) (g1 := gName 2) rfl hu3 nd (pi_list (pv 5)) blkPF2 (by decide)
            (fun _ _ _ _ _ => pg_name (i := 7) nd rfl (.inl rfl)) (fun _ _ _ _ _ => pts_nil) (fun _ _ _ _ _ => pi_listK (K := K) rfl (pe_cal BS hr pass0 (pa_cons (pv 7) pa_nil))) (fun _ _ _ _ _ => pg_name (i := 2) nd rfl (.inl rfl))
            (fun _ _ _ _ _ => pts_one (PW.pt (pw_and (pt_cmp (pc_din hu1 (pv 2) (pv 3)) (by with_unfolding_all rfl)) (pw_and1 (pt_cmp (pc_dnotin hu1 (pv 2) (pv 4)) (by with_unfolding_all rfl)))))) (fun _ _ _ _ _ => pv 2)) pa_nil)))
        (pss_one (ps_for PassesOwn.never rfl (pi_list (pv 5)) (pg_name (i := 2) nd rfl (.inl rfl)) (pss_one (ps_dput hu1 (pv 4) (pv 2) (pv 6) rfl)))))))
      (pss_one (ps_ret (pv 4))))))), ?_⟩
    -- the land
    refine ⟨_, rfl, la, rfl, ⟨_, hL⟩, fun dl hdl => ?_⟩
    refine wlk_it (walk_list (K := K) (a := la) (xs := vzI tl)) (fun i H1 => Same H H1 ∧ ∃ ls : List IC, H1 dl = some (.dT (lkv ls)) ∧ ls.length ≤ i ∧ ∀ c, c ∈ ls ↔ c ∈ (czI tl).take i) ⟨Same.new (Same.refl H) hdl, [], upd_same, Nat.le_refl _, fun c => by rw [List.take_zero]⟩ (fun i H1 _ q => Same.lst q.1 hL) ?_ ?_
    · rintro i x H1 H1' hi ⟨s1, ls, h1, hln, hm⟩ ⟨rfl, hx⟩
      rw [vzI_len] at hi
      have hxe : x = .ref tl[i].1 := by
        unfold vzI at hx
        rw [List.getElem?_map, List.getElem?_eq_getElem hi] at hx
        exact (Option.some.inj hx).symm
      subst hxe
      have hmem : tl[i] ∈ tl := List.getElem_mem hi
      have et : (czI tl).take (i + 1) = (czI tl).take i ++ [tl[i].2] := by
        rw [List.take_succ]
        unfold czI
        rw [List.getElem?_map, List.getElem?_eq_getElem hi]
        rfl
      refine ⟨rfl, tyes ?_⟩
      refine ⟨_, rfl, tl[i].1, lkv ls, ick tl[i].2, rfl, s1 _ _ (hC _ hmem), h1, Nat.lt_of_le_of_lt (show _ ≤ 100 by rw [lkv_len]; omega) (by decide), Same.updN s1 hdl, _, by rw [upd_same, lkv_put], ?_, fun c => ?_⟩
      · split
        · omega
        · rw [List.length_append, List.length_singleton]; omega
      · rw [et, List.mem_append, ← hm]
        by_cases h : tl[i].2 ∈ ls
        · rw [if_pos h]
          exact ⟨.inl, fun z => z.elim id fun z => by rw [List.mem_singleton.mp z]; exact h⟩
        · rw [if_neg h, List.mem_append]
    · rintro H1 ⟨s1, ls, h1, hln, hm⟩
      rw [vzI_len, ← czI_len, List.take_length] at hm
      -- the paces, the edge
      refine fun dp hdp => ?_
      have sp := Same.new (Same.refl H1) hdp (o := .dT [])
      refine ⟨_, rfl, ba, ick b, rfl, sp _ _ (s1 _ _ hb), upd_same, ?_⟩
      refine ⟨_, rfl, by show 1 ≤ sizeLine; decide, fun ea hea => ?_⟩
      have eq2 : upd (upd H1 dp (.dT [])) dp (.dT [(ick b, .int 0)]) = upd H1 dp (.dT (dkv [(b, 0)])) := by
        funext x
        by_cases e : x = dp
        · rw [e, upd_same, upd_same]; rfl
        · rw [upd_ne e, upd_ne e, upd_ne e]
      rw [eq2] at hea ⊢
      have s2 : Same H (upd H1 dp (.dT (dkv [(b, 0)]))) := s1.trans (Same.new (Same.refl H1) hdp)
      have hdp2 : (upd H1 dp (.dT (dkv [(b, 0)]))) dp = some (.dT (dkv [(b, 0)])) := upd_same
      have hdl2 : (upd H1 dp (.dT (dkv [(b, 0)]))) dl = some (.dT (lkv ls)) := (Same.new (Same.refl H1) hdp) _ _ h1
      have pdp : H dp = none := Same.none s1 hdp
      have ndl : dl ≠ dp := fun e => by rw [e, hdp] at h1; cases h1
      generalize upd H1 dp (.dT (dkv [(b, 0)])) = H2 at hea s2 hdp2 hdl2 ⊢
      have s3 := Same.new (Same.refl H2) hea (o := .lst [.ref ba])
      refine ⟨fun m σ H3 => ∃ (ea : Addr) (te : TI) (kvs : List (IC × Nat)) (n : Nat) (v2 v6 : Option V), σ = [some (.ref la), some (.ref ba), v2, some (.ref dl), some (.ref dp), some (.ref ea), v6, none] ∧ Same H H3 ∧ H3 dl = some (.dT (lkv ls)) ∧ H3 dp = some (.dT (dkv kvs)) ∧ H3 ea = some (.lst (vzI te)) ∧ CI2 H3 te ∧
          Bfs (czI tl) b kvs (czI te) n ∧ (czI te).Nodup ∧ ((te ≠ [] ∧ m = tl.length + 2 - kvs.length) ∨ (te = [] ∧ m = 0)),
        ⟨_, ea, [(ba, b)], [(b, 0)], 0, _, _, rfl, s2.trans s3, s3 _ _ hdl2, s3 _ _ hdp2, upd_same, (fun p hp => by
          rw [List.mem_singleton.mp hp]
          exact (s2.trans s3) _ _ hb), Bfs.start _ _, by simp [czI], .inl ⟨by simp, rfl⟩⟩, ?_⟩
      clear s3 hea hdp2 hdl2 s2 sp eq2 h1 s1 hdp
      rintro m σ H3 ⟨ea, te, kvs, n, v2, v6, rfl, s3, hdl3, hdp3, hea3, hte3, B, hEn, hmm⟩
      have hkl := B.len
      rw [czI_len] at hkl
      have hnd := B.nd
      refine ⟨_, rfl, ea, _, rfl, .inl (.inl (.inl hea3)), _, _, rfl, rfl, _, rfl, ?_⟩
      rcases hmm with ⟨hne, hm2⟩ | ⟨hnil, hm2⟩
      · obtain ⟨e0, er, hte⟩ := List.exists_cons_of_ne_nil hne
        have htel : te.length ≤ 63 := by
          have h := nodup_le (czI te) (kvs.map (·.1)) hEn fun c hc => List.mem_map.mpr ⟨_, (B.edge c).mp hc, rfl⟩
          rw [czI_len, List.length_map] at h
          omega
        refine iteT' (decide_eq_true (by rw [vzI_len, hte, List.length_cons]; omega)) ?_
        refine ⟨_, fun σ' H' h => h, ?_⟩
        have he0 : e0 ∈ te := by rw [hte]; exact List.mem_cons_self
        have hn0 : (e0.2, n) ∈ kvs := (B.edge _).mp (by rw [hte]; exact List.mem_cons_self)
        refine ⟨_, rfl, _, rfl, ea, _, 0, _, rfl, rfl, .inl (.inl hea3), (by rw [hte]; exact at0), dp, _, rfl, (by
          have := DGet.t hdp3 (hte3 _ he0) (k := ick e0.2)
          rw [dkv_some hnd hn0] at this
          exact this), _, _, rfl, rfl, ?_⟩
        -- the next edge
        let Fp (l : List IC) : List IC := l.filter fun c => decide (c ∈ ls) && !decide (c ∈ kvs.map (·.1))
        have hls62 : ls.length ≤ 62 := by rw [vzI_len] at hln; omega
        refine ⟨_, rfl, ea, rfl, ⟨_, .inl (.inl hea3)⟩, fun D hD => ?_⟩
        refine wlk_it (walk_list (K := K) (a := ea) (xs := vzI te)) (fun i H4 => ∃ L, SI P w H4 D L (Fp (((czI te).take i).flatMap adjL)) ∧ Same H3 H4) ⟨[], ⟨upd_same, List.nodup_nil, (fun q hq => absurd hq (by simp)), fun k => by rw [List.take_zero]; exact Iff.rfl⟩, Same.new (Same.refl H3) hD⟩ (fun i H4 _ q => by
          obtain ⟨_, _, q⟩ := q
          exact .inl (.inl (q _ _ hea3))) ?_ ?_
        · rintro i x H4 H4' hi ⟨L, S, s4⟩ ⟨rfl, hx⟩
          rw [vzI_len] at hi
          have hxe : x = .ref te[i].1 := by
            unfold vzI at hx
            rw [List.getElem?_map, List.getElem?_eq_getElem hi] at hx
            exact (Option.some.inj hx).symm
          subst hxe
          have et : (czI te).take (i + 1) = (czI te).take i ++ [te[i].2] := by
            rw [List.take_succ]
            unfold czI
            rw [List.getElem?_map, List.getElem?_eq_getElem hi]
            rfl
          refine ⟨rfl, tyes ?_⟩
          refine ⟨_, rfl, te[i].1, te[i].2, rfl, .inl (.inl (s4 _ _ (hte3 _ (List.getElem_mem hi)))), fun DL t5 H5 s5 hL5 hC5 hcz5 => ⟨DL, rfl, ⟨_, .inl (.inl hL5)⟩, ?_⟩⟩
          have lt5 : t5.length = 4 := by
            rw [← czI_len, hcz5]
            unfold adjL
            rw [List.length_map, List.length_range]
          have hD5 := (S.same s5).at_
          have nDL : DL ≠ D := fun e => by rw [e, hD5] at hL5; cases hL5
          refine wlk_it (walk_list (K := K) (a := DL) (xs := vzI t5)) (fun j H6 => ∃ L, SI P w H6 D L (Fp (((czI te).take i).flatMap adjL ++ (adjL te[i].2).take j)) ∧ But2 D H5 H6 ∧ Same H3 H6) ⟨L, by rw [List.take_zero, List.append_nil]; exact S.same s5, (fun _ _ h _ => h), s4.trans s5⟩ (fun j H6 _ q => by
            obtain ⟨_, _, q, _⟩ := q
            exact .inl (.inl (q _ _ hL5 nDL))) ?_ ?_
          · rintro j x H6 H6' hj ⟨L6, S6, b6, s36⟩ ⟨rfl, hx6⟩
            rw [vzI_len] at hj
            have hxe : x = .ref t5[j].1 := by
              unfold vzI at hx6
              rw [List.getElem?_map, List.getElem?_eq_getElem hj] at hx6
              exact (Option.some.inj hx6).symm
            subst hxe
            have hd : (adjL te[i].2)[j]? = some t5[j].2 := by
              rw [← hcz5]
              unfold czI
              rw [List.getElem?_map, List.getElem?_eq_getElem hj]
              rfl
            have ej : (adjL te[i].2).take (j + 1) = (adjL te[i].2).take j ++ [t5[j].2] := by
              rw [List.take_succ, hd]
              rfl
            have eF : Fp (((czI te).take i).flatMap adjL ++ (adjL te[i].2).take (j + 1)) = Fp (((czI te).take i).flatMap adjL ++ (adjL te[i].2).take j) ++ (if (decide (t5[j].2 ∈ ls) && !decide (t5[j].2 ∈ kvs.map (·.1))) = true then [t5[j].2] else []) := by
              rw [ej, ← List.append_assoc]
              show List.filter _ _ = _
              rw [List.filter_append, List.filter_cons]
              rfl
            have hb5 := hC5 _ (List.getElem_mem hj)
            have hb6 : H6' t5[j].1 = some (.tup (icv t5[j].2)) := b6 _ _ hb5 fun e => by rw [e, hD5] at hb5; cases hb5
            have d1 := DGet.t (s36 _ _ hdl3) hb6 (k := ick t5[j].2)
            have d2 := DGet.t (s36 _ _ hdp3) hb6 (k := ick t5[j].2)
            rw [lkv_val] at d1
            refine ⟨rfl, ?_⟩
            refine ⟨_, rfl, _, rfl, dl, _, rfl, d1, _, rfl, ?_⟩
            by_cases hin : t5[j].2 ∈ ls
            · refine iteT' (by rw [if_pos hin]; rfl) ?_
              refine ⟨_, rfl, _, rfl, dp, _, rfl, d2, _, rfl, ?_⟩
              by_cases hk : t5[j].2 ∈ kvs.map (·.1)
              · obtain ⟨⟨c', m'⟩, h3, e3⟩ := List.mem_map.mp hk
                have e3 : c' = t5[j].2 := e3
                rw [e3] at h3
                refine iteF' (by rw [dkv_some hnd h3]; rfl) ⟨L6, ?_, b6, s36⟩
                rw [eF, if_neg (by rw [decide_eq_true hk]; simp), List.append_nil]
                exact S6
              · refine iteT' (by rw [dkv_none hk]; rfl) ?_
                refine ⟨_, rfl, t5[j].1, icl t5[j].2, L6, rfl, .inl (.inl hb6), S6.at_, (fun q hq => .inl (.inl (S6.tup q hq))), ?_, fun L' c1 c2 => ⟨L', ?_, (fun a o ha ne => by rw [upd_ne ne]; exact b6 a o ha ne), Same.updN s36 hD⟩⟩
                · have h := nodup_le (L6.map (·.2)) (ls.map icl) S6.nd fun k hk => by
                    obtain ⟨c, hc, rfl⟩ := List.mem_map.mp ((S6.mem k).mp hk)
                    have := (List.mem_filter.mp hc).2
                    rw [Bool.and_eq_true, decide_eq_true_eq] at this
                    exact List.mem_map.mpr ⟨c, this.1, rfl⟩
                  rw [List.length_map, List.length_map] at h
                  omega
                · rw [eF, if_pos (by rw [decide_eq_true hin, decide_eq_false hk]; rfl)]
                  exact S6.put hb6 c1 c2
            · refine iteF' (by rw [if_neg hin]; rfl) ?_
              refine iteF' rfl ⟨L6, ?_, b6, s36⟩
              rw [eF, if_neg (by rw [decide_eq_false hin]; simp), List.append_nil]
              exact S6
          · rintro H6 ⟨L6, S6, b6, s36⟩
            refine ⟨L6, ?_, s36⟩
            have e4 : (adjL te[i].2).take (vzI t5).length = adjL te[i].2 := List.take_of_length_le (by rw [vzI_len, ← hcz5, czI_len]; exact Nat.le_refl _)
            rw [e4] at S6
            rw [et, List.flatMap_append]
            have : [te[i].2].flatMap adjL = adjL te[i].2 := by simp
            rw [this]
            exact S6
        · rintro H4 ⟨L, S, s4⟩
          rw [vzI_len, ← czI_len, List.take_length] at S
          refine ⟨D, L, rfl, S.at_, (fun q hq => .inl (.inl (S.tup q hq))), fun L' so hperm hnd2 hso => ?_⟩
          have hmemL : ∀ q ∈ L', ∃ c, q.2 = icl c ∧ (upd H4 so (.lst (L'.map fun q => V.ref q.1))) q.1 = some (.tup (icv c)) := fun q hq => by
            have hqL := hperm.mem_iff.mp hq
            obtain ⟨c, hc, e⟩ := List.mem_map.mp ((S.mem q.2).mp (List.mem_map.mpr ⟨q, hqL, rfl⟩))
            refine ⟨c, e.symm, ?_⟩
            have h4 := S.tup q hqL
            rw [upd_ne (ne_of_none h4 hso), h4, ← e]
            rfl
          obtain ⟨tn, eL, hCn⟩ := ti_of hmemL
          have eV : (L'.map fun q => V.ref q.1) = vzI tn := by
            rw [eL, List.map_map]
            rfl
          have eS : L'.map (·.2) = (czI tn).map icl := by
            rw [eL]
            unfold czI
            rw [List.map_map, List.map_map]
            rfl
          have hnn : (czI tn).Nodup := by
            rw [eS] at hnd2
            exact nodup_of_map hnd2
          have hEn' : ∀ d, d ∈ czI tn ↔ (∃ c ∈ czI te, d ∈ adjL c) ∧ d ∈ czI tl ∧ d ∉ kvs.map (·.1) := fun d => by
            have h1 : d ∈ czI tn ↔ icl d ∈ L'.map (·.2) := by
              rw [eS, List.mem_map]
              exact ⟨fun h => ⟨d, h, rfl⟩, fun ⟨c, hc, e⟩ => by rw [← icl_inj e]; exact hc⟩
            have h2 : icl d ∈ (Fp ((czI te).flatMap adjL)).map icl ↔ d ∈ Fp ((czI te).flatMap adjL) := by
              rw [List.mem_map]
              exact ⟨fun ⟨c, hc, e⟩ => by rw [← icl_inj e]; exact hc, fun h => ⟨d, h, rfl⟩⟩
            rw [h1, (hperm.map (·.2)).mem_iff, S.mem, h2]
            show d ∈ List.filter _ _ ↔ _
            rw [List.mem_filter, Bool.and_eq_true, decide_eq_true_eq, Bool.not_eq_true', decide_eq_false_iff_not, List.mem_flatMap, hm]
          have Bn := B.next hnn hEn'
          have s35 : Same H3 (upd H4 so (.lst (L'.map fun q => V.ref q.1))) := Same.new s4 hso
          have hso5 : (upd H4 so (.lst (L'.map fun q => V.ref q.1))) so = some (.lst (vzI tn)) := by rw [upd_same, eV]
          generalize upd H4 so (.lst (L'.map fun q => V.ref q.1)) = H5 at hCn s35 hso5 ⊢
          clear hmemL
          have hdp5 := s35 _ _ hdp3
          have nsd : so ≠ dp := fun e => by rw [e, hdp5] at hso5; cases hso5
          have hkn : kvs.length + tn.length ≤ tl.length + 1 := by
            have := Bn.len
            rw [List.length_append, List.length_map, czI_len, czI_len] at this
            exact this
          refine ⟨_, rfl, so, rfl, ⟨_, .inl (.inl hso5)⟩, ?_⟩
          refine for_list (K := K) (a := so) (xs := vzI tn) (fun i σ H6 => (∃ v2, σ = [some (.ref la), some (.ref ba), v2, some (.ref dl), some (.ref dp), some (.ref so), some (.int (((n + 1 : Nat) : Nat) : Int)), none]) ∧ But2 dp H5 H6 ∧ Same H H6 ∧ H6 dp = some (.dT (dkv (kvs ++ ((czI tn).take i).map fun d => (d, n + 1)))))
            ⟨⟨_, rfl⟩, (fun _ _ h _ => h), s3.trans s35, by rw [List.take_zero, List.map_nil, List.append_nil]; exact hdp5⟩ (fun i σ H6 _ q => .inl (.inl (q.2.1 _ _ hso5 nsd))) ?_ ?_
          · rintro i x σ H6 hx6 ⟨⟨v2, rfl⟩, b6, s6, h6⟩
            have hi : i < tn.length := by
              have := (List.getElem?_eq_some_iff.mp hx6).1
              rwa [vzI_len] at this
            have hxe : x = .ref tn[i].1 := by
              unfold vzI at hx6
              rw [List.getElem?_map, List.getElem?_eq_getElem hi] at hx6
              exact (Option.some.inj hx6).symm
            subst hxe
            have hiE : (czI tn)[i]? = some tn[i].2 := by
              unfold czI
              rw [List.getElem?_map, List.getElem?_eq_getElem hi]
              rfl
            have et : (czI tn).take (i + 1) = (czI tn).take i ++ [tn[i].2] := by
              rw [List.take_succ, hiE]
              rfl
            have hb5 := hCn _ (List.getElem_mem hi)
            have hb6 : H6 tn[i].1 = some (.tup (icv tn[i].2)) := b6 _ _ hb5 fun e => by rw [e, hdp5] at hb5; cases hb5
            have hnot : tn[i].2 ∉ (kvs ++ ((czI tn).take i).map fun d => (d, n + 1)).map (·.1) := fun h => by
              rw [List.map_append, List.mem_append] at h
              rcases h with h | h
              · exact ((hEn' _).mp (List.mem_of_getElem? hiE)).2.2 h
              · rw [List.map_map] at h
                obtain ⟨d, hd, e⟩ := List.mem_map.mp h
                have e : d = tn[i].2 := e
                rw [e] at hd
                obtain ⟨j, hj, ej⟩ := List.mem_iff_getElem.mp hd
                have hj2 : j < i := by rw [List.length_take] at hj; omega
                rw [List.getElem_take] at ej
                have hj3 : j < (czI tn).length := by rw [czI_len]; omega
                have hi3 : i < (czI tn).length := by rw [czI_len]; exact hi
                have e3 : (czI tn)[i] = tn[i].2 := by
                  rw [List.getElem?_eq_getElem hi3] at hiE
                  exact Option.some.inj hiE
                have := (List.getElem_inj hnn).mp (ej.trans e3.symm)
                omega
            have hlk : (dkv (kvs ++ ((czI tn).take i).map fun d => (d, n + 1))).length ≤ 100 := by
              rw [dkv_len, List.length_append, List.length_map, List.length_take, czI_len]
              omega
            refine ⟨_, rfl, _, rfl, _, rfl, dp, _, rfl, DPut.t h6 hb6 (k := ick tn[i].2) (Nat.lt_of_le_of_lt hlk (by decide)), ?_⟩
            refine ⟨⟨_, rfl⟩, (fun a o ha ne => by rw [upd_ne ne]; exact b6 a o ha ne), Same.updN s6 pdp, ?_⟩
            rw [upd_same, et, List.map_append, ← List.append_assoc]
            exact congrArg (fun z => some (HO.dT z)) (dkv_put hnot)
          · rintro σ H6 ⟨⟨v2, rfl⟩, b6, s6, h6⟩
            rw [vzI_len, ← czI_len, List.take_length] at h6
            have nl5 : so ≠ dp := nsd
            by_cases hz : tn = []
            · refine ⟨0, by omega, so, tn, _, n + 1, _, _, rfl, s6, b6 _ _ (s35 _ _ hdl3) ndl, h6, b6 _ _ hso5 nsd, (fun p hp => by rw [hz] at hp; cases hp), Bn, hnn, .inr ⟨hz, rfl⟩⟩
            · have hpos := List.length_pos_iff.mpr hz
              refine ⟨tl.length + 2 - (kvs ++ (czI tn).map fun d => (d, n + 1)).length, ?_, so, tn, _, n + 1, _, _, rfl, s6, b6 _ _ (s35 _ _ hdl3) ndl, h6, b6 _ _ hso5 nsd, (fun p hp => ?_), Bn, hnn, .inl ⟨hz, rfl⟩⟩
              · rw [List.length_append, List.length_map, czI_len]
                omega
              · have h5 := hCn p hp
                exact b6 _ _ h5 fun e => by rw [e, hdp5] at h5; cases h5
      · refine iteF' (decide_eq_false (by rw [vzI_len, hnil]; simp)) ?_
        refine ⟨_, rfl, ?_⟩
        rw [hnil] at B
        exact k dp kvs H3 pdp s3 hdp3 B.done
end
end Om

namespace Om
open PySem PySem.Spec PyProof.Rows L2 LamX
def spICellsT (K : PySem.W.Frag) (CI : Addr) : Sp := fun vs H Q _ => ∃ (a : Addr) (rows : List (List Nat)), vs = [.ref a] ∧ Isl K CI H a rows ∧ Vd rows ∧ ∀ (D : Addr) (t : TC) (H' : Hp), Same H H' → H D = none → H' D = some (.lst (vz t)) → CA H' t → cz t = cellsOf rows → Q (.ref D) H'
section
variable {P : Program} {w : World} {K : PySem.W.Frag} {mg : Str → Option Value} {base : Heap} {CI CU fN : Addr}
theorem ok_icellsT {f : Addr} {fd : FuncData} (F : FnP K "cells" "Island.cells" (sIslM 4) f fd) (T : IslF K mg CI fN) (genum : mg "enumerate" = none) (gw : ∃ t, mg "WATER" = some (.str (Str.ofString "~") t)) : FnOk P w K mg base CX0 1 f fd ["self"] (spICellsT K CI) := by
  obtain ⟨t0, gw⟩ := gw
  refine F.ok scCells (fun vs H Q E h => ?_) (fun cdv A outer s H vs Q E hr h => ?_)
  · obtain ⟨a, rows, rfl, _⟩ := h
    rfl
  · obtain ⟨a, rows, rfl, ⟨dx, p, hp, hS⟩, vd, k⟩ := h
    have nd := scCells.nd
    refine ⟨_, PSs.nox (pss_one (ps_ret (pe_lc2 (own := [("row", 1), ("signs", 2), ("column", 3), ("sign", 4)]) (vs1 := [3, 4]) (g := gTup K 2 (gCons (gName 1) (gCons (gName 2) gNil))) (g1 := gTup K 2 (gCons (gName 3) (gCons (gName 4) gNil))) rfl nd (pi_enumT rfl genum (pa_cons (pe_fld (pv 0) rfl) pa_nil)) blkCells (by decide)
      (fun _ _ _ _ _ => pg_tup rfl (pgs_cons (pg_name (i := 1) nd rfl (.inl rfl)) (pgs_cons (pg_name (i := 2) nd rfl (.inl rfl)) pgs_nil))) (fun _ _ _ _ _ => pts_nil)
      (fun _ _ _ _ _ => pi_enumS rfl genum (pa_cons (pv 2) pa_nil))
      (fun _ _ _ _ _ => pg_tup rfl (pgs_cons (pg_name (i := 3) nd rfl (.inl rfl)) (pgs_cons (pg_name (i := 4) nd rfl (.inl rfl)) pgs_nil)))
      (fun _ _ _ _ _ => pts_one (pt_cmpR op_ne (pv 4) (pe_glob (v := .str (Str.ofString "~")) rfl gw ⟨_, rfl⟩) (nomark _)))
      (fun _ _ _ _ _ => pe_tup (pa_cons (pv 1) (pa_cons (pv 3) pa_nil)))))), ?_⟩
    refine ⟨_, rfl, a, CI, dx, _, .ref p, rfl, hp, T.cl, T.nR, rfl, p, _, rfl, hS, fun D hD => ?_⟩
    have ez : Str.ofString "~" = (⟨#[126]⟩ : Str) := by decide +kernel
    refine out_it (walk_enumT (K := K) (a := p) (xs := rows.map vt)) (fun i H' => ∃ acc : TC, H' D = some (.lst (vz acc)) ∧ CA H' acc ∧ cz acc = cellsTo rows i ∧ Same H H') ⟨[], upd_same, CA.nil, rfl, Same.new (Same.refl H) hD⟩
      (fun i H' _ q => by obtain ⟨_, _, _, _, q⟩ := q; exact Same.tup q hS) ?_ ?_
    · rintro i x H1 H2 hi ⟨acc, h1, h2, hz, h3⟩ ⟨T1, y, rfl, hT, rfl, hy⟩
      rw [List.length_map] at hi
      obtain ⟨r, hr1⟩ : ∃ r, rows[i]? = some r := ⟨rows[i], by simp [hi]⟩
      have hy2 : y = vt r := by
        have hy : (rows.map vt)[i]? = some y := hy
        rw [List.getElem?_map, hr1] at hy
        exact (Option.some.inj hy).symm
      subst hy2
      have hm : r ∈ rows := List.mem_of_getElem? hr1
      have hDT : D ≠ T1 := fun e => by rw [← e, h1] at hT; cases hT
      have s1 : Same H1 (upd H1 T1 (.tup [.int (i : Nat), vt r])) := Same.new (Same.refl H1) hT
      refine ⟨T1, _, rfl, .inl (.inl upd_same), rfl, _, _, rfl, _, _, rfl, rfl, rfl, tyes ?_⟩
      refine ⟨_, rfl, tx r, rfl, in_it (walk_enumS (x := tx r)) (fun j H' => ∃ acc : TC, H' D = some (.lst (vz acc)) ∧ CA H' acc ∧ cz acc = cellsTo rows i ++ rowCells r i j ∧ Same H H')
        ⟨acc, s1 _ _ h1, h2.same s1, by simp only [rowCells, List.range_zero, List.filter_nil, List.map_nil, List.append_nil]; exact hz, h3.trans s1⟩ (fun _ _ _ _ => trivial) ?_ ?_⟩
      · rintro j x H3 H4 hj ⟨acc2, g1, g2, gz, g3⟩ ⟨T2, y2, rfl, hT2, rfl, hy2⟩
        have hj' : j < r.length := by
          have e : (tx r).cps.size = r.length := by rw [← Array.length_toList, tx_cps]
          rwa [e] at hj
        obtain ⟨c, hc⟩ : ∃ c, r[j]? = some c := ⟨r[j], by simp [hj']⟩
        have hy3 : y2 = .str ⟨#[c]⟩ := by
          have hy2 : ((tx r).cps[j]?).map (fun c => V.str ⟨#[c]⟩) = some y2 := hy2
          have e : (tx r).cps[j]? = some c := by
            rw [← Array.getElem?_toList, tx_cps]
            exact hc
          rw [e] at hy2
          exact (Option.some.inj hy2).symm
        subst hy3
        have s2 : Same H3 (upd H3 T2 (.tup [.int (j : Nat), .str ⟨#[c]⟩])) := Same.new (Same.refl H3) hT2
        have hcd : r.getD j 0 = c := by rw [List.getD_eq_getElem?_getD, hc, Option.getD_some]
        refine ⟨T2, _, rfl, .inl (.inl upd_same), rfl, _, _, rfl, _, _, rfl, rfl, rfl, ?_⟩
        refine ⟨_, rfl, rfl, _, rfl, ?_⟩
        have e2 : (decide (V.str ⟨#[c]⟩ = V.str (Str.ofString "~"))) = decide (c = 126) := by
          rw [ez]
          apply decide_eq_decide.mpr
          simp
        show if (!decide (V.str ⟨#[c]⟩ = V.str (Str.ofString "~"))) = true then _ else _
        rw [e2, rowCells_succ, hcd]
        have w1 : (cellsTo rows i).length ≤ i * 12 := cellsTo_len (fun r hr => (vd.wid r hr).2) i (by omega)
        have w2 := rowCells_len r i j
        have w3 := (vd.wid r hm).2
        have w4 := vd.hgt
        have hlen := congrArg List.length gz
        rw [cz_len, List.length_append] at hlen
        by_cases h126 : c = 126
        · rw [if_pos h126]
          refine iteF' (by rw [decide_eq_true h126]; rfl) ?_
          exact ⟨acc2, s2 _ _ g1, g2.same s2, gz, g3.trans s2⟩
        · rw [if_neg h126]
          refine iteT' (by rw [decide_eq_false h126]; rfl) ?_
          refine ⟨_, rfl, _, rfl, (by show 2 ≤ sizeLine; decide), fun q hq => ?_⟩
          have s3 : Same H3 (upd (upd H3 T2 (.tup [.int (j : Nat), .str ⟨#[c]⟩])) q (.tup [.int (i : Nat), .int (j : Nat)])) := s2.trans (Same.new (Same.refl _) hq)
          have g4 := s3 _ _ g1
          have hqD : D ≠ q := fun e => by rw [← e, s2 _ _ g1] at hq; cases hq
          refine ⟨vz acc2, g4, Nat.lt_of_lt_of_le (show (vz acc2).length < 1000 by rw [vz_len]; omega) (by decide), acc2 ++ [(q, (i, j))], by rw [upd_same, vz_app]; rfl, ?_, ?_, ?_⟩
          · refine CA.updL (CA.app (g2.same s3) (CA.one ?_)) g4
            exact upd_same
          · rw [← List.append_assoc, cz_app, gz]
            rfl
          · intro b o hb
            have hne : b ≠ D := ne_of_none hb hD
            rw [upd_ne hne]
            exact s3 _ _ (g3 b o hb)
      · rintro H3 ⟨acc2, g1, g2, gz, g3⟩
        have e : (tx r).cps.size = r.length := by rw [← Array.length_toList, tx_cps]
        rw [e] at gz
        refine ⟨acc2, g1, g2, ?_, g3⟩
        rw [cellsTo_succ, getD_at hr1]
        exact gz
    · rintro H1 ⟨acc, h1, h2, hz, h3⟩
      rw [List.length_map] at hz
      exact k D acc H1 h3 hD h1 h2 hz
end
end Om

namespace Om
open PySem PySem.Spec PyProof.Rows L2 LamX
/-! ### paths, and what paces_from tells of them -/
inductive Pth (L : List IC) (b : IC) : Nat → IC → Prop
  | nil : Pth L b 0 b
  | cons {n c d} : Pth L b n c → d ∈ adjL c → d ∈ L → Pth L b (n + 1) d
def Rch (L : List IC) (b c : IC) : Prop := ∃ n, Pth L b n c
theorem adj_mem {c d : IC} : d ∈ adjL c ↔ d = (c.1 - 1, c.2) ∨ d = (c.1, c.2 + 1) ∨ d = (c.1 + 1, c.2) ∨ d = (c.1, c.2 - 1) := by
  have e : adjL c = [(c.1 + -1, c.2 + 0), (c.1 + 0, c.2 + 1), (c.1 + 1, c.2 + 0), (c.1 + 0, c.2 + -1)] := rfl
  rw [e]
  simp only [List.mem_cons, List.not_mem_nil, or_false, Int.add_zero]
  exact Iff.rfl
theorem adj_symm {c d : IC} (h : d ∈ adjL c) : c ∈ adjL d := by
  obtain ⟨c1, c2⟩ := c
  rw [adj_mem] at h ⊢
  rcases h with rfl | rfl | rfl | rfl
  · exact .inr (.inr (.inl (by ext <;> simp)))
  · exact .inr (.inr (.inr (by ext <;> simp)))
  · exact .inl (by ext <;> simp)
  · exact .inr (.inl (by ext <;> simp))
theorem Pc.pth {L : List IC} {b : IC} {kvs : List (IC × Nat)} (p : Pc L b kvs) : ∀ m c, (c, m) ∈ kvs → Pth L b m c
  | 0, c, h => by rw [p.zero c h]; exact .nil
  | m + 1, c, h => by
    obtain ⟨c', h1, h2⟩ := p.prev c m h
    rcases p.lnd c (m + 1) h with e | e
    · subst e
      have := p.b0
      obtain ⟨i, hi, ei⟩ := List.mem_iff_getElem.mp h
      obtain ⟨j, hj, ej⟩ := List.mem_iff_getElem.mp this
      have : i = j := by
        refine (List.getElem_inj (xs := kvs.map (·.1)) p.nd (h₀ := by rw [List.length_map]; exact hi) (h₁ := by rw [List.length_map]; exact hj)).mp ?_
        rw [List.getElem_map, List.getElem_map, ei, ej]
      subst this
      rw [ei] at ej
      exact absurd (Prod.mk.inj ej).2 (by omega)
    · exact .cons (p.pth m c' h1) h2 e
theorem Pc.min {L : List IC} {b : IC} {kvs : List (IC × Nat)} (p : Pc L b kvs) {n : Nat} {c : IC} (h : Pth L b n c) : ∃ m, m ≤ n ∧ (c, m) ∈ kvs := by
  induction h with
  | nil => exact ⟨0, Nat.le_refl _, p.b0⟩
  | cons _ hd hL ih =>
    obtain ⟨m, h1, h2⟩ := ih
    obtain ⟨m', h3, h4⟩ := p.clo _ _ h2 _ hd hL
    exact ⟨m', by omega, h3⟩
theorem Pc.keys {L : List IC} {b : IC} {kvs : List (IC × Nat)} (p : Pc L b kvs) {c : IC} : c ∈ kvs.map (·.1) ↔ Rch L b c := by
  constructor
  · intro h
    obtain ⟨⟨c', m⟩, h1, e⟩ := List.mem_map.mp h
    have e : c' = c := e
    subst e
    exact ⟨m, p.pth m c' h1⟩
  · rintro ⟨n, h⟩
    obtain ⟨m, _, h1⟩ := p.min h
    exact List.mem_map.mpr ⟨_, h1, rfl⟩
theorem Rch.refl (L : List IC) (b : IC) : Rch L b b := ⟨0, .nil⟩
theorem Rch.step {L : List IC} {b c d : IC} (h : Rch L b c) (hd : d ∈ adjL c) (hL : d ∈ L) : Rch L b d := by
  obtain ⟨n, h⟩ := h
  exact ⟨n + 1, .cons h hd hL⟩
theorem Rch.trans {L : List IC} {a b c : IC} (h1 : Rch L a b) (h2 : Rch L b c) : Rch L a c := by
  obtain ⟨n, h2⟩ := h2
  induction h2 with
  | nil => exact h1
  | cons _ hd hL ih => exact ih.step hd hL
theorem Rch.mem {L : List IC} {b c : IC} (hb : b ∈ L) (h : Rch L b c) : c ∈ L := by
  obtain ⟨n, h⟩ := h
  cases h with
  | nil => exact hb
  | cons _ _ hL => exact hL
theorem Rch.symm {L : List IC} {b c : IC} (hb : b ∈ L) (h : Rch L b c) : Rch L c b := by
  obtain ⟨n, h⟩ := h
  induction h with
  | nil => exact Rch.refl _ _
  | cons hp hd hL ih =>
    have hc := Rch.mem hb ⟨_, hp⟩
    exact ((Rch.refl L _).step (adj_symm hd) hc).trans ih
/-- a path among fewer cells -/
theorem Rch.mono {L M : List IC} {b c : IC} (h : Rch L b c) (s : ∀ x ∈ L, x ∈ M) : Rch M b c := by
  obtain ⟨n, h⟩ := h
  induction h with
  | nil => exact Rch.refl _ _
  | cons _ hd hL ih => exact ih.step hd (s _ hL)
/-- cells that are closed under paces may be left out, or kept alone -/
theorem Rch.within {L M : List IC} {b c : IC} (hb : b ∈ M) (cl : ∀ x ∈ M, ∀ d ∈ adjL x, d ∈ L → d ∈ M) (h : Rch L b c) : Rch M b c ∧ c ∈ M := by
  obtain ⟨n, h⟩ := h
  induction h with
  | nil => exact ⟨Rch.refl _ _, hb⟩
  | cons _ hd hL ih => exact ⟨ih.1.step hd (cl _ ih.2 _ hd hL), cl _ ih.2 _ hd hL⟩
end Om

namespace Om
open PySem PySem.Spec PyProof.Rows L2 LamX
def icc (c : Cell) : IC := (((c.1 : Nat) : Int), ((c.2 : Nat) : Int))
def toTI (t : TC) : TI := t.map fun p => (p.1, icc p.2)
theorem toTI_vz (t : TC) : vzI (toTI t) = vz t := by
  unfold vzI toTI vz
  rw [List.map_map]
  rfl
theorem toTI_cz (t : TC) : czI (toTI t) = (cz t).map icc := by
  unfold czI toTI cz
  rw [List.map_map, List.map_map]
  rfl
theorem toTI_ca {H : Hp} {t : TC} (h : CA H t) : CI2 H (toTI t) := fun p hp => by
  obtain ⟨q, hq, rfl⟩ := List.mem_map.mp hp
  exact h q hq
/-! ### the order of cells -/
def ltI (c d : IC) : Prop := c.1 < d.1 ∨ (c.1 = d.1 ∧ c.2 < d.2)
theorem ltI_irrefl (c : IC) : ¬ ltI c c := fun h => by unfold ltI at h; omega
theorem ltI_trans {a b c : IC} (h1 : ltI a b) (h2 : ltI b c) : ltI a c := by unfold ltI at *; omega
theorem sorted_eq : ∀ {l m : List IC}, l.Perm m → l.Pairwise ltI → m.Pairwise ltI → l = m
  | [], m, p, _, _ => by rw [List.nil_perm.mp p]
  | a :: l, [], p, _, _ => by cases List.perm_nil.mp p
  | a :: l, b :: m, p, h1, h2 => by
    obtain ⟨h1a, h1b⟩ := List.pairwise_cons.mp h1
    obtain ⟨h2a, h2b⟩ := List.pairwise_cons.mp h2
    have e : a = b := by
      rcases List.mem_cons.mp (p.mem_iff.mp List.mem_cons_self) with e | e
      · exact e
      · rcases List.mem_cons.mp (p.mem_iff.mpr List.mem_cons_self) with f | f
        · exact f.symm
        · exact absurd (ltI_trans (h1a _ f) (h2a _ e)) (ltI_irrefl _)
    subst e
    rw [sorted_eq ((List.perm_cons a).mp p) h1b h2b]
def lowI (c : IC) : Prop := 0 ≤ c.1 ∧ c.1 < 64 ∧ 0 ≤ c.2 ∧ c.2 < 64
theorem code_lt {c d : IC} (hc : lowI c) (hd : lowI d) (h : TS.code 64 (icl c) ≤ TS.code 64 (icl d)) (ne : c ≠ d) : ltI c d := by
  obtain ⟨c1, c2⟩ := c
  obtain ⟨d1, d2⟩ := d
  unfold icl at h
  rw [code_pair, code_pair] at h
  unfold lowI at hc hd
  unfold ltI
  have : ¬ (c1 = d1 ∧ c2 = d2) := fun e => ne (by rw [e.1, e.2])
  simp only at *
  omega
theorem asc_of {l : List IC} (h : l.Pairwise (fun c d => TS.code 64 (icl c) ≤ TS.code 64 (icl d))) (nd : l.Nodup) (lo : ∀ c ∈ l, lowI c) : l.Pairwise ltI :=
  List.Pairwise.imp_of_mem (fun {c d} hc hd z => code_lt (lo c hc) (lo d hd) z.1 z.2) (List.Pairwise.and h nd)
theorem rowCells_asc (r : List Nat) (i n : Nat) : ((rowCells r i n).map icc).Pairwise ltI := by
  unfold rowCells
  rw [List.map_map]
  refine List.Pairwise.map (R := (· < ·)) _ (fun a b h => ?_) (List.Pairwise.filter _ List.pairwise_lt_range)
  exact .inr ⟨rfl, by show ((a : Nat) : Int) < ((b : Nat) : Int); omega⟩
theorem rowCells_row {r : List Nat} {i n : Nat} {c : Cell} (h : c ∈ rowCells r i n) : c.1 = i := by
  obtain ⟨j, _, rfl⟩ := List.mem_map.mp h
  rfl
theorem cellsTo_row {rows : List (List Nat)} {n : Nat} {c : Cell} (h : c ∈ cellsTo rows n) : c.1 < n := by
  obtain ⟨i, hi, hc⟩ := List.mem_flatMap.mp h
  rw [rowCells_row hc]
  exact List.mem_range.mp hi
theorem cells_asc (rows : List (List Nat)) : ∀ n, ((cellsTo rows n).map icc).Pairwise ltI
  | 0 => List.Pairwise.nil
  | n + 1 => by
    have e : cellsTo rows (n + 1) = cellsTo rows n ++ rowCells (rows.getD n []) n (rows.getD n []).length := by
      unfold cellsTo
      rw [List.range_succ, List.flatMap_append]
      simp
    rw [e, List.map_append, List.pairwise_append]
    refine ⟨cells_asc rows n, rowCells_asc _ _ _, fun a ha b hb => ?_⟩
    obtain ⟨c, hc, rfl⟩ := List.mem_map.mp ha
    obtain ⟨d, hd, rfl⟩ := List.mem_map.mp hb
    have h1 := cellsTo_row hc
    have h2 := rowCells_row hd
    exact .inl (by show ((c.1 : Nat) : Int) < ((d.1 : Nat) : Int); omega)
theorem asc_nd {l : List IC} (h : l.Pairwise ltI) : l.Nodup := by
  refine List.Pairwise.imp (R := ltI) ?_ h
  intro a b z e
  subst e
  exact ltI_irrefl a z
/-! ### regions -/
noncomputable def rchB (L : List IC) (b c : IC) : Bool := @decide (Rch L b c) (Classical.propDecidable _)
theorem rchB_iff {L : List IC} {b c : IC} : rchB L b c = true ↔ Rch L b c := @decide_eq_true_iff _ (Classical.propDecidable _)
noncomputable def regsOf : Nat → List IC → List (List IC)
  | 0, _ => []
  | _ + 1, [] => []
  | n + 1, c :: r => (c :: r).filter (rchB (c :: r) c) :: regsOf n ((c :: r).filter fun d => !rchB (c :: r) c d)
end Om

namespace Om
open PySem PySem.Spec PyProof.Rows L2 LamX
def cdI (c : IC) : PyData := .tuple [.int c.1, .int c.2]
def regD (l : List IC) : PyData := .list (l.map cdI)
theorem ci_dp {K : PySem.W.Frag} {H : Hp} : ∀ {t : TI}, CI2 H t → DpAll K H (vzI t) ((czI t).map cdI)
  | [], _ => .nil
  | p :: t, h => .cons (.tup (.inl (.inl (h p (List.mem_cons_self ..)))) (.cons (.int _) (.cons (.int _) .nil))) (ci_dp fun q hq => h q (List.mem_cons_of_mem _ hq))
end Om

namespace Om
open PySem PySem.Spec PyProof.Rows L2 LamX
abbrev sLand : Stmt := top 17
abbrev sBoth : Stmt := top 30
abbrev sDist : Stmt := top 27
theorem has_of {rows : List (List Nat)} (g : Good2 rows) {c : Cell} (h : c ∈ cellsOf rows) : hasC rows (c.1 : Nat) (c.2 : Nat) = true := by
  rw [← cells_any g, List.any_eq_true]
  refine ⟨cdp c, List.mem_map_of_mem h, ?_⟩
  have z := eqv_cells c c
  rw [decide_eq_true rfl] at z
  exact z
def spLandX (K : PySem.W.Frag) (CI CU : Addr) : Sp := fun vs H Q E => ∃ (a ca : Addr) (rows : List (List Nat)) (c : IC), vs = [.ref a, .ref ca] ∧ Isl K CI H a rows ∧ Good2 rows ∧ SqT K H ca (icv c) ∧ (hasC rows c.1 c.2 = true → Q .non H) ∧ (hasC rows c.1 c.2 = false → E (.ref CU) none H)
def spBoth (K : PySem.W.Frag) (CI CU : Addr) : Sp := fun vs H Q E => ∃ (a oa pa : Addr) (rows : List (List Nat)) (c d : IC), vs = [.ref a, .ref oa, .ref pa] ∧ Isl K CI H a rows ∧ Good2 rows ∧ SqT K H oa (icv c) ∧ SqT K H pa (icv d) ∧ hasC rows c.1 c.2 = true ∧
  (hasC rows d.1 d.2 = true → Q .non H) ∧ (hasC rows d.1 d.2 = false → E (.ref CU) none H)
def spDist (K : PySem.W.Frag) (CI : Addr) : Sp := fun vs H Q _ => ∃ (a oa pa : Addr) (rows : List (List Nat)) (c d : Cell), vs = [.ref a, .ref oa, .ref pa] ∧ Isl K CI H a rows ∧ Vd rows ∧ (cellsOf rows).length ≤ 62 ∧ H oa = some (.tup (icv (icc c))) ∧ H pa = some (.tup (icv (icc d))) ∧
  c ∈ cellsOf rows ∧ d ∈ cellsOf rows ∧ ∀ (v : V) (H' : Hp), Same H H' → (rchB ((cellsOf rows).map icc) (icc c) (icc d) = true → ∃ n : Nat, v = .int n) → (rchB ((cellsOf rows).map icc) (icc c) (icc d) = false → v = .non) → Q v H'
section
variable {P : Program} {w : World} {K : PySem.W.Frag} {mg : Str → Option Value} {base : Heap} {CI CU fN pm gt : Addr}
theorem scLand : FnScope ["island", "cell"] ["island", "cell"] (defScope sLand) := ⟨rfl, rfl, rfl, by decide +kernel, rfl, by decide +kernel, by decide +kernel⟩
theorem ok_land {f gC : Addr} {fd fdC : FuncData} (F : FnP K "require_land" "require_land" sLand f fd) (U : ErrU K mg "UnknownCell" CU) (mC : OwnM K CI "__contains__" gC) (GC : FnOk P w K mg base CX0 3 gC fdC ["self", "cell"] (spHas K CI)) (bC : Binds K fdC ["self", "cell"] []) : FnOk P w K mg base (L2.CX P w) 4 f fd ["island", "cell"] (spLandX K CI CU) := by
  refine F.ok scLand (fun vs H Q E h => ?_) (fun cdv A outer s H vs Q E hr h => ?_)
  · obtain ⟨a, ca, rows, c, rfl, _⟩ := h
    rfl
  · obtain ⟨a, ca, rows, c, rfl, hI, g, hC, k1, k2⟩ := h
    refine ⟨_, pss_one (ps_if (pt_cmpR (op_notInOwn mC GC hr bC pass0) (pv 1) (pv 0) (by with_unfolding_all rfl))
      (pss_one (ps_raise rfl (takes_of rfl rfl rfl rfl) (pmk_own PySem.F.excBase_ValueError U.q U.g U.kp (raises_own U.r1 U.r2) rfl))) pss_nil), ?_⟩
    obtain ⟨dx, p, hp, _⟩ := id hI
    refine ⟨_, rfl, _, rfl, a, dx, _, rfl, hp, a, ca, rows, _, _, rfl, hI, g, hC, _, rfl, _, rfl, ?_⟩
    cases e : hasC rows c.1 c.2 with
    | false => exact iteT' rfl (k2 e)
    | true => exact iteF' rfl (k1 e)
theorem scBoth : FnScope ["island", "one", "other"] ["island", "one", "other"] (defScope sBoth) := ⟨rfl, rfl, rfl, by decide +kernel, rfl, by decide +kernel, by decide +kernel⟩
theorem ok_both {f : Addr} {fd : FuncData} (F : FnP K "_require_both" "_require_both" sBoth f fd) (LD : Cal P w K mg base (L2.CX P w) 4 "require_land" ["island", "cell"] (spLandX K CI CU)) : FnOk P w K mg base (L2.CX P w) 5 f fd ["island", "one", "other"] (spBoth K CI CU) := by
  refine F.ok scBoth (fun vs H Q E h => ?_) (fun cdv A outer s H vs Q E hr h => ?_)
  · obtain ⟨a, oa, pa, rows, c, d, rfl, _⟩ := h
    rfl
  · obtain ⟨a, oa, pa, rows, c, d, rfl, hI, g, hC, hD, hc, k1, k2⟩ := h
    refine ⟨_, pss_cons (ps_expr (pe_cal LD hr (passes_call (W := fun cls d _ H => E cls d H) (takes_of rfl rfl rfl rfl) fun _ _ _ _ h => h) (pa_cons (pv 0) (pa_cons (pv 1) pa_nil))))
      (pss_one (ps_expr (pe_cal LD hr (passes_call (W := fun cls d _ H => E cls d H) (takes_of rfl rfl rfl rfl) fun _ _ _ _ h => h) (pa_cons (pv 0) (pa_cons (pv 2) pa_nil))))), ?_⟩
    refine ⟨_, rfl, _, rfl, a, oa, rows, c, rfl, hI, g, hC, fun _ => ?_, fun e => (by rw [hc] at e; cases e)⟩
    exact ⟨_, rfl, _, rfl, a, pa, rows, d, rfl, hI, g, hD, k1, k2⟩
theorem scDist : FnScope ["island", "one", "other"] ["island", "one", "other"] (defScope sDist) := ⟨rfl, rfl, rfl, by decide +kernel, rfl, by decide +kernel, by decide +kernel⟩
theorem ok_dist {f : Addr} {fd h3 : FuncData} (F : FnP K "distance" "distance" sDist f fd) (BO : Cal P w K mg base (L2.CX P w) 5 "_require_both" ["island", "one", "other"] (spBoth K CI CU)) (PF : Cal P w K mg base CX0 3 "paces_from" ["cells", "begin"] (spPF K)) (TI' : IslF K mg CI fN) (pC : PropOf K CI "cells" pm gt) (G3 : FnOk P w K mg base CX0 1 gt h3 ["self"] (spICellsT K CI)) (b3 : Binds K h3 ["self"] []) : FnOk P w K mg base (L2.CX P w) 6 f fd ["island", "one", "other"] (spDist K CI) := by
  refine F.ok scDist (fun vs H Q E h => ?_) (fun cdv A outer s H vs Q E hr h => ?_)
  · obtain ⟨a, oa, pa, rows, c, d, rfl, _⟩ := h
    rfl
  · obtain ⟨a, oa, pa, rows, c, d, rfl, hI, vd, hfew, hC, hD, hc, hd, k⟩ := h
    have hu := hr.units
    have hu1 : _ + 1 < cLine := Nat.lt_of_le_of_lt (Nat.add_le_add_left (show 1 ≤ 64 by decide) _) hu
    refine ⟨_, pss_cons (ps_expr (pe_cal BO hr (passes_call (W := fun cls d _ H => E cls d H) (takes_of rfl rfl rfl rfl) fun _ _ _ _ h => h) (pa_cons (pv 0) (pa_cons (pv 1) (pa_cons (pv 2) pa_nil)))))
      (pss_one (ps_ret (pe_dget1 hu1 (pe_cal PF (hr.mono (by decide)) pass0 (pa_cons (pe_prop (pv 0) TI'.cl pC G3 (hr.mono (by decide)) b3 .nil pass0 rfl) (pa_cons (pv 1) pa_nil))) (pv 2) ⟨rfl, rfl, rfl, rfl⟩))), ?_⟩
    obtain ⟨dx, p, hp, _⟩ := id hI
    refine ⟨_, rfl, _, rfl, _, rfl, a, oa, pa, rows, icc c, icc d, rfl, hI, vd.toGood2, .inl (.inl hC), .inl (.inl hD), has_of vd.toGood2 hc, fun _ => ?_, fun e => (by have z := has_of vd.toGood2 hd; rw [show hasC rows (icc d).1 (icc d).2 = hasC rows (d.1 : Nat) (d.2 : Nat) from rfl, z] at e; cases e)⟩
    refine ⟨_, rfl, a, dx, _, rfl, hp, a, rows, rfl, hI, vd, fun D t H1 s1 hD0 hL hCA hcz => ?_⟩
    refine ⟨_, rfl, D, oa, toTI t, icc c, rfl, by rw [toTI_vz]; exact .inl (.inl hL), toTI_ca hCA, ?_, s1 _ _ hC, fun D2 kvs H2 hD2 s2 h2 pc => ?_⟩
    · have e1 := congrArg List.length hcz
      rw [show (toTI t).length = t.length from List.length_map .., show t.length = (cz t).length from (List.length_map ..).symm, e1]
      exact hfew
    · have s12 := s1.trans s2
      rw [toTI_cz, hcz] at pc
      refine ⟨D2, rfl, .inr ⟨_, .inl h2⟩, _, rfl, _, DGet.t (k := ick (icc d)) h2 (s12 _ _ hD), ?_⟩
      refine k _ _ s12 (fun e => ?_) (fun e => ?_)
      · obtain ⟨⟨c', m⟩, hm, e3⟩ := List.mem_map.mp (pc.keys.mpr (rchB_iff.mp e))
        have e3 : c' = icc d := e3
        rw [e3] at hm
        exact ⟨m, by rw [dkv_some pc.nd hm]; rfl⟩
      · rw [dkv_none fun hm => by rw [rchB_iff.mpr (pc.keys.mp hm)] at e; cases e]
        rfl
end
end Om

namespace Om
open PySem PySem.Spec PyProof.Rows L2 LamX
abbrev sRoute : Stmt := top 28
/-- a walk from one cell, each next cell one pace nearer -/
structure Rt (kvs : List (IC × Nat)) (one : IC) (m0 : Nat) (cs : List IC) : Prop where
  h0 : cs[0]? = some one
  lt : cs.length ≤ m0 + 1
  pace : ∀ i c, cs[i]? = some c → (c, m0 - i) ∈ kvs
  adj : ∀ i c d, cs[i]? = some c → cs[i + 1]? = some d → d ∈ adjL c
theorem Rt.start {kvs : List (IC × Nat)} {one : IC} {m0 : Nat} (h : (one, m0) ∈ kvs) : Rt kvs one m0 [one] where
  h0 := rfl
  lt := by simp
  pace := fun i c hc => by
    cases i with
    | zero => cases hc; exact h
    | succ i => simp at hc
  adj := fun i c d _ hd => by simp at hd
theorem Rt.put {kvs : List (IC × Nat)} {one : IC} {m0 : Nat} {cs : List IC} {c d : IC} (R : Rt kvs one m0 cs) (hc : cs[cs.length - 1]? = some c) (hd : d ∈ adjL c) (hp : (d, m0 - cs.length) ∈ kvs) (hl : cs.length ≤ m0) : Rt kvs one m0 (cs ++ [d]) where
  h0 := by
    have h := R.h0
    have hp : 0 < cs.length := (List.getElem?_eq_some_iff.mp h).1
    rw [List.getElem?_append_left hp]
    exact h
  lt := by simp; omega
  pace := fun i x hx => by
    by_cases hi : i < cs.length
    · rw [List.getElem?_append_left hi] at hx
      exact R.pace i x hx
    · have h2 := (List.getElem?_eq_some_iff.mp hx).1
      rw [List.length_append, List.length_singleton] at h2
      have e : i = cs.length := by omega
      subst e
      rw [List.getElem?_append_right (Nat.le_refl _), Nat.sub_self] at hx
      cases hx
      exact hp
  adj := fun i x y hx hy => by
    have h2 := (List.getElem?_eq_some_iff.mp hy).1
    rw [List.length_append, List.length_singleton] at h2
    have hi : i < cs.length := by omega
    rw [List.getElem?_append_left hi] at hx
    by_cases hj : i + 1 < cs.length
    · rw [List.getElem?_append_left hj] at hy
      exact R.adj i x y hx hy
    · have e : i + 1 = cs.length := by omega
      rw [e, List.getElem?_append_right (Nat.le_refl _), Nat.sub_self] at hy
      cases hy
      have e2 : i = cs.length - 1 := by omega
      rw [e2] at hx
      rw [hc] at hx
      cases hx
      exact hd
theorem eqv_ic (c d : IC) : PyData.eqv (cdI c) (cdI d) = decide (c = d) := by
  unfold cdI
  obtain ⟨c1, c2⟩ := c
  obtain ⟨d1, d2⟩ := d
  simp only [PyData.eqv, PyData.eqvAll, Bool.and_true]
  rw [Bool.eq_iff_iff, Bool.and_eq_true, decide_eq_true_eq, Prod.mk.injEq]
  exact and_congr decide_eq_true_iff decide_eq_true_iff
section
variable {P : Program} {w : World} {K : PySem.W.Frag} {mg : Str → Option Value} {base : Heap} {CI CU fN pm gt : Addr}
abbrev nRt : List Str := ["island", "one", "other", "paces", "cells", "left", "cell"]
theorem scRt : FnScope nRt ["island", "one", "other"] (defScope sRoute) := ⟨rfl, rfl, rfl, by decide +kernel, rfl, by decide +kernel, by decide +kernel⟩
def rtLc : Expr := arg0 (arg0 (match (whB ((defBody sRoute).getD 4 noS)).getD 1 noS with | .Expr e _ => e | _ => .Constant .none 0 ⟨0, 0, 0, 0⟩))
theorem blkRt : BlkOk nRt (defScope sRoute) (lcScope rtLc) [("cell", 6)] := blkOk_by (by decide +kernel)
theorem Pc.one {L : List IC} {b : IC} {kvs : List (IC × Nat)} (p : Pc L b kvs) {c : IC} {m n : Nat} (h1 : (c, m) ∈ kvs) (h2 : (c, n) ∈ kvs) : m = n := by
  have e1 := dkv_some p.nd h1
  rw [dkv_some p.nd h2] at e1
  have e2 := V.int.inj (Option.some.inj e1)
  omega
theorem Rt.nodup {L : List IC} {b one : IC} {kvs : List (IC × Nat)} {m0 : Nat} {cs : List IC} (p : Pc L b kvs) (R : Rt kvs one m0 cs) : cs.Nodup := by
  refine List.pairwise_iff_getElem.mpr fun i j hi hj hij e => ?_
  have h1 := R.pace i cs[i] (List.getElem?_eq_getElem hi)
  have h2 := R.pace j cs[j] (List.getElem?_eq_getElem hj)
  rw [e] at h1
  have h3 := p.one h1 h2
  have h4 := R.lt
  omega
theorem Pc.len {L : List IC} {b : IC} {kvs : List (IC × Nat)} (p : Pc L b kvs) : kvs.length ≤ L.length + 1 := by
  have h := nodup_le (kvs.map (·.1)) (b :: L) p.nd fun c hc => by
    obtain ⟨⟨c', m⟩, h1, e⟩ := List.mem_map.mp hc
    have e : c' = c := e
    subst e
    rcases p.lnd _ _ h1 with h | h
    · rw [h]; exact List.mem_cons_self
    · exact List.mem_cons_of_mem _ h
  rw [List.length_map, List.length_cons] at h
  exact h
theorem Rt.len {L : List IC} {b one : IC} {kvs : List (IC × Nat)} {m0 : Nat} {cs : List IC} (p : Pc L b kvs) (R : Rt kvs one m0 cs) : cs.length ≤ L.length + 1 := by
  refine Nat.le_trans (nodup_le cs (kvs.map (·.1)) (R.nodup p) fun c hc => ?_) (by rw [List.length_map]; exact p.len)
  obtain ⟨i, hi, e⟩ := List.mem_iff_getElem.mp hc
  exact List.mem_map.mpr ⟨_, R.pace i c (by rw [List.getElem?_eq_getElem hi, e]), rfl⟩
theorem cdI_dp {H : Hp} {a : Addr} {c : IC} (h : H a = some (.tup (icv c))) : Dp K H (.ref a) (cdI c) := .tup (.inl (.inl h)) (.cons (.int _) (.cons (.int _) .nil))
end
end Om

namespace Om
open PySem PySem.Spec PyProof.Rows L2 LamX
abbrev sLSign : Stmt := top 36
abbrev sLNext : Stmt := top 37
def sgW (rows : List (List Nat)) (c : IC) : Nat := if insd rows c.1 c.2 then sgAt rows c.1 c.2 else 126
theorem sgW_has {rows : List (List Nat)} (c : IC) : decide (sgW rows c = 126) = !(hasC rows c.1 c.2) := by
  unfold sgW hasC
  cases insd rows c.1 c.2 with
  | false => rfl
  | true => simp
def spLSign (K : PySem.W.Frag) : Sp := fun vs H Q _ => ∃ (ra ca : Addr) (rows : List (List Nat)) (c : IC), vs = [.ref ra, .ref ca] ∧ SqT K H ra (rows.map vt) ∧ Good2 rows ∧ SqT K H ca (icv c) ∧ Q (vt [sgW rows c]) H
def spLNext (K : PySem.W.Frag) : Sp := fun vs H Q _ => ∃ (ca : Addr) (c : IC) (f : Nat), vs = [.ref ca, .int (f : Nat)] ∧ SqT K H ca (icv c) ∧ f < 4 ∧ ∀ H1, Same H H1 → ∀ p, H1 p = none → Q (.ref p) (upd H1 p (.tup (icv (adjI c f))))
section
variable {P : Program} {w : World} {K : PySem.W.Frag} {mg : Str → Option Value} {base : Heap} {CI CU fN pm gt : Addr}
abbrev nLS : List Str := ["_law_rows_here", "_law_cell"]
theorem scLS : FnScope nLS ["_law_rows_here", "_law_cell"] (defScope sLSign) := ⟨rfl, rfl, rfl, by decide +kernel, rfl, by decide +kernel, by decide +kernel⟩
theorem ok_lsign {f : Addr} {fd : FuncData} (F : FnP K "_law_sign" "_law_sign" sLSign f fd) (glen : mg "len" = none) : FnOk P w K mg base CX0 1 f fd ["_law_rows_here", "_law_cell"] (spLSign K) := by
  refine F.ok scLS (fun vs H Q E h => ?_) (fun cdv A outer s H vs Q E hr h => ?_)
  · obtain ⟨ra, ca, rows, c, rfl, _⟩ := h
    rfl
  · obtain ⟨ra, ca, rows, c, rfl, hS, g, hC, k⟩ := h
    have nd := scLS.nd
    refine ⟨_, PSs.nox (pss_cons (ps_if (PW.pt (pw_or (pt_not (pt_chain op_le op_lt pe_int (pe_ix ix_tup (pv 1) pe_int (fun _ _ => rfl)) (pe_callB call_len_seq (by rfl) glen PySem.boot_len (pa_cons (pv 0) pa_nil))))
        (pw_or1 (pt_not (pt_chain op_le op_lt pe_int (pe_ix ix_tup (pv 1) pe_int (fun _ _ => rfl)) (pe_callB call_len_str (by rfl) glen PySem.boot_len (pa_cons (pe_ix ix_tup (pv 0) pe_int (fun _ _ => rfl)) pa_nil)))))))
        (pss_one (ps_ret pe_str)) pss_nil)
      (pss_one (ps_ret (pe_ix ix_str (pe_ix ix_tup (pv 0) (pe_ix ix_tup (pv 1) pe_int (fun _ _ => rfl)) (fun _ _ => rfl)) (pe_ix ix_tup (pv 1) pe_int (fun _ _ => rfl)) (fun _ _ => rfl))))), ?_⟩
    have ez : (Str.ofString "~") = tx [126] := by decide +kernel
    have kw : insd rows c.1 c.2 = false → Q (.str (Str.ofString "~")) H := fun e => by
      rw [ez]
      have e2 : sgW rows c = 126 := by unfold sgW; rw [if_neg (by rw [e]; simp)]
      rw [e2] at k
      exact k
    obtain ⟨r0, rs, hrs⟩ : ∃ r0 rs, rows = r0 :: rs := by
      cases rows with
      | nil => exact absurd rfl g.toShp.ne
      | cons r0 rs => exact ⟨r0, rs, rfl⟩
    have hr0 : (tx r0).length ≤ sizeLine := by rw [tx_len]; exact small_le (g.toShp.row r0 (by rw [hrs]; exact List.mem_cons_self ..))
    have hat0 : atI (rows.map vt) 0 = some (vt r0) := by rw [hrs]; exact at0
    have hh : (rows.headD []) = r0 := by rw [hrs]; rfl
    have hI : insd rows c.1 c.2 = (decide (0 ≤ c.1) && decide (c.1 ≤ (rows.length : Int) - 1) && (decide (0 ≤ c.2) && decide (c.2 ≤ (r0.length : Int) - 1))) := by
      unfold insd inR
      rw [hh]
    refine ⟨_, rfl, ca, _, 0, _, rfl, rfl, hC, at0, _, _, rfl, rfl, _, rfl, ?_⟩
    by_cases a1 : 0 ≤ c.1
    · refine iteT' (decide_eq_true a1) ?_
      refine ⟨_, rfl, ra, _, rfl, .inr hS, _, _, rfl, rfl, _, rfl, ?_⟩
      by_cases a2 : c.1 < ((rows.map vt).length : Int)
      · refine iteF' (by rw [decide_eq_true a2]; rfl) ?_
        refine ⟨_, rfl, ca, _, 1, _, rfl, rfl, hC, rfl, _, _, rfl, rfl, _, rfl, ?_⟩
        by_cases a3 : 0 ≤ c.2
        · refine iteT' (decide_eq_true a3) ?_
          refine ⟨_, rfl, ra, _, 0, _, rfl, rfl, hS, hat0, _, rfl, hr0, _, _, rfl, rfl, _, rfl, ?_⟩
          by_cases a4 : c.2 < ((tx r0).length : Int)
          · refine iteF' (by rw [decide_eq_true a4]; rfl) ?_
            have e : insd rows c.1 c.2 = true := by
              rw [hI, decide_eq_true a1, decide_eq_true a3, decide_eq_true (p := c.1 ≤ (rows.length : Int) - 1) (by rw [List.length_map] at a2; omega), decide_eq_true (p := c.2 ≤ (r0.length : Int) - 1) (by rw [tx_len] at a4; omega)]
              rfl
            obtain ⟨r, ch, h1, h2, h3, hm, hi, hj⟩ := insd_at g e
            have ei : atI (rows.map vt) c.1 = some (vt r) := by
              have z := atI_nat (xs := rows.map vt) (j := c.1.toNat) (v := vt r) (by rw [List.getElem?_map, h1]; rfl)
              rwa [Int.toNat_of_nonneg hi] at z
            have ej : atI (tx r).cps.toList c.2 = some ch := by
              have z := atI_nat (xs := (tx r).cps.toList) (j := c.2.toNat) (v := ch) (by rw [tx_cps]; exact h2)
              rwa [Int.toNat_of_nonneg hj] at z
            have e2 : sgW rows c = ch := by unfold sgW; rw [if_pos e]; exact h3
            rw [e2] at k
            exact ⟨_, rfl, _, rfl, ca, _, 0, _, rfl, rfl, hC, at0, ra, _, c.1, _, rfl, rfl, hS, ei, _, rfl, ca, _, 1, _, rfl, rfl, hC, rfl, _, c.2, ch, rfl, rfl, (by rw [tx_len]; exact small_le (g.toShp.row r hm)), ej, k⟩
          · refine iteT' (by rw [decide_eq_false a4]; rfl) (kw ?_)
            rw [hI, decide_eq_false (p := c.2 ≤ (r0.length : Int) - 1) (by rw [tx_len] at a4; omega), Bool.and_false, Bool.and_false]
        · refine iteF' (decide_eq_false a3) ⟨_, rfl, iteT' rfl (kw ?_)⟩
          rw [hI, decide_eq_false a3, Bool.false_and, Bool.and_false]
      · refine iteT' (by rw [decide_eq_false a2]; rfl) (kw ?_)
        rw [hI, decide_eq_false (p := c.1 ≤ (rows.length : Int) - 1) (by rw [List.length_map] at a2; omega), Bool.and_false, Bool.false_and]
    · refine iteF' (decide_eq_false a1) ⟨_, rfl, iteT' rfl (kw ?_)⟩
      rw [hI, decide_eq_false a1, Bool.false_and, Bool.false_and]
abbrev nLN : List Str := ["_law_cell", "_law_facing", "_law_down", "_law_right"]
theorem scLN : FnScope nLN ["_law_cell", "_law_facing"] (defScope sLNext) := ⟨rfl, rfl, rfl, by decide +kernel, rfl, by decide +kernel, by decide +kernel⟩
theorem ok_lnext {f : Addr} {fd : FuncData} (F : FnP K "_law_next" "_law_next" sLNext f fd) (gint : mg "int" = none) : FnOk P w K mg base CX0 1 f fd ["_law_cell", "_law_facing"] (spLNext K) := by
  refine F.ok scLN (fun vs H Q E h => ?_) (fun cdv A outer s H vs Q E hr h => ?_)
  · obtain ⟨ca, c, f, rfl, _⟩ := h
    rfl
  · obtain ⟨ca, c, f, rfl, hC, hf, k⟩ := h
    have nd := scLN.nd
    refine ⟨_, PSs.nox (pss_cons (ps_asg (pe_ix ix_list (pe_lst (pa_cons (pe_tup (pa_cons (pe_un un_neg pe_int) (pa_cons pe_int pa_nil))) (pa_cons (pe_tup (pa_cons pe_int (pa_cons pe_int pa_nil))) (pa_cons (pe_tup (pa_cons pe_int (pa_cons pe_int pa_nil))) (pa_cons (pe_tup (pa_cons pe_int (pa_cons (pe_un un_neg pe_int) pa_nil))) pa_nil)))))
        (pe_op op_mod (pe_callTy call_int1 (by rfl) gint boot_int (pa_cons (pv 1) pa_nil)) pe_int) (fun _ _ => rfl)) (pg_tup rfl (pgs_cons (pg_name (i := 2) nd rfl (.inl rfl)) (pgs_cons (pg_name (i := 3) nd rfl (.inl rfl)) pgs_nil))))
      (pss_one (ps_ret (pe_tup (pa_cons (pe_op op_add (pe_ix ix_tup (pv 0) pe_int (fun _ _ => rfl)) (pv 2)) (pa_cons (pe_op op_add (pe_ix ix_tup (pv 0) pe_int (fun _ _ => rfl)) (pv 3)) pa_nil)))))), ?_⟩
    refine ⟨_, rfl, by show 2 ≤ sizeLine; decide, fun p0 h0 => ?_⟩
    refine ⟨by show 2 ≤ sizeLine; decide, fun p1 h1 => ?_⟩
    refine ⟨by show 2 ≤ sizeLine; decide, fun p2 h2 => ?_⟩
    refine ⟨_, rfl, by show 2 ≤ sizeLine; decide, fun p3 h3 => ?_⟩
    refine ⟨by show 4 ≤ sizeLine; decide, fun l hl => ?_⟩
    have s0 : Same H (upd H p0 (.tup [.int (-1), .int 0])) := Same.new (Same.refl H) h0
    have e0 : (upd H p0 (.tup [.int (-1), .int 0])) p0 = some (.tup [.int (-1), .int 0]) := upd_same
    generalize upd H p0 (.tup [.int (-1), .int 0]) = H0 at s0 e0 h1 h2 h3 hl ⊢
    have s1 := Same.new (Same.refl H0) h1 (o := .tup [.int 0, .int 1])
    have e1 : (upd H0 p1 (.tup [.int 0, .int 1])) p1 = some (.tup [.int 0, .int 1]) := upd_same
    generalize upd H0 p1 (.tup [.int 0, .int 1]) = H1 at s1 e1 h2 h3 hl ⊢
    have s2 := Same.new (Same.refl H1) h2 (o := .tup [.int 1, .int 0])
    have e2 : (upd H1 p2 (.tup [.int 1, .int 0])) p2 = some (.tup [.int 1, .int 0]) := upd_same
    generalize upd H1 p2 (.tup [.int 1, .int 0]) = H2 at s2 e2 h3 hl ⊢
    have s3 := Same.new (Same.refl H2) h3 (o := .tup [.int 0, .int (-1)])
    have e3 : (upd H2 p3 (.tup [.int 0, .int (-1)])) p3 = some (.tup [.int 0, .int (-1)]) := upd_same
    generalize upd H2 p3 (.tup [.int 0, .int (-1)]) = H3 at s3 e3 hl ⊢
    have s4 := Same.new (Same.refl H3) hl (o := .lst [.ref p0, .ref p1, .ref p2, .ref p3])
    have e4 : (upd H3 l (.lst [.ref p0, .ref p1, .ref p2, .ref p3])) l = some (.lst [.ref p0, .ref p1, .ref p2, .ref p3]) := upd_same
    generalize upd H3 l (.lst [.ref p0, .ref p1, .ref p2, .ref p3]) = H4 at s4 e4 ⊢
    have s04 := (s0.trans s1).trans ((s2.trans s3).trans s4)
    have a0 := (s1.trans ((s2.trans s3).trans s4)) _ _ e0
    have a1 := ((s2.trans s3).trans s4) _ _ e1
    have a2 := (s3.trans s4) _ _ e2
    have a3 := s4 _ _ e3
    have hm : ((f : Nat) : Int) % 4 = ((f : Nat) : Int) := Int.emod_eq_of_lt (by omega) (by omega)
    have hC4 := Same.tup s04 hC
    obtain ⟨p, i, j, q1, q2, q3⟩ : ∃ (p : Addr) (i j : Int), [V.ref p0, V.ref p1, V.ref p2, V.ref p3][f]? = some (.ref p) ∧ H4 p = some (.tup [.int i, .int j]) ∧ (c.1 + i, c.2 + j) = adjI c f :=
      match f, hf with
      | 0, _ => ⟨p0, -1, 0, rfl, a0, rfl⟩
      | 1, _ => ⟨p1, 0, 1, rfl, a1, rfl⟩
      | 2, _ => ⟨p2, 1, 0, rfl, a2, rfl⟩
      | 3, _ => ⟨p3, 0, -1, rfl, a3, rfl⟩
    have hat : atI [V.ref p0, V.ref p1, V.ref p2, V.ref p3] (((f : Nat) : Int) % 4) = some (.ref p) := by
      rw [hm]
      exact atI_nat q1
    refine ⟨_, rfl, .inl ⟨_, rfl, _, _, rfl, rfl, (by show (0 : Int) < 4; decide), l, _, _, _, rfl, rfl, .inl (.inl e4), hat, ?_⟩⟩
    refine ⟨p, _, rfl, .inl (.inl q2), rfl, _, _, rfl, _, _, rfl, rfl, ?_⟩
    refine ⟨_, rfl, ca, _, 0, _, rfl, rfl, hC4, at0, _, rfl, _, _, rfl, rfl, _, rfl, ca, _, 1, _, rfl, rfl, hC4, rfl, _, rfl, _, _, rfl, rfl, by show 2 ≤ sizeLine; decide, fun q hq => ?_⟩
    have kk := k H4 s04 q hq
    rw [← q3] at kk
    exact kk
end
end Om

/-! a lambda handed to a def, its parameters all with a written default; what it raises is wished for at the slots of the def that calls it -/
namespace Om
open PySem PySem.Spec PyProof.Rows L2 LamX
/-- the function object: as the library's, its defaults dV -/
abbrev lamFd (qual : Str) (params : Arguments) (body : Expr) (scope : Scope) (cl : List (Str × Addr)) (pm : Value) (c' : Addr) (ctv dV : Value) : FuncData :=
  { PySem.W.kla_fn "<lambda>" qual params body scope cl pm (.ref c') ctv with defaults := dV }
abbrev lamOb (qual : Str) (params : Arguments) (body : Expr) (scope : Scope) (cl : List (Str × Addr)) (pm : Value) (c' : Addr) (ctv dV : Value) : Obj :=
  { cls := .type "function", data := .func (lamFd qual params body scope cl pm c' ctv dV) }
section
variable {M : Model} {A : Around} {E : Value → Shared → Prop} {s : Shared} {qual : Str} {params : Arguments} {body : Expr} {scope : Scope} {env : Env} {c P : Addr} {ps : Array Value} {pos : Pos} {fl : Nat} {mg : Str → Option Value}
  {clos : List (Str × Addr)} {Q : Value → Shared → Prop} {dV : Value}
/-- its code object is new -/
theorem tail_new (e1 : closureFor scope env = pure clos) (e2 : env.globals = mainGlobals) (e3 : s.heap.Ns mainGlobals mg) (e4 : env.code = .ref c) (e5 : PySem.W.CodeHd s.heap c P) (e6 : s.heap.get? P = some { cls := .none, data := .fields ps })
    (e7 : TriplesOk ps.toList) (e8 : codeAmong pos ps.toList = none) (e9 : mainGlobals ≠ P) (e10 : s.heap.BuiltinsAt mg P)
    (k : ∀ c' ctv h' tk, Heap.ExtBut P s.heap h' → s.heap.objs.size ≤ c' → c' < h'.objs.size → h'.CodeRec (.ref c') qual → h'.get? P = some { cls := .none, data := .fields (ps ++ #[rawInt pos.line, rawInt pos.col, .ref c']) } →
      Q (.ref h'.objs.size) { s with heap := h'.push (lamOb qual params body scope clos ((mg "__name__").getD .none) c' ctv dV), toks := tk }) :
    wpAny M A (makeTail "<lambda>" qual params (.expr body) scope env dV .none none pos fl) Q E s := by
  obtain ⟨b1, o1, g1, g2, _, g3, g4, g5, g6, g7⟩ := e10
  unfold makeTail
  rw [e1, e2]
  refine wpAny_bind (wpAny_pure ?_)
  cases clos with
  | nil =>
    simp only [List.isEmpty_nil, if_true]
    refine wpAny_bind (wpAny_pure (wpAny_bind (wpAny_functionCodeX e4 (e5.code e6 e7) (e5.tab e6) e8 fun c' h' tk x1 x2 x3 _ x4 x5 _ => ?_)))
    have G2 := e3.extBut x1 e9
    exact wpAny_bind (wpAny_builtinsFor G2 g1 g2 (x1 _ _ g3 g4) g5 g6 g7 (wpAny_bind (wpAny_nsGet G2 (wpAny_bind (wpAny_pure (wpAny_newObj_type (k c' .none h' tk x1 x2 x3 x4 x5.2) (by size_fits)))))))
  | cons q r =>
    simp only [List.isEmpty_cons, Bool.false_eq_true, if_false]
    refine wpAny_bind (wpAny_newTextTuple ?_)
    have kp : ∀ (oT : Obj) (b : Addr) (o : Obj), s.heap.get? b = some o → (s.heap.push oT).get? b = some o := fun oT b o e => Heap.get?_push_of_some _ e
    refine wpAny_bind (wpAny_functionCodeX e4 ((e5.keeps (kp _)).code (kp _ _ _ e6) e7) ((e5.keeps (kp _)).tab (kp _ _ _ e6)) e8 fun c' h' tk x1 x2 x3 _ x4 x5 _ => ?_)
    have ex : Heap.ExtBut P s.heap h' := fun b o hb e => x1 b o hb (kp _ b o e)
    have G2 := (e3.push _).extBut x1 e9
    have sz : s.heap.objs.size ≤ c' := Nat.le_trans (by rw [Heap.size_push]; omega) x2
    exact wpAny_bind (wpAny_builtinsFor G2 g1 g2 (ex _ _ g3 g4) g5 g6 g7 (wpAny_bind (wpAny_nsGet G2 (wpAny_bind (wpAny_pure (wpAny_newObj_type (k c' _ h' tk ex sz x3 x4 x5.2) (by size_fits)))))))
/-- its code object stands in the table -/
theorem tail_hit {cv : Value} (e1 : closureFor scope env = pure clos) (e2 : env.globals = mainGlobals) (e3 : s.heap.Ns mainGlobals mg) (e4 : env.code = .ref c) (e5 : PySem.W.CodeHd s.heap c P) (e6 : s.heap.get? P = some { cls := .none, data := .fields ps })
    (e7 : TriplesOk ps.toList) (e8 : codeAmong pos ps.toList = some cv) (e10 : s.heap.BuiltinsAt mg P)
    (k : ∀ (ctv : Value) (h' : Heap) (tk : Tok), (∀ b o, s.heap.get? b = some o → h'.get? b = some o) → s.heap.objs.size ≤ h'.objs.size →
      Q (.ref h'.objs.size) { s with heap := h'.push { cls := .type "function", data := .func { PySem.W.kla_fn "<lambda>" qual params body scope clos ((mg "__name__").getD .none) cv ctv with defaults := dV } }, toks := tk }) :
    wpAny M A (makeTail "<lambda>" qual params (.expr body) scope env dV .none none pos fl) Q E s := by
  obtain ⟨b1, o1, g1, g2, _, g3, g4, g5, g6, g7⟩ := e10
  unfold makeTail
  rw [e1, e2]
  refine wpAny_bind (wpAny_pure ?_)
  cases clos with
  | nil =>
    simp only [List.isEmpty_nil, if_true]
    exact wpAny_bind (wpAny_pure (wpAny_bind (wpAny_functionCode_hit e4 (e5.code e6 e7) e8 (wpAny_bind (wpAny_builtinsFor e3 g1 g2 g4 g5 g6 g7 (wpAny_bind (wpAny_nsGet e3 (wpAny_bind (wpAny_pure (wpAny_newObj_type (k .none s.heap s.toks (fun _ _ e => e) (Nat.le_refl _)) (by size_fits)))))))))))
  | cons q r =>
    simp only [List.isEmpty_cons, Bool.false_eq_true, if_false]
    have kp : ∀ (oT : Obj) (b : Addr) (o : Obj), s.heap.get? b = some o → (s.heap.push oT).get? b = some o := fun oT b o e => Heap.get?_push_of_some _ e
    exact wpAny_bind (wpAny_newTextTuple (wpAny_bind (wpAny_functionCode_hit e4 ((e5.keeps (kp _)).code (kp _ _ _ e6) e7) e8 (wpAny_bind (wpAny_builtinsFor (e3.push _) g1 g2 (kp _ _ _ g4) g5 g6 g7
      (wpAny_bind (wpAny_nsGet (e3.push _) (wpAny_bind (wpAny_pure (wpAny_newObj_type (k _ _ s.toks (kp _) (by rw [Heap.size_push]; omega)) (by size_fits)))))))))))
end
section
variable {X : Cx} {pins : List (Addr × Obj)} {σ : L2.St} {H : Hp} {s : Shared}
/-- a lambda with one parameter whose default is a written int is made -/
theorem lam_mk1 {T : List (Addr × Str)} {c P : Addr} {params : Arguments} {body : Expr} {scope : Scope} {pos p0 : Pos} {i0 : Int} {j0 : Nat} {E : Value → Shared → Prop} {Q : Value → Shared → Prop} (I : Inv X pins σ H s) (TB : TabB X.base X.mg c P) (hcode : X.env.code = .ref c)
    (hm : (P, X.env.qual ++ "<lambda>") ∈ T) (hu : ∀ p ∈ T, p.1 = P → p.2 = X.env.qual ++ "<lambda>") (hT : Tabs T H) (hdef : defaultsOf params X.env = ([eval (.Constant (.int i0) j0 p0) X.env], [])) (hfree : ∀ y ∈ scope.names, y.2 = .free → ∃ c, X.env.cells.lookup y.1 = some c)
    (k : ∀ (f c' D : Addr) (t0 : Tok) (pm ctv : Value) (H1 : Hp) (s' : Shared), Inv X pins σ H1 s' → ExtN H H1 → Tabs T H1 → s'.heap.get? f = some (lamOb (X.env.qual ++ "<lambda>") params body scope (cloFrom X.env.cells scope.names []) pm c' ctv (.ref D)) →
      s'.heap.get? D = some { cls := .type "tuple", data := .seq #[.int i0 t0] } → H1 f = none → H1 D = none → f ∉ frs X.stack → D ∉ frs X.stack → H1 c' = some (CodeO c' (X.env.qual ++ "<lambda>")) → Q (.ref f) s') (hxe : E = X.xe) :
    wpAny (model X.prog X.w) X.A (eval (.Lambda params body scope pos) X.env) Q E s := by
  subst hxe
  rw [arm_eval_Lambda, hdef]
  show wpAny _ _ (do let dv ← evalAll [eval (.Constant (.int i0) j0 p0) X.env]; let kdv ← holding dv (evalAllOpt []); makeFunction "<lambda>" (X.env.qual ++ "<lambda>") params (.expr body) scope X.env dv kdv [] pos pos.line) Q X.xe s
  refine wpAny_bind (wpAny_bind (thn ((pe_int (X := X) (i := i0) (j := j0) (pos := p0)).run pins s σ H (fun v H' => v = .int i0 ∧ H' = H) I ⟨rfl, rfl⟩) fun u s1 ⟨v, H1, I1, r1, ev, eH⟩ => ?_))
  subst ev
  rw [eH] at I1
  obtain ⟨t0, rfl⟩ := r1
  refine wpAny_bind (wpAny_holding (wpAny_pure (wpAny_pure (wpAny_bind (wpAny_holding (wpAny_pure ?_))))))
  rw [makeFunction_eq]
  simp only [List.zip_nil_right, List.filterMap_nil, List.isEmpty_nil, List.isEmpty_cons, Bool.false_eq_true, if_false, if_true, pure_bind]
  refine wpAny_bind (wpAny_newTextTuple ?_)
  have eD : (s1.heap.push { cls := .type "tuple", data := .seq [Value.int i0 t0].toArray }).get? s1.heap.objs.size = some { cls := .type "tuple", data := .seq #[.int i0 t0] } := Heap.get?_push_size _ rfl
  have I2 : Inv X pins σ H { s1 with heap := s1.heap.push { cls := .type "tuple", data := .seq [Value.int i0 t0].toArray } } := I1.kept (t' := s1.toks) fun b o e => Heap.get?_push_of_some _ e
  have nD : H s1.heap.objs.size = none := I1.hok.fresh (Nat.le_refl _)
  have frN : ∀ f, s1.heap.objs.size ≤ f → f ∉ frs X.stack := fun f hf z => by
    rcases List.mem_cons.mp (I1.stkSub _ z) with e | e
    · have q1 := I1.lt
      rw [← e] at q1
      exact Nat.lt_irrefl _ (Nat.lt_of_lt_of_le q1 hf)
    · exact I1.nofs hf e
  have frD := frN s1.heap.objs.size (Nat.le_refl _)
  have szD : s1.heap.objs.size ≤ (s1.heap.push { cls := .type "tuple", data := .seq [Value.int i0 t0].toArray }).objs.size := by rw [Heap.size_push]; omega
  generalize s1.heap.objs.size = D at eD nD frN frD szD
  generalize hs2 : ({ s1 with heap := s1.heap.push { cls := .type "tuple", data := .seq [Value.int i0 t0].toArray } } : Shared) = s2 at I2
  have eh : s2.heap = s1.heap.push { cls := .type "tuple", data := .seq [Value.int i0 t0].toArray } := by rw [← hs2]
  rw [← eh] at eD szD
  obtain ⟨ps, tP, tt, ta⟩ := hT _ hm
  have bP : s2.heap.BuiltinsAt X.mg P := TB.bm.keeps I2.bk
  have oP : s2.heap.get? P = some { cls := .none, data := .fields ps } := I2.hok P _ tP
  cases hc : codeAmong pos ps.toList with
  | none =>
    refine tail_new (mg := X.mg) (closure_ok hfree) I2.ok.glob (I2.mod.glob.keeps I2.bk) hcode (TB.code.keeps I2.bk) oP tt hc TB.gP bP fun c' ctv h' tk x1 x2 x3 x4 x5 => ?_
    obtain ⟨c2, oc, vs, t, y1, y2, y3, y4⟩ := x4
    cases y1
    have nC : H c' = none := I2.hok.fresh x2
    have sz2 : s2.heap.objs.size ≤ h'.objs.size := Nat.le_trans x2 (Nat.le_of_lt x3)
    have J := inv_table (t' := tk) (more := #[rawInt pos.line, rawInt pos.col, .ref c']) (h' := h'.push (lamOb (X.env.qual ++ "<lambda>") params body scope (cloFrom X.env.cells scope.names []) ((X.mg "__name__").getD .none) c' ctv (.ref D))) I2 tP
      (fun b o hb e => Heap.get?_push_of_some _ (x1 b o hb e)) (Heap.get?_push_of_some _ x5) x2 ⟨oc, vs, t, Heap.get?_push_of_some _ y2, y3, y4⟩
    have nPC : P ≠ c' := ne_of_none tP nC
    have eN : ExtN H (upd (upd H P (.tbl (ps ++ #[rawInt pos.line, rawInt pos.col, .ref c']))) c' (CodeO c' (X.env.qual ++ "<lambda>"))) := fun b o e n => by
      have n1 : b ≠ P := fun z => by
        rw [z, tP] at e
        exact n ps (Option.some.inj e).symm
      rw [upd_ne (ne_of_none e nC), upd_ne n1]
      exact e
    have eL : (ps ++ #[rawInt pos.line, rawInt pos.col, .ref c']).toList = ps.toList ++ [rawInt pos.line, rawInt pos.col, .ref c'] := by simp
    have eD2 : (h'.push (lamOb (X.env.qual ++ "<lambda>") params body scope (cloFrom X.env.cells scope.names []) ((X.mg "__name__").getD .none) c' ctv (.ref D))).get? D = some { cls := .type "tuple", data := .seq #[.int i0 t0] } := by
      refine Heap.get?_push_of_some _ (x1 D _ (fun z => ?_) eD)
      rw [z, tP] at nD
      cases nD
    have lD : D < s2.heap.objs.size := Heap.lt_size eD
    have nDc : D ≠ c' := Nat.ne_of_lt (Nat.lt_of_lt_of_le lD x2)
    have nDP : D ≠ P := fun z => by rw [z, tP] at nD; cases nD
    refine k h'.objs.size c' D t0 ((X.mg "__name__").getD .none) ctv _ _ J eN (fun p hp => ?_) (Heap.get?_push_size _ rfl) eD2 ?_ ?_ (frN _ (Nat.le_trans szD sz2)) frD upd_same
    · by_cases hb : p.1 = P
      · rw [hu p hp hb, hb]
        refine ⟨_, by rw [upd_ne nPC, upd_same], by rw [eL]; exact PySem.TriplesOk_snoc _ _ _ _ tt, fun p' cv hcv => ?_⟩
        rw [eL] at hcv
        rcases among_app _ tt hcv with z | z
        · obtain ⟨c0, w1, w2⟩ := ta p' cv z
          exact ⟨c0, w1, eN _ _ w2 codeO_ne⟩
        · exact ⟨c', z, upd_same⟩
      · obtain ⟨ps2, a1, a2, a3⟩ := hT p hp
        refine ⟨ps2, by rw [upd_ne (ne_of_none a1 nC), upd_ne hb]; exact a1, a2, fun p' cv hcv => ?_⟩
        obtain ⟨c0, w1, w2⟩ := a3 p' cv hcv
        exact ⟨c0, w1, eN _ _ w2 codeO_ne⟩
    · rw [upd_ne (Nat.ne_of_gt x3), upd_ne (Nat.ne_of_gt (Nat.lt_of_lt_of_le (Heap.lt_size oP) sz2))]
      exact I2.hok.fresh sz2
    · rw [upd_ne nDc, upd_ne nDP]
      exact nD
  | some cv =>
    obtain ⟨c', y1, y2⟩ := ta pos cv hc
    subst y1
    refine tail_hit (mg := X.mg) (closure_ok hfree) I2.ok.glob (I2.mod.glob.keeps I2.bk) hcode (TB.code.keeps I2.bk) oP tt hc bP fun ctv h' tk x1 x2 => ?_
    have J : Inv X pins σ H { s2 with heap := h'.push (lamOb (X.env.qual ++ "<lambda>") params body scope (cloFrom X.env.cells scope.names []) ((X.mg "__name__").getD .none) c' ctv (.ref D)), toks := tk } := I2.kept fun b o e => Heap.get?_push_of_some _ (x1 b o e)
    exact k h'.objs.size c' D t0 ((X.mg "__name__").getD .none) ctv H _ J (ExtN.refl H) hT (Heap.get?_push_size _ rfl) (Heap.get?_push_of_some _ (x1 _ _ eD)) (I2.hok.fresh x2) nD (frN _ (Nat.le_trans szD x2)) frD y2
end
end Om

namespace Om
open PySem PySem.Spec PyProof.Rows L2 LamX
/-- the lambda's names: parameters (none of the maker's names), captured ones, globals -/
structure LamG (N : List Str) (sc scope : Scope) (xs : List Str) : Prop where
  kind : scope.kind = .function
  co : scope.isCoroutine = false
  gen : scope.isGenerator = false
  own : ∀ y ∈ scope.names, y.2 ≠ .cell ∧ (y.2 = .local → y.1 ∉ N)
  free : ∀ y ∈ scope.names, y.2 = .free → sc.names.lookup y.1 = some .cell ∨ sc.names.lookup y.1 = some .free
  par : ∀ x ∈ xs, scope.names.lookup x = some .local
def lamGB (N : List Str) (sc scope : Scope) (xs : List Str) : Bool :=
  decide (scope.kind = .function) && (!scope.isCoroutine && (!scope.isGenerator && ((scope.names.all fun y => !decide (y.2 = .cell) && (!decide (y.2 = .local) || !decide (y.1 ∈ N))) &&
    ((scope.names.all fun y => !decide (y.2 = .free) || (decide (sc.names.lookup y.1 = some .cell) || decide (sc.names.lookup y.1 = some .free))) && xs.all fun x => decide (scope.names.lookup x = some .local)))))
theorem lamG_by {N : List Str} {sc scope : Scope} {xs : List Str} (h : lamGB N sc scope xs = true) : LamG N sc scope xs := by
  unfold lamGB at h
  simp only [Bool.and_eq_true, Bool.or_eq_true, Bool.not_eq_true', decide_eq_true_eq, decide_eq_false_iff_not, List.all_eq_true] at h
  obtain ⟨h1, h2, h3, h4, h5, h6⟩ := h
  refine ⟨h1, h2, h3, fun y hy => ⟨(h4 y hy).1, fun e => ?_⟩, fun y hy e => ?_, h6⟩
  · rcases (h4 y hy).2 with z | z
    · exact absurd e z
    · exact z
  · rcases h5 y hy with z | z
    · exact absurd e z
    · exact z
theorem LamG.has {X : Cx} {N : List Str} {scope : Scope} {xs : List Str} (L : LamG N X.env.scope scope xs) (ok : X.Ok) : ∀ y ∈ scope.names, y.2 = .free → ∃ c, X.env.cells.lookup y.1 = some c := fun y hy e => (L.free y hy e).elim (fun k => ok.has _ (.inl k)) fun k => ok.has _ (.inr k)
section
variable {X : Cx} {pins : List (Addr × Obj)} {σ : L2.St} {H HZ : Hp} {s s1 : Shared}
theorem lam_startG {A : Around} {outer : List Env} {E : XK} {scope : Scope} {xs : List Str} {binds : List (Str × Value)} {f c' : Addr} {h1 : Heap} {tk : Nat} (I : Inv X pins σ H s) (L : LamG X.N X.env.scope scope xs) (e0 : Env0 X.prog X.w X.K X.mg X.base A outer s1 HZ)
    (hd : A.handled = none) (un : Un (frs X.stack) [] H HZ s.heap s1.heap) (hns : h1.Ns s1.heap.objs.size fun y => binds.reverse.lookup y) (kp : ∀ b o, s1.heap.get? b = some o → h1.get? b = some o) :
    Inv (lamCx X A outer s1 HZ E scope f c') [] σ HZ { s1 with heap := h1, toks := tk } := by
  have frees := L.has I.ok
  have cm : ∀ {y c}, (cloFrom X.env.cells scope.names []).lookup y = some c → X.env.cells.lookup y = some c := fun {y c} e => by
    rcases cloFrom_mem (PySem.mem_of_lookup e) with m | ⟨z1, z2⟩
    · cases m
    · obtain ⟨c1, z3⟩ := frees _ z1 rfl
      have z3 : X.env.cells.lookup y = some c1 := z3
      obtain rfl : c = c1 := by rw [z2, z3]; rfl
      exact z3
  have lk : ∀ {y}, scope.names.lookup y = some .free → ∃ c, (cloFrom X.env.cells scope.names []).lookup y = some c := fun {y} e =>
    mem_lookup (cloFrom_has (cells := X.env.cells) (acc := []) (show (y, NameKind.free) ∈ scope.names from PySem.mem_of_lookup e))
  have cellK : ∀ {c : Addr} {v : Option Value}, H c = none → s.heap.IsCell c v → h1.IsCell c v := fun {c v} n ⟨o, z1, z2⟩ => by
    obtain ⟨sl, q⟩ := un.any z1 n (by simp)
    exact ⟨_, kp _ _ q, z2⟩
  have nx : ∀ b : Addr, b ∉ (lamCx X A outer s1 HZ E scope f c').ex := fun b z => by cases z
  have visN : ∀ (i : Nat) (y : Str), X.N[i]? = some y → Vis scope y → scope.names.lookup y = some .free := fun i y e v => by
    rcases v with z | z | z
    · exact absurd (List.mem_of_getElem? e) ((L.own _ (PySem.mem_of_lookup z)).2 rfl)
    · exact absurd rfl (L.own _ (PySem.mem_of_lookup z)).1
    · exact z
  have okC : (lamCx X A outer s1 HZ E scope f c').Ok := {
    mod := e0.mod, kind := L.kind, glob := rfl, blt := rfl, above := Nat.le_refl _
    inj := fun y z c z1 z2 => I.ok.inj y z c (cm z1) (cm z2)
    has := fun y hy => by
      rcases (show scope.names.lookup y = some .cell ∨ scope.names.lookup y = some .free from hy) with z | z
      · exact absurd rfl (L.own _ (PySem.mem_of_lookup z)).1
      · exact lk z
    cab := fun y c z _ => by cases (show false = true from z)
    hd := fun _ => hd, frames := Around.frames_deeper e0.frames, stk := .inr ⟨rfl, rfl⟩, exf := fun b z => absurd z (nx b), bs := e0.bs, bsz := e0.bsz, noex := fun b _ _ => nx b, exfs := fun b z => absurd z (nx b), funs := e0.funs, frf := e0.frf }
  exact {
    ok := okC, os := rfl, bare := e0.bare, base := Un.kept kp
    loc := ⟨_, hns, fun i y v z1 z2 z3 => by
      have fr := visN i y z1 z3
      obtain ⟨m, mn, ml⟩ := I.loc
      obtain ⟨u, r, q⟩ := ml i y v z1 z2 ((L.free _ (PySem.mem_of_lookup fr) rfl).elim (fun k => .inr (.inl k)) fun k => .inr (.inr k))
      obtain ⟨c2, y2⟩ := lk fr
      refine ⟨u, r, .inr ⟨.inr fr, c2, y2, ?_⟩⟩
      rcases q with ⟨q1, _⟩ | ⟨_, c3, q2, q3⟩
      · have q1 : X.env.scope.names.lookup y = some .local := q1
        rcases L.free _ (PySem.mem_of_lookup fr) rfl with w | w
        · rw [show X.env.scope.names.lookup y = _ from w] at q1; cases q1
        · rw [show X.env.scope.names.lookup y = _ from w] at q1; cases q1
      · rw [cm y2] at q2
        cases q2
        exact cellK (I.freeC y _ (cm y2)) q3⟩
    cell := fun y c z => let ⟨v, q⟩ := I.cell y c (cm z); ⟨v, cellK (I.freeC y c (cm z)) q⟩
    free := e0.hok.fresh (Nat.le_refl _)
    freeC := fun y c z => let ⟨v, o, q, _⟩ := I.cell y c (cm z); un.free c o q (I.freeC y c (cm z)) (by simp)
    pin := fun q hq => by cases (show q ∈ ([] : List (Addr × Obj)) ++ [] from hq)
    hok := e0.hok.kept kp
    len := I.len }
/-- x(), in the def that got the lambda (in slot 0) -/
theorem pe_actG {CXg : CXT} {Eg : XK} {Ng : List Str} {qg : Str} {sg : Scope} {g f c' : Addr} {cdg pm ctv dV : Value} {params : Arguments} {body : Expr} {scope : Scope} {xs : List Str} {binds : List (Str × Value)} {hold : List (Addr × Obj)} {k : Nat} {a : Str} {pn : List (Addr × Obj)} {xe : Value → Shared → Prop} {W : WX} {tb : XK → TE} {p1 p2 : Pos}
    (I : Inv X pins σ H s) (L : LamG X.N X.env.scope scope xs) (hf : s.heap.get? f = some (lamOb (X.env.qual ++ "<lambda>") params body scope (cloFrom X.env.cells scope.names []) pm c' ctv dV)) (hfn : H f = none) (hfr : f ∉ frs X.stack)
    (hh : ∀ p ∈ hold, s.heap.get? p.1 = some p.2 ∧ H p.1 = none ∧ p.1 ∉ frs X.stack) (hbn : ∀ s' : Shared, (∀ p ∈ hold, s'.heap.get? p.1 = some p.2) → BindsTo s' (lamFd (X.env.qual ++ "<lambda>") params body scope (cloFrom X.env.cells scope.names []) pm c' ctv dV) ⟨[], []⟩ binds)
    (hbx : ∀ y ∈ binds, y.1 ∈ xs)
    (tk : Takes ((cxOf CXg X.prog X.w X.K X.mg X.base Ng qg sg g cdg X.A X.stack s H Eg).tr pn xe) W) (hr : Room (k + 1) (X.A.deeper (envOfC qg sg s.heap.objs.size g cdg)))
    (hbody : ∀ (A : Around) (outer : List Env) (s : Shared) (H : Hp) (E : XK), Room k (A.deeper (lamEnv X scope s.heap.objs.size f c')) → PE (lamCx X A outer s H E scope f c') body (tb E))
    (hN : Ng[0]? = some a) (hv : Vis sg a) (hd : (a == ("__debug__" : Str)) = false := by decide) (hcd : (a == ("__classdict__" : Str)) = false := by decide) :
    PE ((cxOf CXg X.prog X.w X.K X.mg X.base Ng qg sg g cdg X.A X.stack s H Eg).tr pn xe) (.Call (.Name a p1) [] [] p2)
      (fun σZ HZ Q => σZ[0]? = some (some (.ref f)) ∧ HZ c' = some (CodeO c' (X.env.qual ++ "<lambda>")) ∧ ∃ E : XK, (∀ cls d H', E cls d H' → W cls d σZ H') ∧ tb E σ HZ Q) := by
  constructor
  rintro pinsZ sZ σZ HZ Q IZ ⟨hs, hc, E, hW, ht⟩
  refine wpAny_Call_Name_kw (thn ((pe_var (pos := p1) (i := 0) hN hv hd hcd).run pinsZ sZ σZ HZ (fun v H1 => v = .ref f ∧ H1 = HZ) IZ ⟨.ref f, hs, rfl, rfl⟩) fun u s1 ⟨v, H1, I1, r1, ev, eH⟩ => ?_)
  subst ev
  rw [eH] at I1
  obtain rfl : u = Value.ref f := r1
  have of1 := I1.base.keep f _ hf hfn hfr (by intro z; cases z)
  have hold1 : ∀ p ∈ hold, s1.heap.get? p.1 = some p.2 := fun p hp => let ⟨z1, z2, z3⟩ := hh p hp; I1.base.keep p.1 _ z1 z2 z3 (by intro z; cases z)
  have un : Un (frs X.stack) [] H HZ s.heap s1.heap := I1.base
  obtain ⟨⟨oc, vs, t, y1, y2, y3⟩, _, _⟩ := I1.hok c' _ hc
  have called : codeAny (model X.prog X.w) (X.A.deeper (envOfC qg sg s.heap.objs.size g cdg)) (.call (.ref f) ⟨[], []⟩) (CR (L2.CX X.prog X.w) (envOfC qg sg s.heap.objs.size g cdg :: X.stack) X.prog X.w HZ s1 Q E) s1 := by
    refine PySem.W.kla_callFunE hr.depth of1 rfl L.co L.gen rfl ⟨c', oc, vs, t, rfl, y1, y2, y3⟩ (hbn s1 hold1 _ _ _ _ (wpAny_newFunctionEnv (fun y hy => (L.own y hy).1) (fun y hy => L.par _ (hbx y hy)) (fun h1 hns hsb => ⟨I1.nolimit.fresh _ hsb, ?_⟩) L.kind))
    have kp : ∀ b o, s1.heap.get? b = some o → h1.get? b = some o := fun b o e => hsb.extBut b o (Nat.ne_of_lt (Heap.lt_size e)) (Heap.get?_push_of_some _ e)
    have J : Inv (lamCx X (X.A.deeper (envOfC qg sg s.heap.objs.size g cdg)) (envOfC qg sg s.heap.objs.size g cdg :: X.stack) s1 HZ E scope f c') [] σ HZ { s1 with heap := h1, toks := s1.toks + binds.length } := lam_startG I L I1.env0 hr.hd un hns kp
    refine PySem.W.kla_codeExpr (wpAny_mono ((hbody _ _ s1 HZ E (hr.deeper _)).run [] _ _ HZ Q J ht) (fun v s' ⟨w', H', J', rv, q⟩ => ⟨w', H', J'.os, J'.bare, J'.base, J'.hok, rv, q⟩) fun e s' hq => hq)
  refine PySem.W.callWith_F0 ⟨_, _, _, _, of1⟩ (wpAny_call (codeAny_mono called fun r s' hq => ?_))
  match r, hq with
  | .error e, hq => exact tk _ _ (XE.of_call I1 hW hq)
  | .ok (.ret u), hq => exact I1.after hq
  | .ok .next, hq => exact False.elim hq
  | .ok .brk, hq => exact False.elim hq
  | .ok .cont, hq => exact False.elim hq
end
end Om

namespace Om
open PySem PySem.Spec PyProof.Rows L2 LamX
/-- the def at g calls what it got (in slot 0, its name a); TT: what it makes of the lambda's reading -/
def GivesG (X : Cx) (Ng : List Str) (x : Str) (sg : Scope) (g : Addr) (cdg : Value) (bg : List Stmt) (a : Str) (q : Str) (TT : (XK → Hp → VK → Prop) → Hp → VK → Prop) : Prop :=
  ∀ (f c' : Addr) (s : Shared) (H : Hp) (Q : VK) (tl : XK → Hp → VK → Prop),
    (∀ (W : WX) (pn : List (Addr × Obj)) (xe : Value → Shared → Prop) (p1 p2 : Pos), Takes ((cxOf L2.CX0 X.prog X.w X.K X.mg X.base Ng x sg g cdg X.A X.stack s H L2.E0).tr pn xe) W →
      PE ((cxOf L2.CX0 X.prog X.w X.K X.mg X.base Ng x sg g cdg X.A X.stack s H L2.E0).tr pn xe) (.Call (.Name a p1) [] [] p2) (fun σZ HZ Q => σZ[0]? = some (some (.ref f)) ∧ HZ c' = some (CodeO c' q) ∧ ∃ E : XK, (∀ cls d H', E cls d H' → W cls d σZ H') ∧ tl E HZ Q)) →
    H c' = some (CodeO c' q) → Room 2 (X.A.deeper (envOfC x sg s.heap.objs.size g cdg)) → TT tl H Q →
    ∃ t, PSs (cxOf L2.CX0 X.prog X.w X.K X.mg X.base Ng x sg g cdg X.A X.stack s H L2.E0).nox bg t ∧ t { nx := fun _ H' => Q .non H', rt := Q } (L2.start Ng [.ref f]) H
section
variable {X : Cx}
/-- behind the making: the def is called with the lambda -/
theorem lam_given {T : List (Addr × Str)} {TT : (XK → Hp → VK → Prop) → Hp → VK → Prop} {x a : Str} {g f c' : Addr} {k : Nat} {pg : Arguments} {bg : List Stmt} {sg : Scope} {dG kG doc pmg cdg ctg oc pm ctv dV : Value} {an od : Option Addr} {osl : Array (Option Value)} {Ng : List Str}
    {params : Arguments} {body : Expr} {scope : Scope} {t : XK → TE} {xs : List Str} {binds : List (Str × Value)} {hold : List (Addr × Obj)} {pins : List (Addr × Obj)} {σ : L2.St} {H1 : Hp} {s' : Shared} {Q : VK} {E' : Value → Shared → Prop}
    (lk : X.K.lookup g = some ⟨oc, od, .func (PySem.W.fnOf x x pg bg sg dG kG doc pmg an cdg ctg), osl⟩) (hcg : PySem.W.codeIn X.K cdg x = true) (hb : L2.Binds X.K (PySem.W.fnOf x x pg bg sg dG kG doc pmg an cdg ctg) [a] []) (Sg : FnScope Ng [a] sg) (hNg : Ng[0]? = some a) (hva : Vis sg a)
    (hG : GivesG X Ng x sg g cdg bg a (X.env.qual ++ "<lambda>") TT) (hr : Room (k + 2) X.A) (hr3 : Room 3 X.A) (L : LamG X.N X.env.scope scope xs) (I1 : Inv X pins σ H1 s')
    (hf : s'.heap.get? f = some (lamOb (X.env.qual ++ "<lambda>") params body scope (cloFrom X.env.cells scope.names []) pm c' ctv dV)) (hfn : H1 f = none) (hfr : f ∉ frs X.stack)
    (hh : ∀ p ∈ hold, s'.heap.get? p.1 = some p.2 ∧ H1 p.1 = none ∧ p.1 ∉ frs X.stack) (hbn : ∀ s' : Shared, (∀ p ∈ hold, s'.heap.get? p.1 = some p.2) → BindsTo s' (lamFd (X.env.qual ++ "<lambda>") params body scope (cloFrom X.env.cells scope.names []) pm c' ctv dV) ⟨[], []⟩ binds)
    (hbx : ∀ y ∈ binds, y.1 ∈ xs) (hco : H1 c' = some (CodeO c' (X.env.qual ++ "<lambda>"))) (hT : TT (fun E H' Q' => t E σ H' Q') H1 Q)
    (hbody : ∀ (A : Around) (outer : List Env) (s : Shared) (H : Hp) (E : XK), Room k (A.deeper (lamEnv X scope s.heap.objs.size f c')) → PE (lamCx X A outer s H E scope f c') body (t E))
    (hd : (a == ("__debug__" : Str)) = false := by decide) (hcd : (a == ("__classdict__" : Str)) = false := by decide) :
    wpAny (model X.prog X.w) X.A (call (.ref g) [.ref f]) (EP X pins σ Q) E' s' := by
  have called : codeAny (model X.prog X.w) X.A (.call (.ref g) ⟨[.ref f], []⟩) (CR L2.CX0 X.stack X.prog X.w H1 s' Q L2.E0) s' := by
    refine run_ofS (k := k + 1) (N := Ng) (ps := [a]) (us := [.ref f]) (vs := [.ref f]) lk hcg Sg hr I1.env0 (hb s' [.ref f] I1.kIn rfl) (.cons rfl .nil) rfl fun hr' => ?_
    obtain ⟨t', z1, z2⟩ := hG f c' s' H1 Q (fun E H' Q' => t E σ H' Q') (fun W pn xe p1 p2 tk => pe_actG I1 L hf hfn hfr hh hbn hbx tk hr' hbody hNg hva hd hcd) hco (hr3.deeper _) hT
    exact ⟨t', z1.nox, z2⟩
  refine wpAny_call (codeAny_mono called fun r s2 hq => ?_)
  match r, hq with
  | .error e, hq => exact (show False from hq).elim
  | .ok (.ret u), hq => exact I1.after hq
  | .ok .next, hq => exact False.elim hq
  | .ok .brk, hq => exact False.elim hq
  | .ok .cont, hq => exact False.elim hq
/-- x(lambda: body) -/
theorem pe_lamG0 {T : List (Addr × Str)} {TT : (XK → Hp → VK → Prop) → Hp → VK → Prop} {x a : Str} {g c P : Addr} {k : Nat} {pg : Arguments} {bg : List Stmt} {sg : Scope} {dG kG doc pmg cdg ctg oc : Value} {an od : Option Addr} {osl : Array (Option Value)} {Ng : List Str}
    {params : Arguments} {body : Expr} {scope : Scope} {t : XK → TE} {p lpos pos : Pos} (hg : Gl X x) (hm : X.mg x = some (.ref g)) (hk : PySem.W.keepIn X.K (.ref g) = true)
    (lk : X.K.lookup g = some ⟨oc, od, .func (PySem.W.fnOf x x pg bg sg dG kG doc pmg an cdg ctg), osl⟩) (hcg : PySem.W.codeIn X.K cdg x = true) (hb : L2.Binds X.K (PySem.W.fnOf x x pg bg sg dG kG doc pmg an cdg ctg) [a] []) (Sg : FnScope Ng [a] sg) (hNg : Ng[0]? = some a) (hva : Vis sg a)
    (hG : GivesG X Ng x sg g cdg bg a (X.env.qual ++ "<lambda>") TT)
    (TB : TabB X.base X.mg c P) (hcode : X.env.code = .ref c) (hmT : (P, X.env.qual ++ "<lambda>") ∈ T) (hu : ∀ p ∈ T, p.1 = P → p.2 = X.env.qual ++ "<lambda>") (hr : Room (k + 2) X.A) (hr3 : Room 3 X.A) (L : LamG X.N X.env.scope scope []) (hdef : defaultsOf params X.env = ([], []))
    (hbind : ∀ (q : Str) (cl : List (Str × Addr)) (pm : Value) (c' : Addr) (ctv : Value), bindArgs (lamFd q params body scope cl pm c' ctv .none) ⟨[], []⟩ = pure [])
    (hbody : ∀ (A : Around) (outer : List Env) (s : Shared) (H : Hp) (E : XK) (f c' : Addr), Room k (A.deeper (lamEnv X scope s.heap.objs.size f c')) → PE (lamCx X A outer s H E scope f c') body (t E))
    (hdb : (x == ("__debug__" : Str)) = false := by decide) (hd : (a == ("__debug__" : Str)) = false := by decide) (hcd : (a == ("__classdict__" : Str)) = false := by decide) :
    PE X (.Call (.Name x p) [.Lambda params body scope lpos] [] pos) (tLam T TT t) := by
  constructor
  rintro pins s σ H Q I ⟨hT, h⟩
  refine wpAny_Call_Name_kw (ld_glob I hg hm (PySem.W.callWith_K (h₀ := X.base) I.ok.mod.kin hk ?_ (by rfl) (by rfl)) hdb)
  show wpAny _ _ (spliced ((false, eval (.Lambda params body scope lpos) X.env) :: backTo pos (starEach [] X.env))) _ _ s
  refine Calls.spliced_cons (lam_make2 I TB hcode hmT hu hT hdef (L.has I.ok) fun f c' pm' ctv H1 s' I1 eN T1 hf hfn hfr hco => Calls.spliced_nil ⟨I1.kIn, ?_⟩)
  exact lam_given (T := T) (dV := .none) (xs := []) (binds := []) (hold := []) lk hcg hb Sg hNg hva hG hr hr3 L I1 hf hfn hfr (fun p hp => by cases hp) (fun s' _ => BindsTo.of_eq (hbind _ _ _ _ _)) (fun y hy => by cases hy) hco (h H1 eN T1) (fun A outer s H E hr2 => hbody A outer s H E f c' hr2) hd hcd
/-- x(lambda y=i: body) -/
theorem pe_lamG1 {T : List (Addr × Str)} {TT : (XK → Hp → VK → Prop) → Hp → VK → Prop} {x a y : Str} {g c P : Addr} {k : Nat} {pg : Arguments} {bg : List Stmt} {sg : Scope} {dG kG doc pmg cdg ctg oc : Value} {an od : Option Addr} {osl : Array (Option Value)} {Ng : List Str}
    {params : Arguments} {body : Expr} {scope : Scope} {t : XK → TE} {p lpos pos p0 : Pos} {i0 : Int} {j0 : Nat} (hg : Gl X x) (hm : X.mg x = some (.ref g)) (hk : PySem.W.keepIn X.K (.ref g) = true)
    (lk : X.K.lookup g = some ⟨oc, od, .func (PySem.W.fnOf x x pg bg sg dG kG doc pmg an cdg ctg), osl⟩) (hcg : PySem.W.codeIn X.K cdg x = true) (hb : L2.Binds X.K (PySem.W.fnOf x x pg bg sg dG kG doc pmg an cdg ctg) [a] []) (Sg : FnScope Ng [a] sg) (hNg : Ng[0]? = some a) (hva : Vis sg a)
    (hG : GivesG X Ng x sg g cdg bg a (X.env.qual ++ "<lambda>") TT)
    (TB : TabB X.base X.mg c P) (hcode : X.env.code = .ref c) (hmT : (P, X.env.qual ++ "<lambda>") ∈ T) (hu : ∀ p ∈ T, p.1 = P → p.2 = X.env.qual ++ "<lambda>") (hr : Room (k + 2) X.A) (hr3 : Room 3 X.A) (L : LamG X.N X.env.scope scope [y]) (hdef : defaultsOf params X.env = ([eval (.Constant (.int i0) j0 p0) X.env], []))
    (hbind : ∀ (q : Str) (cl : List (Str × Addr)) (pm : Value) (c' : Addr) (ctv : Value) (D : Addr) (v : Value), ∃ kk : Option (Array Value) → Sem (List (Str × Value)), bindArgs (lamFd q params body scope cl pm c' ctv (.ref D)) ⟨[], []⟩ = seqItems? (.ref D) >>= kk ∧ kk (some #[v]) = pure [(y, v)])
    (hbody : ∀ (A : Around) (outer : List Env) (s : Shared) (H : Hp) (E : XK) (f c' : Addr), Room k (A.deeper (lamEnv X scope s.heap.objs.size f c')) → PE (lamCx X A outer s H E scope f c') body (t E))
    (hdb : (x == ("__debug__" : Str)) = false := by decide) (hd : (a == ("__debug__" : Str)) = false := by decide) (hcd : (a == ("__classdict__" : Str)) = false := by decide) :
    PE X (.Call (.Name x p) [.Lambda params body scope lpos] [] pos) (tLam T TT t) := by
  constructor
  rintro pins s σ H Q I ⟨hT, h⟩
  refine wpAny_Call_Name_kw (ld_glob I hg hm (PySem.W.callWith_K (h₀ := X.base) I.ok.mod.kin hk ?_ (by rfl) (by rfl)) hdb)
  show wpAny _ _ (spliced ((false, eval (.Lambda params body scope lpos) X.env) :: backTo pos (starEach [] X.env))) _ _ s
  refine Calls.spliced_cons (lam_mk1 I TB hcode hmT hu hT hdef (L.has I.ok) (fun f c' D t0 pm' ctv H1 s' I1 eN T1 hf hD hfn hDn hfr hDr hco => Calls.spliced_nil ⟨I1.kIn, ?_⟩) rfl)
  refine lam_given (T := T) (dV := .ref D) (xs := [y]) (binds := [(y, .int i0 t0)]) (hold := [(D, { cls := .type "tuple", data := .seq #[.int i0 t0] })]) lk hcg hb Sg hNg hva hG hr hr3 L I1 hf hfn hfr (fun p hp => ?_) (fun s2 hs2 => ?_) (fun z hz => ?_) hco (h H1 eN T1) (fun A outer s H E hr2 => hbody A outer s H E f c' hr2) hd hcd
  · rw [List.mem_singleton.mp hp]
    exact ⟨hD, hDn, hDr⟩
  · obtain ⟨kk, z1, z2⟩ := hbind (X.env.qual ++ "<lambda>") (cloFrom X.env.cells scope.names []) pm' c' ctv D (.int i0 t0)
    intro M A' E2 Q2 hq
    rw [z1]
    refine wpAny_bind (wpAny_seqItems (hs2 _ (List.mem_singleton.mpr rfl)) rfl ?_)
    rw [z2]
    exact wpAny_pure hq
  · rw [List.mem_singleton.mp hz]
    exact List.mem_singleton.mpr rfl
end
end Om

namespace Om
open PySem PySem.Spec PyProof.Rows L2 LamX
/-! ### xs.count(y), the items flat -/
def rCntF (K : PySem.W.Frag) : V → List V → Hp → VK → Prop := fun x vs H Q => ∃ (p : Addr) (ys : List V) (y : V), x = .ref p ∧ vs = [y] ∧ SqL K H p ys ∧ flatV y = true ∧ ys.all flatV = true ∧ Q (.int ((ys.countP fun z => eqV z y) : Nat)) H
theorem cnt_flat {y : V} {uy : Value} : ∀ {ys : List V} {us : List Value}, Vals ys us → ys.all flatV = true → us.countP (eqU y) = ys.countP fun z => eqV z y
  | _, _, .nil, _ => rfl
  | v :: vs, u :: us, .cons r rr, hf => by
    simp only [List.all_cons, Bool.and_eq_true] at hf
    rw [List.countP_cons, List.countP_cons, cnt_flat (uy := uy) rr hf.2, eqU_of r hf.1]
theorem mt_countF {X : Cx} : MtR X "list.count" (rCntF X.K) := by
  rintro pins s σ H x xs v us Q I rx rxs ⟨p, ys, y, rfl, rfl, hs, fy, fys, q⟩
  cases rx
  cases rxs with
  | @cons _ uy _ ut ry rt =>
    cases rt
    obtain ⟨its, rv, ⟨⟨cls, dd, data, sl⟩, n, ho, hc, hdn, hd⟩, hlen⟩ := I.list hs
    simp only at hc hd
    subst hc hd
    refine call_meets PySem.F.slot_list_count ⟨_, ho, rfl⟩ PySem.F.entry_list_count (PySem.F.args_list_count_2 _ _) (SeqAt.list_countAt p its.toArray n dd sl uy (eqU y)) ⟨ho, fun u' hu' => mem_eqAt ry fy rv fys u' (by simpa using hu'), ?_⟩
    have ec : its.toArray.toList.countP (eqU y) = ys.countP fun z => eqV z y := cnt_flat (uy := uy) rv fys
    refine ⟨.int ((ys.countP fun z => eqV z y) : Nat), H, I.tok _, ⟨s.toks, ?_⟩, q⟩
    show Value.int ((its.toArray.toList.countP (eqU y) : Nat) : Int) s.toks = _
    rw [ec]
/-! ### isinstance(e, C), e the exception that the suite holds, of an own class -/
def rIsX (K : PySem.W.Frag) (a : Addr) (cls : Value) (d : Option Addr) : List V → Hp → VK → Prop := fun xs H Q => ∃ (D : Addr) (c : V) (cv : Value) (b : Bool), cls = .ref D ∧ ExcC K D ∧ xs = [.ref a, c] ∧ (∀ u, RelV c u → u = cv) ∧ PySem.W.kitOne K (.ref D) cv = some b ∧
  (∀ dd, d = some dd → ∃ fs, H dd = some (.xd fs)) ∧ Q (.bl b) H
theorem call_isX {X : Cx} {a : Addr} {cls : Value} {d : Option Addr} {oe : Obj} {pn : List (Addr × Obj)} (hz : Zc cls d oe) (hf : ∃ vs, oe.data = .fields vs) : CallR (X.suite a ((a, oe) :: pn)) (.builtin "isinstance") (rIsX X.K a cls d) := by
  rintro pins s σ H xs us Q I r ⟨D, c, cv, b, rfl, C, rfl, hcv, e, hd, q⟩
  cases r with
  | cons rx rr =>
    cases rr with
    | cons rt rr =>
      cases rr
      cases rx
      obtain rfl := hcv _ rt
      obtain ⟨hget, _⟩ := I.pin (a, oe) (List.mem_append.mpr (.inl List.mem_cons_self))
      obtain ⟨vs, hv⟩ := hf
      have no : PySem.W.notCls oe = true := by unfold PySem.W.notCls; rw [hv]
      have J : ∃ od, PySem.W.InstAt s.heap a oe D od := by
        cases d with
        | none => exact ⟨none, hget, hz.1, no, by rw [hz.2]; trivial⟩
        | some dd =>
          obtain ⟨fs, hx⟩ := hd dd rfl
          obtain ⟨mA, ⟨o, es, ep, ho, _⟩, _⟩ := I.hok dd _ hx
          exact ⟨some o, hget, hz.1, no, by rw [hz.2]; exact ho⟩
      obtain ⟨od, J⟩ := J
      have hcl : (PySem.W.clsIn X.K D).isSome = true := by
        obtain ⟨cd, hc, _⟩ := PySem.W.any_some C.hd
        rw [hc]
        rfl
      exact PySem.W.kia_one (PySem.W.kitx_exc (ox := oe) (od := od) hcl C.hg C.hk C.hs C.ha C.hn C.ht C.hm) I.kIn J e (fun z => nomatch z) fun tk => ⟨.bl b, H, I.kept (t' := tk) fun _ _ z => z, rfl, q⟩
end Om

namespace Om
open PySem PySem.Spec PyProof.Rows L2 LamX
abbrev sErr : Stmt := top 38
def nmE : Nat → Str
  | 0 => "InvalidIsland"
  | 1 => "InvalidMap"
  | 2 => "InvalidNumber"
  | 3 => "NoBeginning"
  | 4 => "NoWay"
  | 5 => "TooMany"
  | _ => "UnknownCell"
/-- what the top says of the errors' classes -/
structure ErrF (K : PySem.W.Frag) (mg : Str → Option Value) (C : Nat → Addr) (CM : Addr) : Prop where
  gM : mg "MapError" = some (.ref CM)
  g : ∀ i, i < 7 → mg (nmE i) = some (.ref (C i))
  exm : ∀ i, i < 7 → PySem.W.exmOne K (.ref (C i)) (.ref CM) = some true
  exc : ∀ i, i < 7 → ExcC K (C i)
  kit : ∀ i j, i < 7 → j < 7 → PySem.W.kitOne K (.ref (C i)) (.ref (C j)) = some (decide (j = i))
  kitV : ∀ i, i < 7 → PySem.W.kitOne K (.ref (C i)) (.type "ValueError") = some true
  xf0 : XfC K (C 0)
  noR : PySem.W.findIn K (.ref (C 0)) "row" = some none
  noC : PySem.W.findIn K (.ref (C 0)) "column" = some none
  xf1 : XfC K (C 1)
  noI : PySem.W.findIn K (.ref (C 1)) "index" = some none
  gi : mg "isinstance" = none
  gv : mg "ValueError" = none
/-- what _law_error makes of an error -/
inductive ErrOut (C : Nat → Addr) (Q : VK) : Value → Option Addr → Hp → Prop
  | isl {d : Addr} {x y : V} {H' : Hp} : H' d = some (.xd (xdII x y)) → (∀ p H2, H' p = none → Same H' H2 → H2 p = some (.tup [.str "InvalidIsland", x, y]) → Q (.ref p) H2) → ErrOut C Q (.ref (C 0)) (some d) H'
  | chart {d : Addr} {x : V} {H' : Hp} : H' d = some (.xd [(("index" : Str), x)]) → (∀ p H2, H' p = none → Same H' H2 → H2 p = some (.tup [.str "InvalidMap", x]) → Q (.ref p) H2) → ErrOut C Q (.ref (C 1)) (some d) H'
  | other {j : Nat} {H' : Hp} : 2 ≤ j → j < 7 → (∀ H2, Same H' H2 → Q (.str (nmE j)) H2) → ErrOut C Q (.ref (C j)) none H'
def TErr (C : Nat → Addr) : (XK → Hp → VK → Prop) → Hp → VK → Prop := fun tl H Q => tl (ErrOut C Q) H fun _ H' => Q (.str "") H'
/-! rules whose reading names the written part apart from the context -/
theorem isX_K {X : Cx} {K : PySem.W.Frag} {a : Addr} {cls : Value} {d : Option Addr} {oe : Obj} {pn : List (Addr × Obj)} (hK : X.K = K) (hz : Zc cls d oe) (hf : ∃ vs, oe.data = .fields vs) : CallR (X.suite a ((a, oe) :: pn)) (.builtin "isinstance") (rIsX K a cls d) := by
  subst hK
  exact call_isX hz hf
theorem bm_K {X : Cx} {K : PySem.W.Frag} {T id : String} {name : Str} {r : V → List V → Hp → VK → Prop} {o e : Expr} {es : List Expr} {to : TE} {t : TA} {apos cpos : Pos} (hK : X.K = K) (pa : PlainAttrs T) (slot : Slot T name id) (hty : typeOf (.builtin id) = pure (.type "method_descriptor")) (hm : MtR X id r) (ho : PE X o to) (ha : PA X (e :: es) t)
    (hbase : attributeBase o name X.env (eval o X.env) = eval o X.env := by rfl)
    (hfew : ((backTo cpos (starEach (e :: es) X.env)).all (fun x => !x.1) && (backToKw cpos (keywordEach [] X.env)).all (fun x => x.1.isSome) && decide ((e :: es).length + ([] : List Keyword).length + (if ([] : List Keyword).isEmpty then 0 else 1) < 30)) = true := by rfl)
    (hline : (apos.endLine == cpos.line) = true := by rfl) (hs : starEach (e :: es) X.env = (false, eval e X.env) :: starEach es X.env := by rfl) (hplain : (backTo cpos (starEach es X.env)).any (·.1) = false := by rfl) :
    PE X (.Call (.Attribute o name apos) (e :: es) [] cpos) (tBM K T r to t) := by
  subst hK
  exact pe_bm pa slot hty hm ho ha hbase hfew hline hs hplain
theorem cnt_K {X : Cx} {K : PySem.W.Frag} (hK : X.K = K) : MtR X "list.count" (rCntF K) := by
  subst hK
  exact mt_countF
theorem index_K {X : Cx} {K : PySem.W.Frag} (hK : X.K = K) : MtR X "list.index" (rIndex K) := by
  subst hK
  exact mt_index
theorem ixl_K {X : Cx} {K : PySem.W.Frag} (hK : X.K = K) : IxR X (rIxL K) := by
  subst hK
  exact ix_list
abbrev nErr : List Str := ["_law_work", "error", "_law_kinds", "_law_names", "_law_name"]
theorem scErr : FnScope nErr ["_law_work"] (defScope sErr) := ⟨rfl, rfl, rfl, by decide +kernel, rfl, by decide +kernel, by decide +kernel⟩
def ksV (j : Nat) : List V := [.bl (decide (0 = j)), .bl (decide (1 = j)), .bl (decide (2 = j)), .bl (decide (3 = j)), .bl (decide (4 = j)), .bl (decide (5 = j)), .bl (decide (6 = j))]
def nmsV : List V := [.str (nmE 0), .str (nmE 1), .str (nmE 2), .str (nmE 3), .str (nmE 4), .str (nmE 5), .str (nmE 6)]
theorem ksV_flat (j : Nat) : (ksV j).all flatV = true := rfl
theorem ksV_count {j : Nat} (h : j < 7) : ((ksV j).countP fun z => eqV z (.bl true)) = 1 := by
  have e : ∀ j : Fin 7, ((ksV j).countP fun z => eqV z (.bl true)) = 1 := by decide
  exact e ⟨j, h⟩
theorem ksV_at {j : Nat} (h : j < 7) : (ksV j)[j]? = some (.bl true) := by
  have e : ∀ j : Fin 7, (ksV j)[j.val]? = some (.bl true) := by decide
  exact e ⟨j, h⟩
theorem ksV_ahead {j : Nat} (h : j < 7) {m : Nat} {z : V} (hm : m < j) (hz : (ksV j)[m]? = some z) : eqV z (.bl true) = false := by
  have e : ∀ j m : Fin 7, m.val < j.val → ((ksV j)[m.val]?.map fun z => eqV z (.bl true)) = some false := by decide
  have e2 := e ⟨j, h⟩ ⟨m, by omega⟩ hm
  rw [hz] at e2
  exact Option.some.inj e2
theorem nmsV_at {j : Nat} (h : j < 7) : atI nmsV ((j : Nat) : Int) = some (.str (nmE j)) := by
  refine atI_nat ?_
  have e : j = 0 ∨ j = 1 ∨ j = 2 ∨ j = 3 ∨ j = 4 ∨ j = 5 ∨ j = 6 := by omega
  rcases e with rfl | rfl | rfl | rfl | rfl | rfl | rfl <;> rfl
theorem nmE_inj {j : Nat} (h : j < 7) : (nmE j = nmE 0 ↔ j = 0) ∧ (nmE j = nmE 1 ↔ j = 1) := by
  have e : j = 0 ∨ j = 1 ∨ j = 2 ∨ j = 3 ∨ j = 4 ∨ j = 5 ∨ j = 6 := by omega
  rcases e with rfl | rfl | rfl | rfl | rfl | rfl | rfl <;> decide +kernel
section
variable {X : Cx} {C : Nat → Addr} {CM g : Addr} {cdg : Value} {q : Str}
theorem err_gives (T : ErrF X.K X.mg C CM) : GivesG X nErr "_law_error" (defScope sErr) g cdg (defBody sErr) "_law_work" q (TErr C) := by
  intro f c' s H Q tl act hc hr h
  have nd := scErr.nd
  refine ⟨_, pss_cons (ps_try_as (X := (cxOf L2.CX0 X.prog X.w X.K X.mg X.base nErr "_law_error" (defScope sErr) g cdg X.A X.stack s H L2.E0).nox) (i := 1) (c := .ref CM)
      (tb := fun W D σ H => σ[0]? = some (some (.ref f)) ∧ H c' = some (CodeO c' q) ∧ ∃ E : XK, (∀ cls d H', E cls d H' → W cls d σ H') ∧ tl E H (fun _ H' => D.nx σ H'))
      rfl rfl nd rfl rfl ⟨rfl, by decide, .inl T.gM⟩ L2.takes0 (fun W pn xe tk _ => ?_)
      (fun a oe cls d pn hz hf =>
        pss_cons (ps_set (i := 2) nd rfl (.inl rfl) (pe_lst (pa_cons (pe_callB (isX_K (K := X.K) rfl hz hf) (by rfl) T.gi (by decide +kernel) (pa_cons (pv 1) (pa_cons (pe_glob (v := .ref (C 0)) rfl (T.g 0 (by decide)) rfl) pa_nil)))
            (pa_cons (pe_callB (isX_K (K := X.K) rfl hz hf) (by rfl) T.gi (by decide +kernel) (pa_cons (pv 1) (pa_cons (pe_glob (v := .ref (C 1)) rfl (T.g 1 (by decide)) rfl) pa_nil)))
            (pa_cons (pe_callB (isX_K (K := X.K) rfl hz hf) (by rfl) T.gi (by decide +kernel) (pa_cons (pv 1) (pa_cons (pe_glob (v := .ref (C 2)) rfl (T.g 2 (by decide)) rfl) pa_nil))) pa_nil)))))
        (pss_cons (ps_set (i := 2) nd rfl (.inl rfl) (pe_op op_cat (pv 2) (pe_lst (pa_cons (pe_callB (isX_K (K := X.K) rfl hz hf) (by rfl) T.gi (by decide +kernel) (pa_cons (pv 1) (pa_cons (pe_glob (v := .ref (C 3)) rfl (T.g 3 (by decide)) rfl) pa_nil)))
            (pa_cons (pe_callB (isX_K (K := X.K) rfl hz hf) (by rfl) T.gi (by decide +kernel) (pa_cons (pv 1) (pa_cons (pe_glob (v := .ref (C 4)) rfl (T.g 4 (by decide)) rfl) pa_nil)))
            (pa_cons (pe_callB (isX_K (K := X.K) rfl hz hf) (by rfl) T.gi (by decide +kernel) (pa_cons (pv 1) (pa_cons (pe_glob (v := .ref (C 5)) rfl (T.g 5 (by decide)) rfl) pa_nil))) pa_nil))))))
        (pss_cons (ps_set (i := 2) nd rfl (.inl rfl) (pe_op op_cat (pv 2) (pe_lst (pa_cons (pe_callB (isX_K (K := X.K) rfl hz hf) (by rfl) T.gi (by decide +kernel) (pa_cons (pv 1) (pa_cons (pe_glob (v := .ref (C 6)) rfl (T.g 6 (by decide)) rfl) pa_nil))) pa_nil))))
        (pss_cons (ps_set (i := 3) nd rfl (.inl rfl) (pe_lst (pa_cons pe_str (pa_cons pe_str (pa_cons pe_str (pa_cons pe_str (pa_cons pe_str (pa_cons pe_str (pa_cons pe_str pa_nil)))))))))
        (pss_cons (ps_if (PW.pt (pw_or (pt_cmpR op_ne (bm_K (K := X.K) rfl PySem.F.plainAttrs_list PySem.F.slot_list_count PySem.F.type_list_count (cnt_K (K := X.K) rfl) (pv 2) (pa_cons pe_bl pa_nil)) pe_int (nomark _))
            (pw_or1 (pt_not (pt_val (pe_callB (isX_K (K := X.K) rfl hz hf) (by rfl) T.gi (by decide +kernel) (pa_cons (pv 1) (pa_cons (pe_bltn (v := .ty "ValueError") (by rfl) T.gv (by decide +kernel) rfl) pa_nil)))))))) (pss_one (ps_ret pe_str)) pss_nil)
        (pss_cons (ps_set (i := 4) nd rfl (.inl rfl) (pe_ix (ixl_K (K := X.K) rfl) (pv 3) (bm_K (K := X.K) rfl PySem.F.plainAttrs_list PySem.F.slot_list_index PySem.F.type_list_index (index_K (K := X.K) rfl) (pv 2) (pa_cons pe_bl pa_nil)) (fun _ _ => rfl)))
        (pss_cons (ps_if (pt_cmpR op_eq (pv 4) pe_str (nomark _)) (pss_one (ps_ret (pe_tup (pa_cons (pv 4) (pa_cons (pe_xf T.xf0 T.noR hz hf (pv 1)) (pa_cons (pe_xf T.xf0 T.noC hz hf (pv 1)) pa_nil)))))) pss_nil)
        (pss_one (ps_ret (pe_ifExp (pt_cmpR op_eq (pv 4) pe_str (nomark _)) (pe_tup (pa_cons (pv 4) (pa_cons (pe_xf T.xf1 T.noI hz hf (pv 1)) pa_nil))) (pv 4))))))))))))
      (pss_one (ps_ret pe_str)), ?_⟩
  · refine ⟨fun pins s' σ H' D I h' => ?_⟩
    obtain ⟨h1, h2, h3⟩ := h'
    exact (pss_one (ps_expr (act W pn xe _ _ tk))).run pins s' σ H' D I ⟨h1, h2, h3⟩
  · refine ⟨rfl, hc, ErrOut C Q, fun cls d H' out => ?_, h⟩
    have key : ∃ j, j < 7 ∧ cls = .ref (C j) ∧ (∀ dd, d = some dd → ∃ fs, H' dd = some (.xd fs)) ∧
        ((j = 0 ∧ ∃ dd x y, d = some dd ∧ H' dd = some (.xd (xdII x y)) ∧ ∀ p H2, H' p = none → Same H' H2 → H2 p = some (.tup [.str "InvalidIsland", x, y]) → Q (.ref p) H2) ∨
         (j = 1 ∧ ∃ dd x, d = some dd ∧ H' dd = some (.xd [(("index" : Str), x)]) ∧ ∀ p H2, H' p = none → Same H' H2 → H2 p = some (.tup [.str "InvalidMap", x]) → Q (.ref p) H2) ∨
         (2 ≤ j ∧ ∀ H2, Same H' H2 → Q (.str (nmE j)) H2)) := by
      cases out with
      | isl h1 h2 => exact ⟨0, by decide, rfl, fun dd e => by cases e; exact ⟨_, h1⟩, .inl ⟨rfl, _, _, _, rfl, h1, h2⟩⟩
      | chart h1 h2 => exact ⟨1, by decide, rfl, fun dd e => by cases e; exact ⟨_, h1⟩, .inr (.inl ⟨rfl, _, _, rfl, h1, h2⟩)⟩
      | other h1 h2 h3 => exact ⟨_, h2, rfl, fun dd e => (nomatch e), .inr (.inr ⟨h1, h3⟩)⟩
    obtain ⟨j, hj, ej, hd, fin⟩ := key
    refine ⟨true, by rw [ej]; exact T.exm j hj, fun _ a ha => ?_, fun z => by cases z⟩
    -- the kinds
    refine ⟨_, rfl, C j, _, _, _, ej, T.exc j hj, rfl, fun u r => r, T.kit j 0 hj (by decide), hd, _, rfl, C j, _, _, _, ej, T.exc j hj, rfl, fun u r => r, T.kit j 1 hj (by decide), hd,
      _, rfl, C j, _, _, _, ej, T.exc j hj, rfl, fun u r => r, T.kit j 2 hj (by decide), hd, (by show 3 ≤ sizeLine; decide), fun p1 hp1 => ?_⟩
    have S1 : Same H' (upd H' p1 (.lst [.bl (decide (0 = j)), .bl (decide (1 = j)), .bl (decide (2 = j))])) := Same.new (Same.refl _) hp1
    have hd1 : ∀ dd, d = some dd → ∃ fs, (upd H' p1 (.lst [.bl (decide (0 = j)), .bl (decide (1 = j)), .bl (decide (2 = j))])) dd = some (.xd fs) := fun dd e => let ⟨fs, z⟩ := hd dd e; ⟨fs, S1 _ _ z⟩
    refine ⟨_, rfl, _, rfl, C j, _, _, _, ej, T.exc j hj, rfl, fun u r => r, T.kit j 3 hj (by decide), hd1, _, rfl, C j, _, _, _, ej, T.exc j hj, rfl, fun u r => r, T.kit j 4 hj (by decide), hd1,
      _, rfl, C j, _, _, _, ej, T.exc j hj, rfl, fun u r => r, T.kit j 5 hj (by decide), hd1, (by show 3 ≤ sizeLine; decide), fun p2 hp2 => ?_⟩
    have k1 : (upd H' p1 (.lst [.bl (decide (0 = j)), .bl (decide (1 = j)), .bl (decide (2 = j))])) p1 = some (.lst [.bl (decide (0 = j)), .bl (decide (1 = j)), .bl (decide (2 = j))]) := upd_same
    generalize (upd H' p1 (.lst [.bl (decide (0 = j)), .bl (decide (1 = j)), .bl (decide (2 = j))])) = H1 at S1 hd1 hp2 k1 ⊢
    have k1' := (Same.new (Same.refl H1) hp2 (o := .lst [.bl (decide (3 = j)), .bl (decide (4 = j)), .bl (decide (5 = j))])) _ _ k1
    refine ⟨p1, p2, _, _, rfl, rfl, k1', upd_same, (by show 3 + 3 ≤ sizeLine; decide), fun p3 hp3 => ?_⟩
    have S3 := S1.trans (Same.new (Same.new (Same.refl H1) hp2 (o := .lst [.bl (decide (3 = j)), .bl (decide (4 = j)), .bl (decide (5 = j))])) hp3 (o := .lst ([.bl (decide (0 = j)), .bl (decide (1 = j)), .bl (decide (2 = j))] ++ [.bl (decide (3 = j)), .bl (decide (4 = j)), .bl (decide (5 = j))])))
    have k3 : (upd (upd H1 p2 (.lst [.bl (decide (3 = j)), .bl (decide (4 = j)), .bl (decide (5 = j))])) p3 (.lst ([.bl (decide (0 = j)), .bl (decide (1 = j)), .bl (decide (2 = j))] ++ [.bl (decide (3 = j)), .bl (decide (4 = j)), .bl (decide (5 = j))]))) p3 = _ := upd_same
    generalize (upd (upd H1 p2 (.lst [.bl (decide (3 = j)), .bl (decide (4 = j)), .bl (decide (5 = j))])) p3 (.lst ([.bl (decide (0 = j)), .bl (decide (1 = j)), .bl (decide (2 = j))] ++ [.bl (decide (3 = j)), .bl (decide (4 = j)), .bl (decide (5 = j))]))) = H3 at S3 k3 ⊢
    have hd3 : ∀ dd, d = some dd → ∃ fs, H3 dd = some (.xd fs) := fun dd e => let ⟨fs, z⟩ := hd dd e; ⟨fs, S3 _ _ z⟩
    refine ⟨_, rfl, _, rfl, C j, _, _, _, ej, T.exc j hj, rfl, fun u r => r, T.kit j 6 hj (by decide), hd3, (by show 1 ≤ sizeLine; decide), fun p4 hp4 => ?_⟩
    have k3' := (Same.new (Same.refl H3) hp4 (o := .lst [.bl (decide (6 = j))])) _ _ k3
    refine ⟨p3, p4, _, _, rfl, rfl, k3', upd_same, (by show 6 + 1 ≤ sizeLine; decide), fun p5 hp5 => ?_⟩
    have S5 := S3.trans (Same.new (Same.new (Same.refl H3) hp4 (o := .lst [.bl (decide (6 = j))])) hp5 (o := .lst (ksV j)))
    have k5 : (upd (upd H3 p4 (.lst [.bl (decide (6 = j))])) p5 (.lst (ksV j))) p5 = some (.lst (ksV j)) := upd_same
    show (fun (Hx : Hp) => _) (upd (upd H3 p4 (.lst [.bl (decide (6 = j))])) p5 (.lst (ksV j)))
    generalize (upd (upd H3 p4 (.lst [.bl (decide (6 = j))])) p5 (.lst (ksV j))) = H5 at S5 k5 ⊢
    -- the names
    refine ⟨by show 7 ≤ sizeLine; decide, fun p6 hp6 => ?_⟩
    have S6 := S5.trans (Same.new (Same.refl H5) hp6 (o := .lst nmsV))
    have k6 : (upd H5 p6 (.lst nmsV)) p6 = some (.lst nmsV) := upd_same
    have k56 : (upd H5 p6 (.lst nmsV)) p5 = some (.lst (ksV j)) := Same.new (Same.refl H5) hp6 _ _ k5
    show (fun (Hx : Hp) => _) (upd H5 p6 (.lst nmsV))
    generalize (upd H5 p6 (.lst nmsV)) = H6 at S6 k6 k56 ⊢
    have hd6 : ∀ dd, d = some dd → ∃ fs, H6 dd = some (.xd fs) := fun dd e => let ⟨fs, z⟩ := hd dd e; ⟨fs, S6 _ _ z⟩
    refine ⟨_, rfl, .inl ⟨rfl, _, .inl (.inl k56)⟩, p5, _, _, rfl, rfl, .inl (.inl k56), rfl, ksV_flat j, rfl, _, rfl, ?_⟩
    rw [ksV_count hj]
    refine iteNS rfl ?_
    refine ⟨_, rfl, C j, _, _, _, ej, T.exc j hj, rfl, fun u r => r, T.kitV j hj, hd6, _, rfl, ?_⟩
    refine ⟨_, rfl, _, rfl, .inl ⟨rfl, _, .inl (.inl k56)⟩, p5, _, _, j, _, rfl, rfl, .inl (.inl k56), rfl, ksV_flat j, ksV_at hj, rfl, fun m z hm hz => ksV_ahead hj hm hz, ?_⟩
    refine ⟨p6, _, _, _, rfl, rfl, .inl (.inl k6), nmsV_at hj, ?_⟩
    refine ⟨_, rfl, rfl, _, rfl, ?_⟩
    rcases fin with ⟨rfl, dd, x, y, ed, hx, k⟩ | ⟨rfl, dd, x, ed, hx, k⟩ | ⟨h2, k⟩
    · have lr : List.lookup ("row" : Str) (xdII x y) = some x := by
        unfold xdII
        rw [lookup_put, if_neg (by decide +kernel), lookup_put, if_pos rfl]
      have lc : List.lookup ("column" : Str) (xdII x y) = some y := by
        unfold xdII
        rw [lookup_put, if_pos rfl]
      refine iteT' (decide_eq_true rfl) ?_
      refine ⟨_, rfl, _, rfl, rfl, ej, dd, _, x, ed, S6 _ _ hx, lr, _, rfl, rfl, ej, dd, _, y, ed, S6 _ _ hx, lc, (by show 3 ≤ sizeLine; decide), fun p hp => ?_⟩
      exact k p _ (Same.free S6 hp) (S6.trans (Same.new (Same.refl _) hp)) upd_same
    · refine iteF' (decide_eq_false (by decide +kernel)) ?_
      refine ⟨_, rfl, rfl, _, rfl, ?_⟩
      refine iteT' (decide_eq_true rfl) ?_
      have li : List.lookup ("index" : Str) [(("index" : Str), x)] = some x := by rw [lookup_put, if_pos rfl]
      refine ⟨_, rfl, _, rfl, rfl, ej, dd, _, x, ed, S6 _ _ hx, li, (by show 2 ≤ sizeLine; decide), fun p hp => ?_⟩
      exact k p _ (Same.free S6 hp) (S6.trans (Same.new (Same.refl _) hp)) upd_same
    · have n0 : ¬ V.str (nmE j) = V.str (Str.ofString "InvalidIsland") := fun e => by
        injection e with e
        have := (nmE_inj hj).1.mp e
        omega
      have n1 : ¬ V.str (nmE j) = V.str (Str.ofString "InvalidMap") := fun e => by
        injection e with e
        have := (nmE_inj hj).2.mp e
        omega
      refine iteF' (decide_eq_false n0) ?_
      refine ⟨_, rfl, rfl, _, rfl, ?_⟩
      refine iteF' (decide_eq_false n1) ?_
      exact ⟨_, rfl, k _ S6⟩
end
end Om

namespace Om
open PySem PySem.Spec PyProof.Rows L2 LamX PySem.W
/-! ### orders of cells, the lesser one -/
def ltLI : List IC → List IC → Prop
  | c :: l, d :: m => ltI c d ∨ (c = d ∧ ltLI l m)
  | _, _ => False
theorem ltI_tri (c d : IC) : ltI c d ∨ c = d ∨ ltI d c := by
  obtain ⟨a, b⟩ := c
  obtain ⟨x, y⟩ := d
  unfold ltI
  simp only [Prod.mk.injEq]
  omega
theorem ltLI_irrefl : ∀ l : List IC, ¬ ltLI l l
  | [], h => h
  | c :: l, h => by
    rcases h with h | ⟨_, h⟩
    · exact ltI_irrefl c h
    · exact ltLI_irrefl l h
theorem ltLI_trans : ∀ {l m k : List IC}, ltLI l m → ltLI m k → ltLI l k
  | [], _, _, h, _ => h.elim
  | _ :: _, [], _, h, _ => h.elim
  | _ :: _, _ :: _, [], _, h => h.elim
  | c :: l, d :: m, e :: k, h1, h2 => by
    rcases h1 with h1 | ⟨rfl, h1⟩
    · rcases h2 with h2 | ⟨rfl, h2⟩
      · exact .inl (ltI_trans h1 h2)
      · exact .inl h1
    · rcases h2 with h2 | ⟨rfl, h2⟩
      · exact .inl h2
      · exact .inr ⟨rfl, ltLI_trans h1 h2⟩
theorem ltLI_tri : ∀ {l m : List IC}, l.length = m.length → ltLI l m ∨ l = m ∨ ltLI m l
  | [], [], _ => .inr (.inl rfl)
  | c :: l, d :: m, h => by
    rcases ltI_tri c d with h1 | rfl | h1
    · exact .inl (.inl h1)
    · rcases ltLI_tri (Nat.succ.inj h) with h2 | rfl | h2
      · exact .inl (.inr ⟨rfl, h2⟩)
      · exact .inr (.inl rfl)
      · exact .inr (.inr (.inr ⟨rfl, h2⟩))
    · exact .inr (.inr (.inl h1))
theorem alike_cdI (c d : IC) : alike (cdI c) (cdI d) = true := itup_alike [c.1, c.2] [d.1, d.2]
theorem lt_cdI (c d : IC) : dataLt (cdI c) (cdI d) = true ↔ ltI c d := by
  show dataLt (.tuple [.int c.1, .int c.2]) (.tuple [.int d.1, .int d.2]) = true ↔ _
  rw [dataLt_ii, decide_eq_true_eq]
  exact Iff.rfl
theorem lt_ics : ∀ {l m : List IC}, l.length = m.length → (PyProof.Rows.lexLt itemOrd (keyToksAll (l.map cdI)) (keyToksAll (m.map cdI)) = true ↔ ltLI l m)
  | [], [], _ => by
    have h : PyProof.Rows.lexLt itemOrd (keyToksAll (([] : List IC).map cdI)) (keyToksAll (([] : List IC).map cdI)) = false := by
      rw [List.map_nil, keyToksAll]
      exact lex_pre [.inl 0] [] []
    rw [h]
    exact ⟨(fun h => by cases h), fun h => h.elim⟩
  | c :: l, d :: m, h => by
    rw [List.map_cons, List.map_cons, dataLt_cons (alike_cdI c d), eqv_ic]
    by_cases e : c = d
    · subst e
      rw [if_pos (decide_eq_true rfl), lt_ics (Nat.succ.inj h)]
      exact ⟨fun h => .inr ⟨rfl, h⟩, fun h => h.elim (fun h => absurd h (ltI_irrefl c)) fun h => h.2⟩
    · rw [if_neg (by simpa using e), lt_cdI]
      exact ⟨.inl, fun h => h.elim id fun h => absurd h.1 e⟩
theorem alike_icsA : ∀ (l m : List IC), alikeAll (l.map cdI) (m.map cdI) = true
  | [], _ => by rw [List.map_nil, alikeAll]
  | _ :: _, [] => by rw [List.map_cons, List.map_nil, alikeAll]
  | c :: l, d :: m => by rw [List.map_cons, List.map_cons, alikeAll, alike_cdI, alike_icsA l m]; rfl
theorem alike_ics (l m : List IC) : alike (.list (l.map cdI)) (.list (m.map cdI)) = true := by
  rw [alike]
  exact alike_icsA l m
theorem alike_icsT (l m : List IC) : alike (.tuple (l.map cdI)) (.tuple (m.map cdI)) = true := by
  rw [alike]
  exact alike_icsA l m
theorem eqv_icsA : ∀ (l m : List IC), PyData.eqvAll (l.map cdI) (m.map cdI) = decide (l = m)
  | [], [] => by simp [PyData.eqvAll]
  | [], _ :: _ => by simp [PyData.eqvAll]
  | _ :: _, [] => by simp [PyData.eqvAll]
  | c :: l, d :: m => by
    rw [List.map_cons, List.map_cons, PyData.eqvAll, eqv_ic, eqv_icsA l m, Bool.eq_iff_iff, Bool.and_eq_true, decide_eq_true_eq, decide_eq_true_eq, decide_eq_true_eq, List.cons.injEq]
theorem eqv_icsL (l m : List IC) : PyData.eqv (.list (l.map cdI)) (.list (m.map cdI)) = decide (l = m) := by
  rw [PyData.eqv, eqv_icsA]
/-! ### min of data that a strict order follows -/
theorem minD_least {α : Type} (f : α → PyData) (lt : α → α → Prop) (R : α → Prop) (hlt : ∀ a b, R a → R b → (dataLt (f a) (f b) = true ↔ lt a b)) (irr : ∀ a, ¬ lt a a) (asy : ∀ a b, lt a b → ¬ lt b a) (le3 : ∀ a b c, R a → R b → R c → ¬ lt b a → ¬ lt c b → ¬ lt c a) :
    ∀ (xs : List α) (x : α), R x → (∀ y ∈ xs, R y) → ∃ m ∈ x :: xs, minD (f x) (xs.map f) = f m ∧ ∀ y ∈ x :: xs, ¬ lt y m
  | [], x, _, _ => ⟨x, List.mem_cons_self, rfl, fun y hy => by rw [List.mem_singleton.mp hy]; exact irr x⟩
  | y :: xs, x, hx, hxs => by
    have hy := hxs y List.mem_cons_self
    have hr : ∀ z ∈ xs, R z := fun z hz => hxs z (List.mem_cons_of_mem _ hz)
    have e : minD (f x) ((y :: xs).map f) = minD (if dataLt (f y) (f x) then f y else f x) (xs.map f) := rfl
    rw [e]
    cases h : dataLt (f y) (f x) with
    | true =>
      have h2 := (hlt y x hy hx).mp h
      obtain ⟨m, hm, e2, h3⟩ := minD_least f lt R hlt irr asy le3 xs y hy hr
      have hmR : R m := (List.mem_cons.mp hm).elim (fun e => e ▸ hy) fun h => hr m h
      refine ⟨m, List.mem_cons_of_mem _ hm, e2, fun z hz => ?_⟩
      rcases List.mem_cons.mp hz with rfl | hz
      · exact le3 m y z hmR hy hx (h3 y List.mem_cons_self) (asy y z h2)
      · exact h3 z hz
    | false =>
      have h2 : ¬ lt y x := fun k => by rw [(hlt y x hy hx).mpr k] at h; cases h
      obtain ⟨m, hm, e2, h3⟩ := minD_least f lt R hlt irr asy le3 xs x hx hr
      have hmR : R m := (List.mem_cons.mp hm).elim (fun e => e ▸ hx) fun h => hr m h
      refine ⟨m, ?_, e2, fun z hz => ?_⟩
      · rcases List.mem_cons.mp hm with rfl | hm
        · exact List.mem_cons_self
        · exact List.mem_cons_of_mem _ (List.mem_cons_of_mem _ hm)
      · rcases List.mem_cons.mp hz with rfl | hz
        · exact h3 z List.mem_cons_self
        rcases List.mem_cons.mp hz with rfl | hz
        · exact le3 m x z hmR hx hy (h3 x List.mem_cons_self) h2
        · exact h3 z (List.mem_cons_of_mem _ hz)
end Om

namespace Om
open PySem PySem.Spec PyProof.Rows L2 LamX PySem.W
theorem dpAll_at' {K : PySem.W.Frag} {H : Hp} : ∀ {xs : List V} {ds : List PyData}, DpAll K H xs ds → ∀ {i : Nat} {x : V}, xs[i]? = some x → ∃ d, ds[i]? = some d ∧ Dp K H x d
  | _, _, .nil, _, _, hx => by cases hx
  | _, _, .cons h1 _, 0, _, hx => by cases hx; exact ⟨_, rfl, h1⟩
  | _, _, .cons _ h2, _ + 1, _, hx => dpAll_at' h2 hx
theorem minD_mem : ∀ (dr : List PyData) (d0 : PyData), minD d0 dr ∈ d0 :: dr
  | [], _ => List.mem_cons_self
  | y :: dr, d0 => by
    have e : minD d0 (y :: dr) = minD (if dataLt y d0 then y else d0) dr := rfl
    rw [e]
    rcases List.mem_cons.mp (minD_mem dr (if dataLt y d0 then y else d0)) with h | h
    · rw [h]
      split
      · exact List.mem_cons_of_mem _ List.mem_cons_self
      · exact List.mem_cons_self
    · exact List.mem_cons_of_mem _ (List.mem_cons_of_mem _ h)
/-! ### min(a list of data): the item that is the least -/
def rMinD (K : PySem.W.Frag) : List V → Hp → VK → Prop := fun vs H Q => ∃ (a : Addr) (xs : List V) (d0 : PyData) (dr : List PyData), vs = [V.ref a] ∧ SqL K H a xs ∧ DpAll K H xs (d0 :: dr) ∧ AlikeAll (d0 :: dr) ∧ PyData.depthAll (d0 :: dr) ≤ 8 ∧
  ∀ (i : Nat) (x : V), xs[i]? = some x → (d0 :: dr)[i]? = some (minD d0 dr) → Q x H
theorem cr_minD {X : Cx} {K : PySem.W.Frag} (hK : X.K = K) (hc : X.calm = true) (hu : X.A.units + 64 < cLine) : CallR X (.builtin "min") (rMinD K) := by
  subst hK
  intro pins s σ H xs us Q I rx h
  obtain ⟨a, xs, d0, dr, rfl, hs, hall, hal, hdp, q⟩ := h
  obtain ⟨its, rv, hl, _⟩ := I.list hs
  rw [Vals.ref1 rx]
  obtain ⟨as, hr⟩ := Dp.readsAll I _ _ its hall rv
  refine min_list_data (I.ok.hd hc) hl.isList hr hal (by omega) fun i v h' tk bs hv hrd hk => ?_
  obtain ⟨z, hz, rz⟩ := vals_at rv (show its[i]? = some v by simpa using hv)
  obtain ⟨d, hd, hzd⟩ := dpAll_at' hall hz
  obtain ⟨as2, r2⟩ := Dp.reads I d z v hzd rz
  have e : d = minD d0 dr := alike_unique d _ v _ _ (hal.1 d (List.mem_of_getElem? hd) _ (minD_mem dr d0)) (PyProof.Rows.Reads.keeps hk r2) hrd
  rw [e] at hd
  exact ⟨z, H, I.kept hk, rz, q i z hz hd⟩
theorem neDK {X : Cx} {K : PySem.W.Frag} (hK : X.K = K) (hu : X.A.units + 64 < cLine) : OpR X (compareOp .NotEq) (rNeD K) := by
  subst hK
  exact op_neD hu
/-! ### the least order -/
end Om

/-! walks as lists, the least of the shortest -/
namespace Om
open PySem PySem.Spec PyProof.Rows L2 LamX
/-- a walk from b, told by its end -/
inductive Wy (L : List IC) (b : IC) : Nat → IC → List IC → Prop
  | nil : Wy L b 0 b [b]
  | step {n c d cs} : Wy L b n c cs → d ∈ adjL c → d ∈ L → Wy L b (n + 1) d (cs ++ [d])
/-- a walk to e, told by its beginning -/
inductive Wf (L : List IC) (e : IC) : Nat → IC → List IC → Prop
  | nil : Wf L e 0 e [e]
  | cons {n c d ds} : Wf L e n d (d :: ds) → d ∈ adjL c → d ∈ L → Wf L e (n + 1) c (c :: d :: ds)
theorem Wy.pth {L : List IC} {b : IC} {n : Nat} {c : IC} {cs : List IC} (h : Wy L b n c cs) : Pth L b n c := by
  induction h with
  | nil => exact .nil
  | step _ hd hL ih => exact .cons ih hd hL
theorem Wy.len {L : List IC} {b : IC} {n : Nat} {c : IC} {cs : List IC} (h : Wy L b n c cs) : cs.length = n + 1 := by
  induction h with
  | nil => rfl
  | step _ _ _ ih => rw [List.length_append, ih]; rfl
theorem Pth.wy {L : List IC} {b : IC} {n : Nat} {c : IC} (h : Pth L b n c) : ∃ cs, Wy L b n c cs := by
  induction h with
  | nil => exact ⟨_, .nil⟩
  | cons _ hd hL ih =>
    obtain ⟨cs, h⟩ := ih
    exact ⟨_, .step h hd hL⟩
theorem Wy.zero {L : List IC} {b c : IC} {cs : List IC} (h : Wy L b 0 c cs) : c = b ∧ cs = [b] := by
  cases h
  exact ⟨rfl, rfl⟩
theorem Wy.inv {L : List IC} {b c : IC} {n : Nat} {cs : List IC} (h : Wy L b (n + 1) c cs) : ∃ p ps, Wy L b n p ps ∧ c ∈ adjL p ∧ c ∈ L ∧ cs = ps ++ [c] := by
  cases h with
  | step h hd hL => exact ⟨_, _, h, hd, hL, rfl⟩
theorem Wy.front {L : List IC} {b e : IC} {n : Nat} {c : IC} {cs : List IC} (h : Wy L b n c cs) : ∀ {m : Nat} {ds : List IC}, Wf L e m c (c :: ds) → Wf L e (n + m) b (cs ++ ds) := by
  induction h with
  | nil =>
    intro m ds h
    rw [Nat.zero_add]
    exact h
  | @step n c d cs _ hd hL ih =>
    intro m ds h
    have := ih (.cons h hd hL)
    rw [show n + (m + 1) = n + 1 + m by omega] at this
    rw [List.append_assoc]
    exact this
theorem Wy.wf {L : List IC} {b c : IC} {n : Nat} {cs : List IC} (h : Wy L b n c cs) : Wf L c n b cs := by
  have := h.front (e := c) .nil
  rwa [Nat.add_zero, List.append_nil] at this
theorem Wf.head {L : List IC} {e c : IC} {n : Nat} {cs : List IC} (h : Wf L e n c cs) : ∃ ds, cs = c :: ds := by
  cases h
  · exact ⟨_, rfl⟩
  · exact ⟨_, rfl⟩
theorem Wf.pth {L : List IC} {e : IC} {n : Nat} {c : IC} {cs : List IC} (h : Wf L e n c cs) : c ∈ L → Pth L e n c := by
  induction h with
  | nil => exact fun _ => .nil
  | cons _ hd hL ih => exact fun hc => .cons (ih hL) (adj_symm hd) hc
/-- the least of the walks of n paces -/
structure LstW (L : List IC) (b : IC) (n : Nat) (c : IC) (cs : List IC) : Prop where
  w : Wy L b n c cs
  lst : ∀ cs', Wy L b n c cs' → ¬ ltLI cs' cs
theorem LstW.uniq {L : List IC} {b c : IC} {n : Nat} {cs ds : List IC} (h : LstW L b n c cs) (k : LstW L b n c ds) : cs = ds := by
  rcases ltLI_tri (l := cs) (m := ds) (by rw [h.w.len, k.w.len]) with z | z | z
  · exact absurd z (k.lst _ h.w)
  · exact z
  · exact absurd z (h.lst _ k.w)
theorem ltLI_snoc : ∀ {l m : List IC} {c d : IC}, l.length = m.length → (ltLI (l ++ [c]) (m ++ [d]) ↔ ltLI l m ∨ (l = m ∧ ltI c d))
  | [], [], c, d, _ => by
    show (ltI c d ∨ (c = d ∧ False)) ↔ (False ∨ (([] : List IC) = [] ∧ ltI c d))
    simp
  | x :: l, y :: m, c, d, h => by
    have ih := ltLI_snoc (l := l) (m := m) (c := c) (d := d) (Nat.succ.inj h)
    show (ltI x y ∨ (x = y ∧ ltLI (l ++ [c]) (m ++ [d]))) ↔ ((ltI x y ∨ (x = y ∧ ltLI l m)) ∨ (x :: l = y :: m ∧ ltI c d))
    rw [ih, List.cons.injEq]
    constructor
    · rintro (h | ⟨h1, h2 | ⟨h2, h3⟩⟩)
      · exact .inl (.inl h)
      · exact .inl (.inr ⟨h1, h2⟩)
      · exact .inr ⟨⟨h1, h2⟩, h3⟩
    · rintro ((h | ⟨h1, h2⟩) | ⟨⟨h1, h2⟩, h3⟩)
      · exact .inl h
      · exact .inr ⟨h1, .inl h2⟩
      · exact .inr ⟨h1, .inr ⟨h2, h3⟩⟩
/-- a walk that takes the least cell each time -/
inductive Gr (kvs : List (IC × Nat)) : Nat → IC → List IC → Prop
  | nil {c} : (c, 0) ∈ kvs → Gr kvs 0 c [c]
  | cons {m c d ds} : (c, m + 1) ∈ kvs → d ∈ adjL c → (d, m) ∈ kvs → (∀ e ∈ adjL c, (e, m) ∈ kvs → ¬ ltI e d) → Gr kvs m d (d :: ds) → Gr kvs (m + 1) c (c :: d :: ds)
theorem Gr.least {L : List IC} {e : IC} {kvs : List (IC × Nat)} (p : Pc L e kvs) {m : Nat} {c : IC} {ds : List IC} (g : Gr kvs m c ds) : ∀ ds', Wf L e m c ds' → ¬ ltLI ds' ds := by
  induction g with
  | nil h =>
    intro ds' w
    cases w
    exact ltLI_irrefl _
  | @cons m c d ds hc hd hm hmin _ ih =>
    intro ds' w
    cases w with
    | @cons _ _ d' ds'' w' hd' hL' =>
      intro h
      have h : ltI c c ∨ (c = c ∧ ltLI (d' :: ds'') (d :: ds)) := h
      rcases h with h | ⟨_, h⟩
      · exact ltI_irrefl c h
      have hp := w'.pth hL'
      obtain ⟨k, k1, k2⟩ := p.min hp
      have hk : k = m := by
        obtain ⟨k', k3, k4⟩ := p.min (Pth.cons (p.pth k d' k2) (adj_symm hd') (show c ∈ L from (p.lnd c (m + 1) hc).elim (fun e => by
          subst e
          have := p.b0
          exact absurd (p.one hc this) (by omega)) id))
        have := p.one k4 hc
        omega
      subst hk
      have h5 : ltI d' d ∨ (d' = d ∧ ltLI ds'' ds) := h
      rcases h5 with h6 | ⟨h6, h7⟩
      · exact hmin d' hd' k2 h6
      · subst h6
        exact ih _ w' (.inr ⟨rfl, h7⟩)
/-- from a route's facts -/
theorem gr_of {kvs : List (IC × Nat)} {one : IC} {m0 : Nat} {cs : List IC} (R : Rt kvs one m0 cs) (hl : cs.length = m0 + 1) (hmin : ∀ (i : Nat) c d, cs[i]? = some c → cs[i + 1]? = some d → ∀ e ∈ adjL c, (e, m0 - (i + 1)) ∈ kvs → ¬ ltI e d) :
    ∀ (k i : Nat) c, i + k = m0 → cs[i]? = some c → Gr kvs k c (cs.drop i)
  | 0, i, c, hi, hc => by
    have hi2 : i < cs.length := (List.getElem?_eq_some_iff.mp hc).1
    have e : cs.drop i = [c] := by
      rw [List.drop_eq_getElem_cons hi2, List.drop_eq_nil_of_le (by omega)]
      rw [List.getElem?_eq_getElem hi2] at hc
      rw [Option.some.inj hc]
    rw [e]
    have := R.pace i c hc
    rw [show m0 - i = 0 by omega] at this
    exact .nil this
  | k + 1, i, c, hi, hc => by
    have hi2 : i < cs.length := (List.getElem?_eq_some_iff.mp hc).1
    have hi3 : i + 1 < cs.length := by omega
    have hd := List.getElem?_eq_getElem hi3
    have e1 : cs[i] = c := by
      rw [List.getElem?_eq_getElem hi2] at hc
      exact Option.some.inj hc
    have ih := gr_of R hl hmin k (i + 1) _ (by omega) hd
    rw [List.drop_eq_getElem_cons hi3] at ih
    rw [List.drop_eq_getElem_cons hi2, List.drop_eq_getElem_cons hi3, e1]
    have p1 := R.pace i c hc
    have p2 := R.pace (i + 1) _ hd
    rw [show m0 - i = k + 1 by omega] at p1
    rw [show m0 - (i + 1) = k by omega] at p2
    refine .cons p1 (R.adj i c _ hc hd) p2 (fun e he hk => hmin i c _ hc hd e he (by rw [show m0 - (i + 1) = k by omega]; exact hk)) ih
theorem wy_of {L : List IC} {e one : IC} {kvs : List (IC × Nat)} (p : Pc L e kvs) (he : e ∈ L) {m0 : Nat} {cs : List IC} (R : Rt kvs one m0 cs) : ∀ (i : Nat) c, cs[i]? = some c → Wy L one i c (cs.take (i + 1))
  | 0, c, hc => by
    have h := R.h0
    rw [hc] at h
    have e1 : c = one := Option.some.inj h
    subst e1
    cases cs with
    | nil => cases hc
    | cons x r =>
      cases hc
      exact .nil
  | i + 1, d, hd => by
    have hi : i < cs.length := by have := (List.getElem?_eq_some_iff.mp hd).1; omega
    have hc := List.getElem?_eq_getElem hi
    have ih := wy_of p he R i _ hc
    rw [List.take_succ (i := i + 1), hd]
    refine .step ih (R.adj i _ d hc hd) ?_
    rcases p.lnd _ _ (R.pace (i + 1) d hd) with z | z
    · rw [z]; exact he
    · exact z
/-- the route is the least of the shortest walks -/
theorem route_least {L : List IC} {e one : IC} {kvs : List (IC × Nat)} (p : Pc L e kvs) (he : e ∈ L) {m0 : Nat} {cs : List IC} (R : Rt kvs one m0 cs) (hl : cs.length = m0 + 1) (hmin : ∀ (i : Nat) c d, cs[i]? = some c → cs[i + 1]? = some d → ∀ x ∈ adjL c, (x, m0 - (i + 1)) ∈ kvs → ¬ ltI x d) : LstW L one m0 e cs := by
  have hm : m0 < cs.length := by omega
  have hlast := List.getElem?_eq_getElem hm
  have hz := R.pace m0 _ hlast
  rw [Nat.sub_self] at hz
  have ee : cs[m0] = e := p.zero _ hz
  rw [ee] at hlast
  have w := wy_of p he R m0 e hlast
  rw [List.take_of_length_le (by omega)] at w
  refine ⟨w, fun cs' w' => ?_⟩
  have g := gr_of R hl hmin m0 0 one (by omega) R.h0
  rw [List.drop_zero] at g
  exact g.least p cs' w'.wf
end Om

namespace Om
open PySem PySem.Spec PyProof.Rows L2 LamX PySem.W
/-! distance and route, to the least; where they are refused -/
def LL (rows : List (List Nat)) : List IC := (cellsOf rows).map icc
theorem has_ll {rows : List (List Nat)} (g : Good2 rows) {c : IC} (h : c ∈ LL rows) : hasC rows c.1 c.2 = true := by
  obtain ⟨q, hq, rfl⟩ := List.mem_map.mp h
  exact has_of g hq
def spBoth2 (K : PySem.W.Frag) (CI CU : Addr) : Sp := fun vs H Q E => ∃ (a oa pa : Addr) (rows : List (List Nat)) (c d : IC), vs = [.ref a, .ref oa, .ref pa] ∧ Isl K CI H a rows ∧ Good2 rows ∧ SqT K H oa (icv c) ∧ SqT K H pa (icv d) ∧
  ((hasC rows c.1 c.2 = false ∨ hasC rows d.1 d.2 = false) → E (.ref CU) none H) ∧ (hasC rows c.1 c.2 = true → hasC rows d.1 d.2 = true → Q .non H)
def dV (kvs : List (IC × Nat)) (d : IC) : V := (valV (dkv kvs) (ick d)).getD .non
def spDist2 (K : PySem.W.Frag) (CI CU : Addr) : Sp := fun vs H Q E => ∃ (a oa pa : Addr) (rows : List (List Nat)) (c d : IC), vs = [.ref a, .ref oa, .ref pa] ∧ Isl K CI H a rows ∧ Vd rows ∧ (cellsOf rows).length ≤ 62 ∧ H oa = some (.tup (icv c)) ∧ H pa = some (.tup (icv d)) ∧
  (((hasC rows c.1 c.2 = false ∨ hasC rows d.1 d.2 = false) ∧ E (.ref CU) none H) ∨ (c ∈ LL rows ∧ d ∈ LL rows ∧ ∀ kvs, Pc (LL rows) c kvs → ∀ H', Same H H' → Q (dV kvs d) H'))
def spRoute2 (K : PySem.W.Frag) (CI CU : Addr) : Sp := fun vs H Q E => ∃ (a oa pa : Addr) (rows : List (List Nat)) (c d : IC), vs = [.ref a, .ref oa, .ref pa] ∧ Isl K CI H a rows ∧ Vd rows ∧ (cellsOf rows).length ≤ 62 ∧ H oa = some (.tup (icv c)) ∧ H pa = some (.tup (icv d)) ∧
  (((hasC rows c.1 c.2 = false ∨ hasC rows d.1 d.2 = false) ∧ E (.ref CU) none H) ∨ (c ∈ LL rows ∧ d ∈ LL rows ∧ (¬ Rch (LL rows) d c → ∀ H', Same H H' → Q .non H') ∧
    ∀ (D : Addr) (t : TI) (m0 : Nat) (H' : Hp), H D = none → Same H H' → H' D = some (.lst (vzI t)) → CI2 H' t → LstW (LL rows) c m0 d (czI t) → (∀ k ws, Wy (LL rows) c k d ws → m0 ≤ k) → Q (.ref D) H'))
/-- min of cells: the least of them -/
def rMinC (K : PySem.W.Frag) : List V → Hp → VK → Prop := fun vs H Q => ∃ (a : Addr) (t : TI), vs = [V.ref a] ∧ SqL K H a (vzI t) ∧ t ≠ [] ∧ CI2 H t ∧ ∀ q ∈ t, (∀ r ∈ t, ¬ ltI r.2 q.2) → Q (.ref q.1) H
theorem cr_minC {X : Cx} {K : PySem.W.Frag} (hK : X.K = K) (hc : X.calm = true) (hu : X.A.units + 64 < cLine) : CallR X (.builtin "min") (rMinC K) := by
  intro pins s σ H xs us Q I rx h
  obtain ⟨a, t, rfl, hs, hne, hC, q⟩ := h
  obtain ⟨q0, t', rfl⟩ := List.exists_cons_of_ne_nil hne
  have dp : ∀ t : TI, CI2 H t → DpAll K H (vzI t) (t.map fun q => cdI q.2) := fun t => by
    induction t with
    | nil => exact fun _ => .nil
    | cons q t ih => exact fun hC => .cons (.tup (.inl (.inl (hC q List.mem_cons_self))) (.cons (.int _) (.cons (.int _) .nil))) (ih fun x hx => hC x (List.mem_cons_of_mem _ hx))
  have al : AlikeAll ((q0 :: t').map fun q => cdI q.2) := by
    refine ⟨fun x hx y hy => ?_, fun x hx => ?_⟩
    · obtain ⟨p, _, rfl⟩ := List.mem_map.mp hx
      obtain ⟨r, _, rfl⟩ := List.mem_map.mp hy
      exact alike_cdI _ _
    · obtain ⟨p, _, rfl⟩ := List.mem_map.mp hx
      exact fun e => by cases e
  have dep : ∀ t : TI, PyData.depthAll (t.map fun q => cdI q.2) ≤ 1 := fun t => by
    induction t with
    | nil => simp [PyData.depthAll]
    | cons q t ih =>
      rw [List.map_cons]
      show max (cdI q.2).depth (PyData.depthAll (t.map fun q => cdI q.2)) ≤ 1
      have : (cdI q.2).depth ≤ 1 := by simp [cdI, PyData.depth, PyData.depthAll]
      omega
  refine cr_minD hK hc hu pins s σ H _ us Q I rx ⟨a, _, cdI q0.2, t'.map (fun q : Addr × IC => cdI q.2), rfl, hs, dp _ hC, al, by have := dep (q0 :: t'); exact Nat.le_trans this (by decide), fun i x hx hm => ?_⟩
  obtain ⟨m, hmem, em, hl⟩ := minD_least (fun q : Addr × IC => cdI q.2) (fun p q => ltI p.2 q.2) (fun _ => True) (fun a b _ _ => lt_cdI _ _) (fun a => ltI_irrefl _) (fun a b h k => ltI_irrefl _ (ltI_trans h k)) (fun a b c _ _ _ h k z => by
    rcases ltI_tri a.2 b.2 with e | e | e
    · rcases ltI_tri b.2 c.2 with f | f | f
      · exact ltI_irrefl _ (ltI_trans e (ltI_trans f z))
      · rw [f] at e; exact ltI_irrefl _ (ltI_trans e z)
      · exact k f
    · rw [e] at z; exact k z
    · exact h e) t' q0 trivial (fun _ _ => trivial)
  rw [em] at hm
  have hi : i < (q0 :: t').length := by
    have := (List.getElem?_eq_some_iff.mp hx).1
    rwa [vzI_len] at this
  have hx2 : x = .ref ((q0 :: t')[i]).1 := by
    unfold vzI at hx
    rw [List.getElem?_map, List.getElem?_eq_getElem hi] at hx
    exact (Option.some.inj hx).symm
  subst hx2
  have e2 : cdI ((q0 :: t')[i]).2 = cdI m.2 := by
    have : ((q0 :: t').map fun q : Addr × IC => cdI q.2)[i]? = some (cdI m.2) := hm
    rw [List.getElem?_map, List.getElem?_eq_getElem hi] at this
    exact Option.some.inj this
  have e3 : ((q0 :: t')[i]).2 = m.2 := by
    have h1 := eqv_ic ((q0 :: t')[i]).2 m.2
    rw [e2, eqv_ic, decide_eq_true rfl] at h1
    exact of_decide_eq_true h1.symm
  exact q _ (List.getElem_mem hi) fun r hr => by rw [e3]; exact hl r hr
/-- each next cell is the least of those that are one pace nearer -/
def MinR (kvs : List (IC × Nat)) (m0 : Nat) (cs : List IC) : Prop := ∀ (i : Nat) c d, cs[i]? = some c → cs[i + 1]? = some d → ∀ x ∈ adjL c, (x, m0 - (i + 1)) ∈ kvs → ¬ ltI x d
theorem MinR.start {kvs : List (IC × Nat)} {m0 : Nat} {c : IC} : MinR kvs m0 [c] := fun i x d _ h => by simp at h
theorem MinR.put {kvs : List (IC × Nat)} {m0 : Nat} {cs : List IC} {c d : IC} (M : MinR kvs m0 cs) (hc : cs[cs.length - 1]? = some c) (h : ∀ x ∈ adjL c, (x, m0 - cs.length) ∈ kvs → ¬ ltI x d) : MinR kvs m0 (cs ++ [d]) := fun i x y hx hy z hz hk => by
  have h2 := (List.getElem?_eq_some_iff.mp hy).1
  rw [List.length_append, List.length_singleton] at h2
  have hi : i < cs.length := by omega
  rw [List.getElem?_append_left hi] at hx
  by_cases hj : i + 1 < cs.length
  · rw [List.getElem?_append_left hj] at hy
    exact M i x y hx hy z hz hk
  · have e : i + 1 = cs.length := by omega
    rw [e, List.getElem?_append_right (Nat.le_refl _), Nat.sub_self] at hy
    cases hy
    have e2 : i = cs.length - 1 := by omega
    rw [e2, hc] at hx
    cases hx
    rw [e] at hk
    exact h z hz hk
section
variable {P : Program} {w : World} {K : PySem.W.Frag} {mg : Str → Option Value} {base : Heap} {CI CU fN pm gt : Addr}
theorem ok_both2 {f : Addr} {fd : FuncData} (F : FnP K "_require_both" "_require_both" sBoth f fd) (LD : Cal P w K mg base (L2.CX P w) 4 "require_land" ["island", "cell"] (spLandX K CI CU)) : FnOk P w K mg base (L2.CX P w) 5 f fd ["island", "one", "other"] (spBoth2 K CI CU) := by
  refine F.ok scBoth (fun vs H Q E h => ?_) (fun cdv A outer s H vs Q E hr h => ?_)
  · obtain ⟨a, oa, pa, rows, c, d, rfl, _⟩ := h
    rfl
  · obtain ⟨a, oa, pa, rows, c, d, rfl, hI, g, hC, hD, k2, k1⟩ := h
    refine ⟨_, pss_cons (ps_expr (pe_cal LD hr (passes_call (W := fun cls d _ H => E cls d H) (takes_of rfl rfl rfl rfl) fun _ _ _ _ h => h) (pa_cons (pv 0) (pa_cons (pv 1) pa_nil))))
      (pss_one (ps_expr (pe_cal LD hr (passes_call (W := fun cls d _ H => E cls d H) (takes_of rfl rfl rfl rfl) fun _ _ _ _ h => h) (pa_cons (pv 0) (pa_cons (pv 2) pa_nil))))), ?_⟩
    refine ⟨_, rfl, _, rfl, a, oa, rows, c, rfl, hI, g, hC, fun hc => ?_, fun e => k2 (.inl e)⟩
    exact ⟨_, rfl, _, rfl, a, pa, rows, d, rfl, hI, g, hD, k1 hc, fun e => k2 (.inr e)⟩
theorem ok_dist2 {f : Addr} {fd h3 : FuncData} (F : FnP K "distance" "distance" sDist f fd) (BO : Cal P w K mg base (L2.CX P w) 5 "_require_both" ["island", "one", "other"] (spBoth2 K CI CU)) (PF : Cal P w K mg base CX0 3 "paces_from" ["cells", "begin"] (spPF K)) (TI' : IslF K mg CI fN) (pC : PropOf K CI "cells" pm gt) (G3 : FnOk P w K mg base CX0 1 gt h3 ["self"] (spICellsT K CI)) (b3 : Binds K h3 ["self"] []) : FnOk P w K mg base (L2.CX P w) 6 f fd ["island", "one", "other"] (spDist2 K CI CU) := by
  refine F.ok scDist (fun vs H Q E h => ?_) (fun cdv A outer s H vs Q E hr h => ?_)
  · obtain ⟨a, oa, pa, rows, c, d, rfl, _⟩ := h
    rfl
  · obtain ⟨a, oa, pa, rows, c, d, rfl, hI, vd, hfew, hC, hD, h⟩ := h
    have hu := hr.units
    have hu1 : _ + 1 < cLine := Nat.lt_of_le_of_lt (Nat.add_le_add_left (show 1 ≤ 64 by decide) _) hu
    refine ⟨_, pss_cons (ps_expr (pe_cal BO hr (passes_call (W := fun cls d _ H => E cls d H) (takes_of rfl rfl rfl rfl) fun _ _ _ _ h => h) (pa_cons (pv 0) (pa_cons (pv 1) (pa_cons (pv 2) pa_nil)))))
      (pss_one (ps_ret (pe_dget1 hu1 (pe_cal PF (hr.mono (by decide)) pass0 (pa_cons (pe_prop (pv 0) TI'.cl pC G3 (hr.mono (by decide)) b3 .nil pass0 rfl) (pa_cons (pv 1) pa_nil))) (pv 2) ⟨rfl, rfl, rfl, rfl⟩))), ?_⟩
    obtain ⟨dx, p, hp, _⟩ := id hI
    refine ⟨_, rfl, _, rfl, _, rfl, a, oa, pa, rows, c, d, rfl, hI, vd.toGood2, .inl (.inl hC), .inl (.inl hD), fun off => ?_, fun h1 h2 => ?_⟩
    · rcases h with ⟨_, k⟩ | ⟨hc, hd, _⟩
      · exact k
      · rw [has_ll vd.toGood2 hc, has_ll vd.toGood2 hd] at off
        rcases off with e | e <;> cases e
    rcases h with ⟨off, _⟩ | ⟨hc, hd, k⟩
    · rw [h1, h2] at off
      rcases off with e | e <;> cases e
    refine ⟨_, rfl, a, dx, _, rfl, hp, a, rows, rfl, hI, vd, fun D t H1 s1 hD0 hL hCA hcz => ?_⟩
    refine ⟨_, rfl, D, oa, toTI t, c, rfl, by rw [toTI_vz]; exact .inl (.inl hL), toTI_ca hCA, ?_, s1 _ _ hC, fun D2 kvs H2 hD2 s2 h2 pc => ?_⟩
    · have e1 := congrArg List.length hcz
      rw [show (toTI t).length = t.length from List.length_map .., show t.length = (cz t).length from (List.length_map ..).symm, e1]
      exact hfew
    · have s12 := s1.trans s2
      rw [toTI_cz, hcz] at pc
      refine ⟨D2, rfl, .inr ⟨_, .inl h2⟩, _, rfl, _, DGet.t (k := ick d) h2 (s12 _ _ hD), ?_⟩
      exact k kvs pc _ s12
theorem ok_route2 {f : Addr} {fd h3 : FuncData} (F : FnP K "route" "route" sRoute f fd) (BO : Cal P w K mg base (L2.CX P w) 5 "_require_both" ["island", "one", "other"] (spBoth2 K CI CU)) (PF : Cal P w K mg base CX0 3 "paces_from" ["cells", "begin"] (spPF K)) (BS : Cal P w K mg base CX0 2 "cells_beside" ["cell"] (spBes K)) (TI' : IslF K mg CI fN) (pC : PropOf K CI "cells" pm gt) (G3 : FnOk P w K mg base CX0 1 gt h3 ["self"] (spICellsT K CI)) (b3 : Binds K h3 ["self"] []) (gmin : mg "min" = none) : FnOk P w K mg base (L2.CX P w) 6 f fd ["island", "one", "other"] (spRoute2 K CI CU) := by
  refine F.ok scRt (fun vs H Q E h => ?_) (fun cdv A outer s H vs Q E hr h => ?_)
  · obtain ⟨a, oa, pa, rows, c, d, rfl, _⟩ := h
    rfl
  · obtain ⟨a, oa, pa, rows, c, d, rfl, hI, vd, hfew, hC, hD, h⟩ := h
    have nd := scRt.nd
    have hu := hr.units
    have hr2 : Room 2 _ := hr.mono (by decide)
    have hu1 : _ + 1 < cLine := Nat.lt_of_le_of_lt (Nat.add_le_add_left (show 1 ≤ 64 by decide) _) hu
    refine ⟨_, pss_cons (ps_expr (pe_cal BO hr (passes_call (W := fun cls d _ H => E cls d H) (takes_of rfl rfl rfl rfl) fun _ _ _ _ h => h) (pa_cons (pv 0) (pa_cons (pv 1) (pa_cons (pv 2) pa_nil)))))
      (pss_cons (ps_set (i := 3) nd rfl (.inr rfl) (pe_cal PF (hr.mono (by decide)) pass0 (pa_cons (pe_prop (pv 0) TI'.cl pC G3 (hr.mono (by decide)) b3 .nil pass0 rfl) (pa_cons (pv 2) pa_nil))))
      (pss_cons (ps_if (pt_cmp (pc_dnotin hu1 (pv 1) (pv 3)) (by with_unfolding_all rfl)) (pss_one (ps_ret pe_non)) pss_nil)
      (pss_cons (ps_set (i := 4) nd rfl (.inl rfl) (pe_lst (pa_cons (pv 1) pa_nil)))
      (pss_cons (ps_while (passes_of rfl) (pt_cmpR (op_neD hu) (pe_ix ix_list (pv 4) (pe_un un_neg pe_int) (fun _ _ => rfl)) (pv 2) (nomark _))
        (pss_cons (ps_set (i := 5) nd rfl (.inr rfl) (pe_op op_sub (pe_dget hu1 (pv 3) (pe_ix ix_list (pv 4) (pe_un un_neg pe_int) (fun _ _ => rfl)) (fun _ _ => rfl)) pe_int))
        (pss_one (ps_expr (pe_bm PySem.F.plainAttrs_list PySem.F.slot_list_append PySem.F.type_list_append mt_append (pv 4) (pa_cons (pe_callB (cr_minC (K := K) rfl rfl hu) (by rfl) gmin (by decide +kernel) (pa_cons
          (pe_lc (own := [("cell", 6)]) (g := gName 6) rfl nd (pi_listK (K := K) rfl (pe_cal BS hr2 pass0 (pa_cons (pe_ix ix_list (pv 4) (pe_un un_neg pe_int) (fun _ _ => rfl)) pa_nil))) blkRt (fun _ _ _ _ _ => pg_name (i := 6) nd rfl (.inl rfl))
            (fun _ _ _ _ _ => pts_one (pt_cmpR op_eq (pe_dget1 hu1 (pv 3) (pv 6) ⟨rfl, rfl, rfl, rfl⟩) (pv 5) (by with_unfolding_all rfl))) (fun _ _ _ _ _ => pv 6)) pa_nil)) pa_nil))))))
      (pss_one (ps_ret (pv 4))))))), ?_⟩
    obtain ⟨dx, p, hp, _⟩ := id hI
    refine ⟨_, rfl, _, rfl, _, rfl, a, oa, pa, rows, c, d, rfl, hI, vd.toGood2, .inl (.inl hC), .inl (.inl hD), fun off => ?_, fun h1 h2 => ?_⟩
    · rcases h with ⟨_, k⟩ | ⟨hc, hd, _⟩
      · exact k
      · rw [has_ll vd.toGood2 hc, has_ll vd.toGood2 hd] at off
        rcases off with e | e <;> cases e
    rcases h with ⟨off, _⟩ | ⟨hcL, hdL, kN, kR⟩
    · rw [h1, h2] at off
      rcases off with e | e <;> cases e
    refine ⟨_, rfl, a, dx, _, rfl, hp, a, rows, rfl, hI, vd, fun D t H1 s1 hD0 hL hCA hcz => ?_⟩
    refine ⟨_, rfl, D, pa, toTI t, d, rfl, by rw [toTI_vz]; exact .inl (.inl hL), toTI_ca hCA, ?_, s1 _ _ hD, fun D2 kvs H2 hD2 s2 h2 pc => ?_⟩
    · have e1 := congrArg List.length hcz
      rw [show (toTI t).length = t.length from List.length_map .., show t.length = (cz t).length from (List.length_map ..).symm, e1]
      exact hfew
    · have s12 := s1.trans s2
      rw [toTI_cz, hcz] at pc
      have hdg : DGet H2 D2 (.ref oa) (valV (dkv kvs) (ick c)) := DGet.t (k := ick c) h2 (s12 _ _ hC)
      refine ⟨_, rfl, _, rfl, D2, _, rfl, hdg, _, rfl, ?_⟩
      rcases Classical.em (Rch (LL rows) d c) with hb | hb
      case inr =>
        refine iteT' (by rw [dkv_none fun hm => hb (pc.keys.mp hm)]; rfl) ?_
        exact kN hb _ s12
      case inl =>
        obtain ⟨⟨c', m0⟩, hm, e3⟩ := List.mem_map.mp (pc.keys.mpr hb)
        obtain rfl : c = c' := (show c' = c from e3).symm
        refine iteF' (by rw [dkv_some pc.nd hm]; rfl) ?_
        refine ⟨_, rfl, by show 1 ≤ sizeLine; decide, fun ea hea => ?_⟩
        have sE := Same.new (Same.refl H2) hea (o := .lst [.ref oa])
        refine ⟨fun m σ H3 => ∃ (t : TI) (v5 : Option V), σ = [some (.ref a), some (.ref oa), some (.ref pa), some (.ref D2), some (.ref ea), v5, none] ∧ Same H2 H3 ∧ H3 ea = some (.lst (vzI t)) ∧ CI2 H3 t ∧ Rt kvs c m0 (czI t) ∧ MinR kvs m0 (czI t) ∧ m = m0 + 1 - t.length,
          ⟨_, [(oa, c)], _, rfl, sE, upd_same, (fun q hq => by
            rw [List.mem_singleton.mp hq]
            exact sE _ _ (s12 _ _ hC)), Rt.start hm, MinR.start, rfl⟩, ?_⟩
        rintro m σ H3 ⟨t3, v5, rfl, s3, hea3, hC3, R, MR, rfl⟩
        have hne : t3 ≠ [] := fun e => by
          have := R.h0
          rw [e] at this
          cases this
        obtain ⟨t0, e0, ht⟩ := (List.eq_nil_or_concat t3).resolve_left hne
        rw [List.concat_eq_append] at ht
        subst ht
        have hlen : (czI (t0 ++ [e0])).length = t0.length + 1 := by rw [czI_len, List.length_append]; rfl
        have hlt := R.lt
        rw [hlen] at hlt
        have hlast : (czI (t0 ++ [e0]))[t0.length]? = some e0.2 := by
          rw [czI_app, ← czI_len t0, List.getElem?_append_right (Nat.le_refl _), Nat.sub_self]
          rfl
        have hpl := R.pace _ _ hlast
        have he0 := hC3 e0 (List.mem_append_right _ List.mem_cons_self)
        have eat : atI (vzI (t0 ++ [e0])) (-1) = some (.ref e0.1) := by
          rw [vzI_app]
          exact atI_last _ _
        have hd3 : H3 pa = some (.tup (icv d)) := s3 _ _ (s12 _ _ hD)
        have hD23 := s3 _ _ h2
        refine ⟨_, rfl, _, rfl, ea, _, _, _, rfl, rfl, .inl (.inl hea3), eat, _, rfl, cdI e0.2, cdI d, cdI_dp he0, cdI_dp hd3, sh_pair _ _, sh_pair _ _, _, rfl, ?_⟩
        rw [eqv_ic]
        by_cases hed : e0.2 = d
        · refine iteF' (by rw [decide_eq_true hed]; rfl) ?_
          refine ⟨_, rfl, ?_⟩
          rw [hed] at hpl
          have hz := pc.one hpl pc.b0
          exact kR ea (t0 ++ [e0]) m0 H3 (Same.none s12 hea) (s12.trans s3) hea3 hC3 (route_least pc hdL R (by rw [hlen]; omega) MR) fun k ws w => by
            obtain ⟨m', h1, h2⟩ := pc.min (w.wf.pth hcL)
            rw [pc.one hm h2]
            exact h1
        · refine iteT' (by rw [decide_eq_false hed]; rfl) ?_
          refine ⟨_, fun σ' H' h => h, ?_⟩
          obtain ⟨m', hm'⟩ : ∃ m', m0 - t0.length = m' + 1 := by
            cases hx : m0 - t0.length with
            | zero =>
              rw [hx] at hpl
              exact absurd (pc.zero _ hpl) hed
            | succ m' => exact ⟨m', rfl⟩
          rw [hm'] at hpl
          obtain ⟨c1, hc1, hadj⟩ := pc.prev _ _ hpl
          have hadj2 := adj_symm hadj
          have dg0 := DGet.t hD23 he0 (k := ick e0.2)
          rw [dkv_some pc.nd hpl] at dg0
          refine ⟨_, rfl, _, rfl, _, rfl, ea, _, _, _, rfl, rfl, .inl (.inl hea3), eat, D2, _, rfl, dg0, _, _, rfl, rfl, ?_⟩
          refine ⟨_, rfl, .inl ⟨rfl, _, .inl (.inl hea3)⟩, ?_⟩
          refine ⟨_, rfl, _, rfl, ea, _, _, _, rfl, rfl, .inl (.inl hea3), eat, e0.1, e0.2, rfl, .inl (.inl he0), fun DL t5 H5 s5 hL5 hC5 hcz5 => ⟨DL, rfl, ⟨_, .inl (.inl hL5)⟩, fun D8 hD8 => ?_⟩⟩
          have lt5 : t5.length = 4 := by
            rw [← czI_len, hcz5]
            unfold adjL
            rw [List.length_map, List.length_range]
          refine lc_list (K := K) (a := DL) (xs := vzI t5) (fun j H8 => ∃ t2 : TI, H8 D8 = some (.lst (vzI t2)) ∧ (∀ y ∈ t2, y ∈ t5 ∧ (y.2, m') ∈ kvs) ∧ (∀ i (hi : i < t5.length), i < j → (t5[i].2, m') ∈ kvs → t5[i] ∈ t2) ∧ t2.length ≤ j ∧ Same H5 H8) ⟨[], upd_same, (fun y hy => by cases hy), (fun i _ h => by omega), Nat.le_refl _, Same.new (Same.refl H5) hD8⟩ (fun j H8 _ z => by
            obtain ⟨_, _, _, _, _, z⟩ := z
            exact .inl (.inl (z _ _ hL5))) ?_ ?_
          · rintro j x H8 hx8 ⟨t2, u1, u2, u3, u4, s8⟩
            have hj : j < t5.length := by
              have := (List.getElem?_eq_some_iff.mp hx8).1
              rwa [vzI_len] at this
            have hxe : x = .ref t5[j].1 := by
              unfold vzI at hx8
              rw [List.getElem?_map, List.getElem?_eq_getElem hj] at hx8
              exact (Option.some.inj hx8).symm
            subst hxe
            have hmem : t5[j] ∈ t5 := List.getElem_mem hj
            have hb8 := s8 _ _ (hC5 _ hmem)
            have d1 := DGet.t ((s5.trans s8) _ _ hD23) hb8 (k := ick t5[j].2)
            refine ⟨rfl, ?_⟩
            have skip : (t5[j].2, m') ∉ kvs → ∃ t2' : TI, H8 D8 = some (.lst (vzI t2')) ∧ (∀ y ∈ t2', y ∈ t5 ∧ (y.2, m') ∈ kvs) ∧ (∀ i (hi : i < t5.length), i < j + 1 → (t5[i].2, m') ∈ kvs → t5[i] ∈ t2') ∧ t2'.length ≤ j + 1 ∧ Same H5 H8 := fun hn => by
              refine ⟨t2, u1, u2, fun i hi hlt' hk => ?_, by omega, s8⟩
              by_cases e : i = j
              · subst e
                exact absurd hk hn
              · exact u3 i hi (by omega) hk
            by_cases hk : t5[j].2 ∈ kvs.map (·.1)
            · obtain ⟨⟨c2, n2⟩, hn2, e2⟩ := List.mem_map.mp hk
              have e2 : c2 = t5[j].2 := e2
              rw [e2] at hn2
              rw [dkv_some pc.nd hn2] at d1
              refine ⟨_, rfl, D2, rfl, .inr ⟨_, .inl ((s5.trans s8) _ _ hD23)⟩, _, rfl, _, d1, _, rfl, rfl, _, rfl, ?_⟩
              by_cases he : n2 = m'
              · subst he
                refine iteT' (decide_eq_true (congrArg V.int (show ((n2 : Nat) : Int) = ((n2 + 1 : Nat) : Int) - 1 by omega))) ?_
                refine ⟨_, rfl, vzI t2, u1, Nat.lt_of_le_of_lt (show _ ≤ 100 by rw [vzI_len]; omega) (by decide), t2 ++ [t5[j]], by rw [upd_same, vzI_app]; rfl, fun y hy => ?_, fun i hi hlt' hk' => ?_, by rw [List.length_append, List.length_singleton]; omega, Same.updN s8 hD8⟩
                · rcases List.mem_append.mp hy with h | h
                  · exact u2 y h
                  · rw [List.mem_singleton.mp h]; exact ⟨hmem, hn2⟩
                · by_cases e : i = j
                  · subst e
                    exact List.mem_append_right _ List.mem_cons_self
                  · exact List.mem_append_left _ (u3 i hi (by omega) hk')
              · refine iteF' (decide_eq_false fun e => he (by have h : ((n2 : Nat) : Int) = ((m' + 1 : Nat) : Int) - 1 := V.int.inj e; omega)) (skip fun h => he (pc.one hn2 h))
            · rw [dkv_none hk] at d1
              refine ⟨_, rfl, D2, rfl, .inr ⟨_, .inl ((s5.trans s8) _ _ hD23)⟩, _, rfl, _, d1, _, rfl, rfl, _, rfl, ?_⟩
              exact iteF' (decide_eq_false fun e => by cases e) (skip fun h => hk (List.mem_map.mpr ⟨_, h, rfl⟩))
          · rintro H8 ⟨t2, u1, u2, u3, u4, s8⟩
            have hin : c1 ∈ czI t5 := by rw [hcz5]; exact hadj2
            have hne2 : t2 ≠ [] := by
              obtain ⟨y, hy, ey⟩ := List.mem_map.mp hin
              obtain ⟨i, hi, ei⟩ := List.mem_iff_getElem.mp hy
              have h1 := u3 i hi (by rw [vzI_len]; exact hi) (by rw [ei, ey]; exact hc1)
              intro e
              rw [e] at h1
              cases h1
            have s38 := s5.trans s8
            refine nilArgs ⟨D8, t2, rfl, .inl (.inl u1), hne2, fun q hq => s8 _ _ (hC5 q (u2 q hq).1), fun y hy hmin => nilArgs ?_⟩
            · have hea8 := s38 _ _ hea3
              have hy8 := s8 _ _ (hC5 y (u2 y hy).1)
              refine ⟨ea, _, _, rfl, rfl, hea8, ?_, ?_⟩
              · have h := R.len pc
                rw [List.length_map, hlen] at h
                exact Nat.lt_of_le_of_lt (show _ ≤ 100 by rw [vzI_len, List.length_append, List.length_singleton]; omega) (by decide)
              have R2 : Rt kvs c m0 (czI (t0 ++ [e0]) ++ [y.2]) := by
                refine R.put (c := e0.2) ?_ ?_ ?_ ?_
                · rw [hlen]; exact hlast
                · rw [← hcz5]; exact List.mem_map_of_mem (u2 y hy).1
                · rw [hlen, show m0 - (t0.length + 1) = m' by omega]; exact (u2 y hy).2
                · rw [hlen]; omega
              have eapp : czI (t0 ++ [e0]) ++ [y.2] = czI (t0 ++ [e0] ++ [y]) := by rw [czI_app (t0 ++ [e0])]; rfl
              have MR2 : MinR kvs m0 (czI (t0 ++ [e0]) ++ [y.2]) := by
                refine MR.put (by rw [hlen]; exact hlast) fun x hx hk => ?_
                rw [hlen, show m0 - (t0.length + 1) = m' by omega] at hk
                have hx5 : x ∈ czI t5 := by rw [hcz5]; exact hx
                obtain ⟨z, hz, ez⟩ := List.mem_map.mp hx5
                obtain ⟨i, hi, ei⟩ := List.mem_iff_getElem.mp hz
                have hin2 := u3 i hi (by rw [vzI_len]; exact hi) (by rw [ei, ez]; exact hk)
                rw [ei] at hin2
                have := hmin z hin2
                rw [ez] at this
                exact this
              rw [eapp] at R2 MR2
              refine ⟨m0 + 1 - (t0 ++ [e0] ++ [y]).length, by simp only [List.length_append, List.length_singleton]; omega, t0 ++ [e0] ++ [y], _, rfl, ?_, ?_, fun z hz => ?_, R2, MR2, rfl⟩
              · exact Same.updN (s3.trans s38) hea
              · rw [upd_same, vzI_app (t0 ++ [e0])]; rfl
              · have h8 : H8 z.1 = some (.tup (icv z.2)) := by
                  rcases List.mem_append.mp hz with h | h
                  · exact s38 _ _ (hC3 z h)
                  · rw [List.mem_singleton.mp h]; exact hy8
                rw [upd_ne (ne_of h8 hea8 fun e => by cases e)]
                exact h8
end
end Om

/-! a lambda as a value: made, kept, handed on, called by whoever holds it -/
namespace Om
open PySem PySem.Spec PyProof.Rows L2 LamX NdefX
/-- its words -/
structure LE where
  params : Arguments
  body : Expr
  scope : Scope
  qual : Str
  cl : List (Str × Addr)
  c : Addr
def LE.nf (F : LE) : NF := ⟨"<lambda>", F.qual, F.params, [], F.scope, F.cl, F.c⟩
/-- the function object at f -/
def FnE (f : Addr) (F : LE) : HO := .ext fun h => ∃ pm ctv, h.get? f = some (lamOb F.qual F.params F.body F.scope F.cl pm F.c ctv .none)
theorem fnE_tbl {f : Addr} {F : LE} (ps : Array Value) : FnE f F ≠ .tbl ps := fun z => by
  unfold FnE at z
  cases z
section
variable {X : Cx} {pins : List (Addr × Obj)} {σ : L2.St} {H : Hp} {s : Shared}
theorem fnE_at {f : Addr} {F : LE} (I : Inv X pins σ H s) (h : H f = some (FnE f F)) : ∃ pm ctv, s.heap.get? f = some (lamOb F.qual F.params F.body F.scope F.cl pm F.c ctv .none) := (I.hok f _ h).1
/-- the function object just made is known from now on -/
theorem inv_fnE {F : LE} {o : Obj} {t' : Nat} {pm ctv : Value} (I : Inv X pins σ H s) (ho : o = lamOb F.qual F.params F.body F.scope F.cl pm F.c ctv .none) :
    Inv X pins σ (upd H s.heap.objs.size (FnE s.heap.objs.size F)) { s with heap := s.heap.push o, toks := t' } := by
  subst ho
  refine I.laid (a := s.heap.objs.size) (fun b u e => Heap.get?_push_of_some _ e) (Nat.le_refl _) ?_
  have e : (s.heap.push (lamOb F.qual F.params F.body F.scope F.cl pm F.c ctv .none)).get? s.heap.objs.size = some (lamOb F.qual F.params F.body F.scope F.cl pm F.c ctv .none) := Heap.get?_push_size _ rfl
  exact ⟨⟨pm, ctv, e⟩, ⟨_, e⟩, fun h1 h2 ⟨p, t, z⟩ st => ⟨p, t, st _ z⟩⟩
/-- a lambda without parameters that have a default is made -/
theorem lamE_make {T : List (Addr × Str)} {c P : Addr} {params : Arguments} {body : Expr} {scope : Scope} {pos : Pos} {Q : Value → Shared → Prop} (I : Inv X pins σ H s) (TB : TabB X.base X.mg c P) (hcode : X.env.code = .ref c)
    (hm : (P, X.env.qual ++ "<lambda>") ∈ T) (hu : ∀ p ∈ T, p.1 = P → p.2 = X.env.qual ++ "<lambda>") (hT : Tabs T H) (hdef : defaultsOf params X.env = ([], [])) (hfree : ∀ y ∈ scope.names, y.2 = .free → ∃ c, X.env.cells.lookup y.1 = some c)
    (k : ∀ (f c' : Addr) (H1 : Hp) (s' : Shared), Inv X pins σ H1 s' → ExtN H H1 → Tabs T H1 → H f = none → H1 f = some (FnE f ⟨params, body, scope, X.env.qual ++ "<lambda>", cloFrom X.env.cells scope.names [], c'⟩) → H1 c' = some (CodeO c' (X.env.qual ++ "<lambda>")) → Q (.ref f) s') :
    wpAny (model X.prog X.w) X.A (eval (.Lambda params body scope pos) X.env) Q X.xe s := by
  rw [arm_eval_Lambda, hdef]
  show wpAny _ _ (do let dv ← evalAll []; let kdv ← holding dv (evalAllOpt []); makeFunction "<lambda>" (X.env.qual ++ "<lambda>") params (.expr body) scope X.env dv kdv [] pos pos.line) Q X.xe s
  refine wpAny_bind (wpAny_pure (wpAny_bind (wpAny_holding (wpAny_pure ?_))))
  rw [makeFunction_eq]
  simp only [List.zip_nil_right, List.filterMap_nil, List.isEmpty_nil, if_true, pure_bind]
  obtain ⟨ps, tP, tt, ta⟩ := hT _ hm
  have bP : s.heap.BuiltinsAt X.mg P := TB.bm.keeps I.bk
  have oP : s.heap.get? P = some { cls := .none, data := .fields ps } := I.hok P _ tP
  cases hc : codeAmong pos ps.toList with
  | none =>
    refine tail_new (mg := X.mg) (closure_ok hfree) I.ok.glob (I.mod.glob.keeps I.bk) hcode (TB.code.keeps I.bk) oP tt hc TB.gP bP fun c' ctv h' tk x1 x2 x3 x4 x5 => ?_
    obtain ⟨c2, oc, vs, t, y1, y2, y3, y4⟩ := x4
    cases y1
    have nC : H c' = none := I.hok.fresh x2
    have I1 := inv_table (t' := tk) (more := #[rawInt pos.line, rawInt pos.col, .ref c']) (h' := h') I tP (fun b o hb e => x1 b o hb e) x5 x2 ⟨oc, vs, t, y2, y3, y4⟩
    have nPC : P ≠ c' := ne_of_none tP nC
    have eN : ExtN H (upd (upd H P (.tbl (ps ++ #[rawInt pos.line, rawInt pos.col, .ref c']))) c' (CodeO c' (X.env.qual ++ "<lambda>"))) := fun b o e n => by
      have n1 : b ≠ P := fun z => by
        rw [z, tP] at e
        exact n ps (Option.some.inj e).symm
      rw [upd_ne (ne_of_none e nC), upd_ne n1]
      exact e
    have eL : (ps ++ #[rawInt pos.line, rawInt pos.col, .ref c']).toList = ps.toList ++ [rawInt pos.line, rawInt pos.col, .ref c'] := by simp
    have T1 : Tabs T (upd (upd H P (.tbl (ps ++ #[rawInt pos.line, rawInt pos.col, .ref c']))) c' (CodeO c' (X.env.qual ++ "<lambda>"))) := fun p hp => by
      by_cases hb : p.1 = P
      · rw [hu p hp hb, hb]
        refine ⟨_, by rw [upd_ne nPC, upd_same], by rw [eL]; exact PySem.TriplesOk_snoc _ _ _ _ tt, fun p' cv hcv => ?_⟩
        rw [eL] at hcv
        rcases among_app _ tt hcv with z | z
        · obtain ⟨c0, w1, w2⟩ := ta p' cv z
          exact ⟨c0, w1, eN _ _ w2 codeO_ne⟩
        · exact ⟨c', z, upd_same⟩
      · obtain ⟨ps2, a1, a2, a3⟩ := hT p hp
        refine ⟨ps2, by rw [upd_ne (ne_of_none a1 nC), upd_ne hb]; exact a1, a2, fun p' cv hcv => ?_⟩
        obtain ⟨c0, w1, w2⟩ := a3 p' cv hcv
        exact ⟨c0, w1, eN _ _ w2 codeO_ne⟩
    have nF := I1.hok.fresh (Nat.le_refl _)
    have I2 := inv_fnE (F := ⟨params, body, scope, X.env.qual ++ "<lambda>", cloFrom X.env.cells scope.names [], c'⟩) (t' := tk) (pm := (X.mg "__name__").getD .none) (ctv := ctv) I1 rfl
    refine k h'.objs.size c' _ _ I2 (fun b o e n => ?_) (T1.ext fun b o e => ?_) (I.hok.fresh (Nat.le_trans x2 (Nat.le_of_lt x3))) upd_same ?_
    · have e1 := eN b o e n
      exact (upd_ne (ne_of_none e1 nF)).trans e1
    · exact (upd_ne (ne_of_none e nF)).trans e
    · exact (upd_ne (Nat.ne_of_lt x3)).trans upd_same
  | some cv =>
    obtain ⟨c', y1, y2⟩ := ta pos cv hc
    subst y1
    refine tail_hit (mg := X.mg) (closure_ok hfree) I.ok.glob (I.mod.glob.keeps I.bk) hcode (TB.code.keeps I.bk) oP tt hc bP fun ctv h' tk x1 x2 => ?_
    have I1 : Inv X pins σ H { s with heap := h', toks := tk } := I.kept x1
    have nF : H h'.objs.size = none := I1.hok.fresh (Nat.le_refl _)
    have I2 := inv_fnE (F := ⟨params, body, scope, X.env.qual ++ "<lambda>", cloFrom X.env.cells scope.names [], c'⟩) (t' := tk) (pm := (X.mg "__name__").getD .none) (ctv := ctv) I1 rfl
    refine k h'.objs.size c' _ _ I2 (fun b o e n => ?_) (hT.ext fun b o e => ?_) nF upd_same ?_
    · exact (upd_ne (ne_of_none e nF)).trans e
    · exact (upd_ne (ne_of_none e nF)).trans e
    · exact (upd_ne (ne_of_none y2 nF)).trans y2
end
/-- lambda ..: body, as a value -/
def tLamE (T : List (Addr × Str)) (mk : Addr → LE) : TE := fun σ H Q => Tabs T H ∧ ∀ (f c' : Addr) (H1 : Hp), ExtN H H1 → Tabs T H1 → H f = none → H1 f = some (FnE f (mk c')) → H1 c' = some (CodeO c' (mk c').qual) → Q (.ref f) H1
theorem pe_lamE {X : Cx} {T : List (Addr × Str)} {c P : Addr} {params : Arguments} {body : Expr} {scope : Scope} {pos : Pos} {mk : Addr → LE} (TB : TabB X.base X.mg c P) (hcode : X.env.code = .ref c)
    (hm : (P, X.env.qual ++ "<lambda>") ∈ T) (hu : ∀ p ∈ T, p.1 = P → p.2 = X.env.qual ++ "<lambda>") (hdef : defaultsOf params X.env = ([], [])) (hfree : ∀ y ∈ scope.names, y.2 = .free → X.env.scope.names.lookup y.1 = some .cell ∨ X.env.scope.names.lookup y.1 = some .free)
    (hmk : ∀ c', (⟨params, body, scope, X.env.qual ++ "<lambda>", cloFrom X.env.cells scope.names [], c'⟩ : LE) = mk c') : PE X (.Lambda params body scope pos) (tLamE T mk) := by
  constructor
  rintro pins s σ H Q I ⟨hT, h⟩
  have hfr : ∀ y ∈ scope.names, y.2 = .free → ∃ c, X.env.cells.lookup y.1 = some c := fun y hy e => (hfree y hy e).elim (fun z => I.ok.has _ (.inl z)) fun z => I.ok.has _ (.inr z)
  refine lamE_make I TB hcode hm hu hT hdef hfr fun f c' H1 s' I1 eN T1 f0 f1 c1 => ?_
  rw [hmk c'] at f1
  have eq : X.env.qual ++ "<lambda>" = (mk c').qual := by rw [← hmk c']
  rw [eq] at c1
  exact ⟨.ref f, H1, I1, rfl, h f c' H1 eN T1 f0 f1 c1⟩
/-! ### what it promises -/
structure EOk (P : Program) (w : World) (K : PySem.W.Frag) (mg : Str → Option Value) (base : Heap) (CX : CXT) (k : Nat) (f : Addr) (F : LE) (ps fr : List Str) (sp : List (Option V) → Sp) : Prop where
  len : ∀ ws vs H Q E, sp ws vs H Q E → vs.length = ps.length
  run : ∀ (A : Around) (outer : List Env) (s : Shared) (H : Hp) (us : List Value) (vs : List V) (ws : List (Option V)) (Q : VK) (E : XK), Room k A → Env0 P w K mg base A outer s H → H f = some (FnE f F) → H F.c = some (CodeO F.c F.qual) →
    CellsAt F.cl fr ws s.heap H → Vals vs us → sp ws vs H Q E → codeAny (model P w) A (.call (.ref f) ⟨us, []⟩) (CR CX outer P w H s Q E) s
section
variable {CX : CXT} {P : Program} {w : World} {K : PySem.W.Frag} {mg : Str → Option Value} {base : Heap} {N ps fr : List Str} {F : LE} {f : Addr} {k : Nat} {sp : List (Option V) → Sp}
/-- by its body -/
theorem eok_of (S : NScope N ps fr F.scope) (hb : ∀ (pm ctv : Value) (us : List Value), us.length = ps.length → bindArgs (lamFd F.qual F.params F.body F.scope F.cl pm F.c ctv .none) ⟨us, []⟩ = pure (ps.zip us)) (len : ∀ ws vs H Q E, sp ws vs H Q E → vs.length = ps.length)
    (hbody : ∀ (A : Around) (outer : List Env) (s : Shared) (H : Hp) (vs : List V) (ws : List (Option V)) (Q : VK) (E : XK), Room k (A.deeper (envF F.nf f s.heap.objs.size)) → ws.length = fr.length → sp ws vs H Q E →
      ∃ t, PE (ncx (L2.CX P w) P w K mg base N F.nf f A outer s H E) F.body t ∧ t (startF N vs ws) H Q) :
    EOk P w K mg base (L2.CX P w) (k + 1) f F ps fr sp := by
  refine ⟨len, fun A outer s H us vs ws Q E hr e0 hf hc C r hsp => ?_⟩
  have hl := len _ _ _ _ _ hsp
  have lim : s.heap.NoLimit := e0.mod.nolimit.keeps fun b o e => (e0.bs b o e).1
  obtain ⟨pm, ctv, ho⟩ := (e0.hok f _ hf).1
  obtain ⟨⟨oc, vs', t0, y1, y2, y3⟩, _, _⟩ := e0.hok F.c _ hc
  refine PySem.W.kla_callFunE hr.depth ho rfl S.co S.gen rfl ⟨F.c, oc, vs', t0, rfl, y1, y2, y3⟩ ?_
  have hb' := hb pm ctv us (by rw [← r.length]; exact hl)
  rw [hb']
  refine wpAny_pure (wpAny_newFunctionEnv S.nocell (fun ⟨n, _⟩ hy => S.par n (List.of_mem_zip hy).1) (fun h₁ hns hsb => ⟨lim.fresh _ hsb, ?_⟩) S.kind)
  have kp : ∀ b o, s.heap.get? b = some o → h₁.get? b = some o := fun b o e => hsb.extBut b o (Nat.ne_of_lt (Heap.lt_size e)) (Heap.get?_push_of_some _ e)
  obtain ⟨t, ht, hq⟩ := hbody A outer s H vs ws Q E (hr.deeper _) C.len hsp
  have I : Inv (ncx (L2.CX P w) P w K mg base N F.nf f A outer s H E) [] (startF N vs ws) H { s with heap := h₁, toks := s.toks + (ps.zip us).length } := inv_startN S hr.hd e0 hl r C hns kp
  refine PySem.W.kla_codeExpr (wpAny_mono (ht.run [] _ (startF N vs ws) H Q I hq) (fun v s' ⟨w', H', J, rv, q⟩ => ⟨w', H', J.os, J.bare, J.base, J.hok, rv, q⟩) fun e s' hq => hq)
end
/-! ### calls of a name that holds it -/
def tCallE (mk : Addr → LE) (i : Nat) (sp : List (Option V) → Sp) (E : XK) (t : TA) : TE := fun σ H Q => ∃ f c', σ[i]? = some (some (.ref f)) ∧ H f = some (FnE f (mk c')) ∧
  t σ H fun vs H1 => H1 f = some (FnE f (mk c')) ∧ H1 (mk c').c = some (CodeO (mk c').c (mk c').qual) ∧ sp [] vs H1 Q E
theorem fnAtE {X : Cx} {pins : List (Addr × Obj)} {σ : L2.St} {H : Hp} {s : Shared} {f : Addr} {F : LE} (I : Inv X pins σ H s) (e : H f = some (FnE f F)) : PySem.W.FnAt f s.heap := by
  obtain ⟨pm, ctv, ho⟩ := fnE_at I e
  exact ⟨_, _, _, _, ho⟩
section
variable {X : Cx} {CX : CXT} {mk : Addr → LE} {ps : List Str} {i j k : Nat} {x : Str} {sp : List (Option V) → Sp} {E : XK} {t : TA} {e : Expr} {es : List Expr} {p pos : Pos}
/-- .. a lambda that captures nothing -/
theorem pe_calle (Fn : ∀ f c', EOk X.prog X.w X.K X.mg X.base CX k f (mk c') ps [] sp) (hcl : ∀ c', (mk c').cl = []) (hr : Room j X.A) (hk : k ≤ j) (hx : Passes CX X E) (hN : X.N[i]? = some x) (hv : Vis X.env.scope x) (ha : PA X (e :: es) t)
    (hd : (x == ("__debug__" : Str)) = false := by decide) (hcd : (x == ("__classdict__" : Str)) = false := by decide)
    (he : starEach (e :: es) X.env = (false, eval e X.env) :: starEach es X.env := by rfl) (hpl : (backTo pos (starEach es X.env)).any (·.1) = false := by rfl) :
    PE X (.Call (.Name x p) (e :: es) [] pos) (tCallE mk i sp E t) := by
  refine ⟨fun pins s σ H Q I h => ?_⟩
  obtain ⟨f, c', hs, hf, ht⟩ := h
  refine wpAny_Call_Name_kw (thn ((pe_var (pos := p) hN hv hd hcd).run pins s σ H (fun v H1 => v = .ref f ∧ H1 = H) I ⟨.ref f, hs, rfl, rfl⟩) fun u s1 ⟨v, H1, I1, r1, q1⟩ => ?_)
  obtain ⟨ev, eH⟩ := q1
  subst ev
  rw [eH] at I1
  obtain rfl : u = Value.ref f := r1
  refine PySem.W.callWith_F (first := []) (fnAtE I1 hf) (thn (ha.run pos pins s1 σ H _ I1 ht) fun us s2 ⟨vs, H2, I2, r, h1, h2, q⟩ => ⟨fnAtE I2 h1, ?_⟩) he hpl
  show wpAny _ _ (call (.ref f) us) _ _ _
  have C : CellsAt (mk c').cl [] [] s2.heap H2 := by
    rw [hcl c']
    exact ⟨rfl, (fun y a z => by cases z), (fun y z a b => by cases b), (fun i y z => by cases z)⟩
  refine wpAny_call (codeAny_mono ((Fn f c').run X.A X.stack s2 H2 us vs _ Q E (hr.mono hk) I2.env0 h1 h2 C r q) fun r s' hq => ?_)
  cases r with
  | error e => exact hx pins σ H2 s2 e s' I2 hq
  | ok fl =>
    cases fl with
    | ret u => exact I2.after hq
    | next => exact False.elim hq
    | brk => exact False.elim hq
    | cont => exact False.elim hq
end
end Om

/-! sorted(xs, key=lambda one: ..), the keys lists that stand in the heap already; told is only that its items are those of xs -/
namespace Om
open PySem PySem.Spec PyProof.Rows L2 LamX NdefX PySem.W PySem.Calls
/-- what stays true while keys are made, whatever becomes of the list and of the store of keys -/
def KJ (J : Shared → Prop) (a kS : Addr) : Prop := ∀ (s' : Shared) (h' : Heap) (tk : Nat), J s' → (∀ b o, b ≠ a → b ≠ kS → s'.heap.get? b = some o → h'.get? b = some o) → J { s' with heap := h', toks := tk }
theorem sortVals_perm {κ : PyProof.Rows.KeyKind} {ks vs : List Value} (hl : ks.length = vs.length) : (sortVals κ false ks vs).Perm vs := by
  unfold sortVals
  have h := (List.mergeSort_perm (ks.zip vs) (sortLe κ.toKeyOrd false fun p : Keyed => keyD κ p.1)).map Prod.snd
  rwa [List.map_snd_zip (Nat.le_of_eq hl.symm)] at h
section
variable {prog : Program} {w : World} {A : Around} {E : Value → Shared → Prop} {P : PySem.Fin → Shared → Prop} {s : Shared} {a kS : Addr} {vs us : List Value} {kz : List PyData} {J : Shared → Prop} {f : Value} {e1 : Nat}
theorem kj_rest (hJ : KJ J a kS) (j0 : J s) (nk : s.heap.get? kS = some (seqObj "list" #[] 0)) (na : s.heap.get? a = some (seqObj "list" #[] e1)) (hka : kS ≠ a) (hlu : us.length = vs.length) (hZ : vs.length ≤ sizeLine)
    (hal : AllAlike kz) (hsk : Sortable kz) (hu : ∀ d, d ∈ kz → A.units + d.depth < cLine) (rd : ∀ s', J s' → EachIs (fun v k => ∃ as, Reads s'.heap v k as) us kz)
    (turn : ∀ (i : Nat) (v : Value), vs[i]? = some v → ∀ s', J s' → wpAny (model prog w) A (call f [v]) (fun u s'' => J s'' ∧ (∀ b o, (b = a ∨ b = kS) → s'.heap.get? b = some o → s''.heap.get? b = some o) ∧ us[i]? = some u) (fun _ _ => False) s')
    (h : ∀ (s' : Shared) (out : List Value) (c : Nat), J s' → s'.heap.get? a = some (seqObj "list" out.toArray c) → out.Perm vs → P (.done (.ret .none)) s') :
    wpAny (model prog w) A (ksk_rest a f false vs.toArray e1 (.ref kS)) P E s := by
  unfold ksk_rest
  refine wpAny_bind (wpAny_rule ?_)
  first
    | rw [List.forIn_toArray]
    | (rw [← Array.forIn_toList]; simp only [List.toList_toArray])
    | rw [← Array.forIn_toList]
  refine wpAny_bind (ksk_fold (fun i s' => ∃ (kA : Array Value) (e : Nat), J s' ∧ s'.heap.get? kS = some (seqObj "list" kA e) ∧ s'.heap.get? a = some (seqObj "list" #[] e1) ∧ kA.toList = us.take i) vs 0 s
    ⟨#[], 0, j0, nk, na, by rw [List.take_zero]⟩ ?step ?done)
  case step =>
    rintro j x s' hx ⟨kA, e, j1, nk', na', hk⟩
    simp only [Nat.zero_add] at hk ⊢
    have hj : j < vs.length := (List.getElem?_eq_some_iff.mp hx).1
    have hz : kA.size ≤ vs.length := by
      have h1 := congrArg List.length hk
      rw [Array.length_toList, List.length_take] at h1
      omega
    refine wpAny_bind (wpAny_attempt (wpAny_mono (turn j x hx s' j1) (fun v s'' he => ?_) fun _ _ hF => hF.elim))
    obtain ⟨j2, hkeep, hu2⟩ := he
    try dsimp only
    have nk2 := hkeep kS _ (.inr rfl) nk'
    have na2 := hkeep a _ (.inl rfl) na'
    have s1 := Heap.SameBut.update s''.heap kS (Obj.mapSeq (·.push v))
    obtain ⟨c2, hc2⟩ : ∃ c2, (s''.heap.update kS (Obj.mapSeq (·.push v))).get? kS = some (seqObj "list" (kA.push v) c2) := ⟨_, get?_update_seq nk2 (·.push v)⟩
    refine wpAny_bind (listUpdate_at nk2 rfl ?_ (Nat.le_trans hz hZ) (Nat.le_trans (Nat.le_of_eq (Array.size_push ..)) (Nat.succ_le_succ (Nat.le_trans hz hZ))))
    refine wpAny_pure ⟨rfl, kA.push v, c2, hJ s'' _ _ j2 (fun b o _ hb e => (s1.2 b hb).trans e), hc2, (s1.2 a hka.symm).trans na2, ?_⟩
    rw [Array.toList_push, hk, List.take_add_one, hu2]
    rfl
  case done =>
    rintro s' ⟨kA, e, j1, nk', na', hk⟩
    have hk' : kA.toList = us := by rw [hk, List.take_of_length_le (by omega)]
    have hsz : kA.size = vs.length := by rw [← Array.length_toList, hk', hlu]
    try dsimp only
    refine wpAny_bind (listItems_at nk' rfl ?_)
    obtain ⟨G, g1, g2⟩ := restrict s'.heap fun b => decide (b ≠ kS)
    have hkG : G.get? kS = none := g2 kS (by simp)
    have kp : KeepsBut a G s'.heap := fun b o hb e => by
      by_cases hbk : b = kS
      · subst hbk
        rw [hkG] at e
        cases e
      · rw [g1 b (decide_eq_true hbk)] at e
        exact e
    refine keyH_end (κ := dataKind s'.heap kz) (h₁ := G) (s := s') kp hkG nk' na' hka (SortsAt.data (s := s') (by rw [hk']; exact rd s' j1) hal hsk hu) hsz hZ fun h3 tk3 c k3 n3 => ?_
    exact h _ _ c (hJ s' h3 tk3 j1 fun b o hb hbk e => k3 b o hb (by rw [g1 b (decide_eq_true hbk)]; exact e)) n3 (sortVals_perm (by rw [hk', hlu]))
theorem kj_tree {n : Nat} (ho : s.heap.get? a = some (seqObj "list" vs.toArray n)) (hJ : ∀ kS, s.heap.objs.size ≤ kS → KJ J a kS) (j0 : ∀ h', (∀ b o, b ≠ a → s.heap.get? b = some o → h'.get? b = some o) → J { s with heap := h' }) (hlu : us.length = vs.length) (hZ : vs.length ≤ sizeLine)
    (hal : AllAlike kz) (hsk : Sortable kz) (hu : ∀ d, d ∈ kz → A.units + d.depth < cLine) (rd : ∀ s', J s' → EachIs (fun v k => ∃ as, Reads s'.heap v k as) us kz)
    (turn : ∀ kS, s.heap.objs.size ≤ kS → ∀ (i : Nat) (v : Value), vs[i]? = some v → ∀ s', J s' → wpAny (model prog w) A (call f [v]) (fun u s'' => J s'' ∧ (∀ b o, (b = a ∨ b = kS) → s'.heap.get? b = some o → s''.heap.get? b = some o) ∧ us[i]? = some u) (fun _ _ => False) s')
    (h : ∀ (s' : Shared) (out : List Value) (c : Nat), J s' → s'.heap.get? a = some (seqObj "list" out.toArray c) → out.Perm vs → P (.done (.ret .none)) s') :
    wpAny (model prog w) A (ksk_tree a f false) P E s := by
  have ha : a < s.heap.objs.size := Heap.lt_size ho
  obtain ⟨e1, ho1⟩ : ∃ e1, (s.heap.update a (Obj.mapSeq fun _ => (#[] : Array Value))).get? a = some (seqObj "list" #[] e1) := ⟨_, get?_update_seq ho fun _ => #[]⟩
  have hkS : ((s.heap.update a (Obj.mapSeq fun _ => (#[] : Array Value))).push (seqObj "tuple" vs.toArray 0)).objs.size = s.heap.objs.size + 1 := by rw [size_push', Heap.size_update]
  unfold ksk_tree
  refine wpAny_bind (listItems_at ho rfl ?_)
  refine wpAny_bind (listUpdate_at ho rfl ?_ (by rw [List.size_toArray]; exact hZ) (Nat.zero_le _))
  refine wpAny_bind (seqEpoch_at ho1 rfl ?_)
  refine wpAny_bind (wpAny_newTuple ?_ (by show vs.length ≤ _; exact hZ))
  refine wpAny_bind (wpAny_newList ?_ (Nat.zero_le _))
  refine wpAny_holding ?_
  refine kj_rest (s := { s with heap := ((s.heap.update a (Obj.mapSeq fun _ => (#[] : Array Value))).push (seqObj "tuple" vs.toArray 0)).push (seqObj "list" #[] 0) }) (kS := ((s.heap.update a (Obj.mapSeq fun _ => (#[] : Array Value))).push (seqObj "tuple" vs.toArray 0)).objs.size)
    (hJ _ (by rw [hkS]; exact Nat.le_succ _)) (j0 _ fun b o hb q => ?_) (Heap.get?_push_size _ rfl) (Heap.get?_push_of_some _ (Heap.get?_push_of_some _ ho1)) (by rw [hkS]; exact Nat.ne_of_gt (Nat.lt_succ_of_lt ha)) hlu hZ hal hsk hu rd (turn _ (by rw [hkS]; exact Nat.le_succ _)) h
  exact Heap.get?_push_of_some _ (Heap.get?_push_of_some _ ((Heap.get?_update_ne _ _ _ _ hb).trans q))
end
theorem vals_refs : ∀ {l : List Addr} {us : List Value}, Vals (l.map V.ref) us → us = l.map Value.ref
  | [], _, h => by
    cases h
    rfl
  | a :: l, _, h => by
    cases h with
    | cons r t =>
      have e : _ = Value.ref a := r
      rw [e, vals_refs t]
      rfl
theorem refs_vals : ∀ l : List Addr, Vals (l.map V.ref) (l.map Value.ref)
  | [] => .nil
  | _ :: l => .cons rfl (refs_vals l)
theorem each_reads {X : Cx} {pins : List (Addr × Obj)} {σ : L2.St} {H : Hp} {s : Shared} (I : Inv X pins σ H s) : ∀ {ks : List V} {kz : List PyData} {us : List Value}, DpAll X.K H ks kz → Vals ks us → EachIs (fun u k => ∃ as, Reads s.heap u k as) us kz
  | _, _, _, .nil, .nil => .nil
  | _, _, _, .cons h t, .cons r rt => .cons (Dp.reads I _ _ _ h r) (each_reads I t rt)
/-- what a state is while keys are made: all tracked is as it was -/
def SJ (X : Cx) (H : Hp) (s s' : Shared) : Prop := s'.os = s.os ∧ AllBare s'.gens ∧ Un (frs X.stack) [] H H s.heap s'.heap ∧ HOk X.prog X.w H s'.heap
theorem hok_but {P : Program} {w : World} {H : Hp} {h h' : Heap} {a b : Addr} (x : HOk P w H h) (na : H a = none) (nb : H b = none) (k : ∀ c o, c ≠ a → c ≠ b → h.get? c = some o → h'.get? c = some o) : HOk P w H h' := fun c o e =>
  (x c o e).stay (fun d u hd q => k d u (by
    rintro rfl
    rcases hd with z | z
    · rw [z, e] at na; cases na
    · rw [z] at na; cases na) (by
    rintro rfl
    rcases hd with z | z
    · rw [z, e] at nb; cases nb
    · rw [z] at nb; cases nb) q) (fun _ q => q) fun _ _ q => q
section
variable {X : Cx} {pins : List (Addr × Obj)} {σ : L2.St} {H : Hp} {s : Shared}
theorem SJ.inv {s' : Shared} (I : Inv X pins σ H s) (j : SJ X H s s') : Inv X pins σ H s' := I.call' (ch := []) j.1 j.2.2.1 j.2.2.2 j.2.1 (fun b z => absurd z (by simp))
theorem SJ.kj (I : Inv X pins σ H s) {a kS : Addr} (ha : s.heap.objs.size ≤ a) (hk : s.heap.objs.size ≤ kS) : KJ (SJ X H s) a kS := by
  rintro s' h' tk ⟨j1, j2, j3, j4⟩ k
  have ne : ∀ {b : Addr} {o : Obj}, s.heap.get? b = some o → b ≠ a ∧ b ≠ kS := fun {b o} q => ⟨fun z => absurd (z ▸ Heap.lt_size q : a < s.heap.objs.size) (Nat.not_lt.mpr ha), fun z => absurd (z ▸ Heap.lt_size q : kS < s.heap.objs.size) (Nat.not_lt.mpr hk)⟩
  refine ⟨j1, j2, ⟨fun b o q n hb hx => k b o (ne q).1 (ne q).2 (j3.keep b o q n hb hx), fun b o q n hb hx => ?_, fun b o q n hx => n, fun b o q hx => ?_, fun b xs q => q, fun b o u q => q, fun b ps q => ⟨#[], by rw [q]; simp⟩⟩, hok_but j4 (I.hok.fresh ha) (I.hok.fresh hk) k⟩
  · obtain ⟨sl, e⟩ := j3.slot b o q n hb hx
    exact ⟨sl, k b _ (ne q).1 (ne q).2 e⟩
  · obtain ⟨o', e⟩ := j3.there b o q hx
    exact ⟨o', k b _ (ne q).1 (ne q).2 e⟩
theorem nofr_of (I : Inv X pins σ H s) {f : Addr} (hf : s.heap.objs.size ≤ f) : f ∉ frs X.stack := fun z => by
  rcases List.mem_cons.mp (I.stkSub _ z) with e | e
  · have h1 := I.lt
    rw [← e] at h1
    exact Nat.lt_irrefl _ (Nat.lt_of_lt_of_le h1 hf)
  · exact I.nofs hf e
end
def tSortK (X : Cx) (i : Nat) (mk : Addr → LE) (sp : List (Option V) → Sp) (t tk : TA) : TE := fun σ H Q => t σ H fun vs H1 => tk σ H1 fun zs H2 =>
  ∃ (l f c' : Addr) (as ls : List Addr) (kz : List PyData) (cv : V), vs = [.ref l] ∧ zs = [.ref f] ∧ σ[i]? = some (some cv) ∧ SqL X.K H2 l (as.map V.ref) ∧ H2 f = some (FnE f (mk c')) ∧ H2 (mk c').c = some (CodeO (mk c').c (mk c').qual) ∧ ls.length = as.length ∧
    DpAll X.K H2 (ls.map V.ref) kz ∧ AllAlike kz ∧ Sortable kz ∧ (∀ d ∈ kz, d.depth ≤ 8) ∧ (∀ (j : Nat) (x k : Addr), as[j]? = some x → ls[j]? = some k → sp [some cv] [.ref x] H2 (fun r H3 => r = .ref k ∧ H3 = H2) E0) ∧
    ∀ (p : Addr) (zs : List Addr), H2 p = none → zs.Perm as → Q (.ref p) (upd H2 p (.lst (zs.map V.ref)))
section
variable {X : Cx} {k i : Nat} {x y one : Str} {mk : Addr → LE} {sp : List (Option V) → Sp} {e : Expr} {es : List Expr} {kws : List Keyword} {t tk : TA} {p pos : Pos} {cc : Addr}
theorem pe_sortK (Fn : ∀ f c', EOk X.prog X.w X.K X.mg X.base (L2.CX X.prog X.w) k f (mk c') [one] [y] sp) (hcl : ∀ c', (mk c').cl = [(y, cc)]) (hr : Room (k + 2) X.A) (hN : X.N[i]? = some y) (hy : X.env.scope.names.lookup y = some .cell) (hc : X.env.cells.lookup y = some cc)
    (hg : Gl X x) (hm : X.mg x = none) (hv : bootBuiltins x = some (.builtin "sorted")) (ha : PA X (e :: es) t) (hk : PK X kws tk) (hn : x ≠ "__name__" := by decide) (hdb : (x == ("__debug__" : Str)) = false := by decide)
    (he : backTo pos (starEach (e :: es) X.env) = (false, eval e X.env) :: backTo pos (starEach es X.env) := by rfl) (hpl : (backTo pos (starEach (e :: es) X.env)).any (·.1) = false := by rfl)
    (hall : (backToKw pos (keywordEach kws X.env)).all (·.1.isSome) = true := by rfl) (hnone : (backToKw pos (keywordEach kws X.env)).any (·.1.isNone) = false := by rfl) (hks : (backToKw pos (keywordEach kws X.env)).filterMap (·.1) = [Str.ofString "key"] := by rfl) :
    PE X (.Call (.Name x p) (e :: es) kws pos) (tSortK X i mk sp t tk) := by
  refine ⟨fun pins s0 σ H0 Q I0 h => ?_⟩
  refine wpAny_Call_Name_kw (ld_blt I0 hg hm hv ?_ hn hdb)
  refine PyProof.Rows.callWith_kw (thn (ha.run pos pins s0 σ H0 _ I0 h) fun us s1 ⟨vs, H1, I1, r1, q1⟩ => thn (hk.run pos pins s1 σ H1 _ I1 q1) fun ws s ⟨zs, H, I, r2, q2⟩ => ?_) he hpl hall hnone
  rw [hks]
  obtain ⟨l, f, c', as, ls, kz, cv, rfl, rfl, hcv, hs, hf, hco, hlen, hdp, hal, hsk, hdep, hsp, q⟩ := q2
  obtain rfl := Vals.ref1 r1
  obtain rfl := Vals.ref1 r2
  obtain ⟨its, rv, hl, hz⟩ := I.list hs
  obtain rfl := vals_refs rv
  rw [List.length_map] at hz
  have hlen2 : (as.map Value.ref).length ≤ sizeLine := by rw [List.length_map]; exact hz
  have hsz : (copyHeap s.heap (as.map Value.ref)).objs.size = s.heap.objs.size + 2 := by
    unfold copyHeap
    rw [size_push', Heap.size_update, size_push']
  have hA := Nat.le_succ s.heap.objs.size
  have hcode : ∀ {s' : Shared}, SJ X H s s' → Inv X pins σ H s' := fun j => j.inv I
  refine sorted_of_sort (s := s) (vs := as.map Value.ref) hl.isList hlen2 (ksk_s1 _ _) (fun _ => ksk_l1 _ _) fun E' => ?_
  have e1 : [Str.ofString "key"].zip [Value.ref f] = [(Str.ofString "key", Value.ref f)] := rfl
  rw [e1, ksk_t1]
  refine kj_tree (s := { s with heap := copyHeap s.heap (as.map Value.ref) }) (J := SJ X H s) (us := ls.map Value.ref) (kz := kz) (copyHeap_at s.heap (as.map Value.ref)) (fun kS h => SJ.kj I hA (Nat.le_trans (by rw [hsz]; exact Nat.le_add_right _ _) h)) (fun h' k => ?_) (by rw [List.length_map, List.length_map, hlen]) hlen2 hal hsk (fun d hd => ?_)
    (fun s' j => each_reads (hcode j) hdp (refs_vals ls)) (fun kS hkS j v hv s' js => ?_) fun s' out c js hD hp => ⟨rfl, ?_⟩
  · have k2 : ∀ b o, s.heap.get? b = some o → h'.get? b = some o := fun b o e => k b o (Nat.ne_of_lt (Nat.lt_succ_of_lt (Heap.lt_size e))) (copyHeap_old e)
    exact ⟨rfl, I.bare, Un.kept k2, I.hok.kept k2⟩
  · have := hdep d hd
    have h2 := hr.un
    show X.A.units + 1 + 1 + d.depth < cLine
    omega
  · have I' := hcode js
    obtain ⟨x0, hx0, rfl⟩ : ∃ x0, as[j]? = some x0 ∧ v = Value.ref x0 := by
      rw [List.getElem?_map] at hv
      cases h : as[j]? with
      | none => rw [h] at hv; cases hv
      | some x0 =>
        rw [h] at hv
        exact ⟨x0, rfl, (Option.some.inj hv).symm⟩
    have hj : j < ls.length := by rw [hlen]; exact (List.getElem?_eq_some_iff.mp hx0).1
    have hk0 : ls[j]? = some ls[j] := List.getElem?_eq_getElem hj
    have hfa : ∀ {b : Addr}, b = s.heap.objs.size + 1 ∨ b = kS → s.heap.objs.size ≤ b := fun {b} z => by
      rcases z with rfl | rfl
      · exact hA
      · exact Nat.le_trans (by rw [hsz]; exact Nat.le_add_right _ _) hkS
    have hn : H cc = none := I'.freeC y cc hc
    obtain ⟨m, hL, hl2⟩ := I'.loc
    obtain ⟨u, ru, look⟩ := hl2 i y cv hN hcv (.inr (.inl hy))
    have hko : X.env.kindOf y = some .cell := hy
    have C : CellsAt (mk c').cl [y] [some cv] s'.heap H := by
      rcases look with ⟨z, _⟩ | ⟨_, c2, hc2, o, ho, hod⟩
      · rw [hko] at z; cases z
      rw [hc] at hc2
      cases hc2
      rw [hcl c']
      have lk : ∀ {z : Str} {a : Addr}, List.lookup z [(y, cc)] = some a → z = y ∧ a = cc := fun {z a} e => by
        by_cases hz : (z == y) = true
        · simp only [List.lookup, hz] at e
          exact ⟨eq_of_beq hz, (Option.some.inj e).symm⟩
        · have hz : (z == y) = false := by simpa using hz
          simp only [List.lookup, hz] at e
          cases e
      refine ⟨rfl, fun z a e => ?_, fun z z' a e e' => (lk e).1.trans (lk e').1.symm, fun i z e => ?_⟩
      · rw [(lk e).2]
        exact ⟨hn, some u, o, ho, hod⟩
      · cases i with
        | zero =>
          have e : y = z := Option.some.inj e
          subst e
          refine ⟨cc, by simp [List.lookup], fun v' hv' => ?_⟩
          have e2 : cv = v' := Option.some.inj (Option.some.inj hv')
          subst e2
          exact ⟨u, ru, o, ho, hod⟩
        | succ i => cases e
    have e0 : Env0 X.prog X.w X.K X.mg X.base X.A.in1.in1 X.stack s' H := { I'.env0 with frames := I'.env0.frames }
    refine wpAny_call (codeAny_mono ((Fn f c').run X.A.in1.in1 X.stack s' H [.ref x0] [.ref x0] [some cv] _ _ hr.in1.in1 e0 hf hco C (.cons rfl .nil) (hsp j x0 _ hx0 hk0)) fun r s'' hq => ?_)
    cases r with
    | error e =>
      obtain ⟨a, B, H', cls, d, _, _, _, _, _, _, _, z⟩ := hq
      exact z.elim
    | ok fl =>
      cases fl with
      | ret u =>
        obtain ⟨v, H', os, bare, un, hok, r, e1, e2⟩ := hq
        subst e1 e2
        refine ⟨⟨os.trans js.1, bare, js.2.2.1.trans un, hok⟩, fun b o hb e => un.keep b o e (I.hok.fresh (hfa hb)) (nofr_of I (hfa hb)) (by simp), ?_⟩
        have e3 : u = Value.ref ls[j] := r
        rw [e3, List.getElem?_map, hk0]
        rfl
      | next => exact False.elim hq
      | brk => exact False.elim hq
      | cont => exact False.elim hq
  · have n1 : H (s.heap.objs.size + 1) = none := I.hok.fresh hA
    obtain ⟨zs, hzp, hze⟩ := perm_map hp as rfl
    subst hze
    have hD2 : s'.heap.get? (s.heap.objs.size + 1) = some (seqObj "list" (zs.map Value.ref).toArray c) := hD
    have ne : ∀ {b : Addr} {o : HO}, H b = some o → b ≠ s.heap.objs.size + 1 := fun e => ne_of_none e n1
    have hlz : (zs.map V.ref).length ≤ sizeLine := by rw [List.length_map, hzp.length_eq]; exact hz
    have hok : HOk X.prog X.w (upd H (s.heap.objs.size + 1) (.lst (zs.map V.ref))) s'.heap := fun b o e => by
      by_cases z : b = s.heap.objs.size + 1
      · subst z
        rw [upd_same] at e
        cases e
        exact ⟨hlz, _, c, refs_vals zs, hD2⟩
      · rw [upd_ne z] at e
        exact (js.2.2.2 b o e).stay (fun b u _ q => q) (fun b q => by rw [upd_ne (ne q)]; exact q) fun b xs q => by rw [upd_ne (ne q)]; exact q
    have un : Un (frs X.stack) [] H (upd H (s.heap.objs.size + 1) (.lst (zs.map V.ref))) s.heap s'.heap := by
      have u := js.2.2.1
      refine ⟨u.keep, u.slot, fun b o q n hx => ?_, u.there, fun b xs q => by rw [upd_ne (ne q)]; exact q, fun b o u q => by rw [upd_ne (ne q)]; exact q, fun b ps q => ⟨#[], by rw [upd_ne (ne q), q]; simp⟩⟩
      rw [upd_ne (Nat.ne_of_lt (Nat.lt_succ_of_lt (Heap.lt_size q)))]
      exact n
    exact ⟨.ref _, _, I.call' (ch := []) js.1 un hok js.2.1 (fun b z => absurd z (by simp)), rfl, q _ zs n1 hzp⟩
end
end Om

/-! min(a, b) of alike data; d.update(e), the keys tuples -/
namespace Om
open PySem PySem.Spec PyProof.Rows L2 PySem.W
section
variable {prog : Program} {w : World} {A : Around} {E : Value → Shared → Prop} {s : Shared}
theorem call_min_twoD {a b : Value} {d1 d2 : PyData} {as : List Addr} {Q : Value → Shared → Prop} (hh : A.handled = none) (hr : ReadsAll s.heap [a, b] [d1, d2] as) (ha : AlikeAll [d1, d2]) (hu : A.units + 1 + PyData.depthAll [d1, d2] < cLine)
    (h : ∀ h' tk, (∀ c o, s.heap.get? c = some o → h'.get? c = some o) → Q (if dataLt d2 d1 then b else a) { s with heap := h', toks := tk }) : wpAny (model prog w) A (call (.builtin "min") [a, b]) Q E s := by
  have hname : (toString "min" ++ toString ".loop" : String) = "min.loop" := by decide
  have hT : (s.heap.push { cls := .type "tuple", data := .seq #[a, b] }).IsTuple s.heap.objs.size #[a, b] := ⟨_, Heap.get?_push_size _ rfl, rfl, 0, rfl⟩
  refine call_function_tree F.kind_min F.plain_min F.entry_min (F.args_min2 _ _) ?_
  show wpAny _ A.in1 (Builtin.Builtins.bindParams "min" ["key", "default"] 0 ⟨[], []⟩ >>= _) _ _ s
  refine wpAny_bind (wpAny_of_eq (show Builtin.Builtins.bindParams "min" ["key", "default"] 0 ⟨[], []⟩ = pure [none, none] from rfl) ?_)
  show wpAny _ A.in1 (newTuple [a, b] >>= _) _ _ s
  refine wpAny_bind (wpAny_newObj_type ?_)
  refine wpAny_bind (iter_tupleW (s := { s with heap := s.heap.push { cls := .type "tuple", data := .seq #[a, b] } }) (A := A.in1) hh hT fun s₂ e W st hfp hw hk => ?_)
  refine wpAny_bind (wpAny_newObj_type ?_)
  have hSf : s₂.heap.objs.size ∉ [(s.heap.push { cls := .type "tuple", data := .seq #[a, b] }).objs.size, s.heap.objs.size] := fun hm => Nat.lt_irrefl _ (hfp _ hm)
  have k0 : ∀ c o, s.heap.get? c = some o → s₂.heap.get? c = some o := fun c o e => hk c o (Heap.get?_push_of_some _ e)
  rw [hname]
  refine wpAny_pure ⟨plainId_quiet F.plain_min_loop _, codeAny_min_loop_firstH W s.heap (fun c o e => hw c o (Heap.get?_push_of_some _ e)) (fun i j => dataLt ([d1, d2].getD i .none) ([d1, d2].getD j .none)) (cmpIn_lt (A := A.in1) (vs := #[a, b]) hr ha (by show A.units + 1 + _ < _; exact hu)) s₂.heap.objs.size hSf (fresh_in k0) _ (show 0 < 2 from Nat.succ_pos 1)
    (fun c o e => Heap.get?_push_of_some _ (k0 c o e)) (W.frame 0 s₂ _ s₂.toks st (Nat.le_refl _) fun b _ o e => Heap.get?_push_of_some _ e) (Heap.get?_push_size _ rfl) fun v s' hP hm => ?_⟩
  obtain ⟨h', tk, rfl, hk'⟩ := moved_old e rfl (Moved.drop_new (tk := s₂.toks) hm (Nat.le_refl _))
  have e2 : v = if dataLt d2 d1 then b else a := by
    have hP : (#[a, b] : Array Value)[argBest (fun i j => dataLt ([d1, d2].getD i .none) ([d1, d2].getD j .none)) 1]? = some v := hP
    cases hd : dataLt d2 d1 with
    | true =>
      have e3 : argBest (fun i j => dataLt ([d1, d2].getD i .none) ([d1, d2].getD j .none)) 1 = 1 := by simp [argBest, hd]
      rw [e3] at hP
      simpa using hP.symm
    | false =>
      have e3 : argBest (fun i j => dataLt ([d1, d2].getD i .none) ([d1, d2].getD j .none)) 1 = 0 := by simp [argBest, hd]
      rw [e3] at hP
      simpa using hP.symm
  rw [e2]
  exact h h' tk fun c o e => hk' c o (Heap.get?_push_of_some _ e)
end
def rMinD2 (K : PySem.W.Frag) : List V → Hp → VK → Prop := fun vs H Q => ∃ (x y : V) (d1 d2 : PyData), vs = [x, y] ∧ Dp K H x d1 ∧ Dp K H y d2 ∧ AlikeAll [d1, d2] ∧ PyData.depthAll [d1, d2] ≤ 8 ∧ (dataLt d2 d1 = true → Q y H) ∧ (dataLt d2 d1 = false → Q x H)
theorem cr_minD2 {X : Cx} {K : PySem.W.Frag} (hK : X.K = K) (hc : X.calm = true) (hu : X.A.units + 64 < cLine) : CallR X (.builtin "min") (rMinD2 K) := by
  subst hK
  intro pins s σ H xs us Q I rx h
  obtain ⟨x, y, d1, d2, rfl, h1, h2, hal, hdp, q1, q2⟩ := h
  obtain ⟨u1, u2, rfl, r1, r2⟩ := vals2 rx
  obtain ⟨as, hr⟩ := Dp.readsAll I _ _ [u1, u2] (.cons h1 (.cons h2 .nil)) (.cons r1 (.cons r2 .nil))
  refine call_min_twoD (I.ok.hd hc) hr hal (by omega) fun h' tk hk => ?_
  cases hd : dataLt d2 d1 with
  | true => exact ⟨y, H, I.kept hk, r2, q1 hd⟩
  | false => exact ⟨x, H, I.kept hk, r1, q2 hd⟩
/-! ### d.update(e) -/
def mergeT (kvs more : List (List L2.Key × V)) : List (List L2.Key × V) := more.foldl (fun acc x => putK acc x.1 x.2) kvs
theorem putK_len2 {κ : Type} [DecidableEq κ] (kvs : List (κ × V)) (k : κ) (v : V) : (putK kvs k v).length ≤ kvs.length + 1 := by
  unfold putK
  split
  · rw [List.length_map]; omega
  · rw [List.length_append, List.length_singleton]; exact Nat.le_refl _
theorem mergeT_len : ∀ (more kvs : List (List L2.Key × V)), (mergeT kvs more).length ≤ kvs.length + more.length
  | [], kvs => Nat.le_refl _
  | x :: r, kvs => by
    have h1 := mergeT_len r (putK kvs x.1 x.2)
    have h2 := putK_len2 kvs x.1 x.2
    show (mergeT (putK kvs x.1 x.2) r).length ≤ _
    rw [List.length_cons]
    omega
theorem KT.merge {H : Hp} : ∀ {more kvs : List (List L2.Key × V)} {xs ys : List (List L2.Key × Addr × Value)}, KT H more ys → KT H kvs xs → KT H (mergeT kvs more) (storedAllH xs ys) := by
  intro more kvs xs ys r
  unfold KT at r
  induction r generalizing kvs xs with
  | nil => exact id
  | @cons p q ps qs h t ih =>
    intro r0
    obtain ⟨h1, h2, h3⟩ := h
    have e : KT H (putK kvs p.1 p.2) (storedH xs q.1 q.2.1 q.2.2) := by
      have := KT.put r0 p.1 h2 h3
      rw [← h1]
      exact this
    exact ih e
theorem type_dict_update : typeOf (.builtin "dict.update") = pure (.type "method_descriptor") := by show builtinType _ = _; rw [builtinType_eq_fast]; kernel_rfl
def rDUpd : V → List V → Hp → VK → Prop := fun x vs H Q => ∃ (d o : Addr) (kvs more : List (List L2.Key × V)), x = .ref d ∧ vs = [.ref o] ∧ H d = some (.dT kvs) ∧ H o = some (.dT more) ∧ d ≠ o ∧ kvs ≠ [] ∧ kvs.length + more.length ≤ 1000 ∧ Q .non (upd H d (.dT (mergeT kvs more)))
theorem mt_dupd {X : Cx} (hu : X.A.units + 16 < cLine) : MtR X "dict.update" rDUpd := by
  intro pins s σ H x vs v us Q I rx rv h
  obtain ⟨d, o, kvs, more, rfl, rfl, hd, ho, hdo, hne, hlen, q⟩ := h
  cases rx
  obtain rfl := Vals.ref1 rv
  obtain ⟨_, sd, xs, rd, dd⟩ := dt_of I.hok hd
  obtain ⟨_, so, ys, ro, dO⟩ := dt_of I.hok ho
  have l1 : kvs.length = xs.length := Paired.length rd
  have l2 : more.length = ys.length := Paired.length ro
  have hx : xs ≠ [] := fun e => hne (List.length_eq_zero_iff.mp (by rw [l1, e]; rfl))
  refine call_update_dictH (knd := tupleKind (mixKind X.prog X.w)) (tupleKind_room_in1 (by omega)) hdo so dd dO (.inl hx) (by rw [← l1, ← l2, sizeLine_eq]; omega) fun h' hd' ho' hs' => ?_
  have hl : (mergeT kvs more).length ≤ sizeLine := by
    have := mergeT_len more kvs
    rw [sizeLine_eq]
    omega
  have kt : KT (upd H d (.dT (mergeT kvs more))) (mergeT kvs more) (storedAllH xs ys) := (KT.merge ro rd).keeps fun b zs hb => by rw [upd_ne (fun e => by rw [e, hd] at hb; cases hb)]; exact hb
  obtain ⟨o', es, ep, d1, d2, d3, d4, d5, d6⟩ := hd'
  exact ⟨.non, upd H d (.dT (mergeT kvs more)), d_write (t' := s.toks) I (by rw [hd]; exact True.intro) hs' ⟨o', d1⟩ (show ObjOk X.prog X.w _ _ _ (.dT (mergeT kvs more)) from ⟨hl, sd, storedAllH xs ys, kt, o', es, ep, d1, d2, d3, d4, d6⟩), rfl, q⟩
end Om


namespace Om
open PySem PySem.Spec PyProof.Rows L2 LamX
def landL (rows : List (List Nat)) : List IC := (cellsOf rows).map icc
theorem land_has {rows : List (List Nat)} (g : Good2 rows) (x : IC) : hasC rows x.1 x.2 = true ↔ x ∈ landL rows := by
  rw [← cells_any g, List.any_map, List.any_eq_true]
  unfold landL
  rw [List.mem_map]
  constructor
  · rintro ⟨c, hc, h⟩
    have h : PyData.eqv (cdp c) (.tuple [.int x.1, .int x.2]) = true := h
    rw [eqv_cell, Bool.and_eq_true, decide_eq_true_eq, decide_eq_true_eq] at h
    exact ⟨c, hc, Prod.ext h.1 h.2⟩
  · rintro ⟨c, hc, rfl⟩
    refine ⟨c, hc, ?_⟩
    show PyData.eqv (cdp c) (.tuple [.int ((c.1 : Nat) : Int), .int ((c.2 : Nat) : Int)]) = true
    rw [eqv_cell, decide_eq_true rfl, decide_eq_true rfl]
    rfl
theorem sh_ics (l : List IC) : SeqAt.shaped (.list (l.map cdI)) = true := by
  refine shaped_of ?_ ?_
  · simp only [PyData.canLay0]
    induction l with
    | nil => simp [PyData.canLayAll0]
    | cons c l ih => simp only [List.map_cons, PyData.canLayAll0, cdI, PyData.canLay0, Bool.and_true, Bool.true_and]; exact ih
  · have h : PyData.depthAll (l.map cdI) ≤ 1 := by
      induction l with
      | nil => simp [PyData.depthAll]
      | cons c l ih => simp only [List.map_cons, PyData.depthAll, cdI, PyData.depth]; omega
    simp only [PyData.depth]
    omega
theorem eqv_ics_nil (l : List IC) : PyData.eqv (.list (l.map cdI)) (.list []) = l.isEmpty := by
  cases l <;> simp [PyData.eqv, PyData.eqvAll]
end Om

namespace Om
open PySem PySem.Spec PyProof.Rows L2 LamX
theorem passE0 {P : Program} {w : World} {X : Cx} : Passes (L2.CX P w) X E0 := fun pins σ H s e s' I h => by
  obtain ⟨a, B, H', cls, d, _, _, _, _, _, _, _, z⟩ := h
  exact z.elim
theorem room65 {k : Nat} {A : Around} (r : Room k A) : A.units + 65 < cLine := by have := r.un; omega
/-! ### rules with an own K -/
def rNotInT (K : PySem.W.Frag) : R2 := fun x y H Q => ∃ d ds, Dp K H x d ∧ Dp K H y (.tuple ds) ∧ SeqAt.shaped d = true ∧ SeqAt.shaped (.tuple ds) = true ∧ Q (.bl (!ds.any fun z => PyData.eqv z d)) H
theorem notInTK {X : Cx} {K : PySem.W.Frag} (hK : X.K = K) (hu : X.A.units + 65 < cLine) : OpR X (compareOp .NotIn) (rNotInT K) := by
  subst hK
  intro pins s σ H x y v u Q I rx ry h
  obtain ⟨d, ds, hd, he, sd, se, q⟩ := h
  obtain ⟨as, r1⟩ := Dp.reads I d x v hd rx
  obtain ⟨bs, r2⟩ := Dp.reads I (.tuple ds) y u he ry
  exact SeqAt.notIn_tuple_reads r2 r1 (SeqAt.canLay_of_shaped se) (SeqAt.canLay_of_shaped sd) (room_in_shaped sd hu) ⟨.bl _, H, I, rfl, q⟩
theorem inDK {X : Cx} {K : PySem.W.Frag} (hK : X.K = K) (hu : X.A.units + 65 < cLine) : OpR X (compareOp .In) (rInD K) := by
  subst hK
  exact op_inD hu
theorem notInDK {X : Cx} {K : PySem.W.Frag} (hK : X.K = K) (hu : X.A.units + 65 < cLine) : OpR X (compareOp .NotIn) (rNotInD K) := by
  subst hK
  exact op_notInD hu
/-! ### cells as data -/
theorem any_ics (l : List IC) (d : IC) : ((l.map cdI).any fun z => PyData.eqv z (cdI d)) = decide (d ∈ l) := by
  rw [List.any_map, Bool.eq_iff_iff, List.any_eq_true, decide_eq_true_eq]
  constructor
  · rintro ⟨x, hx, h⟩
    have h : PyData.eqv (cdI x) (cdI d) = true := h
    rw [eqv_ic, decide_eq_true_eq] at h
    exact h ▸ hx
  · intro h
    exact ⟨d, h, by show PyData.eqv (cdI d) (cdI d) = true; rw [eqv_ic, decide_eq_true rfl]⟩
theorem sh_ic (c : IC) : SeqAt.shaped (cdI c) = true := sh_pair _ _
theorem sh_ic2 (c d : IC) : SeqAt.shaped (.tuple [cdI c, cdI d]) = true := shaped_of (by simp [PyData.canLay0, PyData.canLayAll0, cdI]) (by simp [PyData.depth, PyData.depthAll, cdI])
theorem okD_ics {l : List IC} (h : l.length ≤ 10000) (n : Nat) : okD (n + 3) (.list (l.map cdI)) = true := by
  show (decide ((l.map cdI).length ≤ 10000) && (l.map cdI).all (okD (n + 2))) = true
  rw [Bool.and_eq_true, decide_eq_true_eq, List.length_map, List.all_eq_true]
  refine ⟨h, fun d hd => ?_⟩
  obtain ⟨c, _, rfl⟩ := List.mem_map.mp hd
  rfl
theorem ltl_dp {K : PySem.W.Frag} {H : Hp} {D : Addr} {t : TI} (h : H D = some (.lst (vzI t))) (hc : CI2 H t) : Dp K H (.ref D) (.list ((czI t).map cdI)) := .lst (.inl (.inl h)) (ci_dp hc)
def lsc (l : List (Str × NameKind)) : Scope := { kind := .function, names := l, isGenerator := false, isCoroutine := false, more := [] }
def forBody (s : Stmt) : List Stmt := match s with
  | .For _ _ b _ _ => b
  | _ => []
structure CalM (P : Program) (w : World) (K : PySem.W.Frag) (mg : Str → Option Value) (base : Heap) (CX : CXT) (k : Nat) (f : Addr) (ps : List Str) (sp : Sp) : Prop where
  ex : ∃ fd : FuncData, FnOk P w K mg base CX k f fd ps sp ∧ Binds K fd ps []
theorem far_out (rows : List (List Nat)) : hasC rows 0 (-1) = false := by
  have h : insd rows 0 (-1) = false := by
    unfold insd inR
    rw [decide_eq_false (show ¬ (0 : Int) ≤ -1 by decide), Bool.false_and, Bool.and_false]
  unfold hasC
  rw [h, Bool.false_and]
end Om

namespace Om
open PySem PySem.Spec PyProof.Rows L2 LamX
/-! ### what a filtering comprehension holds -/
structure FI (H1 H : Hp) (D : Addr) (tl u : TI) (F : IC → Bool) (j : Nat) : Prop where
  at_ : H D = some (.lst (vzI u))
  sub : ∀ y ∈ u, y ∈ tl
  eq : czI u = ((czI tl).take j).filter F
  same : Same H1 H
theorem FI.start {H1 : Hp} {D : Addr} {tl : TI} {F : IC → Bool} (h : H1 D = none) : FI H1 (upd H1 D (.lst [])) D tl [] F 0 := ⟨upd_same, fun y hy => (by cases hy), by rw [List.take_zero]; rfl, Same.new (Same.refl H1) h⟩
theorem FI.succ {tl : TI} {F : IC → Bool} {j : Nat} {q : Addr × IC} (h : tl[j]? = some q) : ((czI tl).take (j + 1)).filter F = ((czI tl).take j).filter F ++ (if F q.2 = true then [q.2] else []) := by
  have hjc : (czI tl)[j]? = some q.2 := by
    unfold czI
    rw [List.getElem?_map, h]
    rfl
  rw [List.take_succ, hjc, List.filter_append]
  show _ ++ List.filter F [q.2] = _
  rw [List.filter_cons]
  rfl
theorem FI.put {H1 H : Hp} {D : Addr} {tl u : TI} {F : IC → Bool} {j : Nat} {q : Addr × IC} (f : FI H1 H D tl u F j) (h : tl[j]? = some q) (hF : F q.2 = true) (hD : H1 D = none) : FI H1 (upd H D (.lst (vzI u ++ [.ref q.1]))) D tl (u ++ [q]) F (j + 1) :=
  ⟨by rw [upd_same, vzI_app]; rfl, fun y hy => (List.mem_append.mp hy).elim (f.sub y) fun h2 => by rw [List.mem_singleton.mp h2]; exact List.mem_of_getElem? h, by rw [FI.succ h, if_pos hF, czI_app, f.eq]; rfl, Same.updN f.same hD⟩
theorem FI.skip {H1 H : Hp} {D : Addr} {tl u : TI} {F : IC → Bool} {j : Nat} {q : Addr × IC} (f : FI H1 H D tl u F j) (h : tl[j]? = some q) (hF : F q.2 = false) : FI H1 H D tl u F (j + 1) :=
  ⟨f.at_, f.sub, by rw [FI.succ h, hF, f.eq]; simp, f.same⟩
theorem FI.move {H1 H H' : Hp} {D : Addr} {tl u : TI} {F : IC → Bool} {j : Nat} (f : FI H1 H D tl u F j) (s : Same H H') : FI H1 H' D tl u F j := ⟨s _ _ f.at_, f.sub, f.eq, f.same.trans s⟩
theorem FI.len {H1 H : Hp} {D : Addr} {tl u : TI} {F : IC → Bool} {j : Nat} (f : FI H1 H D tl u F j) : u.length ≤ tl.length := by
  rw [← czI_len, f.eq, ← czI_len tl]
  exact Nat.le_trans (List.length_filter_le ..) (by rw [List.length_take]; exact Nat.min_le_right ..)
theorem FI.done {H1 H : Hp} {D : Addr} {tl u : TI} {F : IC → Bool} (f : FI H1 H D tl u F (vzI tl).length) : czI u = (czI tl).filter F := by
  rw [f.eq, vzI_len, ← czI_len, List.take_length]
theorem FI.at {tl : TI} {j : Nat} {x : V} (h : (vzI tl)[j]? = some x) : ∃ q, tl[j]? = some q ∧ x = .ref q.1 ∧ q ∈ tl := by
  unfold vzI at h
  rw [List.getElem?_map] at h
  cases e : tl[j]? with
  | none => rw [e] at h; cases h
  | some q =>
    rw [e] at h
    exact ⟨q, rfl, (Option.some.inj h).symm, List.mem_of_getElem? e⟩
theorem pickC {t : TC} {n : Int} (h0 : 0 ≤ n) (h1 : n < t.length) : ∃ q ∈ t, atI (vz t) n = some (.ref q.1) := by
  obtain ⟨v, hv, hm⟩ := atI_of (xs := vz t) h0 (by rw [vz_len]; exact h1)
  obtain ⟨q, hq, rfl⟩ := List.mem_map.mp hm
  exact ⟨q, hq, hv⟩
end Om

namespace Om
open PySem PySem.Spec PyProof.Rows L2 LamX
/-- Island(rows), the rows told -/
theorem mk_read {K : PySem.W.Frag} {CI C0 a x dx : Addr} {H : Hp} {W : Hp → Prop} {E : XK} {rows : List (List Nat)} (ok : RowsOk 12 rows) (hS : SqT K H a (rows.map vt)) (hx : H x = none) (hdx : H dx = none) (k : ∀ H', Same H H' → Isl K CI H' x rows → W H') :
    spIsl K CI C0 (.ref x :: ([.ref a] ++ [])) (upd (upd H dx (.own x)) x (.ins CI dx [])) (fun v H2 => v = .non ∧ W H2) E := by
  have g := ok.good (Nat.le_refl _)
  have s2 : Same H (upd (upd H dx (.own x)) x (.ins CI dx [])) := fun c o hc => by
    rw [upd_ne (ne_of_none hc hx), upd_ne (ne_of_none hc hdx)]
    exact hc
  refine ⟨x, dx, a, rows, rfl, upd_same, Same.tup s2 hS, g.le, g.lens, fun e H2 k1 k2 => ⟨rfl, ?_⟩, fun r c e => by rw [chk_rows ok (Nat.le_refl _)] at e; cases e⟩
  have s3 : Same H H2 := fun c o hc => k1 c o (s2 c o hc) (ne_of_none hc hx)
  exact k H2 s3 ⟨dx, a, k2, Same.tup s3 hS⟩
theorem RowsOk.to12 {m : Nat} {rows : List (List Nat)} (h : RowsOk m rows) (hm : m ≤ 12) : RowsOk 12 rows := by
  obtain ⟨h1, h2, wd, w1, w2, hr⟩ := h
  exact ⟨h1, Nat.le_trans h2 hm, wd, w1, Nat.le_trans w2 hm, hr⟩
theorem RowsOk.few {rows : List (List Nat)} (h : RowsOk 7 rows) : (cellsOf rows).length ≤ 62 := by
  obtain ⟨h1, h2, wd, w1, w2, hr⟩ := h
  have h3 := cellsTo_len (rows := rows) (w := 7) (fun r hr' => by rw [(hr r hr').1]; exact w2) rows.length (Nat.le_refl _)
  show (cellsTo rows rows.length).length ≤ 62
  omega
theorem lay_ics (l : List IC) : PyData.canLayAll0 (l.map cdI) = true := by
  induction l with
  | nil => simp [PyData.canLayAll0]
  | cons c l ih => simp only [List.map_cons, PyData.canLayAll0, cdI, PyData.canLay0, Bool.and_true, Bool.true_and]; exact ih
theorem dep_ics (l : List IC) : PyData.depthAll (l.map cdI) ≤ 1 := by
  induction l with
  | nil => simp [PyData.depthAll]
  | cons c l ih => simp only [List.map_cons, PyData.depthAll, cdI, PyData.depth]; omega
end Om

/-! the law's search by levels: each cell with the least of its shortest walks -/
namespace Om
open PySem PySem.Spec PyProof.Rows L2 LamX
theorem Wy.land {L : List IC} {b c : IC} {n : Nat} {cs : List IC} (h : Wy L b n c cs) : c = b ∨ c ∈ L := by
  cases h with
  | nil => exact .inl rfl
  | step _ _ hL => exact .inr hL
/-- n levels are done -/
structure FInv (L : List IC) (b : IC) (n : Nat) (G : List (IC × List IC)) (lv : List IC) : Prop where
  nd : (G.map (·.1)).Nodup
  lst : ∀ c cs, (c, cs) ∈ G → ∃ m, m ≤ n ∧ LstW L b m c cs ∧ ∀ k ws, Wy L b k c ws → m ≤ k
  all : ∀ k c ws, k ≤ n → Wy L b k c ws → c ∈ G.map (·.1)
  lev : ∀ c, c ∈ lv ↔ ∃ cs, (c, cs) ∈ G ∧ cs.length = n + 1
theorem FInv.start (L : List IC) (b : IC) : FInv L b 0 [(b, [b])] [b] where
  nd := by simp
  lst := fun c cs h => by
    have h := List.mem_singleton.mp h
    obtain ⟨rfl, rfl⟩ := Prod.mk.inj h
    exact ⟨0, Nat.le_refl _, ⟨.nil, fun cs' w => by rw [w.zero.2]; exact ltLI_irrefl _⟩, fun _ _ _ => Nat.zero_le _⟩
  all := fun k c ws hk w => by
    obtain rfl : k = 0 := by omega
    rw [w.zero.1]
    simp
  lev := fun c => by
    constructor
    · intro h
      rw [List.mem_singleton.mp h]
      exact ⟨[b], List.mem_cons_self, rfl⟩
    · rintro ⟨cs, h, _⟩
      obtain ⟨rfl, _⟩ := Prod.mk.inj (List.mem_singleton.mp h)
      exact List.mem_cons_self
theorem key_of_mem {α : Type} {G : List (IC × α)} {c : IC} {v : α} (h : (c, v) ∈ G) : c ∈ G.map (·.1) := List.mem_map.mpr ⟨_, h, rfl⟩
theorem mem_of_key {α : Type} {G : List (IC × α)} {c : IC} (h : c ∈ G.map (·.1)) : ∃ v, (c, v) ∈ G := by
  obtain ⟨⟨c', v⟩, h1, rfl⟩ := List.mem_map.mp h
  exact ⟨v, h1⟩
theorem val_uniq {α : Type} {G : List (IC × α)} (nd : (G.map (·.1)).Nodup) {c : IC} {v w : α} (h : (c, v) ∈ G) (k : (c, w) ∈ G) : v = w := by
  induction G with
  | nil => cases h
  | cons x r ih =>
    obtain ⟨n1, n2⟩ := List.nodup_cons.mp nd
    rcases List.mem_cons.mp h with h | h
    · rcases List.mem_cons.mp k with k | k
      · rw [← h] at k
        exact (Prod.mk.inj k).2.symm
      · rw [← h] at n1
        exact absurd (key_of_mem k) n1
    · rcases List.mem_cons.mp k with k | k
      · rw [← k] at n1
        exact absurd (key_of_mem h) n1
      · exact ih n2 h k
/-- put, an older entry's place kept -/
def putG {α : Type} (l : List (IC × α)) (d : IC) (v : α) : List (IC × α) := if (l.any fun x => decide (x.1 = d)) = true then l.map fun x => if x.1 = d then (d, v) else x else l ++ [(d, v)]
theorem any_key {α : Type} {l : List (IC × α)} {d : IC} : (l.any fun x => decide (x.1 = d)) = true ↔ d ∈ l.map (·.1) := by
  rw [List.any_eq_true, List.mem_map]
  exact ⟨fun ⟨x, h, e⟩ => ⟨x, h, of_decide_eq_true e⟩, fun ⟨x, h, e⟩ => ⟨x, h, decide_eq_true e⟩⟩
theorem putG_keys {α : Type} (l : List (IC × α)) (d : IC) (v : α) : (putG l d v).map (·.1) = if d ∈ l.map (·.1) then l.map (·.1) else l.map (·.1) ++ [d] := by
  unfold putG
  by_cases h : d ∈ l.map (·.1)
  · rw [if_pos (any_key.mpr h), if_pos h, List.map_map]
    refine List.map_congr_left fun x _ => ?_
    show (if x.1 = d then (d, v) else x).1 = x.1
    split
    · rename_i e; exact e.symm
    · rfl
  · rw [if_neg (fun e => h (any_key.mp e)), if_neg h, List.map_append]
    rfl
theorem putG_mem {α : Type} {l : List (IC × α)} {d c : IC} {v w : α} : (c, w) ∈ putG l d v ↔ (c = d ∧ w = v) ∨ (c ≠ d ∧ (c, w) ∈ l) := by
  unfold putG
  by_cases h : d ∈ l.map (·.1)
  · rw [if_pos (any_key.mpr h), List.mem_map]
    constructor
    · rintro ⟨x, hx, e⟩
      by_cases hd : x.1 = d
      · rw [if_pos hd] at e
        obtain ⟨rfl, rfl⟩ := Prod.mk.inj e
        exact .inl ⟨rfl, rfl⟩
      · rw [if_neg hd] at e
        subst e
        exact .inr ⟨hd, hx⟩
    · rintro (⟨rfl, rfl⟩ | ⟨h1, h2⟩)
      · obtain ⟨u, hu⟩ := mem_of_key h
        exact ⟨_, hu, if_pos rfl⟩
      · exact ⟨_, h2, if_neg h1⟩
  · rw [if_neg (fun e => h (any_key.mp e)), List.mem_append, List.mem_singleton]
    constructor
    · rintro (h1 | h1)
      · exact .inr ⟨fun e => h (e ▸ key_of_mem h1), h1⟩
      · exact .inl (Prod.mk.inj h1)
    · rintro (⟨rfl, rfl⟩ | ⟨_, h2⟩)
      · exact .inr rfl
      · exact .inl h2
theorem putG_nd {α : Type} {l : List (IC × α)} (nd : (l.map (·.1)).Nodup) (d : IC) (v : α) : ((putG l d v).map (·.1)).Nodup := by
  rw [putG_keys]
  split
  · exact nd
  · rename_i h
    exact List.nodup_append.mpr ⟨nd, by simp, fun a ha b hb e => h (by rw [List.mem_singleton.mp hb] at e; exact e ▸ ha)⟩
/-- the next level, as far as the pairs Z of a cell and a cell beside it -/
structure Lat (L : List IC) (n : Nat) (G Lt : List (IC × List IC)) (Z : List (IC × IC)) : Prop where
  nd : (Lt.map (·.1)).Nodup
  ent : ∀ d ds, (d, ds) ∈ Lt → d ∈ L ∧ d ∉ G.map (·.1) ∧ ∃ p ps, (p, ps) ∈ G ∧ ps.length = n + 1 ∧ d ∈ adjL p ∧ ds = ps ++ [d]
  done : ∀ p d ps, (p, d) ∈ Z → d ∈ L → d ∉ G.map (·.1) → (p, ps) ∈ G → ps.length = n + 1 → ∃ ds, (d, ds) ∈ Lt ∧ ¬ ltLI (ps ++ [d]) ds
theorem Lat.start {L : List IC} {n : Nat} {G : List (IC × List IC)} : Lat L n G [] [] := ⟨by simp, (fun d ds h => by cases h), (fun p d ps h => by cases h)⟩
theorem Lat.skip {L : List IC} {n : Nat} {G Lt : List (IC × List IC)} {Z : List (IC × IC)} {p d : IC} (h : Lat L n G Lt Z) (hd : d ∉ L ∨ d ∈ G.map (·.1)) : Lat L n G Lt (Z ++ [(p, d)]) := ⟨h.nd, h.ent, fun p' d' ps' hz h1 h2 h3 h4 => by
  rcases List.mem_append.mp hz with z | z
  · exact h.done p' d' ps' z h1 h2 h3 h4
  · obtain ⟨rfl, rfl⟩ := Prod.mk.inj (List.mem_singleton.mp z)
    rcases hd with e | e
    · exact absurd h1 e
    · exact absurd e h2⟩
theorem Lat.len {L : List IC} {n : Nat} {G Lt : List (IC × List IC)} {Z : List (IC × IC)} (h : Lat L n G Lt Z) {d : IC} {ds : List IC} (hd : (d, ds) ∈ Lt) : ds.length = n + 2 := by
  obtain ⟨_, _, p, ps, _, hl, _, rfl⟩ := h.ent d ds hd
  rw [List.length_append, hl]
  rfl
theorem Lat.put {L : List IC} {n : Nat} {G Lt : List (IC × List IC)} {Z : List (IC × IC)} {p d : IC} {ps nw : List IC} (ndG : (G.map (·.1)).Nodup) (h : Lat L n G Lt Z) (hL : d ∈ L) (hG : d ∉ G.map (·.1)) (hp : (p, ps) ∈ G) (hl : ps.length = n + 1) (hadj : d ∈ adjL p)
    (h1 : nw = ps ++ [d] ∨ (d, nw) ∈ Lt) (h2 : ¬ ltLI (ps ++ [d]) nw) (h3 : ∀ ds, (d, ds) ∈ Lt → ¬ ltLI ds nw) : Lat L n G (putG Lt d nw) (Z ++ [(p, d)]) := by
  have hnl : nw.length = n + 2 := by
    rcases h1 with e | e
    · rw [e, List.length_append, hl]; rfl
    · exact h.len e
  refine ⟨putG_nd h.nd _ _, fun d' ds' hm => ?_, fun p' d' ps' hz a1 a2 a3 a4 => ?_⟩
  · rcases putG_mem.mp hm with ⟨rfl, rfl⟩ | ⟨_, hm⟩
    · rcases h1 with e | e
      · exact ⟨hL, hG, p, ps, hp, hl, hadj, e⟩
      · exact h.ent _ _ e
    · exact h.ent _ _ hm
  · rcases List.mem_append.mp hz with z | z
    · obtain ⟨ds0, k1, k2⟩ := h.done p' d' ps' z a1 a2 a3 a4
      by_cases e : d' = d
      · subst e
        refine ⟨nw, putG_mem.mpr (.inl ⟨rfl, rfl⟩), fun hx => ?_⟩
        rcases ltLI_tri (l := nw) (m := ds0) (by rw [hnl, h.len k1]) with q | q | q
        · exact k2 (ltLI_trans hx q)
        · exact k2 (q ▸ hx)
        · exact h3 ds0 k1 q
      · exact ⟨ds0, putG_mem.mpr (.inr ⟨e, k1⟩), k2⟩
    · obtain ⟨rfl, rfl⟩ := Prod.mk.inj (List.mem_singleton.mp z)
      rw [val_uniq ndG a3 hp]
      exact ⟨nw, putG_mem.mpr (.inl ⟨rfl, rfl⟩), h2⟩
theorem FInv.next {L : List IC} {b : IC} {n : Nat} {G Lt : List (IC × List IC)} {lv : List IC} {Z : List (IC × IC)} (F : FInv L b n G lv) (h : Lat L n G Lt Z) (hZ : ∀ p ∈ lv, ∀ d ∈ adjL p, (p, d) ∈ Z) : FInv L b (n + 1) (G ++ Lt) (Lt.map (·.1)) := by
  have wlen : ∀ {c cs m}, (c, cs) ∈ G → LstW L b m c cs → cs.length = m + 1 := fun _ w => w.w.len
  have disj : ∀ d ds, (d, ds) ∈ Lt → d ∉ G.map (·.1) := fun d ds hd => (h.ent d ds hd).2.1
  -- a walk of n + 1 paces to a cell that was not found
  have far : ∀ d ws, Wy L b (n + 1) d ws → d ∉ G.map (·.1) → ∃ p ps qs ds, Wy L b n p ps ∧ ws = ps ++ [d] ∧ (p, qs) ∈ G ∧ LstW L b n p qs ∧ qs.length = n + 1 ∧ (d, ds) ∈ Lt ∧ ¬ ltLI (qs ++ [d]) ds := by
    intro d ws w hd
    obtain ⟨p, ps, w1, hadj, hL, rfl⟩ := w.inv
    obtain ⟨qs, hq⟩ := mem_of_key (F.all n p ps (Nat.le_refl _) w1)
    obtain ⟨m, hm, lw, hmin⟩ := F.lst p qs hq
    have hmn : m = n := by
      rcases Nat.lt_or_ge m n with z | z
      · exact absurd (F.all (m + 1) d _ (by omega) (.step lw.w hadj hL)) hd
      · omega
    subst hmn
    have hql := wlen hq lw
    obtain ⟨ds, k1, k2⟩ := h.done p d qs (hZ p ((F.lev p).mpr ⟨qs, hq, hql⟩) d hadj) hL hd hq hql
    exact ⟨p, ps, qs, ds, w1, rfl, hq, lw, hql, k1, k2⟩
  refine ⟨?_, fun c cs hc => ?_, fun k c ws hk w => ?_, fun c => ?_⟩
  · rw [List.map_append]
    refine List.nodup_append.mpr ⟨F.nd, h.nd, fun a ha x hx e => ?_⟩
    obtain ⟨ds, hd⟩ := mem_of_key hx
    exact disj x ds hd (e ▸ ha)
  · rcases List.mem_append.mp hc with hc | hc
    · obtain ⟨m, hm, r⟩ := F.lst c cs hc
      exact ⟨m, by omega, r⟩
    · obtain ⟨hL, hG, p, ps, hp, hpl, hadj, rfl⟩ := h.ent c cs hc
      obtain ⟨m, hm, lw, _⟩ := F.lst p ps hp
      have hmn : m = n := by have := wlen hp lw; omega
      subst hmn
      refine ⟨m + 1, Nat.le_refl _, ⟨.step lw.w hadj hL, fun cs' w hlt => ?_⟩, fun k ws w => ?_⟩
      · obtain ⟨p', ps', qs, ds, w1, rfl, hq, lwq, hql, k1, k2⟩ := far c cs' w hG
        rw [val_uniq h.nd k1 hc] at k2
        have hl1 := w1.len
        have k3 : ¬ ltLI (ps' ++ [c]) (qs ++ [c]) := fun z => by
          rcases (ltLI_snoc (by rw [hl1, hql])).mp z with z | ⟨_, z⟩
          · exact lwq.lst _ w1 z
          · exact ltI_irrefl _ z
        rcases ltLI_tri (l := qs ++ [c]) (m := ps' ++ [c]) (by rw [List.length_append, List.length_append, hl1, hql]) with z | z | z
        · exact k2 (ltLI_trans z hlt)
        · exact k2 (z ▸ hlt)
        · exact k3 z
      · rcases Nat.lt_or_ge k (m + 1) with z | z
        · exact absurd (F.all k c ws (by omega) w) hG
        · exact z
  · rw [List.map_append, List.mem_append]
    by_cases hG : c ∈ G.map (·.1)
    · exact .inl hG
    · rcases Nat.lt_or_ge n k with z | z
      · have : k = n + 1 := by omega
        subst this
        obtain ⟨_, _, _, ds, _, _, _, _, _, k1, _⟩ := far c ws w hG
        exact .inr (key_of_mem k1)
      · exact .inl (F.all k c ws z w)
  · constructor
    · intro hc
      obtain ⟨ds, hd⟩ := mem_of_key hc
      exact ⟨ds, List.mem_append_right _ hd, h.len hd⟩
    · rintro ⟨cs, hc, hl⟩
      rcases List.mem_append.mp hc with hc | hc
      · obtain ⟨m, hm, lw, _⟩ := F.lst c cs hc
        have := wlen hc lw
        omega
      · exact key_of_mem hc
/-- all that can be reached, each with the least of its shortest walks -/
structure RInv (L : List IC) (b : IC) (G : List (IC × List IC)) : Prop where
  nd : (G.map (·.1)).Nodup
  lst : ∀ c cs, (c, cs) ∈ G → ∃ m, LstW L b m c cs ∧ ∀ k ws, Wy L b k c ws → m ≤ k
  all : ∀ k c ws, Wy L b k c ws → c ∈ G.map (·.1)
  few : ∀ c cs, (c, cs) ∈ G → cs.length ≤ 1000
theorem FInv.done {L : List IC} {b : IC} {n : Nat} {G : List (IC × List IC)} (F : FInv L b n G []) (hn : n ≤ 100) : RInv L b G := by
  refine ⟨F.nd, fun c cs h => ?_, fun k c ws w => ?_, fun c cs h => ?_⟩
  rotate_left 2
  · obtain ⟨m, hm, lw, _⟩ := F.lst c cs h
    have := lw.w.len
    omega
  · obtain ⟨m, _, r⟩ := F.lst c cs h
    exact ⟨m, r⟩
  · induction w with
    | nil => exact F.all 0 b [b] (Nat.zero_le _) .nil
    | @step k c d cs w hd hL ih =>
      obtain ⟨qs, hq⟩ := mem_of_key ih
      obtain ⟨m, hm, lw, _⟩ := F.lst c qs hq
      rcases Nat.lt_or_ge m n with z | z
      · exact F.all (m + 1) d _ (by omega) (.step lw.w hd hL)
      · have hl := lw.w.len
        have : c ∈ ([] : List IC) := (F.lev c).mpr ⟨qs, hq, by omega⟩
        cases this
theorem FInv.len {L : List IC} {b : IC} {n : Nat} {G : List (IC × List IC)} {lv : List IC} (F : FInv L b n G lv) : G.length ≤ L.length + 1 := by
  have q := nodup_le (G.map (·.1)) (b :: L) F.nd fun x hx => by
    obtain ⟨cs, h⟩ := mem_of_key hx
    obtain ⟨m, _, lw, _⟩ := F.lst x cs h
    exact List.mem_cons.mpr lw.w.land
  rw [List.length_map, List.length_cons] at q
  exact q
/-! ### what distance tells -/
def Dst (L : List IC) (b c : IC) (v : V) : Prop := (∃ m : Nat, v = .int (m : Nat) ∧ (∃ ws, Wy L b m c ws) ∧ ∀ k ws, Wy L b k c ws → m ≤ k) ∨ (v = .non ∧ ∀ k ws, ¬ Wy L b k c ws)
theorem Dst.uniq {L : List IC} {b c : IC} {v w : V} (h : Dst L b c v) (k : Dst L b c w) : v = w := by
  rcases h with ⟨m, rfl, ⟨ws, w1⟩, h1⟩ | ⟨rfl, h1⟩
  · rcases k with ⟨m', rfl, ⟨ws', w2⟩, h2⟩ | ⟨rfl, h2⟩
    · have e : m = m' := Nat.le_antisymm (h1 _ _ w2) (h2 _ _ w1)
      rw [e]
    · exact absurd w1 (h2 _ _)
  · rcases k with ⟨m', rfl, ⟨ws', w2⟩, h2⟩ | ⟨rfl, h2⟩
    · exact absurd w2 (h1 _ _)
    · rfl
theorem Wy.rev {L : List IC} {b c : IC} {n : Nat} {cs : List IC} (hb : b ∈ L) (w : Wy L b n c cs) : ∃ ws, Wy L c n b ws := (w.wf.pth hb).wy
theorem Dst.symm {L : List IC} {b c : IC} {v : V} (hb : b ∈ L) (hc : c ∈ L) (h : Dst L b c v) : Dst L c b v := by
  rcases h with ⟨m, rfl, ⟨ws, w1⟩, h1⟩ | ⟨rfl, h1⟩
  · obtain ⟨us, w2⟩ := w1.rev hb
    refine .inl ⟨m, rfl, ⟨us, w2⟩, fun k ws w => ?_⟩
    obtain ⟨us, w3⟩ := w.rev hc
    exact h1 _ _ w3
  · refine .inr ⟨rfl, fun k ws w => ?_⟩
    obtain ⟨us, w3⟩ := w.rev hc
    exact h1 _ _ w3
theorem Pc.dst {L : List IC} {b c : IC} {kvs : List (IC × Nat)} (p : Pc L b kvs) : Dst L b c (dV kvs c) := by
  unfold dV
  by_cases h : c ∈ kvs.map (·.1)
  · obtain ⟨⟨c', m⟩, h1, e⟩ := List.mem_map.mp h
    have e : c' = c := e
    subst e
    rw [dkv_some p.nd h1]
    refine .inl ⟨m, rfl, (p.pth m _ h1).wy, fun k ws w => ?_⟩
    obtain ⟨m', h2, h3⟩ := p.min w.pth
    rw [p.one h1 h3]
    exact h2
  · rw [dkv_none h]
    refine .inr ⟨rfl, fun k ws w => h (p.keys.mpr ⟨k, w.pth⟩)⟩
/-- what the law's own table says is what distance tells -/
theorem RInv.dst {L : List IC} {b c : IC} {G : List (IC × List IC)} (R : RInv L b G) : (∃ cs, (c, cs) ∈ G ∧ cs ≠ [] ∧ Dst L b c (.int ((cs.length : Nat) - 1))) ∨ (c ∉ G.map (·.1) ∧ Dst L b c .non) := by
  by_cases h : c ∈ G.map (·.1)
  · obtain ⟨cs, hc⟩ := mem_of_key h
    obtain ⟨m, lw, hmin⟩ := R.lst c cs hc
    have hl := lw.w.len
    refine .inl ⟨cs, hc, (fun e => by rw [e] at hl; cases hl), .inl ⟨m, ?_, ⟨_, lw.w⟩, hmin⟩⟩
    rw [hl]
    congr 1
    omega
  · exact .inr ⟨h, .inr ⟨rfl, fun k ws w => h (R.all k c ws w)⟩⟩
end Om

/-! _law_routes: what stands in the heap -/
namespace Om
open PySem PySem.Spec PyProof.Rows L2 LamX NdefX PySem.W
theorem SqT.ext {K : PySem.W.Frag} {H H' : Hp} {a : Addr} {xs : List V} (k : ExtN H H') (h : SqT K H a xs) : SqT K H' a xs := by
  rcases h with (h | ⟨o, h⟩) | h
  · exact .inl (.inl (k _ _ h fun ps e => by cases e))
  · exact .inl (.inr ⟨o, k _ _ h fun ps e => by cases e⟩)
  · exact .inr h
theorem Isl.ext {K : PySem.W.Frag} {CI : Addr} {H H' : Hp} {a : Addr} {rows : List (List Nat)} (h : Isl K CI H a rows) (k : ExtN H H') : Isl K CI H' a rows := by
  obtain ⟨dx, p, hp, hS⟩ := h
  exact ⟨dx, p, k _ _ hp (fun ps e => by cases e), SqT.ext k hS⟩
theorem CI2.ext {H H' : Hp} {t : TI} (h : CI2 H t) (k : ExtN H H') : CI2 H' t := fun p hp => k _ _ (h p hp) fun ps e => by cases e
theorem Same.extN {H H' : Hp} (s : Same H H') : ExtN H H' := fun b o h _ => s _ _ h
theorem ExtN.updN {H H' : Hp} {D : Addr} {o : HO} (k : ExtN H H') (h : H D = none) : ExtN H (upd H' D o) := fun c u hc n => by
  rw [upd_ne (fun e => by rw [e, h] at hc; cases hc)]
  exact k c u hc n
/-- entries: a cell, where its walk stands, the walk -/
abbrev FL := List (IC × Addr × TI)
def fkv (F : FL) : List (List L2.Key × V) := F.map fun x => (ick x.1, V.ref x.2.1)
def gF (F : FL) : List (IC × List IC) := F.map fun x => (x.1, czI x.2.2)
def FH (H : Hp) (F : FL) : Prop := ∀ x ∈ F, H x.2.1 = some (.lst (vzI x.2.2)) ∧ CI2 H x.2.2
theorem FH.ext {H H' : Hp} {F : FL} (h : FH H F) (k : ExtN H H') : FH H' F := fun x hx => ⟨k _ _ (h x hx).1 (fun ps e => by cases e), (h x hx).2.ext k⟩
theorem fkv_len (F : FL) : (fkv F).length = F.length := List.length_map ..
theorem gF_keys (F : FL) : (gF F).map (·.1) = F.map (·.1) := by
  unfold gF
  rw [List.map_map]
  rfl
theorem gF_mem {F : FL} {c : IC} {cs : List IC} : (c, cs) ∈ gF F ↔ ∃ (a : Addr) (t : TI), (c, a, t) ∈ F ∧ czI t = cs := by
  unfold gF
  rw [List.mem_map]
  constructor
  · rintro ⟨⟨c', a, t⟩, h, e⟩
    obtain ⟨e1, e2⟩ := Prod.mk.inj e
    exact ⟨a, t, by rw [← e1]; exact h, e2⟩
  · rintro ⟨a, t, h, rfl⟩
    exact ⟨_, h, rfl⟩
theorem fkv_some {F : FL} (nd : (F.map (·.1)).Nodup) {c : IC} {a : Addr} {t : TI} (h : (c, a, t) ∈ F) : valV (fkv F) (ick c) = some (V.ref a) := by
  unfold valV fkv
  induction F with
  | nil => exact absurd h (by simp)
  | cons x r ih =>
    obtain ⟨n1, n2⟩ := List.nodup_cons.mp nd
    rw [List.map_cons, List.find?_cons]
    by_cases e : x.1 = c
    · have : decide (ick x.1 = ick c) = true := decide_eq_true (by rw [e])
      rw [this]
      rcases List.mem_cons.mp h with h | h
      · rw [← h]; rfl
      · exact absurd (List.mem_map.mpr ⟨_, h, e.symm⟩) n1
    · have : decide (ick x.1 = ick c) = false := decide_eq_false fun z => e (ick_inj z)
      rw [this]
      rcases List.mem_cons.mp h with h | h
      · exact absurd (by rw [← h]) e
      · exact ih n2 h
theorem fkv_none {F : FL} {c : IC} (h : c ∉ F.map (·.1)) : valV (fkv F) (ick c) = none := by
  unfold valV fkv
  rw [List.find?_eq_none.mpr fun x hx => ?_]
  · rfl
  · obtain ⟨y, hy, rfl⟩ := List.mem_map.mp hx
    have : y.1 ≠ c := fun e => h (List.mem_map.mpr ⟨y, hy, e⟩)
    simpa using fun z => this (ick_inj z)
theorem fkv_any (F : FL) (d : IC) : ((fkv F).any fun kv => decide (kv.1 = ick d)) = F.any fun x => decide (x.1 = d) := by
  unfold fkv
  rw [List.any_map]
  congr 1
  funext x
  show decide (ick x.1 = ick d) = decide (x.1 = d)
  by_cases e : x.1 = d
  · rw [decide_eq_true e, decide_eq_true (by rw [e])]
  · rw [decide_eq_false e, decide_eq_false fun z => e (ick_inj z)]
theorem fkv_put (F : FL) (d : IC) (a : Addr) (t : TI) : putK (fkv F) (ick d) (V.ref a) = fkv (putG F d (a, t)) := by
  unfold putK putG
  rw [fkv_any]
  split
  · unfold fkv
    rw [List.map_map, List.map_map]
    refine List.map_congr_left fun x _ => ?_
    show (if ick x.1 = ick d then (ick x.1, V.ref a) else (ick x.1, V.ref x.2.1)) = (ick (if x.1 = d then (d, a, t) else x).1, V.ref (if x.1 = d then (d, a, t) else x).2.1)
    by_cases e : x.1 = d
    · rw [if_pos e, if_pos (by rw [e]), e]
    · rw [if_neg e, if_neg fun z => e (ick_inj z)]
  · unfold fkv
    rw [List.map_append]
    rfl
theorem gF_put (F : FL) (d : IC) (a : Addr) (t : TI) : gF (putG F d (a, t)) = putG (gF F) d (czI t) := by
  have e0 : ((gF F).any fun x => decide (x.1 = d)) = F.any fun x => decide (x.1 = d) := by
    unfold gF
    rw [List.any_map]
    rfl
  unfold putG
  rw [e0]
  split
  · unfold gF
    rw [List.map_map, List.map_map]
    refine List.map_congr_left fun x _ => ?_
    show ((if x.1 = d then (d, a, t) else x).1, czI (if x.1 = d then (d, a, t) else x).2.2) = if x.1 = d then (d, czI t) else (x.1, czI x.2.2)
    split <;> rfl
  · unfold gF
    rw [List.map_append]
    rfl
theorem putG_len {α : Type} (l : List (IC × α)) (d : IC) (v : α) : (putG l d v).length ≤ l.length + 1 := by
  unfold putG
  split
  · rw [List.length_map]; omega
  · rw [List.length_append, List.length_singleton]; exact Nat.le_refl _
theorem putG_out {α : Type} {l : List (IC × α)} {d : IC} {v : α} (h : d ∉ l.map (·.1)) : putG l d v = l ++ [(d, v)] := by
  unfold putG
  rw [if_neg fun e => h (any_key.mp e)]
theorem mergeT_app : ∀ (M F : FL), (M.map (·.1)).Nodup → (∀ x ∈ M, x.1 ∉ F.map (·.1)) → mergeT (fkv F) (fkv M) = fkv (F ++ M)
  | [], F, _, _ => by rw [List.append_nil]; rfl
  | x :: M, F, nd, h => by
    obtain ⟨n1, n2⟩ := List.nodup_cons.mp nd
    have e : putK (fkv F) (ick x.1) (V.ref x.2.1) = fkv (F ++ [x]) := by
      rw [fkv_put F x.1 x.2.1 x.2.2, putG_out (h x List.mem_cons_self)]
    show mergeT (putK (fkv F) (ick x.1) (V.ref x.2.1)) (fkv M) = _
    rw [e, mergeT_app M (F ++ [x]) n2 fun y hy => ?_, List.append_assoc]
    · rfl
    · rw [List.map_append, List.mem_append]
      rintro (z | z)
      · exact h y (List.mem_cons_of_mem _ hy) z
      · have z : y.1 = x.1 := List.mem_singleton.mp z
        have h2 : y.1 ∈ M.map (·.1) := List.mem_map_of_mem hy
        rw [z] at h2
        exact n1 h2
theorem fkv_keys (F : FL) : (fkv F).map (·.1) = ((F.map (·.1)).map icl).map (fun l => l.map Sum.inl) := by
  unfold fkv
  rw [List.map_map, List.map_map, List.map_map]
  rfl
/-- what stands at a cell -/
def atF (F : FL) (c : IC) : Addr × TI := ((F.find? fun x => decide (x.1 = c)).map (·.2)).getD (0, [])
theorem atF_of {F : FL} (nd : (F.map (·.1)).Nodup) {c : IC} {a : Addr} {t : TI} (h : (c, a, t) ∈ F) : atF F c = (a, t) := by
  unfold atF
  induction F with
  | nil => exact absurd h (by simp)
  | cons x r ih =>
    obtain ⟨n1, n2⟩ := List.nodup_cons.mp nd
    rw [List.find?_cons]
    by_cases e : x.1 = c
    · rw [decide_eq_true e]
      rcases List.mem_cons.mp h with h | h
      · rw [← h]; rfl
      · exact absurd (List.mem_map.mpr ⟨_, h, e.symm⟩) n1
    · rw [decide_eq_false e]
      rcases List.mem_cons.mp h with h | h
      · exact absurd (by rw [← h]) e
      · exact ih n2 h
theorem tabs_put {T : List (Addr × Str)} {H : Hp} {D : Addr} {o o' : HO} (hD : H D = some o) (n1 : ∀ ps, o ≠ .tbl ps) (n2 : ∀ q, o ≠ CodeO D q) (h : Tabs T H) : Tabs T (upd H D o') := fun p hp => by
  obtain ⟨ps, q1, q2, q3⟩ := h p hp
  refine ⟨ps, by rw [upd_ne fun e => by rw [e, hD] at q1; exact n1 ps (Option.some.inj q1)]; exact q1, q2, fun pos cv hc => ?_⟩
  obtain ⟨c0, w1, w2⟩ := q3 pos cv hc
  refine ⟨c0, w1, ?_⟩
  rw [upd_ne fun e => by rw [e, hD] at w2; exact n2 _ (Option.some.inj w2)]
  exact w2
theorem sg_dec {a : Nat} (h : a ≠ 126) : decide (vt [a] = V.str (Str.ofString "~")) = false := by
  refine decide_eq_false fun e => h ?_
  have ez : (Str.ofString "~") = tx [126] := by decide +kernel
  rw [ez] at e
  have e2 : tx [a] = tx [126] := V.str.inj e
  have e3 := congrArg (fun s : Str => s.cps.toList) e2
  simp only [tx_cps] at e3
  exact (List.cons.inj e3).1
theorem adjL_at {c : IC} {i : Nat} (h : i < 4) : (adjL c)[i]? = some (adjI c i) := by
  unfold adjL
  rw [List.getElem?_map, List.getElem?_range h]
  rfl
/-! ### the key: what is found at a cell -/
abbrev sRts : Stmt := top 39
def whiB (s : Stmt) : List Stmt := match s with
  | .While _ b _ _ => b
  | _ => []
def forIt (s : Stmt) : Expr := match s with
  | .For _ i _ _ _ => i
  | _ => .Constant .none 0 ⟨0, 0, 0, 0⟩
def kw0 (e : Expr) : Expr := match e with
  | .Call _ _ (k :: _) _ => k.value
  | _ => .Constant .none 0 ⟨0, 0, 0, 0⟩
def rtLam : Expr := kw0 (forIt ((whiB ((defBody sRts).getD 1 noS)).getD 1 noS))
def lamP (e : Expr) : Arguments := match e with
  | .Lambda p _ _ _ => p
  | _ => defArgs sRts
def lamB (e : Expr) : Expr := match e with
  | .Lambda _ b _ _ => b
  | e => e
def lamSc (e : Expr) : Scope := match e with
  | .Lambda _ _ s _ => s
  | _ => defScope sRts
def qR : Str := (envOfC "_law_routes" (defScope sRts) 0 0 .none).qual ++ "<lambda>"
def mkR (cc c' : Addr) : LE := ⟨lamP rtLam, lamB rtLam, lamSc rtLam, qR, [("_law_found", cc)], c'⟩
def spKey : List (Option V) → Sp := fun ws vs H Q _ => ∃ (D p : Addr) (kvs : List (List L2.Key × V)) (c : IC) (v : V), ws = [some (.ref D)] ∧ vs = [.ref p] ∧ H D = some (.dT kvs) ∧ H p = some (.tup (icv c)) ∧ valV kvs (ick c) = some v ∧ Q v H
abbrev nK : List Str := ["_law_one", "_law_found"]
theorem nscK : NScope nK ["_law_one"] ["_law_found"] (lamSc rtLam) := nscope_by (by decide +kernel)
theorem key_ok {P : Program} {w : World} {K : PySem.W.Frag} {mg : Str → Option Value} {base : Heap} (f cc c' : Addr) : EOk P w K mg base (L2.CX P w) 1 f (mkR cc c') ["_law_one"] ["_law_found"] spKey :=
  eok_of (N := nK) nscK (fun pm ctv us hl => match us, hl with | [_], _ => rfl) (fun ws vs H Q E h => by obtain ⟨D, p, kvs, c, v, rfl, rfl, _⟩ := h; rfl) fun A outer s H vs ws Q E hr hl h => by
    obtain ⟨D, p, kvs, c, v, rfl, rfl, h1, h2, h3, q⟩ := h
    have hu := hr.units
    have hu1 : _ + 1 < cLine := Nat.lt_of_le_of_lt (Nat.add_le_add_left (show 1 ≤ 64 by decide) _) hu
    refine ⟨_, pe_dget hu1 (pv 1) (pv 0) (fun _ _ => rfl), ?_⟩
    have dg := DGet.t (k := ick c) h1 h2
    rw [h3] at dg
    exact ⟨_, rfl, _, rfl, D, _, rfl, dg, q⟩
end Om

/-! _law_routes -/
namespace Om
open PySem PySem.Spec PyProof.Rows L2 LamX NdefX PySem.W
theorem icl_map_inj : ∀ {l m : List IC}, l.map icl = m.map icl → l = m
  | [], [], _ => rfl
  | [], _ :: _, h => by cases h
  | _ :: _, [], h => by cases h
  | a :: l, b :: m, h => by
    rw [List.map_cons, List.map_cons] at h
    injection h with h1 h2
    rw [icl_inj h1, icl_map_inj h2]
theorem lt_icsL {l m : List IC} (h : l.length = m.length) : dataLt (.list (l.map cdI)) (.list (m.map cdI)) = true ↔ ltLI l m := by
  rw [dataLt_list]
  exact lt_ics h
theorem depL (l : List IC) : (PyData.list (l.map cdI)).depth ≤ 2 := by
  have := dep_ics l
  simp only [PyData.depth]
  omega
theorem keys_dp {K : PySem.W.Frag} {H : Hp} {F : FL} (hF : FH H F) : ∀ {t : TI}, (∀ q ∈ t, (q.2, atF F q.2) ∈ F) → DpAll K H ((t.map fun q => (atF F q.2).1).map V.ref) (t.map fun q => PyData.list ((czI (atF F q.2).2).map cdI))
  | [], _ => .nil
  | q :: t, h => .cons (ltl_dp (hF _ (h q List.mem_cons_self)).1 (hF _ (h q List.mem_cons_self)).2) (keys_dp hF fun x hx => h x (List.mem_cons_of_mem _ hx))
def spRts (K : PySem.W.Frag) (T : List (Addr × Str)) : Sp := fun vs H Q _ => ∃ (ra ca : Addr) (rows : List (List Nat)) (c : IC), vs = [.ref ra, .ref ca] ∧ SqT K H ra (rows.map vt) ∧ Vd rows ∧ (cellsOf rows).length ≤ 62 ∧ H ca = some (.tup (icv c)) ∧ Tabs T H ∧
  ∀ (D : Addr) (F : FL) (H' : Hp), ExtN H H' → Tabs T H' → H' D = some (.dT (fkv F)) → FH H' F → RInv (landL rows) c (gF F) → Q (.ref D) H'
section
variable {P : Program} {w : World} {K : PySem.W.Frag} {mg : Str → Option Value} {base : Heap} {c Pr : Addr} {T : List (Addr × Str)}
abbrev nRts : List Str := ["_law_rows_here", "_law_cell", "_law_found", "_law_level", "_law_later", "_law_here", "_law_facing", "_law_other", "_law_way"]
theorem scRts : FnScope nRts ["_law_rows_here", "_law_cell"] (defScope sRts) := ⟨rfl, rfl, rfl, by decide +kernel, rfl, by decide +kernel, by decide +kernel⟩
theorem frK : ∀ y ∈ (lamSc rtLam).names, y.2 = NameKind.free → (defScope sRts).names.lookup y.1 = some .cell ∨ (defScope sRts).names.lookup y.1 = some .free := by decide +kernel
theorem ok_rts {f : Addr} {fd : FuncData} (hmT : (Pr, qR) ∈ T) (huT : ∀ p ∈ T, p.1 = Pr → p.2 = qR) (F : FnP K "_law_routes" "_law_routes" sRts f fd) (hcd : ∀ cd, fd.code = cd → cd = .ref c) (TB : TabB base mg c Pr) (SG : Cal P w K mg base CX0 1 "_law_sign" ["_law_rows_here", "_law_cell"] (spLSign K))
    (NX : Cal P w K mg base CX0 1 "_law_next" ["_law_cell", "_law_facing"] (spLNext K)) (grange : mg "range" = none) (gsorted : mg "sorted" = none) (gmin : mg "min" = none) (glist : mg "list" = none) : FnOk P w K mg base CX0 4 f fd ["_law_rows_here", "_law_cell"] (spRts K T) := by
  obtain ⟨oc, od, dV, kV, doc, pm', an, cdv, ct, osl, rfl, lk, hcdv, _, _⟩ := F.ex
  obtain rfl : cdv = .ref c := hcd _ rfl
  refine fn_of (k := 3) lk hcdv scRts (fun vs H Q E h => ?_) (fun A outer s H vs Q E hr h => ?_)
  · obtain ⟨ra, ca, rows, c, rfl, _⟩ := h
    rfl
  · obtain ⟨ra, ca, rows, b, rfl, hS, vd, hfew, hC, hT0, k⟩ := h
    have nd := scRts.nd
    have hu := hr.units
    have hr1 : Room 1 _ := hr.mono (by decide)
    have hu1 : _ + 1 < cLine := Nat.lt_of_le_of_lt (Nat.add_le_add_left (show 1 ≤ 64 by decide) _) hu
    have hu16 : _ + 16 < cLine := Nat.lt_of_le_of_lt (Nat.add_le_add_left (show 16 ≤ 64 by decide) _) hu
    refine ⟨_, PSs.nox (pss_cons (ps_asg (pe_tup (pa_cons (pe_disp1T hu1 (pv 1) (pe_lst (pa_cons (pv 1) pa_nil))) (pa_cons (pe_lst (pa_cons (pv 1) pa_nil)) pa_nil)))
          (pg_tup rfl (pgs_cons (pg_name (i := 2) nd rfl (.inr rfl)) (pgs_cons (pg_name (i := 3) nd rfl (.inl rfl)) pgs_nil))))
      (pss_cons (ps_while PassesOwn.never (pt_cmpR (op_neD hu) (pv 3) (pe_lst pa_nil) (nomark _))
        (pss_cons (ps_set (i := 4) nd rfl (.inl rfl) pe_dnewT)
        (pss_cons (ps_for PassesOwn.never rfl (pi_listK (K := K) rfl (pe_sortK (i := 2) (y := "_law_found") (one := "_law_one") (mk := fun c' => mkR _ c') (fun f c' => key_ok f _ c') (fun _ => rfl) hr rfl rfl rfl rfl gsorted (by decide +kernel) (pa_cons (pv 3) pa_nil)
            (pk_cons (pe_lamE (T := T) (mk := fun c' => mkR _ c') TB rfl hmT huT rfl frK (fun _ => rfl)) pk_nil))) (pg_name (i := 5) nd rfl (.inl rfl))
          (pss_one (ps_for PassesOwn.never rfl (pi_range1 rfl grange (pa_cons pe_int pa_nil)) (pg_name (i := 6) nd rfl (.inl rfl))
            (pss_cons (ps_set (i := 7) nd rfl (.inl rfl) (pe_cal NX hr1 pass0 (pa_cons (pv 5) (pa_cons (pv 6) pa_nil))))
            (pss_one (ps_if (PW.pt (pw_and (pt_cmpR op_ne (pe_cal SG hr1 pass0 (pa_cons (pv 0) (pa_cons (pv 7) pa_nil))) pe_str (nomark _)) (pw_and1 (pt_cmp (pc_dnotin hu1 (pv 7) (pv 2)) (by with_unfolding_all rfl)))))
              (pss_cons (ps_set (i := 8) nd rfl (.inl rfl) (pe_op op_cat (pe_dget hu1 (pv 2) (pv 5) (fun _ _ => rfl)) (pe_lst (pa_cons (pv 7) pa_nil))))
              (pss_one (ps_dput hu1 (pv 4) (pv 7) (pe_callB (cr_minD2 (K := K) rfl rfl hu) (by rfl) gmin (by decide +kernel) (pa_cons (pv 8) (pa_cons (pe_dget2 hu1 (pv 4) (pv 7) (pv 8) ⟨rfl, rfl, rfl, rfl⟩) pa_nil))) rfl))) pss_nil))))))
        (pss_cons (ps_expr (pe_bm PySem.F.plainAttrs_dict PySem.F.slot_dict_update type_dict_update (mt_dupd hu16) (pv 2) (pa_cons (pv 4) pa_nil)))
        (pss_one (ps_set (i := 3) nd rfl (.inl rfl) (pe_callTy (cr_listT rfl) (by rfl) glist (by decide +kernel) (pa_cons (pv 4) pa_nil))))))))
      (pss_one (ps_ret (pv 2))))), ?_⟩
    refine fun D hD0 => ⟨_, rfl, _, rfl, by show 1 ≤ sizeLine; decide, fun w0 hw0 => ?_⟩
    have sD := Same.new (Same.refl H) hD0 (o := .dT [])
    have sW := sD.trans (Same.new (Same.refl (upd H D (.dT []))) hw0 (o := .lst [.ref ca]))
    have nDw : D ≠ w0 := fun e => by rw [← e, upd_same] at hw0; cases hw0
    refine ⟨ca, ick b, rfl, sW _ _ hC, by rw [upd_ne nDw, upd_same], ?_⟩
    have s1 : Same H (upd (upd (upd H D (.dT [])) w0 (.lst [.ref ca])) D (.dT [(ick b, .ref w0)])) := Same.updN sW hD0
    have e1D : (upd (upd (upd H D (.dT [])) w0 (.lst [.ref ca])) D (.dT [(ick b, .ref w0)])) D = some (.dT (fkv [(b, w0, [(ca, b)])])) := upd_same
    have e1w : (upd (upd (upd H D (.dT [])) w0 (.lst [.ref ca])) D (.dT [(ick b, .ref w0)])) w0 = some (.lst (vzI [(ca, b)])) := by rw [upd_ne nDw.symm, upd_same]; rfl
    generalize upd (upd (upd H D (.dT [])) w0 (.lst [.ref ca])) D (.dT [(ick b, .ref w0)]) = H1 at s1 e1D e1w ⊢
    refine ⟨_, rfl, by show 1 ≤ sizeLine; decide, fun la0 hla0 => ⟨by show 2 ≤ sizeLine; decide, fun tp htp => ?_⟩⟩
    have s2 := Same.new (Same.refl H1) hla0 (o := .lst [.ref ca])
    have e2 : (upd H1 la0 (.lst [.ref ca])) la0 = some (.lst (vzI [(ca, b)])) := upd_same
    generalize upd H1 la0 (.lst [.ref ca]) = H2 at s2 e2 htp ⊢
    refine ⟨tp, _, rfl, .inl (.inl upd_same), rfl, _, _, rfl, _, _, rfl, rfl, ?_⟩
    have s3 := Same.new (Same.refl H2) htp (o := .tup [.ref D, .ref la0])
    have s13 := (s1.trans s2).trans s3
    have i1 := (s2.trans s3) _ _ e1D
    have i2 := (s2.trans s3) _ _ e1w
    have i3 := s3 _ _ e2
    have i4 := s13 _ _ hC
    generalize upd H2 tp (.tup [.ref D, .ref la0]) = H3 at s13 i1 i2 i3 i4 ⊢
    clear s3 e2 s2 htp hla0 e1w e1D s1 sW sD hw0
    have hLl : (landL rows).length ≤ 62 := by unfold landL; rw [List.length_map]; exact hfew
    have hCI1 : CI2 H3 [(ca, b)] := fun p hp => by rw [List.mem_singleton.mp hp]; exact i4
    refine ⟨fun m σ H4 => ∃ (la : Addr) (te : TI) (F : FL) (n : Nat) (v4 v5 v6 v7 v8 : Option V), σ = [some (.ref ra), some (.ref ca), some (.ref D), some (.ref la), v4, v5, v6, v7, v8] ∧ ExtN H H4 ∧ Tabs T H4 ∧ H4 D = some (.dT (fkv F)) ∧ FH H4 F ∧ H4 la = some (.lst (vzI te)) ∧ CI2 H4 te ∧
        FInv (landL rows) b n (gF F) (czI te) ∧ ((te ≠ [] ∧ n + 1 ≤ F.length ∧ m = (landL rows).length + 2 - F.length) ∨ (te = [] ∧ n ≤ F.length ∧ m = 0)),
      ⟨_, la0, [(ca, b)], [(b, w0, [(ca, b)])], 0, _, _, _, _, _, rfl, Same.extN s13, hT0.ext s13, i1, (fun x hx => by rw [List.mem_singleton.mp hx]; exact ⟨i2, hCI1⟩), i3, hCI1, FInv.start _ _, .inl ⟨by simp, Nat.le_refl 1, rfl⟩⟩, ?_⟩
    clear hCI1 i1 i2 i3 i4 s13
    rintro m σ H4 ⟨la, te, F, n, v4, v5, v6, v7, v8, rfl, x4, T4, hD4, hF4, hla4, hte4, FI4, hmm⟩
    have hFl := FI4.len
    rw [show (gF F).length = F.length from List.length_map ..] at hFl
    have ndF : (F.map (·.1)).Nodup := by rw [← gF_keys]; exact FI4.nd
    refine ⟨_, rfl, by show 0 ≤ sizeLine; decide, fun z hz => ?_⟩
    have s5 := Same.new (Same.refl H4) hz (o := .lst [])
    have hz5 : (upd H4 z (.lst [])) z = some (.lst []) := upd_same
    have x5 := x4.trans (Same.extN s5)
    have T5 := T4.ext s5
    have hD5 := s5 _ _ hD4
    have hF5 := hF4.ext (Same.extN s5)
    have hla5 := s5 _ _ hla4
    have hte5 := hte4.same s5
    generalize upd H4 z (.lst []) = H5 at s5 hz5 x5 T5 hD5 hF5 hla5 hte5 ⊢
    clear s5 hz x4 T4 hD4 hF4 hla4 hte4
    refine ⟨.list ((czI te).map cdI), .list [], ltl_dp hla5 hte5, .lst (.inl (.inl hz5)) .nil, sh_ics _, shaped_nil, _, rfl, ?_⟩
    rw [eqv_ics_nil]
    rcases hmm with ⟨hne, hnF, hm2⟩ | ⟨hnil, hnF, hm2⟩
    · obtain ⟨e0, er, hte⟩ := List.exists_cons_of_ne_nil hne
      refine iteT' (by rw [hte]; rfl) ?_
      refine ⟨_, fun σ' H' h => h, ?_⟩
      -- the next level
      refine fun M hM => ?_
      have pM : ∀ {x : HO}, H5 M ≠ some x := fun e => by rw [hM] at e; cases e
      have s6 := Same.new (Same.refl H5) hM (o := .dT [])
      have e6 : (upd H5 M (.dT [])) M = some (.dT (fkv [])) := upd_same
      have nDM : D ≠ M := fun e => pM (e ▸ hD5)
      have x6 := x5.trans (Same.extN s6)
      have T6 := T5.ext s6
      have hD6 := s6 _ _ hD5
      have hF6 := hF5.ext (Same.extN s6)
      have hla6 := s6 _ _ hla5
      have hte6 := hte5.same s6
      generalize upd H5 M (.dT []) = H6 at s6 e6 x6 T6 hD6 hF6 hla6 hte6 ⊢
      refine ⟨_, rfl, T6, fun fK c' H7 eN T7 f0 f1 c1 => ?_⟩
      have x7 := x6.trans eN
      have hD7 := eN _ _ hD6 (fun ps e => by cases e)
      have hF7 := hF6.ext eN
      have hla7 := eN _ _ hla6 (fun ps e => by cases e)
      have hte7 := hte6.ext eN
      have e7 := eN _ _ e6 (fun ps e => by cases e)
      have hat : ∀ q ∈ te, (q.2, atF F q.2) ∈ F := fun q hq => by
        obtain ⟨cs, h1, _⟩ := (FI4.lev q.2).mp (List.mem_map_of_mem hq)
        obtain ⟨a, t, h2, _⟩ := gF_mem.mp h1
        rw [atF_of ndF h2]
        exact h2
      refine ⟨la, fK, c', te.map (·.1), te.map fun q => (atF F q.2).1, te.map fun q => PyData.list ((czI (atF F q.2).2).map cdI), .ref D, rfl, rfl, rfl, ?_, f1, c1, by rw [List.length_map, List.length_map], keys_dp hF7 hat, ?_, ?_, ?_, ?_, fun zl zs hzl hperm => ?_⟩
      · rw [List.map_map]
        exact .inl (.inl hla7)
      · intro x hx y hy
        obtain ⟨p, _, rfl⟩ := List.mem_map.mp hx
        obtain ⟨r, _, rfl⟩ := List.mem_map.mp hy
        exact alike_ics _ _
      · refine .inr fun d hd => ?_
        obtain ⟨p, _, rfl⟩ := List.mem_map.mp hd
        exact ⟨(fun e => by cases e), fun xs e => by cases e⟩
      · intro d hd
        obtain ⟨p, _, rfl⟩ := List.mem_map.mp hd
        exact Nat.le_trans (depL _) (by decide)
      · intro j x kk hx hk
        rw [List.getElem?_map] at hx hk
        obtain ⟨q, hq, rfl⟩ := Option.map_eq_some_iff.mp hx
        rw [hq] at hk
        cases hk
        have mq := List.mem_of_getElem? hq
        exact ⟨D, q.1, fkv F, q.2, _, rfl, rfl, hD7, hte7 q mq, fkv_some ndF (hat q mq), rfl, rfl⟩
      obtain ⟨u, hup, hue⟩ := perm_map hperm te rfl
      subst hue
      have nzM : M ≠ zl := fun e => by rw [← e, e7] at hzl; cases hzl
      have nzD : D ≠ zl := fun e => by rw [← e, hD7] at hzl; cases hzl
      have s8 := Same.new (Same.refl H7) hzl (o := .lst ((u.map (·.1)).map V.ref))
      have e8 : (upd H7 zl (.lst ((u.map (·.1)).map V.ref))) zl = some (.lst (vzI u)) := by rw [upd_same, List.map_map]; rfl
      have ez : (u.map (·.1)).map V.ref = vzI u := by rw [List.map_map]; rfl
      rw [ez] at s8 e8 ⊢
      have x8 := x7.trans (Same.extN s8)
      have T8 := T7.ext s8
      have hD8 := s8 _ _ hD7
      have hF8 := hF7.ext (Same.extN s8)
      have hu8 : CI2 (upd H7 zl (.lst (vzI u))) u := fun p hp => s8 _ _ (hte7 p (hup.mem_iff.mp hp))
      have hM8 := s8 _ _ e7
      generalize upd H7 zl (.lst (vzI u)) = H8 at s8 e8 x8 T8 hD8 hF8 hu8 hM8 ⊢
      refine ⟨zl, rfl, ⟨_, .inl (.inl e8)⟩, ?_⟩
      have y8 : ExtN H5 H8 := ((Same.extN s6).trans eN).trans (Same.extN s8)
      let Inv (H' : Hp) (Z : List (IC × IC)) : Prop := ∃ Lt : FL, H' M = some (.dT (fkv Lt)) ∧ H' D = some (.dT (fkv F)) ∧ FH H' F ∧ FH H' Lt ∧ CI2 H' u ∧ H' zl = some (.lst (vzI u)) ∧ Lat (landL rows) n (gF F) (gF Lt) Z ∧ ExtN H5 H' ∧ Tabs T H'
      let Zi (i : Nat) : List (IC × IC) := (u.take i).flatMap fun q => (adjL q.2).map fun d => (q.2, d)
      have latLen : ∀ {Lt : FL} {Z : List (IC × IC)}, Lat (landL rows) n (gF F) (gF Lt) Z → Lt.length ≤ 62 := fun {Lt Z} lf => by
        have h := nodup_le ((gF Lt).map (·.1)) (landL rows) lf.nd fun x hx => by
          obtain ⟨cs, h1⟩ := mem_of_key hx
          exact (lf.ent x cs h1).1
        rw [gF_keys, List.length_map] at h
        omega
      refine for_list (K := K) (a := zl) (xs := vzI u) (fun i σ H' => Inv H' (Zi i) ∧ ∃ v5 v6 v7 v8, σ = [some (.ref ra), some (.ref ca), some (.ref D), some (.ref la), some (.ref M), v5, v6, v7, v8])
        ⟨⟨[], hM8, hD8, hF8, (fun x hx => by cases hx), hu8, e8, Lat.start, y8, T8⟩, _, _, _, _, rfl⟩
        (fun i σ H' _ z => by
          obtain ⟨⟨_, _, _, _, _, _, z, _⟩, _⟩ := z
          exact .inl (.inl z)) ?_ ?_
      · rintro i x σ H9 hx ⟨inv, v5, v6, v7, v8, rfl⟩
        obtain ⟨q, hq, rfl, mq⟩ := FI.at hx
        have et : Zi (i + 1) = Zi i ++ (adjL q.2).map fun d => (q.2, d) := by
          show (u.take (i + 1)).flatMap _ = _
          rw [List.take_succ, hq, List.flatMap_append]
          simp [Zi]
        have mqt : q ∈ te := hup.mem_iff.mp mq
        obtain ⟨cs, hcs, hcl⟩ := (FI4.lev q.2).mp (List.mem_map_of_mem mqt)
        obtain ⟨wa, wt, hw, hwc⟩ := gF_mem.mp hcs
        refine ⟨4, rfl, by decide, by decide, ?_⟩
        refine for_range (lo := 0) (n := (4 : Int).toNat) (fun j σ H' => Inv H' (Zi i ++ ((adjL q.2).take j).map fun d => (q.2, d)) ∧ ∃ v6 v7 v8, σ = [some (.ref ra), some (.ref ca), some (.ref D), some (.ref la), some (.ref M), some (.ref q.1), v6, v7, v8])
          ⟨by rw [List.take_zero, List.map_nil, List.append_nil]; exact inv, _, _, _, rfl⟩ ?_ ?_
        · rintro j σ H10 hj ⟨⟨Lt, t1, t2, t3, t4, t5, t6, lf, y10, T10⟩, v6, v7, v8, rfl⟩
          have hj4 : j < 4 := hj
          have ej : Zi i ++ ((adjL q.2).take (j + 1)).map (fun d => (q.2, d)) = (Zi i ++ ((adjL q.2).take j).map fun d => (q.2, d)) ++ [(q.2, adjI q.2 j)] := by
            rw [List.take_succ, adjL_at hj4, List.map_append, List.append_assoc]
            rfl
          have hadj : adjI q.2 j ∈ adjL q.2 := List.mem_of_getElem? (adjL_at hj4)
          refine ⟨_, rfl, _, rfl, q.1, q.2, j, congrArg (fun z : Int => [V.ref q.1, V.int z]) (Int.zero_add _), .inl (.inl (t5 q mq)), hj4, fun H11 s11 p hp => ?_⟩
          rw [ej]
          generalize adjI q.2 j = d at hadj ⊢
          generalize Zi i ++ ((adjL q.2).take j).map (fun d => (q.2, d)) = Z at lf
          have s12 := s11.trans (Same.new (Same.refl H11) hp (o := .tup (icv d)))
          have hp12 : (upd H11 p (.tup (icv d))) p = some (.tup (icv d)) := upd_same
          generalize upd H11 p (.tup (icv d)) = H12 at s12 hp12 ⊢
          clear hp s11
          have t1' := s12 _ _ t1
          have t2' := s12 _ _ t2
          have t3' := t3.ext (Same.extN s12)
          have t4' := t4.ext (Same.extN s12)
          have t5' := t5.same s12
          have t6' := s12 _ _ t6
          have y12 := y10.trans (Same.extN s12)
          have T12 := T10.ext s12
          clear t1 t2 t3 t4 t5 t6 y10 T10 s12
          have dg := DGet.t t2' hp12 (k := ick d)
          have skip : (d ∉ landL rows ∨ d ∈ (gF F).map (·.1)) → Inv H12 (Z ++ [(q.2, d)]) := fun h => ⟨Lt, t1', t2', t3', t4', t5', t6', lf.skip h, y12, T12⟩
          refine ⟨_, rfl, _, rfl, ra, p, rows, d, rfl, SqT.ext (x5.trans y12) hS, vd.toGood2, .inl (.inl hp12), rfl, _, rfl, ?_⟩
          by_cases hL : d ∈ landL rows
          · have hsg : sgW rows d ≠ 126 := fun e => by
              have h1 := sgW_has (rows := rows) d
              rw [(land_has vd.toGood2 _).mpr hL, e] at h1
              cases h1
            refine iteT' (by rw [sg_dec hsg]; rfl) ?_
            refine ⟨_, rfl, _, rfl, D, _, rfl, dg, _, rfl, ?_⟩
            by_cases hk : d ∈ F.map (·.1)
            · obtain ⟨⟨a', t'⟩, h3⟩ := mem_of_key hk
              refine iteF' (by rw [fkv_some ndF h3]; rfl) ?_
              exact ⟨skip (.inr (by rw [gF_keys]; exact hk)), _, _, _, rfl⟩
            · refine iteT' (by rw [fkv_none hk]; rfl) ?_
              have dg2 := DGet.t t2' (t5' q mq) (k := ick q.2)
              rw [fkv_some ndF hw] at dg2
              have hwa : H12 wa = some (.lst (vzI wt)) := (t3' _ hw).1
              have hwC : CI2 H12 wt := (t3' _ hw).2
              refine ⟨_, rfl, _, rfl, D, _, rfl, dg2, _, rfl, by show 1 ≤ sizeLine; decide, fun l1 hl1 => ?_⟩
              have s13 := Same.new (Same.refl H12) hl1 (o := .lst [.ref p])
              have e13 : (upd H12 l1 (.lst [.ref p])) l1 = some (.lst (vzI [(p, d)])) := upd_same
              generalize upd H12 l1 (.lst [.ref p]) = H13 at s13 e13 ⊢
              have hwl : wt.length = n + 1 := by rw [← czI_len, hwc, hcl]
              refine ⟨wa, l1, _, _, rfl, rfl, s13 _ _ hwa, e13, Nat.le_trans (show _ ≤ 100 by rw [vzI_len, vzI_len, List.length_singleton]; omega) (by decide), fun w1 hw1 => ?_⟩
              rw [← vzI_app]
              have s14 := s13.trans (Same.new (Same.refl H13) hw1 (o := .lst (vzI (wt ++ [(p, d)]))))
              have e14 : (upd H13 w1 (.lst (vzI (wt ++ [(p, d)])))) w1 = some (.lst (vzI (wt ++ [(p, d)]))) := upd_same
              generalize upd H13 w1 (.lst (vzI (wt ++ [(p, d)]))) = H14 at s14 e14 ⊢
              have c14 : CI2 H14 (wt ++ [(p, d)]) := fun y hy => by
                rcases List.mem_append.mp hy with h | h
                · exact s14 _ _ (hwC y h)
                · rw [List.mem_singleton.mp h]; exact s14 _ _ hp12
              have cw : czI (wt ++ [(p, d)]) = cs ++ [d] := by rw [czI_app, hwc]; rfl
              have r1 := s14 _ _ t1'
              have r2 := s14 _ _ t2'
              have r3 := t3'.ext (Same.extN s14)
              have r4 := t4'.ext (Same.extN s14)
              have r5 := t5'.same s14
              have r6 := s14 _ _ t6'
              have y14 := y12.trans (Same.extN s14)
              have T14 := T12.ext s14
              have hp14 := s14 _ _ hp12
              refine ⟨_, rfl, _, rfl, M, rfl, .inr ⟨_, .inl r1⟩, _, rfl, _, rfl, _, DGet.t (k := ick d) r1 hp14, nilArgs ?_⟩
              have lw : (cs ++ [d]).length = n + 2 := by rw [List.length_append, hcl]; rfl
              have hLn := latLen lf
              -- the entry
              have fin : ∀ (a1 : Addr) (t7 : TI), H14 a1 = some (.lst (vzI t7)) → CI2 H14 t7 → (czI t7 = cs ++ [d] ∨ (d, czI t7) ∈ gF Lt) → ¬ ltLI (cs ++ [d]) (czI t7) → (∀ ds, (d, ds) ∈ gF Lt → ¬ ltLI ds (czI t7)) →
                  Inv (upd H14 M (.dT (putK (fkv Lt) (ick d) (V.ref a1)))) (Z ++ [(q.2, d)]) := fun a1 t7 h1 h2 h3 h4 h5 => by
                have lf2 := lf.put (p := q.2) FI4.nd hL (by rw [gF_keys]; exact hk) hcs hcl hadj h3 h4 h5
                rw [← gF_put Lt d a1 t7] at lf2
                rw [fkv_put Lt d a1 t7]
                have keep : ∀ {a : Addr} {o : HO}, H14 a = some o → (∀ kvs, o ≠ .dT kvs) → (upd H14 M (.dT (fkv (putG Lt d (a1, t7))))) a = some o := fun h hn => by
                  rw [upd_ne fun e => by rw [e, r1] at h; exact hn _ (Option.some.inj h).symm]
                  exact h
                have kCI : ∀ {t : TI}, CI2 H14 t → CI2 (upd H14 M (.dT (fkv (putG Lt d (a1, t7))))) t := fun h y hy => keep (h y hy) fun kvs e => by cases e
                refine ⟨_, upd_same, by rw [upd_ne nDM]; exact r2, fun x hx => ⟨keep (r3 x hx).1 (fun kvs e => by cases e), kCI (r3 x hx).2⟩, fun x hx => ?_, kCI r5, keep r6 (fun kvs e => by cases e), lf2, ExtN.updN y14 hM, tabs_put r1 (fun ps e => by cases e) (fun q e => by unfold CodeO at e; cases e) T14⟩
                obtain ⟨x1, x2, x3⟩ := x
                rcases putG_mem.mp hx with ⟨_, e⟩ | ⟨_, hx⟩
                · obtain ⟨rfl, rfl⟩ := Prod.mk.inj e
                  exact ⟨keep h1 (fun kvs e => by cases e), kCI h2⟩
                · exact ⟨keep (r4 _ hx).1 (fun kvs e => by cases e), kCI (r4 _ hx).2⟩
              have ndLt : (Lt.map (·.1)).Nodup := by rw [← gF_keys]; exact lf.nd
              have hz100 : (fkv Lt).length < sizeLine := Nat.lt_of_le_of_lt (show _ ≤ 100 by rw [fkv_len]; omega) (by decide)
              have dp2 : ∀ l m : List IC, PyData.depthAll [.list (l.map cdI), .list (m.map cdI)] ≤ 8 := fun l m => by
                have h1 := depL l
                have h2 := depL m
                simp only [PyData.depthAll]
                omega
              have al2 : ∀ l m : List IC, AlikeAll [.list (l.map cdI), .list (m.map cdI)] := fun l m => by
                refine ⟨fun x hx y hy => ?_, fun x hx => ?_⟩
                · rcases List.mem_cons.mp hx with rfl | hx
                  · rcases List.mem_cons.mp hy with rfl | hy
                    · exact alike_ics _ _
                    · rw [List.mem_singleton.mp hy]; exact alike_ics _ _
                  · rw [List.mem_singleton.mp hx]
                    rcases List.mem_cons.mp hy with rfl | hy
                    · exact alike_ics _ _
                    · rw [List.mem_singleton.mp hy]; exact alike_ics _ _
                · rcases List.mem_cons.mp hx with rfl | hx
                  · exact fun e => by cases e
                  · rw [List.mem_singleton.mp hx]; exact fun e => by cases e
              by_cases hdl : d ∈ Lt.map (·.1)
              · obtain ⟨⟨a0, t0⟩, h0⟩ := mem_of_key hdl
                rw [fkv_some ndLt h0]
                have z1 : H14 a0 = some (.lst (vzI t0)) := (r4 _ h0).1
                have z2 : CI2 H14 t0 := (r4 _ h0).2
                have z3 : (d, czI t0) ∈ gF Lt := gF_mem.mpr ⟨a0, t0, h0, rfl⟩
                have l0 := lf.len z3
                refine ⟨.ref w1, .ref a0, _, _, rfl, ltl_dp e14 c14, ltl_dp z1 z2, al2 _ _, dp2 _ _, fun hlt => ?_, fun hge => ?_⟩
                · have hlt2 := (lt_icsL (by rw [l0, cw, lw])).mp hlt
                  rw [cw] at hlt2
                  exact ⟨_, rfl, _, rfl, M, _, rfl, DPut.t (k := ick d) r1 hp14 hz100, fin a0 t0 z1 z2 (.inr z3) (fun h => ltLI_irrefl _ (ltLI_trans h hlt2)) (fun ds hds => by rw [val_uniq lf.nd hds z3]; exact ltLI_irrefl _), _, _, _, rfl⟩
                · have hge2 : ¬ ltLI (czI t0) (cs ++ [d]) := fun h => by
                    rw [← cw] at h
                    rw [(lt_icsL (by rw [l0, cw, lw])).mpr h] at hge
                    cases hge
                  exact ⟨_, rfl, _, rfl, M, _, rfl, DPut.t (k := ick d) r1 hp14 hz100, fin w1 (wt ++ [(p, d)]) e14 c14 (.inl cw) (by rw [cw]; exact ltLI_irrefl _) (fun ds hds => by rw [val_uniq lf.nd hds z3, cw]; exact hge2), _, _, _, rfl⟩
              · rw [fkv_none hdl]
                refine ⟨.ref w1, .ref w1, _, _, rfl, ltl_dp e14 c14, ltl_dp e14 c14, al2 _ _, dp2 _ _, fun hlt => absurd ((lt_icsL rfl).mp hlt) (ltLI_irrefl _), fun _ => ?_⟩
                exact ⟨_, rfl, _, rfl, M, _, rfl, DPut.t (k := ick d) r1 hp14 hz100, fin w1 (wt ++ [(p, d)]) e14 c14 (.inl cw) (by rw [cw]; exact ltLI_irrefl _) (fun ds hds => absurd (key_of_mem hds) (by rw [gF_keys]; exact hdl)), _, _, _, rfl⟩
          · have hsg : sgW rows d = 126 := Classical.byContradiction fun e => hL ((land_has vd.toGood2 _).mp (by
              have h1 := sgW_has (rows := rows) d
              rw [decide_eq_false e] at h1
              cases hh : hasC rows d.1 d.2 with
              | true => rfl
              | false => rw [hh] at h1; cases h1))
            have ez : (Str.ofString "~") = tx [126] := by decide +kernel
            refine iteF' (by rw [hsg]; show (!decide (V.str (tx [126]) = V.str (Str.ofString "~"))) = false; rw [ez, decide_eq_true rfl]; rfl) ?_
            exact ⟨skip (.inl hL), _, _, _, rfl⟩
        · rintro σ H10 ⟨inv2, v6, v7, v8, rfl⟩
          have ea : (adjL q.2).take (4 : Int).toNat = adjL q.2 := rfl
          rw [ea, ← et] at inv2
          exact ⟨inv2, _, _, _, _, rfl⟩
      · rintro σ H9 ⟨⟨Lt, t1, t2, t3, t4, t5, t6, lf, y9, T9⟩, v5, v6, v7, v8, rfl⟩
        have eZ : Zi (vzI u).length = u.flatMap fun q => (adjL q.2).map fun d => (q.2, d) := by
          show (u.take (vzI u).length).flatMap _ = _
          rw [vzI_len, List.take_length]
        rw [eZ] at lf
        have FI5 := FI4.next lf fun p hp d hd => by
          obtain ⟨q, hq, rfl⟩ := List.mem_map.mp hp
          exact List.mem_flatMap.mpr ⟨q, hup.mem_iff.mpr hq, List.mem_map.mpr ⟨d, hd, rfl⟩⟩
        have eG : gF F ++ gF Lt = gF (F ++ Lt) := by unfold gF; rw [List.map_append]
        rw [eG, gF_keys] at FI5
        have hLn := latLen lf
        have hl5 := FI5.len
        rw [show (gF (F ++ Lt)).length = (F ++ Lt).length from List.length_map .., List.length_append] at hl5
        have hFne : F ≠ [] := fun e => by rw [e] at hnF; cases hnF
        have em : mergeT (fkv F) (fkv Lt) = fkv (F ++ Lt) := mergeT_app Lt F (by rw [← gF_keys]; exact lf.nd) fun x hx => by
          have h := (lf.ent x.1 _ (gF_mem.mpr ⟨x.2.1, x.2.2, hx, rfl⟩)).2.1
          rwa [gF_keys] at h
        refine ⟨_, rfl, .inr (.inr (.inl ⟨rfl, .inr ⟨_, t2⟩⟩)), _, rfl, nilArgs ⟨D, M, fkv F, fkv Lt, rfl, rfl, t2, t1, nDM, (fun e => hFne (List.map_eq_nil_iff.mp e)), by rw [fkv_len, fkv_len]; omega, ?_⟩⟩
        rw [em]
        have keep : ∀ {a : Addr} {o : HO}, H9 a = some o → (∀ kvs, o ≠ .dT kvs) → (upd H9 D (.dT (fkv (F ++ Lt)))) a = some o := fun h hn => by
          rw [upd_ne fun e => by rw [e, t2] at h; exact hn _ (Option.some.inj h).symm]
          exact h
        have x9 : ExtN H (upd H9 D (.dT (fkv (F ++ Lt)))) := ExtN.updN (x5.trans y9) hD0
        have T9' : Tabs T (upd H9 D (.dT (fkv (F ++ Lt)))) := tabs_put t2 (fun ps e => by cases e) (fun q e => by unfold CodeO at e; cases e) T9
        have eD : (upd H9 D (.dT (fkv (F ++ Lt)))) D = some (.dT (fkv (F ++ Lt))) := upd_same
        have eM : (upd H9 D (.dT (fkv (F ++ Lt)))) M = some (.dT (fkv Lt)) := by rw [upd_ne nDM.symm]; exact t1
        have eF : FH (upd H9 D (.dT (fkv (F ++ Lt)))) (F ++ Lt) := fun x hx => by
          rcases List.mem_append.mp hx with h | h
          · exact ⟨keep (t3 x h).1 (fun kvs e => by cases e), fun y hy => keep ((t3 x h).2 y hy) (fun kvs e => by cases e)⟩
          · exact ⟨keep (t4 x h).1 (fun kvs e => by cases e), fun y hy => keep ((t4 x h).2 y hy) (fun kvs e => by cases e)⟩
        generalize upd H9 D (.dT (fkv (F ++ Lt))) = H10 at x9 T9' eD eM eF ⊢
        refine ⟨_, rfl, M, fkv Lt, (Lt.map (·.1)).map icl, rfl, eM, fkv_keys Lt, fun L p hLk hLI hp => ?_⟩
        obtain ⟨tl, eL, hC1⟩ := ti_of (H := H10) (L := L) fun q hq => by
          have h1 := hLI q hq
          have h2 : q.2 ∈ (Lt.map (·.1)).map icl := by rw [← hLk]; exact List.mem_map_of_mem hq
          obtain ⟨c0, _, e⟩ := List.mem_map.mp h2
          exact ⟨c0, e.symm, by rw [h1, ← e]; rfl⟩
        have ecz : czI tl = Lt.map (·.1) := by
          refine icl_map_inj ?_
          rw [← hLk, eL]
          unfold czI
          rw [List.map_map, List.map_map]
          rfl
        have eV : (L.map fun q => V.ref q.1) = vzI tl := by
          rw [eL, List.map_map]
          rfl
        rw [eV]
        have sE := Same.new (Same.refl H10) hp (o := .lst (vzI tl))
        have ltl : tl.length = Lt.length := by
          have := congrArg List.length ecz
          rwa [czI_len, List.length_map] at this
        rw [← ecz] at FI5
        by_cases hz : tl = []
        · exact ⟨0, by omega, p, tl, _, n + 1, _, _, _, _, _, rfl, x9.trans (Same.extN sE), T9'.ext sE, sE _ _ eD, eF.ext (Same.extN sE), upd_same, hC1.same sE, FI5, .inr ⟨hz, by rw [List.length_append]; omega, rfl⟩⟩
        · have hpos := List.length_pos_iff.mpr hz
          refine ⟨(landL rows).length + 2 - (F ++ Lt).length, by rw [List.length_append]; omega, p, tl, _, n + 1, _, _, _, _, _, rfl, x9.trans (Same.extN sE), T9'.ext sE, sE _ _ eD, eF.ext (Same.extN sE), upd_same, hC1.same sE, FI5, .inl ⟨hz, by rw [List.length_append]; omega, rfl⟩⟩
    · subst hnil
      refine iteF' rfl ?_
      exact ⟨_, rfl, k D F H5 x5 T5 hD5 hF5 (FI4.done (by omega))⟩
end
end Om

/-! the law: its names, its parts, the cells that are no land -/
namespace Om
open PySem PySem.Spec PyProof.Rows L2 LamX NdefX PySem.W
abbrev sLaw : Stmt := top 40
abbrev nLaw : List Str := ["_law_script", "_law_box", "_law_rows_here", "_law_island", "_law_cells", "_law_turn", "_law_one", "_law_routes_here", "_law_other", "_law_due", "_law_wrong", "_law_errors"]
theorem scLaw : FnScope nLaw ["_law_script"] (defScope sLaw) := ⟨rfl, rfl, rfl, by decide +kernel, rfl, by decide +kernel, by decide +kernel⟩
def turnB : List Stmt := forBody ((defBody sLaw).getD 4 noS)
def t3 : List Stmt := turnB.drop 3
def lst0 (e : Expr) : Expr := match e with
  | .List (x :: _) _ => x
  | e => e
def exE (s : Stmt) : Expr := match s with
  | .Expr e _ => e
  | _ => .Constant .none 0 ⟨0, 0, 0, 0⟩
def wB : List Stmt := forBody (t3.getD 0 noS)
def lam1 : Expr := arg0 (lst0 (asgExpr (wB.getD 0 noS)))
def lam2 : Expr := arg0 (arg0 (exE (wB.getD 1 noS)))
theorem lg1 : LamG nLaw (defScope sLaw) (lamSc lam1) [] := lamG_by (by decide +kernel)
theorem lg2 : LamG nLaw (defScope sLaw) (lamSc lam2) [] := lamG_by (by decide +kernel)
def lamQ : Str := (envOfC "law" (defScope sLaw) 0 0 .none).qual ++ "<lambda>"
def TT2 (Pt Pr : Addr) : List (Addr × Str) := [(Pt, lamQ), (Pr, qR)]
theorem tt2_1 {Pt Pr : Addr} (ne : Pt ≠ Pr) : ∀ p ∈ TT2 Pt Pr, p.1 = Pt → p.2 = lamQ := fun p hp e => by
  rcases List.mem_cons.mp hp with rfl | hp
  · rfl
  · rw [List.mem_singleton.mp hp] at e
    exact absurd e.symm ne
theorem tt2_2 {Pt Pr : Addr} (ne : Pt ≠ Pr) : ∀ p ∈ TT2 Pt Pr, p.1 = Pr → p.2 = qR := fun p hp e => by
  rcases List.mem_cons.mp hp with rfl | hp
  · exact absurd e ne
  · rw [List.mem_singleton.mp hp]
theorem tt2_m1 {Pt Pr : Addr} : (Pt, lamQ) ∈ TT2 Pt Pr := List.mem_cons_self
theorem tt2_m2 {Pt Pr : Addr} : (Pr, qR) ∈ TT2 Pt Pr := List.mem_cons_of_mem _ List.mem_cons_self
def spLaw (K : PySem.W.Frag) (Pt Pr : Addr) : Sp := fun vs H Q _ => ∃ (a : Addr) (ns : List Int), vs = [.ref a] ∧ SqL K H a (ns.map V.int) ∧ ns.length ≤ 63 ∧ H Pt = some (.tbl #[]) ∧ H Pr = some (.tbl #[]) ∧ ∀ H', Q (.bl true) H'
structure Parts (P : Program) (w : World) (K : PySem.W.Frag) (mg : Str → Option Value) (base : Heap) (CI fN pm gt : Addr) (C : Nat → Addr) (CM gE Pt Pr : Addr) (fdE : FuncData) : Prop where
  beg : Cal P w K mg base CX0 1 "_law_begun" ["_law_script"] (spBegun K)
  tak : Cal P w K mg base CX0 1 "_law_take" ["_law_box", "_law_many"] spTake
  row : Cal P w K mg base CX0 2 "_law_rows" ["_law_box", "_law_most"] spRows
  alk : Cal P w K mg base CX0 5 "_law_alike" ["_law_found", "_law_due"] (spAlike K 4)
  rts : Cal P w K mg base CX0 4 "_law_routes" ["_law_rows_here", "_law_cell"] (spRts K (TT2 Pt Pr))
  dst : Cal P w K mg base (L2.CX P w) 6 "distance" ["island", "one", "other"] (spDist2 K CI (C 6))
  rte : Cal P w K mg base (L2.CX P w) 6 "route" ["island", "one", "other"] (spRoute2 K CI (C 6))
  isl : IslF K mg CI fN
  mkI : CalM P w K mg base (L2.CX P w) 4 fN ["self", "rows"] (spIsl K CI (C 0))
  pC : PropOf K CI "cells" pm gt
  cel : CalM P w K mg base CX0 1 gt ["self"] (spICellsT K CI)
  err : ErrF K mg C CM
  FE : FnP K "_law_error" "_law_error" sErr gE fdE
  bE : Binds K fdE ["_law_work"] []
  hE : mg "_law_error" = some (.ref gE)
  ne : Pt ≠ Pr
/-! ### what a turn has at hand -/
structure GG (K : PySem.W.Frag) (CI Pt Pr : Addr) (H : Hp) (b l ra xi ce : Addr) (rows : List (List Nat)) (tc : TC) : Prop where
  B : Box H b l
  R : SqT K H ra (rows.map vt)
  I : Isl K CI H xi rows
  C : H ce = some (.lst (vz tc))
  cb : ce ≠ b ∧ ce ≠ l
  ca : CA H tc
  T : Tabs (TT2 Pt Pr) H
theorem GG.lv {K : PySem.W.Frag} {CI Pt Pr : Addr} {H H' : Hp} {b l ra xi ce : Addr} {rows : List (List Nat)} {tc : TC} (g : GG K CI Pt Pr H b l ra xi ce rows tc) (B' : Box H' b l) (T' : Tabs (TT2 Pt Pr) H') (k : Lv b l H H') : GG K CI Pt Pr H' b l ra xi ce rows tc where
  B := B'
  R := k.tup g.B g.R
  I := by
    obtain ⟨ns, z, h1, h2, _⟩ := g.B.ex
    obtain ⟨dx, p, hp, hS⟩ := g.I
    exact ⟨dx, p, k _ _ hp (fun ps e => by cases e) (ne_of hp h1 fun e => by cases e) (ne_of hp h2 fun e => by cases e), k.tup g.B hS⟩
  C := k _ _ g.C (fun ps e => by cases e) g.cb.1 g.cb.2
  cb := g.cb
  ca := fun p hp => by
    obtain ⟨ns, z, h1, h2, _⟩ := g.B.ex
    exact k _ _ (g.ca p hp) (fun ps e => by cases e) (ne_of (g.ca p hp) h1 fun e => by cases e) (ne_of (g.ca p hp) h2 fun e => by cases e)
  T := T'
section
variable {K : PySem.W.Frag} {CI Pt Pr : Addr} {H H' : Hp} {b l ra xi ce : Addr} {rows : List (List Nat)} {tc : TC}
theorem GG.same (g : GG K CI Pt Pr H b l ra xi ce rows tc) (s : Same H H') : GG K CI Pt Pr H' b l ra xi ce rows tc := g.lv (g.B.same s) (g.T.ext s) (lv_same s)
theorem GG.kp (g : GG K CI Pt Pr H b l ra xi ce rows tc) (B' : Box H' b l) (k : Kp b l H H') : GG K CI Pt Pr H' b l ra xi ce rows tc := g.lv B' (tabs_kp g.T g.B k) k.lv
theorem GG.ext (g : GG K CI Pt Pr H b l ra xi ce rows tc) (T' : Tabs (TT2 Pt Pr) H') (k : ExtN H H') : GG K CI Pt Pr H' b l ra xi ce rows tc := g.lv (g.B.ext k) T' (lv_ext k)
end
structure RF (rows : List (List Nat)) (tc : TC) : Prop where
  vd : Vd rows
  few : (cellsOf rows).length ≤ 62
  ct : cz tc = cellsOf rows
theorem RF.inl {rows : List (List Nat)} {tc : TC} (r : RF rows tc) {q : Addr × Cell} (h : q ∈ tc) : icc q.2 ∈ landL rows := by
  refine List.mem_map_of_mem (f := icc) ?_
  rw [← r.ct]
  exact List.mem_map_of_mem h
theorem RF.len {rows : List (List Nat)} {tc : TC} (r : RF rows tc) : tc.length = (cellsOf rows).length := by rw [← r.ct]; exact (List.length_map ..).symm
theorem pi_tupK {X : Cx} {K : PySem.W.Frag} {tg l : Expr} {tl : TE} (hK : X.K = K) (h : PE X l tl) : PI X tg l (iTup K tl) := by
  subst hK
  exact pi_tup h
theorem neDK2 {X : Cx} {K : PySem.W.Frag} (hK : X.K = K) (hu : X.A.units + 64 < cLine) : OpR X (compareOp .NotEq) (rNeD K) := by
  subst hK
  exact op_neD hu
/-! ### cells off the map -/
theorem offm1 (rows : List (List Nat)) : hasC rows (-1) 0 = false := by
  have h : insd rows (-1) 0 = false := by
    unfold insd inR
    rw [decide_eq_false (show ¬ (0 : Int) ≤ -1 by decide), Bool.false_and, Bool.false_and]
  unfold hasC
  rw [h, Bool.false_and]
theorem offw (r0 : List Nat) (rs : List (List Nat)) : hasC (r0 :: rs) 0 ((r0.length : Nat) : Int) = false := by
  have h : insd (r0 :: rs) 0 ((r0.length : Nat) : Int) = false := by
    unfold insd inR
    have e : decide (((r0.length : Nat) : Int) ≤ ((((r0 :: rs).headD []).length : Nat) : Int) - 1) = false := decide_eq_false (by show ¬ ((r0.length : Nat) : Int) ≤ ((r0.length : Nat) : Int) - 1; omega)
    rw [e, Bool.and_false, Bool.and_false]
  unfold hasC
  rw [h, Bool.false_and]
def uc : V := .str (nmE 6)
theorem uc_d : PyData.eqv (.list [.str (nmE 6), .str (nmE 6)]) (.list [.str "UnknownCell", .str "UnknownCell"]) = true := by decide +kernel
section
variable {P : Program} {w : World} {K : PySem.W.Frag} {mg : Str → Option Value} {base : Heap} {CI fN pm gt CM gE c Pt Pr : Addr} {C : Nat → Addr} {fdE : FuncData}
theorem law_t3 {f : Addr} (PP : Parts P w K mg base CI fN pm gt C CM gE Pt Pr fdE) (TB : TabB base mg c Pt) (glen : mg "len" = none)
    {A : Around} {outer : List Env} {s : Shared} {H0 : Hp} {E : XK} (hr : Room 8 (A.deeper (envOfC "law" (defScope sLaw) s.heap.objs.size f (.ref c)))) :
    ∃ t, PSs (cxOf CX0 P w K mg base nLaw "law" (defScope sLaw) f (.ref c) A outer s H0 E).nox t3 t ∧
      ∀ (Dn : Ends) (b l ra xi ce : Addr) (rows : List (List Nat)) (tc : TC) (q : Addr × Cell) (H : Hp) (v0 v5 v7 v8 v9 v10 v11 : Option V),
        GG K CI Pt Pr H b l ra xi ce rows tc → RF rows tc → q ∈ tc →
        (∀ H' v10 v11, GG K CI Pt Pr H' b l ra xi ce rows tc → Dn.nx [v0, some (.ref b), some (.ref ra), some (.ref xi), some (.ref ce), v5, some (.ref q.1), v7, v8, v9, v10, v11] H') →
        t Dn [v0, some (.ref b), some (.ref ra), some (.ref xi), some (.ref ce), v5, some (.ref q.1), v7, v8, v9, v10, v11] H := by
  obtain ⟨ocE, odE, dE, kE, docE, pmE, anE, cdE, ctE, oslE, rfl, lkE, hcE, _, _⟩ := PP.FE.ex
  have nd := scLaw.nd
  have hr3 : Room 3 _ := hr.mono (by decide)
  have hu0 := hr.units
  have hu := tt2_1 PP.ne
  have hm := tt2_m1 (Pt := Pt) (Pr := Pr)
  refine ⟨_, pss_one (ps_for PassesOwn.never rfl (pi_tupK (K := K) rfl (pe_tup (pa_cons (pe_tup (pa_cons (pe_un un_neg pe_int) (pa_cons pe_int pa_nil))) (pa_cons (pe_tup (pa_cons pe_int (pa_cons (pe_callB call_len_str (by rfl) glen PySem.boot_len (pa_cons (pe_ix ix_tup (pv 2) pe_int (fun _ _ => rfl)) pa_nil)) pa_nil))) pa_nil)))) (pg_name (i := 10) nd rfl (.inr rfl))
    (pss_cons (ps_set (i := 11) nd rfl (.inl rfl) (pe_lst (pa_cons (pe_lamG0 (T := TT2 Pt Pr) (TT := TErr C) (k := 6) rfl PP.hE PP.FE.kp lkE hcE PP.bE scErr rfl (.inl rfl) (err_gives PP.err) TB rfl hm hu hr hr3 lg1 rfl (fun _ _ _ _ _ => rfl)
        (fun A outer s H E f c' hrb => pe_cal PP.dst hrb (passes_call (W := fun cls d _ H => E cls d H) (takes_of rfl rfl rfl rfl) fun _ _ _ _ h => h) (pa_cons (pv 3) (pa_cons (pv 6) (pa_cons (pv 10) pa_nil))))) pa_nil)))
    (pss_cons (ps_expr (pe_bm PySem.F.plainAttrs_list PySem.F.slot_list_append PySem.F.type_list_append mt_append (pv 11) (pa_cons (pe_lamG0 (T := TT2 Pt Pr) (TT := TErr C) (k := 6) rfl PP.hE PP.FE.kp lkE hcE PP.bE scErr rfl (.inl rfl) (err_gives PP.err) TB rfl hm hu hr hr3 lg2 rfl (fun _ _ _ _ _ => rfl)
        (fun A outer s H E f c' hrb => pe_cal PP.rte hrb (passes_call (W := fun cls d _ H => E cls d H) (takes_of rfl rfl rfl rfl) fun _ _ _ _ h => h) (pa_cons (pv 3) (pa_cons (pv 10) (pa_cons (pv 6) pa_nil))))) pa_nil)))
    (pss_one (ps_if (pt_cmpR (neDK2 (K := K) rfl hu0) (pv 11) (pe_op op_rep (pe_lst (pa_cons pe_str pa_nil)) pe_int) (nomark _)) pss_no pss_nil))))), ?_⟩
  intro Dn b l ra xi ce rows tc q H v0 v5 v7 v8 v9 v10 v11 g r mq kn
  obtain ⟨r0, rs, hrs⟩ : ∃ r0 rs, rows = r0 :: rs := by
    cases rows with
    | nil => exact absurd rfl r.vd.toGood2.toShp.ne
    | cons r0 rs => exact ⟨r0, rs, rfl⟩
  have hr0 : (tx r0).length ≤ sizeLine := by rw [tx_len]; exact small_le (r.vd.toGood2.toShp.row r0 (by rw [hrs]; exact List.mem_cons_self ..))
  have hat0 : atI (rows.map vt) 0 = some (vt r0) := by rw [hrs]; exact at0
  have hoffw : hasC rows 0 ((r0.length : Nat) : Int) = false := by rw [hrs]; exact offw r0 rs
  -- the two cells
  refine ⟨_, rfl, by show 2 ≤ sizeLine; decide, fun p1 hp1 => ?_⟩
  have ev : ((fun i : Int => V.int (-i)) 1 : V) = V.int (-1) := rfl
  rw [ev]
  have s1 := Same.new (Same.refl H) hp1 (o := .tup [.int (-1), .int 0])
  have e1 : (upd H p1 (.tup [.int (-1), .int 0])) p1 = some (.tup (icv (-1, 0))) := upd_same
  have g1 := g.same s1
  generalize upd H p1 (.tup [.int (-1), .int 0]) = H1 at s1 e1 g1 ⊢
  refine ⟨_, rfl, ra, _, 0, _, rfl, rfl, g1.R, hat0, _, rfl, hr0, by show 2 ≤ sizeLine; decide, fun p2 hp2 => ?_⟩
  rw [tx_len]
  have s2 := Same.new (Same.refl H1) hp2 (o := .tup [.int 0, .int ((r0.length : Nat) : Int)])
  have e2 : (upd H1 p2 (.tup [.int 0, .int ((r0.length : Nat) : Int)])) p2 = some (.tup (icv (0, ((r0.length : Nat) : Int)))) := upd_same
  have e21 := s2 _ _ e1
  have g2 := g1.same s2
  generalize upd H1 p2 (.tup [.int 0, .int ((r0.length : Nat) : Int)]) = H2 at s2 e2 e21 g2 ⊢
  refine ⟨by show 2 ≤ sizeLine; decide, fun p3 hp3 => ?_⟩
  have s3 := Same.new (Same.refl H2) hp3 (o := .tup [.ref p1, .ref p2])
  have e3 : (upd H2 p3 (.tup [.ref p1, .ref p2])) p3 = some (.tup [.ref p1, .ref p2]) := upd_same
  have e31 := s3 _ _ e21
  have e32 := s3 _ _ e2
  have g3 := g2.same s3
  generalize upd H2 p3 (.tup [.ref p1, .ref p2]) = H3 at s3 e3 e31 e32 g3 ⊢
  refine ⟨p3, rfl, ⟨_, .inl (.inl e3)⟩, ?_⟩
  refine for_tup (K := K) (a := p3) (xs := [.ref p1, .ref p2]) (fun i σ H' => GG K CI Pt Pr H' b l ra xi ce rows tc ∧ H' p3 = some (.tup [.ref p1, .ref p2]) ∧ H' p1 = some (.tup (icv (-1, 0))) ∧ H' p2 = some (.tup (icv (0, ((r0.length : Nat) : Int)))) ∧ ∃ v10 v11, σ = [v0, some (.ref b), some (.ref ra), some (.ref xi), some (.ref ce), v5, some (.ref q.1), v7, v8, v9, v10, v11])
    ⟨g3, e3, e31, e32, _, _, rfl⟩ (fun i σ H' _ z => .inl (.inl z.2.1)) ?_ ?_
  · rintro i x σ H4 hx ⟨g4, k3, k1, k2, v10, v11, rfl⟩
    obtain ⟨pw, cw, rfl, hpw, hoff⟩ : ∃ (pw : Addr) (cw : IC), x = .ref pw ∧ H4 pw = some (.tup (icv cw)) ∧ hasC rows cw.1 cw.2 = false := by
      match i, hx with
      | 0, hx => cases hx; exact ⟨p1, _, rfl, k1, offm1 rows⟩
      | 1, hx => cases hx; exact ⟨p2, _, rfl, k2, hoffw⟩
      | _ + 2, hx => cases hx
    refine ⟨g4.T, fun H5 eN5 T5 => ?_⟩
    unfold TErr
    have g5 := g4.ext T5 eN5
    have y5 := eN5
    refine ⟨_, rfl, _, rfl, _, rfl, nilArgs ⟨xi, q.1, pw, rows, icc q.2, cw, rfl, g5.I, r.vd, r.few, g5.ca q mq, y5 _ _ hpw (fun ps e => by cases e), .inl ⟨.inr hoff, ErrOut.other (j := 6) (by decide) (by decide) fun H6 s6 => ?_⟩⟩⟩
    have g6 := g5.same s6
    have y6 := y5.trans (Same.extN s6)
    refine ⟨by show 1 ≤ sizeLine; decide, fun le hle => ?_⟩
    have s7 := Same.new (Same.refl H6) hle (o := .lst [.str (nmE 6)])
    have e7 : (upd H6 le (.lst [.str (nmE 6)])) le = some (.lst [.str (nmE 6)]) := upd_same
    have g7 := g6.same s7
    have y7 := y6.trans (Same.extN s7)
    generalize upd H6 le (.lst [.str (nmE 6)]) = H7 at s7 e7 g7 y7 ⊢
    refine ⟨_, rfl, .inl ⟨rfl, _, .inl (.inl e7)⟩, g7.T, fun H8 eN8 T8 => ?_⟩
    have g8 := g7.ext T8 eN8
    have y8 := y7.trans eN8
    have e8 := eN8 _ _ e7 (fun ps e => by cases e)
    refine ⟨_, rfl, _, rfl, _, rfl, nilArgs ⟨xi, pw, q.1, rows, cw, icc q.2, rfl, g8.I, r.vd, r.few, y8 _ _ hpw (fun ps e => by cases e), g8.ca q mq, .inl ⟨.inl hoff, ErrOut.other (j := 6) (by decide) (by decide) fun H9 s9 => nilArgs ?_⟩⟩⟩
    have g9 := g8.same s9
    have y9 := y8.trans (Same.extN s9)
    have e9 := s9 _ _ e8
    refine ⟨le, _, _, rfl, rfl, e9, by show 1 < sizeLine; decide, ?_⟩
    have y69 : ExtN H6 (upd H9 le (.lst ([.str (nmE 6)] ++ [.str (nmE 6)]))) := ExtN.updN (((Same.extN s7).trans eN8).trans (Same.extN s9)) hle
    have T10 : Tabs (TT2 Pt Pr) (upd H9 le (.lst ([.str (nmE 6)] ++ [.str (nmE 6)]))) := tabs_put e9 (fun ps e => by cases e) (fun q e => by unfold CodeO at e; cases e) g9.T
    have e10 : (upd H9 le (.lst ([.str (nmE 6)] ++ [.str (nmE 6)]))) le = some (.lst [.str (nmE 6), .str (nmE 6)]) := upd_same
    generalize upd H9 le (.lst ([.str (nmE 6)] ++ [.str (nmE 6)])) = H10 at y69 T10 e10 ⊢
    have g10 := g6.ext T10 y69
    have y10 := y6.trans y69
    refine ⟨_, rfl, by show 1 ≤ sizeLine; decide, fun l2 hl2 => ?_⟩
    have s11 := Same.new (Same.refl H10) hl2 (o := .lst [.str (Str.ofString "UnknownCell")])
    have e11 : (upd H10 l2 (.lst [.str (Str.ofString "UnknownCell")])) l2 = some (.lst [.str (Str.ofString "UnknownCell")]) := upd_same
    generalize upd H10 l2 (.lst [.str (Str.ofString "UnknownCell")]) = H11 at s11 e11 ⊢
    refine ⟨l2, 2, _, rfl, rfl, e11, by decide, by decide, by show 2 ≤ sizeLine; decide, fun l3 hl3 => ?_⟩
    have s12 := s11.trans (Same.new (Same.refl H11) hl3 (o := .lst [.str (Str.ofString "UnknownCell"), .str (Str.ofString "UnknownCell")]))
    have e12 : (upd H11 l3 (.lst [.str (Str.ofString "UnknownCell"), .str (Str.ofString "UnknownCell")])) l3 = some (.lst [.str (Str.ofString "UnknownCell"), .str (Str.ofString "UnknownCell")]) := upd_same
    have er : (List.replicate (2 : Int).toNat [V.str (Str.ofString "UnknownCell")]).flatten = [.str (Str.ofString "UnknownCell"), .str (Str.ofString "UnknownCell")] := rfl
    rw [er]
    generalize upd H11 l3 (.lst [.str (Str.ofString "UnknownCell"), .str (Str.ofString "UnknownCell")]) = H12 at s12 e12 ⊢
    refine ⟨.list [.str (nmE 6), .str (nmE 6)], .list [.str (Str.ofString "UnknownCell"), .str (Str.ofString "UnknownCell")], .lst (.inl (.inl (s12 _ _ e10))) (.cons (.str _) (.cons (.str _) .nil)), .lst (.inl (.inl e12)) (.cons (.str _) (.cons (.str _) .nil)), by decide +kernel, by decide +kernel, _, rfl, iteF' (by rw [uc_d]; rfl) ?_⟩
    have g12 := g10.same s12
    have y12 := y10.trans (Same.extN s12)
    exact ⟨g12, y12 _ _ k3 (fun ps e => by cases e), y12 _ _ k1 (fun ps e => by cases e), y12 _ _ k2 (fun ps e => by cases e), _, _, rfl⟩
  · rintro σ H4 ⟨g4, _, _, _, v10, v11, rfl⟩
    exact kn H4 _ _ g4
end
end Om

/-! the law: a turn -/
namespace Om
open PySem PySem.Spec PyProof.Rows L2 LamX NdefX PySem.W
theorem tC_in {v : V} {σ : L2.St} {H : Hp} {Q : VK} (h : Q v H) : tC v σ H Q := h
def t2 : List Stmt := turnB.drop 2
theorem Dst.dp {L : List IC} {b c : IC} {v : V} (h : Dst L b c v) : ∃ d : PyData, (∀ (K : PySem.W.Frag) (H : Hp), Dp K H v d) ∧ okD 4 d = true ∧ SeqAt.shaped d = true ∧ PyData.eqv d d = true := by
  rcases h with ⟨m, rfl, _⟩ | ⟨rfl, _⟩
  · exact ⟨.int (m : Nat), fun _ _ => .int _, rfl, shaped_of (by simp [PyData.canLay0]) (by simp [PyData.depth]), by simp [PyData.eqv]⟩
  · exact ⟨.none, fun _ _ => .non, rfl, shaped_of (by simp [PyData.canLay0]) (by simp [PyData.depth]), by simp [PyData.eqv]⟩
/-- what the law's table says of a cell -/
def Due (H : Hp) (L : List IC) (b c : IC) (dv : V) : Prop := (∃ (a : Addr) (t : TI) (m : Nat), dv = .ref a ∧ H a = some (.lst (vzI t)) ∧ CI2 H t ∧ t.length = m + 1 ∧ t.length ≤ 1000 ∧ LstW L b m c (czI t) ∧ ∀ k ws, Wy L b k c ws → m ≤ k) ∨ (dv = .non ∧ ∀ k ws, ¬ Wy L b k c ws)
theorem Due.same {H H' : Hp} {L : List IC} {b c : IC} {dv : V} (h : Due H L b c dv) (s : Same H H') : Due H' L b c dv := by
  rcases h with ⟨a, t, m, rfl, h1, h2, h3⟩ | h
  · exact .inl ⟨a, t, m, rfl, s _ _ h1, h2.same s, h3⟩
  · exact .inr h
theorem due_of {H : Hp} {L : List IC} {b c : IC} {F : FL} (R : RInv L b (gF F)) (hF : FH H F) : Due H L b c ((valV (fkv F) (ick c)).getD .non) := by
  have nd : (F.map (·.1)).Nodup := by rw [← gF_keys]; exact R.nd
  by_cases h : c ∈ F.map (·.1)
  · obtain ⟨⟨a, t⟩, h1⟩ := mem_of_key h
    rw [fkv_some nd h1]
    have h2 : (c, czI t) ∈ gF F := gF_mem.mpr ⟨a, t, h1, rfl⟩
    obtain ⟨m, lw, hmin⟩ := R.lst c _ h2
    exact .inl ⟨a, t, m, rfl, (hF _ h1).1, (hF _ h1).2, by rw [← czI_len]; exact lw.w.len, by rw [← czI_len]; exact R.few c _ h2, lw, hmin⟩
  · rw [fkv_none h]
    exact .inr ⟨rfl, fun k ws w => h (by rw [← gF_keys]; exact R.all k c ws w)⟩
section
variable {P : Program} {w : World} {K : PySem.W.Frag} {mg : Str → Option Value} {base : Heap} {CI fN pm gt CM gE c Pt Pr : Addr} {C : Nat → Addr} {fdE : FuncData}
theorem law_t2 {f : Addr} (PP : Parts P w K mg base CI fN pm gt C CM gE Pt Pr fdE) (TB : TabB base mg c Pt) (glen : mg "len" = none)
    {A : Around} {outer : List Env} {s : Shared} {H0 : Hp} {E : XK} (hr : Room 8 (A.deeper (envOfC "law" (defScope sLaw) s.heap.objs.size f (.ref c)))) :
    ∃ t, PSs (cxOf CX0 P w K mg base nLaw "law" (defScope sLaw) f (.ref c) A outer s H0 E).nox t2 t ∧
      ∀ (Dn : Ends) (b l ra xi ce : Addr) (rows : List (List Nat)) (tc : TC) (q : Addr × Cell) (D : Addr) (F : FL) (H : Hp) (v0 v5 v8 v9 v10 v11 : Option V),
        GG K CI Pt Pr H b l ra xi ce rows tc → RF rows tc → q ∈ tc → H D = some (.dT (fkv F)) → FH H F → RInv (landL rows) (icc q.2) (gF F) →
        (∀ H' v8 v9 v10 v11, GG K CI Pt Pr H' b l ra xi ce rows tc → Dn.nx [v0, some (.ref b), some (.ref ra), some (.ref xi), some (.ref ce), v5, some (.ref q.1), some (.ref D), v8, v9, v10, v11] H') →
        t Dn [v0, some (.ref b), some (.ref ra), some (.ref xi), some (.ref ce), v5, some (.ref q.1), some (.ref D), v8, v9, v10, v11] H := by
  obtain ⟨t3', q3, r3⟩ := law_t3 (f := f) (H0 := H0) (E := E) (s := s) (A := A) (outer := outer) PP TB glen hr
  have nd := scLaw.nd
  have hr5 : Room 5 _ := hr.mono (by decide)
  have hr6 : Room 6 _ := hr.mono (by decide)
  have hu0 := hr.units
  have hu1 : _ + 1 < cLine := Nat.lt_of_le_of_lt (Nat.add_le_add_left (show 1 ≤ 64 by decide) _) hu0
  refine ⟨_, pss_cons (ps_for PassesOwn.never rfl (pi_listK (K := K) rfl (pv 4)) (pg_name (i := 8) nd rfl (.inl rfl))
    (pss_cons (ps_set (i := 9) nd rfl (.inl rfl) (pe_dget2 hu1 (pv 7) (pv 8) pe_non ⟨rfl, rfl, rfl, rfl⟩))
    (pss_cons (ps_if (pt_not (pt_val (pe_cal PP.alk hr5 pass0 (pa_cons (pe_cal PP.dst hr6 passE0 (pa_cons (pv 3) (pa_cons (pv 6) (pa_cons (pv 8) pa_nil)))) (pa_cons (pe_ifExp (pt_cmpR op_notN (pv 9) pe_non (nomark _)) (pe_op op_sub (pe_callB call_len_seq (by rfl) glen PySem.boot_len (pa_cons (pv 9) pa_nil)) pe_int) pe_non) pa_nil))))) pss_no pss_nil)
    (pss_cons (ps_if (pt_not (pt_val (pe_cal PP.alk hr5 pass0 (pa_cons (pe_cal PP.rte hr6 passE0 (pa_cons (pv 3) (pa_cons (pv 6) (pa_cons (pv 8) pa_nil)))) (pa_cons (pv 9) pa_nil))))) pss_no pss_nil)
    (pss_one (ps_if (pt_cmpR (neDK2 (K := K) rfl hu0) (pe_cal PP.dst hr6 passE0 (pa_cons (pv 3) (pa_cons (pv 8) (pa_cons (pv 6) pa_nil)))) (pe_cal PP.dst hr6 passE0 (pa_cons (pv 3) (pa_cons (pv 6) (pa_cons (pv 8) pa_nil)))) (nomark _)) pss_no pss_nil))))))
    q3, ?_⟩
  intro Dn b l ra xi ce rows tc q D F H v0 v5 v8 v9 v10 v11 g r mq hD hF R kn
  have hb := r.inl mq
  refine ⟨_, rfl, ce, rfl, ⟨_, .inl (.inl g.C)⟩, ?_⟩
  refine for_list (K := K) (a := ce) (xs := vz tc) (fun i σ H' => GG K CI Pt Pr H' b l ra xi ce rows tc ∧ H' D = some (.dT (fkv F)) ∧ FH H' F ∧ ∃ v8 v9, σ = [v0, some (.ref b), some (.ref ra), some (.ref xi), some (.ref ce), v5, some (.ref q.1), some (.ref D), v8, v9, v10, v11])
    ⟨g, hD, hF, _, _, rfl⟩ (fun i σ H' _ z => .inl (.inl z.1.C)) ?_ ?_
  · rintro i x σ H1 hx ⟨g1, hD1, hF1, v8, v9, rfl⟩
    obtain ⟨y, my, rfl⟩ := List.mem_map.mp (show x ∈ tc.map (fun p => V.ref p.1) from List.mem_of_getElem? hx)
    have hc := r.inl my
    refine ⟨_, rfl, D, rfl, .inr ⟨_, .inl hD1⟩, _, rfl, _, DGet.t (k := ick (icc y.2)) hD1 (g1.ca y my), ?_⟩
    have due1 := due_of (c := icc y.2) R hF1
    generalize (valV (fkv F) (ick (icc y.2))).getD V.non = dv at due1 ⊢
    -- the distance
    refine ⟨_, rfl, _, rfl, _, rfl, nilArgs ⟨xi, q.1, y.1, rows, icc q.2, icc y.2, rfl, g1.I, r.vd, r.few, g1.ca q mq, g1.ca y my, .inr ⟨hb, hc, fun kvs pc H2 s2 => ?_⟩⟩⟩
    have hd2 : Dst (landL rows) (icc q.2) (icc y.2) (dV kvs (icc y.2)) := pc.dst
    generalize dV kvs (icc y.2) = dd at hd2 ⊢
    have g2 := g1.same s2
    have due2 := due1.same s2
    have hF2 := hF1.ext (Same.extN s2)
    have hD2 := s2 _ _ hD1
    obtain ⟨dt, e1, e2, e3, e4⟩ := hd2.dp
    -- the route, the way back
    have back : ∀ (H3 : Hp) (G : Prop), Same H2 H3 → (GG K CI Pt Pr H3 b l ra xi ce rows tc → H3 D = some (.dT (fkv F)) → FH H3 F → G) → G := fun H3 G s3 k => k (g2.same s3) (s3 _ _ hD2) (hF2.ext (Same.extN s3))
    have eqB : ∀ {v w : V}, Dst (landL rows) (icc y.2) (icc q.2) v → Dst (landL rows) (icc q.2) (icc y.2) w → v = w := fun h k => (h.symm hc hb).uniq k
    rcases due2 with ⟨a, t, m, rfl, h1, h2, hl, hl3, lw, hmin⟩ | ⟨rfl, hno⟩
    · have edd : dd = .int (m : Nat) := hd2.uniq (.inl ⟨m, rfl, ⟨_, lw.w⟩, hmin⟩)
      refine ⟨_, rfl, rfl, _, rfl, iteT' rfl ?_⟩
      refine ⟨_, rfl, a, _, rfl, .inl (.inl (.inl h1)), _, _, rfl, rfl, nilArgs ⟨dd, _, dt, rfl, e1 K H2, ?_, e2, true, rfl, iteF' rfl ?_⟩⟩
      · have ev : V.int (((vzI t).length : Nat) - 1) = dd := by
          rw [edd, vzI_len, hl]
          congr 1
          omega
        show Dp K H2 (V.int (((vzI t).length : Nat) - 1)) dt
        rw [ev]
        exact e1 K H2
      refine ⟨_, rfl, _, rfl, _, rfl, nilArgs ⟨xi, q.1, y.1, rows, icc q.2, icc y.2, rfl, g2.I, r.vd, r.few, g2.ca q mq, g2.ca y my, .inr ⟨hb, hc, fun hn => absurd (Rch.symm hb ⟨m, lw.w.pth⟩) hn, fun Dr tr m0 H3 _ s3 k1 k2 k3 k4 => ?_⟩⟩⟩
      have em : m0 = m := Nat.le_antisymm (k4 _ _ lw.w) (hmin _ _ k3.w)
      subst em
      have et : czI tr = czI t := k3.uniq lw
      have ltr : (czI tr).length ≤ 10000 := by
        rw [et, czI_len]
        omega
      have g3 := g2.same s3
      have hD3 := s3 _ _ hD2
      have hF3 := hF2.ext (Same.extN s3)
      refine ⟨_, rfl, nilArgs ⟨_, _, _, rfl, ltl_dp k1 k2, by rw [et]; exact ltl_dp (s3 _ _ h1) (h2.same s3), okD_ics ltr 1, true, rfl, iteF' rfl ?_⟩⟩
      refine ⟨_, rfl, _, rfl, _, rfl, nilArgs ⟨xi, y.1, q.1, rows, icc y.2, icc q.2, rfl, g3.I, r.vd, r.few, g3.ca y my, g3.ca q mq, .inr ⟨hc, hb, fun kvs1 pc1 H4 s4 => ?_⟩⟩⟩
      have hd4 : Dst (landL rows) (icc y.2) (icc q.2) (dV kvs1 (icc q.2)) := pc1.dst
      have g4 := g3.same s4
      refine ⟨_, rfl, _, rfl, _, rfl, nilArgs ⟨xi, q.1, y.1, rows, icc q.2, icc y.2, rfl, g4.I, r.vd, r.few, g4.ca q mq, g4.ca y my, .inr ⟨hb, hc, fun kvs2 pc2 H5 s5 => ?_⟩⟩⟩
      have hd5 : Dst (landL rows) (icc q.2) (icc y.2) (dV kvs2 (icc y.2)) := pc2.dst
      rw [eqB hd4 hd5]
      obtain ⟨dt5, f1, _, f3, f4⟩ := hd5.dp
      refine ⟨dt5, dt5, f1 K H5, f1 K H5, f3, f3, _, rfl, iteF' (by rw [f4]; rfl) ?_⟩
      exact ⟨g4.same s5, (s4.trans s5) _ _ hD3, hF3.ext (Same.extN (s4.trans s5)), _, _, rfl⟩
    · have edd : dd = .non := hd2.uniq (.inr ⟨rfl, hno⟩)
      subst edd
      refine ⟨_, rfl, rfl, _, rfl, iteF' rfl ?_⟩
      refine tC_in (nilArgs ⟨.non, .non, .none, rfl, .non, .non, rfl, true, rfl, iteF' rfl ?_⟩)
      refine ⟨_, rfl, _, rfl, _, rfl, nilArgs ⟨xi, q.1, y.1, rows, icc q.2, icc y.2, rfl, g2.I, r.vd, r.few, g2.ca q mq, g2.ca y my, .inr ⟨hb, hc, fun hn H3 s3 => ?_, fun Dr tr m0 H3 _ s3 k1 k2 k3 k4 => absurd k3.w (hno _ _)⟩⟩⟩
      have g3 := g2.same s3
      have hD3 := s3 _ _ hD2
      have hF3 := hF2.ext (Same.extN s3)
      refine ⟨_, rfl, nilArgs ⟨.non, .non, .none, rfl, .non, .non, rfl, true, rfl, iteF' rfl ?_⟩⟩
      refine ⟨_, rfl, _, rfl, _, rfl, nilArgs ⟨xi, y.1, q.1, rows, icc y.2, icc q.2, rfl, g3.I, r.vd, r.few, g3.ca y my, g3.ca q mq, .inr ⟨hc, hb, fun kvs1 pc1 H4 s4 => ?_⟩⟩⟩
      have hd4 : Dst (landL rows) (icc y.2) (icc q.2) (dV kvs1 (icc q.2)) := pc1.dst
      have g4 := g3.same s4
      refine ⟨_, rfl, _, rfl, _, rfl, nilArgs ⟨xi, q.1, y.1, rows, icc q.2, icc y.2, rfl, g4.I, r.vd, r.few, g4.ca q mq, g4.ca y my, .inr ⟨hb, hc, fun kvs2 pc2 H5 s5 => ?_⟩⟩⟩
      have hd5 : Dst (landL rows) (icc q.2) (icc y.2) (dV kvs2 (icc y.2)) := pc2.dst
      rw [eqB hd4 hd5]
      obtain ⟨dt5, f1, _, f3, f4⟩ := hd5.dp
      refine ⟨dt5, dt5, f1 K H5, f1 K H5, f3, f3, _, rfl, iteF' (by rw [f4]; rfl) ?_⟩
      exact ⟨g4.same s5, (s4.trans s5) _ _ hD3, hF3.ext (Same.extN (s4.trans s5)), _, _, rfl⟩
  · rintro σ H1 ⟨g1, _, _, v8, v9, rfl⟩
    exact r3 _ b l ra xi ce rows tc q H1 _ _ _ _ _ _ _ g1 r mq fun H' v10 v11 g' => kn H' _ _ _ _ g'
end
end Om

/-! the law -/
namespace Om
open PySem PySem.Spec PyProof.Rows L2 LamX NdefX PySem.W
theorem Box.free {b l D : Addr} {H : Hp} (B : Box H b l) (h : H D = none) : D ≠ b ∧ D ≠ l := by
  obtain ⟨ns, z, k1, k2, k3⟩ := B.ex
  exact ⟨(fun e => by rw [e, k1] at h; cases h), (fun e => by rw [e, k2] at h; cases h)⟩
section
variable {P : Program} {w : World} {K : PySem.W.Frag} {mg : Str → Option Value} {base : Heap} {CI fN pm gt CM gE c Pt Pr : Addr} {C : Nat → Addr} {fdE : FuncData}
theorem law_turn {f : Addr} (PP : Parts P w K mg base CI fN pm gt C CM gE Pt Pr fdE) (TB : TabB base mg c Pt) (glen : mg "len" = none)
    {A : Around} {outer : List Env} {s : Shared} {H0 : Hp} {E : XK} (hr : Room 8 (A.deeper (envOfC "law" (defScope sLaw) s.heap.objs.size f (.ref c)))) :
    ∃ t, PSs (cxOf CX0 P w K mg base nLaw "law" (defScope sLaw) f (.ref c) A outer s H0 E).nox turnB t ∧
      ∀ (Dn : Ends) (b l ra xi ce : Addr) (rows : List (List Nat)) (tc : TC) (H : Hp) (v0 v5 v6 v7 v8 v9 v10 v11 : Option V),
        GG K CI Pt Pr H b l ra xi ce rows tc → RF rows tc → tc ≠ [] →
        (∀ H' v6 v7 v8 v9 v10 v11, GG K CI Pt Pr H' b l ra xi ce rows tc → Dn.nx [v0, some (.ref b), some (.ref ra), some (.ref xi), some (.ref ce), v5, v6, v7, v8, v9, v10, v11] H') →
        t Dn [v0, some (.ref b), some (.ref ra), some (.ref xi), some (.ref ce), v5, v6, v7, v8, v9, v10, v11] H := by
  obtain ⟨t2', q2, r2⟩ := law_t2 (f := f) (H0 := H0) (E := E) (s := s) (A := A) (outer := outer) PP TB glen hr
  have nd := scLaw.nd
  have hr1 : Room 1 _ := hr.mono (by decide)
  have hr4 : Room 4 _ := hr.mono (by decide)
  refine ⟨_, pss_cons (ps_set (i := 6) nd rfl (.inr rfl) (pe_ix ix_list (pv 4) (pe_cal PP.tak hr1 pass0 (pa_cons (pv 1) (pa_cons (pe_callB call_len_seq (by rfl) glen PySem.boot_len (pa_cons (pv 4) pa_nil)) pa_nil))) (fun _ _ => rfl)))
    (pss_cons (ps_set (i := 7) nd rfl (.inl rfl) (pe_cal PP.rts hr4 pass0 (pa_cons (pv 2) (pa_cons (pv 6) pa_nil)))) q2), ?_⟩
  intro Dn b l ra xi ce rows tc H v0 v5 v6 v7 v8 v9 v10 v11 g r hne kn
  have hpos : 0 < tc.length := List.length_pos_iff.mpr hne
  have hmax : tc.length ≤ 62 := by rw [r.len]; exact r.few
  refine ⟨_, rfl, _, rfl, _, rfl, ce, _, rfl, .inl (.inl (.inl g.C)), b, l, _, rfl, g.B, by rw [vz_len]; omega, by rw [vz_len]; omega, fun n1 H1 b1 b2 B1 K1 => ?_⟩
  have g1 := g.kp B1 K1
  rw [vz_len] at b2
  obtain ⟨q, mq, e1⟩ := pickC b1 b2
  refine ⟨ce, _, n1, _, rfl, rfl, .inl (.inl g1.C), e1, ?_⟩
  refine ⟨_, rfl, _, rfl, nilArgs ⟨ra, q.1, rows, icc q.2, rfl, g1.R, r.vd, r.few, g1.ca q mq, g1.T, fun D F H2 x2 T2 hD hF R => ?_⟩⟩
  have g2 := g1.ext T2 x2
  exact r2 _ b l ra xi ce rows tc q D F H2 _ _ _ _ _ _ g2 r mq hD hF R fun H' v8 v9 v10 v11 g' => kn H' _ _ _ _ _ _ g'
theorem ok_law {f : Addr} {fd : FuncData} (F : FnP K "law" "law" sLaw f fd) (hcd : ∀ cd, fd.code = cd → cd = .ref c) (PP : Parts P w K mg base CI fN pm gt C CM gE Pt Pr fdE) (TB : TabB base mg c Pt) (glen : mg "len" = none) (gint : mg "int" = none) (grange : mg "range" = none) :
    FnOk P w K mg base CX0 9 f fd ["_law_script"] (spLaw K Pt Pr) := by
  obtain ⟨oc, od, dV, kV, doc, pm', an, cdv, ct, osl, rfl, lk, hcdv, _, _⟩ := F.ex
  obtain rfl : cdv = .ref c := hcd _ rfl
  obtain ⟨fI, GI, bI⟩ := PP.mkI.ex
  obtain ⟨fC, GC, bC⟩ := PP.cel.ex
  refine fn_of (k := 8) lk hcdv scLaw (fun vs H Q E h => ?_) (fun A outer s H vs Q E hr h => ?_)
  · obtain ⟨a, ns, rfl, _⟩ := h
    rfl
  · obtain ⟨a, ns, rfl, hS, hlen, hP1, hP2, k⟩ := h
    have nd := scLaw.nd
    have hr1 : Room 1 _ := hr.mono (by decide)
    have hr2 : Room 2 _ := hr.mono (by decide)
    have hr5 : Room 5 _ := hr.mono (by decide)
    obtain ⟨tT, qT, rT⟩ := law_turn (f := f) (H0 := H) (E := E) (s := s) (A := A) (outer := outer) PP TB glen hr
    refine ⟨_, PSs.nox (pss_cons (ps_set (i := 1) nd rfl (.inl rfl) (pe_cal PP.beg hr1 pass0 (pa_cons (pv 0) pa_nil)))
      (pss_cons (ps_set (i := 2) nd rfl (.inl rfl) (pe_cal PP.row hr2 pass0 (pa_cons (pv 1) (pa_cons pe_int pa_nil))))
      (pss_cons (ps_set (i := 3) nd rfl (.inr rfl) (pe_make PP.isl.made GI hr5 rfl PP.isl.gI bI .nil passE0 (pa_cons (pv 2) pa_nil)))
      (pss_cons (ps_set (i := 4) nd rfl (.inl rfl) (pe_prop (pv 3) PP.isl.cl PP.pC GC hr2 bC .nil pass0 rfl))
      (pss_cons (ps_for PassesOwn.never rfl (pi_range1 rfl grange (pa_cons (pe_op op_mul pe_int (pe_callTy call_int1 (by rfl) gint boot_int (pa_cons (pe_cmpR (op_neD hr.units) (pv 4) (pe_lst pa_nil) (nomark _)) pa_nil))) pa_nil)) (pg_name (i := 5) nd rfl (.inl rfl)) qT)
      (pss_one (ps_ret pe_bl))))))), ?_⟩
    -- the box, the rows
    refine ⟨_, rfl, nilArgs ?_⟩
    refine ⟨a, ns, rfl, hS, hlen, fun b l H1 nb nl s1 B1 => ?_⟩
    have T1 : Tabs (TT2 Pt Pr) H1 := fun p hp => by
      rcases List.mem_cons.mp hp with rfl | hp
      · exact TabS.nil (s1 _ _ hP1)
      · rw [List.mem_singleton.mp hp]
        exact TabS.nil (s1 _ _ hP2)
    refine ⟨_, rfl, b, l, 6, rfl, B1, by decide, by decide, fun ra rows H2 ok hra hR B2 K2 => ?_⟩
    have T2 := tabs_kp T1 B1 K2
    have R2 : SqT K H2 ra (rows.map vt) := .inl (.inl hR)
    -- the island and its cells
    refine ⟨_, rfl, nilArgs ?_⟩
    intro xi dxi hxi hdxi _
    refine mk_read (ok.to12 (by decide)) R2 hxi hdxi fun H3 s3 I3 => ?_
    have vd := ok.vd (by decide)
    have few : (cellsOf rows).length ≤ 62 := by
      obtain ⟨h1, h2, wd, w1, w2, hr⟩ := ok
      have h3 := cellsTo_len (rows := rows) (w := 6) (fun r hr' => by rw [(hr r hr').1]; exact w2) rows.length (Nat.le_refl _)
      show (cellsTo rows rows.length).length ≤ 62
      omega
    obtain ⟨dx, pr, hpr, _⟩ := id I3
    refine ⟨_, rfl, xi, dx, _, rfl, hpr, xi, rows, rfl, I3, vd, fun ce tc H4 s4 hce0 hce hCA hct => ?_⟩
    have s34 := s3.trans s4
    have g4 : GG K CI Pt Pr H4 b l ra xi ce rows tc := {
      B := B2.same s34, R := Same.tup s34 R2, I := I3.same s4, C := hce
      cb := by
        obtain ⟨_, _, h1, h2, _⟩ := (B2.same s3).ex
        exact ⟨(fun e => by rw [e, h1] at hce0; cases hce0), (fun e => by rw [e, h2] at hce0; cases hce0)⟩
      ca := hCA, T := T2.ext s34 }
    have r : RF rows tc := ⟨vd, few, hct⟩
    -- the turns
    refine ⟨_, rfl, by show 0 ≤ sizeLine; decide, fun z hz => ?_⟩
    have s5 := Same.new (Same.refl H4) hz (o := .lst [])
    have g5 := g4.same s5
    have hz5 : (upd H4 z (.lst [])) z = some (.lst []) := upd_same
    generalize upd H4 z (.lst []) = H5 at g5 hz5 ⊢
    have C5 : H5 ce = some (.lst (vzI (toTI tc))) := by rw [toTI_vz]; exact g5.C
    refine ⟨_, _, ltl_dp C5 (toTI_ca g5.ca), .lst (.inl (.inl hz5)) .nil, sh_ics _, shaped_nil, ?_⟩
    rw [eqv_ics_nil]
    refine .inr ⟨_, rfl, ?_⟩
    refine ⟨_, _, rfl, rfl, .inr ⟨by split <;> decide, by split <;> decide⟩, ?_⟩
    refine ⟨_, rfl, by split <;> decide, by split <;> decide, ?_⟩
    refine for_range (lo := 0) (fun i σ H' => GG K CI Pt Pr H' b l ra xi ce rows tc ∧ ∃ v5 v6 v7 v8 v9 v10 v11, σ = [some (.ref a), some (.ref b), some (.ref ra), some (.ref xi), some (.ref ce), v5, v6, v7, v8, v9, v10, v11])
      ⟨g5, _, _, _, _, _, _, _, rfl⟩ ?_ ?_
    · rintro i σ H6 hi ⟨g6, v5, v6, v7, v8, v9, v10, v11, rfl⟩
      have hne : tc ≠ [] := fun e => by
        subst e
        exact absurd hi (Nat.not_lt_zero _)
      exact rT _ b l ra xi ce rows tc H6 _ _ _ _ _ _ _ _ g6 r hne fun H' v6 v7 v8 v9 v10 v11 g' => ⟨g', _, _, _, _, _, _, _, rfl⟩
    · rintro σ H6 ⟨g6, v5, v6, v7, v8, v9, v10, v11, rfl⟩
      exact k H6
end
end Om

/-! a head that tells function objects by paths of one's own: the getters of properties -/
namespace OmH
open PySem PySem.Spec PyProof.Rows L2 He
structure DefA where
  adr : PySem.W.Frag → Addr
  name : Str
  qual : Str
  params : Arguments
  body : List Stmt
  scope : Scope
def fnWA (K : PySem.W.Frag) (a : Addr) : FnW := match K.lookup a with
  | some ⟨_, _, .func fd, _⟩ => some (fd.name, fd.qualname, fd.params, fd.body, fd.scope, fd.globals, fd.closure, fd.builtins)
  | _ => none
def DefA.val (d : DefA) : FnW := some (d.name, d.qual, d.params, .stmts d.body, d.scope, mainGlobals, [], builtinsNs)
def DefA.ok (K : PySem.W.Frag) (d : DefA) : Bool := PySem.W.keepIn K (.ref (d.adr K)) && (match K.lookup (d.adr K) with
  | some ⟨_, _, .func fd, _⟩ => PySem.W.codeIn K fd.code d.qual && (dflB K fd.defaults [] && kwdB K fd.kwdefaults [])
  | _ => false)
theorem DefA.funD {K : PySem.W.Frag} {d : DefA} (e : fnWA K (d.adr K) = d.val) (c : d.ok K = true) : ∃ fd, FunD K d.name d.qual d.params d.body d.scope [] [] (d.adr K) fd := by
  obtain ⟨kp, c2⟩ := ba c
  unfold fnWA at e
  cases q : K.lookup (d.adr K) with
  | none =>
    rw [q] at c2
    cases c2
  | some o =>
    obtain ⟨oc, od, dt, osl⟩ := o
    rw [q] at c2 e
    cases dt with
    | func fd =>
      obtain ⟨n1, n2, n3, n4, n5, n6, n7, n8, n9, n10, n11, n12, n13, n14, n15⟩ := fd
      have e2 : (some (n1, n2, n3, n4, n5, n6, n7, n15) : FnW) = some (d.name, d.qual, d.params, .stmts d.body, d.scope, mainGlobals, [], builtinsNs) := e
      simp only [Option.some.injEq, Prod.mk.injEq] at e2
      obtain ⟨h1, h2, h3, h4, h5, h6, h7, h8⟩ := e2
      subst h1 h2 h3 h4 h5 h6 h7 h8
      have c3 : (PySem.W.codeIn K n13 d.qual && (dflB K n8 [] && kwdB K n9 [])) = true := c2
      obtain ⟨k1, k2⟩ := ba c3
      obtain ⟨k3, k4⟩ := ba k2
      exact ⟨_, ⟨oc, od, n8, n9, n10, n11, n12, n13, n14, osl, rfl, q, k1, dflB_ok k3, kwdB_ok k4⟩, kp⟩
    | _ => cases c2
/-- the getter of C's property x -/
def getA (K : PySem.W.Frag) (C : Addr) (x : Str) : Addr := match PySem.W.recIn K (ma K C x) "property" with
  | some (.ref g :: _) => g
  | _ => 0
def propB (K : PySem.W.Frag) (C : Addr) (x : Str) : Bool := eqO (PySem.W.findIn K (.ref C) x) (some (some (.ref (ma K C x)))) && (eqO (PySem.W.specialIn K (.ref (ma K C x)) "__get__") (some (some (.builtin "property.__get__"))) &&
  (decide (PySem.W.takesIn K (.ref (ma K C x)) = some true) && (match PySem.W.recIn K (ma K C x) "property" with
  | some (.ref _ :: _) => true
  | _ => false)))
theorem propB_ok {K : PySem.W.Frag} {C : Addr} {x : Str} (h : propB K C x = true) : PropOf K C x (ma K C x) (getA K C x) := by
  obtain ⟨h1, h2⟩ := ba h
  obtain ⟨h2, h3⟩ := ba h2
  obtain ⟨h3, h4⟩ := ba h3
  refine ⟨eqO_ok h1, eqO_ok h2, of_decide_eq_true h3, ?_⟩
  unfold getA
  cases e : PySem.W.recIn K (ma K C x) "property" with
  | none => rw [e] at h4; cases h4
  | some vs =>
    rw [e] at h4
    cases vs with
    | nil => cases h4
    | cons v r =>
      cases v with
      | ref g => exact ⟨r, rfl⟩
      | _ => cases h4
abbrev AlY : Type := AlX × (Bool × List FnW)
def obsA (gs : List DefA) (K : PySem.W.Frag) : Bool × List FnW := (gs.all fun d => d.ok K, gs.map fun d => fnWA K (d.adr K))
def valA (gs : List DefA) : Bool × List FnW := (true, gs.map DefA.val)
def obsY (n : Nat) (fa : List Fa) (fn : List DefD) (ts : List Tab) (tf : List Defn) (gs : List DefA) (ex : PySem.W.Frag → Bool) (g : Addr → Option Obj) : AlY := (obsX n fa fn ts tf ex g, obsA gs (frT g (asD g n)))
def hookY (n : Nat) (fa : List Fa) (fn : List DefD) (ts : List Tab) (tf : List Defn) (gs : List DefA) (ex : PySem.W.Frag → Bool) : PySem.W.Hook where
  α := AlY
  obs := fun s => obsY n fa fn ts tf gs ex s.heap.get?
  val := fun w => (valX fn ts w, valA gs)
  says := fun w h => ∃ K : PySem.W.Frag, K.In h ∧ SaysX fa fn ts tf ex w h K ∧ obsA gs K = valA gs
  of := fun _ _ e => ⟨_, frT_in, saysX_of (congrArg (fun z : AlY => z.1) e), congrArg (fun z : AlY => z.2) e⟩
  keeps := fun _ _ _ ⟨K, hK, c, d⟩ k => ⟨K, PySem.W.Frag.In.keeps hK k, ⟨c.t, c.more, c.hd, c.out, fun p hp => k _ _ (c.empty p hp)⟩, d⟩
theorem obsY_eq {n : Nat} {fa : List Fa} {fn : List DefD} {ts : List Tab} {tf : List Defn} {gs : List DefA} {ex : PySem.W.Frag → Bool} {g : Addr → Option Obj} {s : Shared} (h : ∀ a, g a = s.heap.get? a) : obsY n fa fn ts tf gs ex g = (hookY n fa fn ts tf gs ex).obs s := by
  have e : g = s.heap.get? := funext h
  rw [e] <;> rfl
theorem getter {gs : List DefA} {K : PySem.W.Frag} (c : obsA gs K = valA gs) (i : Nat) {d : DefA} (h : gs[i]? = some d := by rfl) : ∃ fd, FunD K d.name d.qual d.params d.body d.scope [] [] (d.adr K) fd := by
  have c2 : (gs.all fun d => d.ok K) = true := congrArg (fun z : Bool × List FnW => z.1) c
  have e : gs.map (fun d => fnWA K (d.adr K)) = gs.map DefA.val := congrArg (fun z : Bool × List FnW => z.2) c
  have e2 : (gs.map fun d => fnWA K (d.adr K))[i]? = (gs.map DefA.val)[i]? := by rw [e]
  rw [List.getElem?_map, List.getElem?_map, h] at e2
  exact DefA.funD (Option.some.inj e2) (List.all_eq_true.mp c2 d (List.mem_of_getElem? h))
end OmH

namespace Om
open PySem PySem.Spec PyProof.Rows L2 LamX He OmH
/-! ### facts of the top by own Bools -/
def oexB (K : PySem.W.Frag) (C : Addr) : Bool := (match K.lookup C with
  | some ⟨.type t, _, .cls cd, sl⟩ => decide (t = "type") && (cd.hasDict && (!cd.hasDel && ((match cd.mro with
    | .ref c :: bm => decide (c = C) && PySem.HandSPX.refsVE bm
    | _ => false) && (match sl.toList with
    | [_, _, _, _, some (.builtin n), _] => decide (n = "ValueError.__new__")
    | _ => false))))
  | _ => false) && (eqO (PySem.W.findIn K (.ref C) "__setattr__") (some (some (.builtin "object.__setattr__"))) && (decide (PySem.W.subIn K (.ref C) (.type "BaseException") = some true) && (decide (PySem.W.typeIn K (.ref C) = some (.type "type")) && PySem.W.keepIn K (.ref C))))
theorem oexB_ok {K : PySem.W.Frag} {C : Addr} (h : oexB K C = true) : OexC K C := by
  obtain ⟨h1, h2⟩ := ba h
  obtain ⟨h2, h3⟩ := ba h2
  obtain ⟨h3, h4⟩ := ba h3
  obtain ⟨h4, h5⟩ := ba h4
  refine ⟨?_, eqO_ok h2, of_decide_eq_true h3, of_decide_eq_true h4, h5⟩
  clear h h2 h3 h4 h5
  cases e : K.lookup C with
  | none => rw [e] at h1; cases h1
  | some o =>
    rw [e] at h1
    obtain ⟨oc, od, dt, sl⟩ := o
    cases oc with
    | type t =>
      cases dt with
      | cls cd =>
        obtain ⟨a1, a2⟩ := ba h1
        obtain ⟨a2, a3⟩ := ba a2
        obtain ⟨a3, a4⟩ := ba a3
        obtain ⟨a4, a5⟩ := ba a4
        obtain ⟨nm, bs, mro, ns, qn, hd, sn, sb, ab, col, del⟩ := cd
        have e1 : t = "type" := of_decide_eq_true a1
        have e2 : hd = true := a2
        have e3 : del = false := by
          have a3 : (!del) = true := a3
          cases del with
          | true => cases a3
          | false => rfl
        clear a1 a2 a3 h1
        subst e1 e2 e3
        cases mro with
        | nil => cases a4
        | cons v bm =>
          cases v with
          | ref c =>
            obtain ⟨b1, b2⟩ := ba (show (decide (c = C) && PySem.HandSPX.refsVE bm) = true from a4)
            have e4 : c = C := of_decide_eq_true b1
            clear b1 a4
            subst e4
            obtain ⟨sl⟩ := sl
            split at a5
            · rename_i q
              have e5 := of_decide_eq_true a5
              have e6 : sl = _ := q
              subst e5 e6
              exact ⟨_, _, _, _, _, _, _, _, _, _, _, _, _, _, _, rfl, b2⟩
            · cases a5
          | _ => cases a4
      | _ => cases h1
    | _ => cases dt <;> cases h1
def excCB (K : PySem.W.Frag) (D : Addr) : Bool := xfB K D && (eqO (PySem.W.findIn K (.ref D) "__class__") (some (some (.builtin "object.__class__"))) && (eqO (PySem.W.specialIn K (.builtin "object.__class__") "__get__") (some (some (.builtin "getset_descriptor.__get__"))) &&
  (decide (PySem.W.takesIn K (.builtin "object.__class__") = some true) && decide (PySem.W.mroIn K D (.type "object") = some true))))
theorem excCB_ok {K : PySem.W.Frag} {D : Addr} (h : excCB K D = true) : ExcC K D := by
  obtain ⟨h1, h2⟩ := ba h
  obtain ⟨h2, h3⟩ := ba h2
  obtain ⟨h3, h4⟩ := ba h3
  obtain ⟨h4, h5⟩ := ba h4
  obtain ⟨x1, x2, x3, x4⟩ := xfB_ok h1
  exact ⟨x1, x2, x3, x4, eqO_ok h2, eqO_ok h3, of_decide_eq_true h4, of_decide_eq_true h5⟩
abbrev Ce (K : PySem.W.Frag) (i : Nat) : Addr := ga K (nmE i)
def kitB7 (K : PySem.W.Frag) : Bool := (List.range 7).all fun i => decide (PySem.W.kitOne K (.ref (Ce K i)) (.type "ValueError") = some true) && (excCB K (Ce K i) && (decide (PySem.W.exmOne K (.ref (Ce K i)) (.ref (ga K "MapError")) = some true) && (List.range 7).all fun j => decide (PySem.W.kitOne K (.ref (Ce K i)) (.ref (Ce K j)) = some (decide (j = i)))))
/-- an error class with an own __init__ -/
def errIB (K : PySem.W.Frag) (x : Str) : Bool := oexB K (ga K x) && (eqO (PySem.W.findIn K (.ref (ga K x)) "__init__") (some (some (.ref (ma K (ga K x) "__init__")))) && decide (PySem.W.typeIn K (.ref (ma K (ga K x) "__init__")) = some (.type "function")))
/-- an own special method -/
def ownB (K : PySem.W.Frag) (C : Addr) (n : Str) : Bool := eqO (PySem.W.findIn K (.ref C) n) (some (some (.ref (ma K C n)))) && (PySem.W.isFn K (.ref (ma K C n)) && PySem.W.fnIn K (ma K C n))
theorem ownB_ok {K : PySem.W.Frag} {C : Addr} {n : Str} (h : ownB K C n = true) : OwnM K C n (ma K C n) := by
  obtain ⟨h1, h2⟩ := ba h
  obtain ⟨h2, h3⟩ := ba h2
  exact ⟨eqO_ok h1, h2, h3⟩
def errUB (K : PySem.W.Frag) (C : Addr) : Bool := PySem.W.excIn K C [.type "ValueError", .type "Exception", .type "BaseException", .type "object"] "ValueError.__new__" && (PySem.W.keepIn K (.ref C) && (decide (PySem.W.subIn K (.ref C) (.type "BaseException") = some true) && decide (PySem.W.typeIn K (.ref C) = some (.type "type"))))
/-- a written tuple of ints, whatever their tokens -/
def intsB : List Value → List Int → Bool
  | [], [] => true
  | .int x _ :: r, y :: q => decide (x = y) && intsB r q
  | _, _ => false
theorem intsB_ok : ∀ {vs : List Value} {ws : List Int}, intsB vs ws = true → Vals (ws.map V.int) vs
  | [], [], _ => .nil
  | .int x t :: r, y :: q, h => by
    obtain ⟨h1, h2⟩ := ba h
    have e : x = y := of_decide_eq_true h1
    subst e
    exact .cons ⟨t, rfl⟩ (intsB_ok h2)
def tupB (K : PySem.W.Frag) (x : Str) (ws : List Int) : Bool := match K.lookup (ga K x) with
  | some ⟨.type t, _, .seq its _, _⟩ => decide (t = "tuple") && (decide (its.size ≤ sizeLine) && intsB its.toList ws)
  | _ => false
theorem tupB_ok {K : PySem.W.Frag} {x : Str} {ws : List Int} (h : tupB K x ws = true) : ∀ H, SqT K H (ga K x) (ws.map V.int) := by
  intro H
  unfold tupB at h
  split at h
  · rename_i t od its n sl e2
    obtain ⟨h1, h2⟩ := ba h
    obtain ⟨h2, h3⟩ := ba h2
    have e3 : t = "tuple" := of_decide_eq_true h1
    subst e3
    exact .inr ⟨_, its, n, e2, rfl, rfl, of_decide_eq_true h2, intsB_ok h3⟩
  · cases h
def tblNe (K : PySem.W.Frag) : Bool := decide ((cT K ("law", none)).2 ≠ (cT K ("_law_routes", none)).2)
def exB (K : PySem.W.Frag) : Bool := kitB7 K && (errIB K "InvalidIsland" && (errUB K (ga K "UnknownCell") && (ownB K (ga K "Island") "__contains__" && (propB K (ga K "Island") "cells" && (tupB K "ROW_STEPS" rsL && (tupB K "COLUMN_STEPS" csL && tblNe K))))))
def fa : List Fa := [.free "int", .free "list", .free "len", .free "range", .free "tuple", .free "max", .free "min", .free "enumerate", .free "isinstance", .free "bool", .free "str", .free "sorted", .free "ValueError", .str "ALL_SIGNS" allSigns, .str "WATER" (Str.ofString "~"), .int "LARGEST" 12, .glo "ROW_STEPS", .glo "COLUMN_STEPS", .glo "MapError", .glo "InvalidIsland", .glo "InvalidMap", .glo "InvalidNumber", .glo "NoBeginning", .glo "NoWay", .glo "TooMany", .glo "UnknownCell", .glo "Island",
  .glo "in_range", .glo "require_land", .glo "_lies_within", .glo "_check_rows", .glo "_first_wrong_column", .glo "next_cell", .glo "cells_beside", .glo "distance", .glo "route", .glo "paces_from", .glo "_require_both"]
def fa2 : List Fa := [.glo "_law_begun", .glo "_law_take", .glo "_law_alike", .glo "_law_rows", .glo "_law_sign", .glo "_law_next", .glo "_law_error", .glo "_law_routes", .glo "law", .cls "Island", .mkr "Island", .noat "Island" "_rows", .noat "InvalidIsland" "row", .noat "InvalidIsland" "column", .noat "InvalidMap" "index"]
def dG (x : Str) (st : Stmt) : He.DefD := ⟨(x, none), x, x, defArgs st, defBody st, defScope st, [], []⟩
def dM (c x q : Str) (st : Stmt) : He.DefD := ⟨(c, some x), x, q, defArgs st, defBody st, defScope st, [], []⟩
def fnD : List He.DefD := [dG "_law_begun" (top 32), dG "_law_take" (top 33), dG "_law_alike" (top 34), dG "_law_rows" (top 35), dG "_law_sign" (top 36), dG "_law_next" (top 37), dG "_law_error" (top 38), dG "_law_routes" (top 39), dG "law" (top 40), dG "in_range" (top 13), dG "require_land" (top 17), dG "_lies_within" (top 18), dG "_check_rows" (top 19), dG "_first_wrong_column" (top 20), dG "next_cell" (top 24), dG "cells_beside" (top 25), dG "distance" (top 27), dG "route" (top 28), dG "paces_from" (top 29), dG "_require_both" (top 30), dM "Island" "__init__" "Island.__init__" sIslI, dM "Island" "__contains__" "Island.__contains__" (sIslM 8), dM "InvalidIsland" "__init__" "InvalidIsland.__init__" sII]
def gG (c x q : Str) (st : Stmt) : OmH.DefA := ⟨fun K => getA K (ga K c) x, x, q, defArgs st, defBody st, defScope st⟩
def gsD : List OmH.DefA := [gG "Island" "cells" "Island.cells" (sIslM 4)]
def tfD : List He.Defn := [("law", none), ("_law_routes", none)]
abbrev R : PySem.W.OpenRow := PySem.W.OpenLaw.row PySem.Challenge.rw_oldmap_k13_whole_walks
abbrev hk : PySem.W.Hook := OmH.hookY 6 (fa ++ fa2) fnD [] tfD gsD exB
def ob (s : PySem.W.SharedT) : OmH.AlY := OmH.obsY 6 (fa ++ fa2) fnD [] tfD gsD exB (HandSHeadRun.getT s)
theorem ob_eq (s : PySem.W.SharedT) : ob s = hk.obs s.abs := OmH.obsY_eq (HandSHeadRun.getT_eq s)
def loose1 : List Str := ["_wall", "WATER", "ALL_SIGNS", "in_range", "ROW_STEPS", "COLUMN_STEPS", "next_cell", "cells_beside", "MapError", "InvalidIsland", "InvalidMap", "InvalidNumber", "UnknownCell", "NoBeginning", "NoWay", "TooMany"]
def loose2 : List Str := ["LARGEST", "Island", "require_land", "_lies_within", "_check_rows", "_first_wrong_column", "distance", "route", "paces_from", "_require_both", "_law_begun", "_law_take", "_law_alike", "_law_rows", "_law_sign", "_law_next"]
def loose3 : List Str := ["_law_error", "_law_routes"]
def loose : List Str := loose1 ++ loose2 ++ loose3
theorem run (w : World) : HandSHeadRun.RunEq R (PySem.W.view R.prog [40]) hk ob 9000 loose w := by
  intro os
  kernel_rfl
end Om

namespace Om
open PySem PySem.Spec PyProof.Rows L2 LamX He OmH
theorem lt7 {i : Nat} (h : i < 7) : i ∈ List.range 7 := List.mem_range.mpr h
theorem kit7 {K : PySem.W.Frag} (h : kitB7 K = true) {i : Nat} (hi : i < 7) : PySem.W.kitOne K (.ref (Ce K i)) (.type "ValueError") = some true ∧ ExcC K (Ce K i) ∧ PySem.W.exmOne K (.ref (Ce K i)) (.ref (ga K "MapError")) = some true ∧ ∀ j, j < 7 → PySem.W.kitOne K (.ref (Ce K i)) (.ref (Ce K j)) = some (decide (j = i)) := by
  have h1 := List.all_eq_true.mp h i (lt7 hi)
  obtain ⟨a, b⟩ := ba h1
  obtain ⟨b, c⟩ := ba b
  obtain ⟨c, d⟩ := ba c
  exact ⟨of_decide_eq_true a, excCB_ok b, of_decide_eq_true c, fun j hj => of_decide_eq_true (List.all_eq_true.mp d j (lt7 hj))⟩
theorem errIB_ok {K : PySem.W.Frag} {x : Str} (h : errIB K x = true) : OexC K (ga K x) ∧ PySem.W.findIn K (.ref (ga K x)) "__init__" = some (some (.ref (ma K (ga K x) "__init__"))) ∧ PySem.W.typeIn K (.ref (ma K (ga K x) "__init__")) = some (.type "function") := by
  obtain ⟨h1, h2⟩ := ba h
  obtain ⟨h2, h3⟩ := ba h2
  exact ⟨oexB_ok h1, eqO_ok h2, of_decide_eq_true h3⟩
theorem in7 : ∀ i, i < 7 → Fa.glo (nmE i) ∈ fa ++ fa2 := fun i hi => by
  have e : i = 0 ∨ i = 1 ∨ i = 2 ∨ i = 3 ∨ i = 4 ∨ i = 5 ∨ i = 6 := by omega
  rcases e with rfl | rfl | rfl | rfl | rfl | rfl | rfl <;> simp [fa, nmE]
theorem b1 {K : PySem.W.Frag} {x q a : Str} {st : Stmt} {f : Addr} {fd : FuncData} (F : FnP K x q st f fd) (h : ∀ (kV doc pm : Value) (an : Option Addr) (cdv ct : Value) (u : Value), bindArgs (PySem.W.fnOf x q (defArgs st) (defBody st) (defScope st) .none kV doc pm an cdv ct) ⟨[u], []⟩ = pure [(a, u)]) : Binds K fd [a] [] :=
  FunD.bindsN F fun _ _ _ _ _ _ us hl => match us, hl with | [_], _ => h ..
theorem b2 {K : PySem.W.Frag} {x q a b : Str} {st : Stmt} {f : Addr} {fd : FuncData} (F : FnP K x q st f fd) (h : ∀ (kV doc pm : Value) (an : Option Addr) (cdv ct : Value) (u v : Value), bindArgs (PySem.W.fnOf x q (defArgs st) (defBody st) (defScope st) .none kV doc pm an cdv ct) ⟨[u, v], []⟩ = pure [(a, u), (b, v)]) : Binds K fd [a, b] [] :=
  FunD.bindsN F fun _ _ _ _ _ _ us hl => match us, hl with | [_, _], _ => h ..
theorem b3 {K : PySem.W.Frag} {x q a b c : Str} {st : Stmt} {f : Addr} {fd : FuncData} (F : FnP K x q st f fd) (h : ∀ (kV doc pm : Value) (an : Option Addr) (cdv ct : Value) (u v z : Value), bindArgs (PySem.W.fnOf x q (defArgs st) (defBody st) (defScope st) .none kV doc pm an cdv ct) ⟨[u, v, z], []⟩ = pure [(a, u), (b, v), (c, z)]) : Binds K fd [a, b, c] [] :=
  FunD.bindsN F fun _ _ _ _ _ _ us hl => match us, hl with | [_, _, _], _ => h ..
theorem b4 {K : PySem.W.Frag} {x q a b c d : Str} {st : Stmt} {f : Addr} {fd : FuncData} (F : FnP K x q st f fd) (h : ∀ (kV doc pm : Value) (an : Option Addr) (cdv ct : Value) (u v z y : Value), bindArgs (PySem.W.fnOf x q (defArgs st) (defBody st) (defScope st) .none kV doc pm an cdv ct) ⟨[u, v, z, y], []⟩ = pure [(a, u), (b, v), (c, z), (d, y)]) : Binds K fd [a, b, c, d] [] :=
  FunD.bindsN F fun _ _ _ _ _ _ us hl => match us, hl with | [_, _, _, _], _ => h ..
abbrev gI (K : PySem.W.Frag) : Addr := ga K "Island"
theorem code_at {K : PySem.W.Frag} {x : Str} {st : Stmt} {f : Addr} {fd : FuncData} (F : FnP K x x st f fd) (e : ∀ {oc : Value} {od : Option Addr} {dV kV doc pm : Value} {an : Option Addr} {c' : Addr} {ct : Value} {osl : Array (Option Value)}, K.lookup f = some ⟨oc, od, .func (PySem.W.fnOf x x (defArgs st) (defBody st) (defScope st) dV kV doc pm an (.ref c') ct), osl⟩ → codeOf K (x, none) = c') : ∀ cd, fd.code = cd → cd = .ref (cT K (x, none)).1 := by
  obtain ⟨oc, od, dV, kV, doc, pm, an, cdv, ct, osl, rfl, lk, hcdv, _, _⟩ := F.ex
  obtain ⟨c', rfl⟩ := codeIn_ref hcdv
  intro cd hcd
  have e1 := e lk
  subst hcd
  show Value.ref c' = .ref (codeOf K (x, none))
  rw [e1]
theorem parts_at {P : Program} {w : World} {K : PySem.W.Frag} {h base : Heap} {mg : Str → Option Value} (X : K.In h) (G : h.Ns mainGlobals mg) (c : He.SaysX (fa ++ fa2) fnD [] tfD exB w h K) (cg : obsA gsD K = valA gsD) (TBw : TabB base mg (cT K ("_law_routes", none)).1 (cT K ("_law_routes", none)).2) : ∃ fdE, Parts P w K mg base (gI K) (ma K (gI K) "__init__") (ma K (gI K) "cells") (getA K (gI K) "cells") (Ce K) (ga K "MapError") (ga K "_law_error") (cT K ("law", none)).2 (cT K ("_law_routes", none)).2 fdE := by
  have d := c.t.d
  obtain ⟨f0, F0⟩ := d.def_ 0 (d := dG "_law_begun" (top 32)) rfl
  have F0 : FnP K "_law_begun" "_law_begun" (top 32) _ f0 := F0
  obtain ⟨f1, F1⟩ := d.def_ 1 (d := dG "_law_take" (top 33)) rfl
  have F1 : FnP K "_law_take" "_law_take" (top 33) _ f1 := F1
  obtain ⟨f2, F2⟩ := d.def_ 2 (d := dG "_law_alike" (top 34)) rfl
  have F2 : FnP K "_law_alike" "_law_alike" (top 34) _ f2 := F2
  obtain ⟨f3, F3⟩ := d.def_ 3 (d := dG "_law_rows" (top 35)) rfl
  have F3 : FnP K "_law_rows" "_law_rows" (top 35) _ f3 := F3
  obtain ⟨f4, F4⟩ := d.def_ 4 (d := dG "_law_sign" (top 36)) rfl
  have F4 : FnP K "_law_sign" "_law_sign" (top 36) _ f4 := F4
  obtain ⟨f5, F5⟩ := d.def_ 5 (d := dG "_law_next" (top 37)) rfl
  have F5 : FnP K "_law_next" "_law_next" (top 37) _ f5 := F5
  obtain ⟨f6, F6⟩ := d.def_ 6 (d := dG "_law_error" (top 38)) rfl
  have F6 : FnP K "_law_error" "_law_error" (top 38) _ f6 := F6
  obtain ⟨f7, F7⟩ := d.def_ 7 (d := dG "_law_routes" (top 39)) rfl
  have F7 : FnP K "_law_routes" "_law_routes" (top 39) _ f7 := F7
  obtain ⟨f9, F9⟩ := d.def_ 9 (d := dG "in_range" (top 13)) rfl
  have F9 : FnP K "in_range" "in_range" (top 13) _ f9 := F9
  obtain ⟨f10, F10⟩ := d.def_ 10 (d := dG "require_land" (top 17)) rfl
  have F10 : FnP K "require_land" "require_land" (top 17) _ f10 := F10
  obtain ⟨f11, F11⟩ := d.def_ 11 (d := dG "_lies_within" (top 18)) rfl
  have F11 : FnP K "_lies_within" "_lies_within" (top 18) _ f11 := F11
  obtain ⟨f12, F12⟩ := d.def_ 12 (d := dG "_check_rows" (top 19)) rfl
  have F12 : FnP K "_check_rows" "_check_rows" (top 19) _ f12 := F12
  obtain ⟨f13, F13⟩ := d.def_ 13 (d := dG "_first_wrong_column" (top 20)) rfl
  have F13 : FnP K "_first_wrong_column" "_first_wrong_column" (top 20) _ f13 := F13
  obtain ⟨f14, F14⟩ := d.def_ 14 (d := dG "next_cell" (top 24)) rfl
  have F14 : FnP K "next_cell" "next_cell" (top 24) _ f14 := F14
  obtain ⟨f15, F15⟩ := d.def_ 15 (d := dG "cells_beside" (top 25)) rfl
  have F15 : FnP K "cells_beside" "cells_beside" (top 25) _ f15 := F15
  obtain ⟨f16, F16⟩ := d.def_ 16 (d := dG "distance" (top 27)) rfl
  have F16 : FnP K "distance" "distance" (top 27) _ f16 := F16
  obtain ⟨f17, F17⟩ := d.def_ 17 (d := dG "route" (top 28)) rfl
  have F17 : FnP K "route" "route" (top 28) _ f17 := F17
  obtain ⟨f18, F18⟩ := d.def_ 18 (d := dG "paces_from" (top 29)) rfl
  have F18 : FnP K "paces_from" "paces_from" (top 29) _ f18 := F18
  obtain ⟨f19, F19⟩ := d.def_ 19 (d := dG "_require_both" (top 30)) rfl
  have F19 : FnP K "_require_both" "_require_both" (top 30) _ f19 := F19
  obtain ⟨f20, F20⟩ := d.def_ 20 (d := dM "Island" "__init__" "Island.__init__" sIslI) rfl
  have F20 : FnP K "__init__" "Island.__init__" sIslI _ f20 := F20
  obtain ⟨f21, F21⟩ := d.def_ 21 (d := dM "Island" "__contains__" "Island.__contains__" (sIslM 8)) rfl
  have F21 : FnP K "__contains__" "Island.__contains__" (sIslM 8) _ f21 := F21
  obtain ⟨f22, F22⟩ := d.def_ 22 (d := dM "InvalidIsland" "__init__" "InvalidIsland.__init__" sII) rfl
  have F22 : FnP K "__init__" "InvalidIsland.__init__" sII _ f22 := F22
  obtain ⟨g0, P0⟩ := getter cg 0 (d := gG "Island" "cells" "Island.cells" (sIslM 4)) rfl
  have P0 : FnP K "cells" "Island.cells" (sIslM 4) _ g0 := P0
  have fr : ∀ {x : Str}, Fa.free x ∈ fa ++ fa2 → mg x = none := fun hx => free_ok X G (d.facts hx)
  have gl : ∀ {x : Str}, Fa.glo x ∈ fa ++ fa2 → mg x = some (.ref (ga K x)) := fun hx => glo_ok X G (d.facts hx)
  have fact : ∀ {f : Fa}, f ∈ fa ++ fa2 → f.ok K = true := fun hf => d.facts hf
  have gint : mg "int" = none := fr (by simp [fa])
  have glist : mg "list" = none := fr (by simp [fa])
  have glen : mg "len" = none := fr (by simp [fa])
  have grange : mg "range" = none := fr (by simp [fa])
  have gtuple : mg "tuple" = none := fr (by simp [fa])
  have gmax : mg "max" = none := fr (by simp [fa])
  have gmin : mg "min" = none := fr (by simp [fa])
  have genum : mg "enumerate" = none := fr (by simp [fa])
  have gisi : mg "isinstance" = none := fr (by simp [fa])
  have gbool : mg "bool" = none := fr (by simp [fa])
  have gstr : mg "str" = none := fr (by simp [fa])
  have gsorted : mg "sorted" = none := fr (by simp [fa])
  have gve : mg "ValueError" = none := fr (by simp [fa])
  have sall := str_ok X G (fact (f := .str "ALL_SIGNS" allSigns) (by simp [fa]))
  have swat := str_ok X G (fact (f := .str "WATER" (Str.ofString "~")) (by simp [fa]))
  have slarge := int_ok X G (fact (f := .int "LARGEST" 12) (by simp [fa]))
  obtain ⟨x1, x2⟩ := ba c.more
  obtain ⟨x2, x3⟩ := ba x2
  obtain ⟨x3, x4⟩ := ba x3
  obtain ⟨x4, x5⟩ := ba x4
  obtain ⟨x5, x6⟩ := ba x5
  obtain ⟨x6, x7⟩ := ba x6
  obtain ⟨x7, x8⟩ := ba x7
  obtain ⟨oII, iII, tII⟩ := errIB_ok x2
  have nR := noat_ok (fact (f := .noat "InvalidIsland" "row") (by simp [fa, fa2]))
  have nC := noat_ok (fact (f := .noat "InvalidIsland" "column") (by simp [fa, fa2]))
  have nI := noat_ok (fact (f := .noat "InvalidMap" "index") (by simp [fa, fa2]))
  have isi : IsI K mg (Ce K 0) (ma K (Ce K 0) "__init__") := ⟨oII, nR, nC, iII, tII, gl (by simp [fa])⟩
  have isl : IslF K mg (gI K) (ma K (gI K) "__init__") := ⟨cls_ok (fact (f := .cls "Island") (by simp [fa, fa2])), noat_ok (fact (f := .noat "Island" "_rows") (by simp [fa, fa2])), mkr_ok (fact (f := .mkr "Island") (by simp [fa, fa2])), gl (by simp [fa])⟩
  have eu : ErrU K mg "UnknownCell" (Ce K 6) := by
    obtain ⟨y1, y2⟩ := ba x3
    obtain ⟨y2, y3⟩ := ba y2
    obtain ⟨y3, y4⟩ := ba y3
    exact ⟨y1, y2, of_decide_eq_true y3, of_decide_eq_true y4, gl (by simp [fa])⟩
  have xf : ∀ i, i < 7 → XfC K (Ce K i) := fun i hi => by
    obtain ⟨y1, y2, y3, y4, y5, y6, y7, y8⟩ := (kit7 x1 hi).2.1
    exact ⟨y1, y2, y3, y4⟩
  have er : ErrF K mg (Ce K) (ga K "MapError") := ⟨gl (by simp [fa]), fun i hi => glo_ok X G (d.facts (in7 i hi)), fun i hi => (kit7 x1 hi).2.2.1, fun i hi => (kit7 x1 hi).2.1, fun i j hi hj => (kit7 x1 hi).2.2.2 j hj, fun i hi => (kit7 x1 hi).1, xf 0 (by decide), nR, nC, xf 1 (by decide), nI, gisi, gve⟩
  have tRow : TupF K mg "ROW_STEPS" rsL := ⟨_, gl (by simp [fa]), tupB_ok x6⟩
  have tCol : TupF K mg "COLUMN_STEPS" csL := ⟨_, gl (by simp [fa]), tupB_ok x7⟩
  have hne : (cT K ("law", none)).2 ≠ (cT K ("_law_routes", none)).2 := of_decide_eq_true x8
  have kTk : Cal P w K mg base CX0 1 "_law_take" ["_law_box", "_law_many"] spTake := ⟨_, _, ok_take F1 gint, gl (by simp [fa, fa2]), F1.kp, b2 F1 fun _ _ _ _ _ _ _ _ => rfl⟩
  have kRg : Cal P w K mg base CX0 1 "in_range" nInR spInR := ⟨_, _, ok_inR F9 gisi gint gbool, gl (by simp [fa, fa2]), F9.kp, b3 F9 fun _ _ _ _ _ _ _ _ _ => rfl⟩
  have kLi : Cal P w K mg base CX0 2 "_lies_within" ["rows", "cell"] (spLies K) := ⟨_, _, ok_lies F11 kRg glen, gl (by simp [fa, fa2]), F11.kp, b2 F11 fun _ _ _ _ _ _ _ _ => rfl⟩
  have kFw : Cal P w K mg base CX0 1 "_first_wrong_column" ["signs", "width"] spFwc := ⟨_, _, ok_fwc F13 grange glen sall, gl (by simp [fa, fa2]), F13.kp, b2 F13 fun _ _ _ _ _ _ _ _ => rfl⟩
  have bII : Binds K f22 ["self", "row", "column"] [] := b3 F22 fun _ _ _ _ _ _ _ _ _ => rfl
  have kCk : Cal P w K mg base (L2.CX P w) 3 "_check_rows" ["rows"] (spChk K (Ce K 0)) := ⟨_, _, ok_chk F12 isi (ok_II F22 isi) bII kFw glen gmax gmin genum slarge, gl (by simp [fa, fa2]), F12.kp, b1 F12 fun _ _ _ _ _ _ _ => rfl⟩
  have bAl : Binds K f2 ["_law_found", "_law_due"] [] := b2 F2 fun _ _ _ _ _ _ _ _ => rfl
  have gAl : mg "_law_alike" = some (.ref (ga K "_law_alike")) := gl (by simp [fa, fa2])
  have bN : Binds K f20 ["self", "rows"] [] := b2 F20 fun _ _ _ _ _ _ _ _ => rfl
  have okN : FnOk P w K mg base (L2.CX P w) 4 (ma K (gI K) "__init__") f20 ["self", "rows"] (spIsl K (gI K) (Ce K 0)) := ok_isl F20 isl kCk gtuple
  have okC : FnOk P w K mg base CX0 1 (getA K (gI K) "cells") g0 ["self"] (spICellsT K (gI K)) := ok_icellsT P0 isl genum swat
  have bC : Binds K g0 ["self"] [] := b1 P0 fun _ _ _ _ _ _ _ => rfl
  have pC := propB_ok x5
  have okH : FnOk P w K mg base CX0 3 (ma K (gI K) "__contains__") f21 ["self", "cell"] (spHas K (gI K)) := ok_has F21 isl kLi swat
  have bH : Binds K f21 ["self", "cell"] [] := b2 F21 fun _ _ _ _ _ _ _ _ => rfl
  have oH := ownB_ok x4
  have kNc : Cal P w K mg base CX0 1 "next_cell" ["state"] (spNextC K) := ⟨_, _, ok_nextC F14 tRow tCol, gl (by simp [fa, fa2]), F14.kp, b1 F14 fun _ _ _ _ _ _ _ => rfl⟩
  have kBs : Cal P w K mg base CX0 2 "cells_beside" ["cell"] (spBes K) := ⟨_, _, ok_bes F15 kNc tRow grange glen, gl (by simp [fa, fa2]), F15.kp, b1 F15 fun _ _ _ _ _ _ _ => rfl⟩
  have kLa : Cal P w K mg base (L2.CX P w) 4 "require_land" ["island", "cell"] (spLandX K (gI K) (Ce K 6)) := ⟨_, _, ok_land F10 eu oH okH bH, gl (by simp [fa, fa2]), F10.kp, b2 F10 fun _ _ _ _ _ _ _ _ => rfl⟩
  have kBo : Cal P w K mg base (L2.CX P w) 5 "_require_both" ["island", "one", "other"] (spBoth2 K (gI K) (Ce K 6)) := ⟨_, _, ok_both2 F19 kLa, gl (by simp [fa, fa2]), F19.kp, b3 F19 fun _ _ _ _ _ _ _ _ _ => rfl⟩
  have kPf : Cal P w K mg base CX0 3 "paces_from" ["cells", "begin"] (spPF K) := ⟨_, _, ok_pf F18 kBs glen gsorted, gl (by simp [fa, fa2]), F18.kp, b2 F18 fun _ _ _ _ _ _ _ _ => rfl⟩
  have kSg : Cal P w K mg base CX0 1 "_law_sign" ["_law_rows_here", "_law_cell"] (spLSign K) := ⟨_, _, ok_lsign F4 glen, gl (by simp [fa, fa2]), F4.kp, b2 F4 fun _ _ _ _ _ _ _ _ => rfl⟩
  have kNx : Cal P w K mg base CX0 1 "_law_next" ["_law_cell", "_law_facing"] (spLNext K) := ⟨_, _, ok_lnext F5 gint, gl (by simp [fa, fa2]), F5.kp, b2 F5 fun _ _ _ _ _ _ _ _ => rfl⟩
  have hcw : ∀ cd, f7.code = cd → cd = .ref (cT K ("_law_routes", none)).1 := code_at F7 fun lk => codeOf_eq (p := ("_law_routes", none)) lk rfl
  exact ⟨f6, {
    beg := ⟨_, _, ok_begun F0 gint glist glen, gl (by simp [fa, fa2]), F0.kp, b1 F0 fun _ _ _ _ _ _ _ => rfl⟩
    tak := kTk
    row := ⟨_, _, ok_rows F3 kTk grange gtuple glen, gl (by simp [fa, fa2]), F3.kp, b2 F3 fun _ _ _ _ _ _ _ _ => rfl⟩
    alk := ⟨_, _, ok_alike F2 gAl F2.kp bAl gisi gint gbool gstr gtuple glist glen grange 4, gAl, F2.kp, bAl⟩
    rts := ⟨_, _, ok_rts tt2_m2 (tt2_2 hne) F7 hcw TBw kSg kNx grange gsorted gmin glist, gl (by simp [fa, fa2]), F7.kp, b2 F7 fun _ _ _ _ _ _ _ _ => rfl⟩
    dst := ⟨_, _, ok_dist2 F16 kBo kPf isl pC okC bC, gl (by simp [fa, fa2]), F16.kp, b3 F16 fun _ _ _ _ _ _ _ _ _ => rfl⟩
    rte := ⟨_, _, ok_route2 F17 kBo kPf kBs isl pC okC bC gmin, gl (by simp [fa, fa2]), F17.kp, b3 F17 fun _ _ _ _ _ _ _ _ _ => rfl⟩
    isl := isl
    mkI := ⟨_, okN, bN⟩
    pC := pC
    cel := ⟨_, okC, bC⟩
    err := er
    FE := F6
    bE := b1 F6 fun _ _ _ _ _ _ _ => rfl
    hE := gl (by simp [fa, fa2])
    ne := hne }⟩
theorem law_at {w : World} {K : PySem.W.Frag} {h : Heap} {mg : Str → Option Value} {f : Addr} (X : K.In h) (G : h.Ns mainGlobals mg) (hfa : mg ("law" : Str) = some (.ref f)) (c : He.SaysX (fa ++ fa2) fnD [] tfD exB w h K) (cg : obsA gsD K = valA gsD) :
    LawAtS PySem.Challenge.rw_oldmap_k13_whole_walks w K CX0 9 63 "_law_script" mg f h := by
  have d := c.t.d
  have fr : ∀ {x : Str}, Fa.free x ∈ fa ++ fa2 → mg x = none := fun hx => free_ok X G (d.facts hx)
  have gl : ∀ {x : Str}, Fa.glo x ∈ fa ++ fa2 → mg x = some (.ref (ga K x)) := fun hx => glo_ok X G (d.facts hx)
  have fact : ∀ {f : Fa}, f ∈ fa ++ fa2 → f.ok K = true := fun hf => d.facts hf
  have e := hfa.symm.trans (gl (x := "law") (by simp [fa, fa2]))
  cases e
  obtain ⟨fd, F⟩ := d.def_ 8 (d := dG "law" (top 40)) rfl
  have F : FnP K "law" "law" sLaw _ fd := F
  have bL := FunD.bindsA (ps := ["_law_script"]) F fun _ _ _ _ _ _ us hl => match us, hl with | [_], _ => rfl
  have hcd : ∀ cd, fd.code = cd → cd = .ref (cT K ("law", none)).1 := code_at F fun lk => codeOf_eq (p := ("law", none)) lk rfl
  have hm1 : (("law", none) : He.Defn) ∈ tfD := List.mem_cons_self
  have hm2 : (("_law_routes", none) : He.Defn) ∈ tfD := List.mem_cons_of_mem _ List.mem_cons_self
  have each : ∀ {φ : Addr × Addr → Prop}, φ (cT K ("law", none)) → φ (cT K ("_law_routes", none)) → ∀ p ∈ [cT K ("law", none), cT K ("_law_routes", none)], φ p := fun {φ} h1 h2 p hp => by
    rcases List.mem_cons.mp hp with rfl | hp
    · exact h1
    · rw [List.mem_singleton.mp hp]
      exact h2
  refine ⟨fd, [cT K ("law", none), cT K ("_law_routes", none)], spLaw K (cT K ("law", none)).2 (cT K ("_law_routes", none)).2, each (c.empty _ hm1) (c.empty _ hm2), each (c.out _ hm1) (c.out _ hm2), each (PySem.W.codeHd_of_K X (c.hd _ hm1)) (PySem.W.codeHd_of_K X (c.hd _ hm2)), fun s u => bL s [u] rfl, fun H a ns hl _ hT hS => ⟨a, ns, rfl, hS, hl, hT _ List.mem_cons_self, hT _ (List.mem_cons_of_mem _ List.mem_cons_self), fun _ => rfl⟩, fun base KB GB TB => ?_⟩
  obtain ⟨fdE, PP⟩ := parts_at (P := PySem.Challenge.rw_oldmap_k13_whole_walks.prog) (w := w) (base := base) X G c cg (TB _ (List.mem_cons_of_mem _ List.mem_cons_self))
  exact ok_law F hcd PP (TB _ List.mem_cons_self) (fr (x := "len") (by simp [fa])) (fr (x := "int") (by simp [fa])) (fr (x := "range") (by simp [fa]))
end Om
open PySem PySem.W PySem.Calls PyProof.Rows
theorem PySem.Challenge.cw_oldmap_k13_whole_walks_holds : PySem.Challenge.rw_oldmap_k13_whole_walks.Holds := by
  w_on; o_law
  refine HandSHeadRun.head_any (r := OpenLaw.row PySem.Challenge.rw_oldmap_k13_whole_walks) (q := view (OpenLaw.row PySem.Challenge.rw_oldmap_k13_whole_walks).prog [40]) (H := Om.hk) (ob := Om.ob) (M := 9000) (loose := Om.loose) (d := HandSHeadRun.topDef (OpenLaw.row PySem.Challenge.rw_oldmap_k13_whole_walks).prog 40) (kwd := []) Om.ob_eq
    (by kernel_rfl) (fun s => by kernel_rfl) Om.run (by kernel_rfl) (by kernel_rfl) (by kernel_rfl) (by rfl) (by first | assumption | decide +kernel) (by decide +kernel) ⟨rfl, rfl, rfl, rfl, rfl, by decide +kernel⟩ ?hw ?hc
  case hw => w_witness2
  case hc =>
    refine LamX.walk_ofTsE (l := PySem.Challenge.rw_oldmap_k13_whole_walks) (n := 63) (k := 9) (x := "_law_script") (CX := fun _ => L2.CX0) rfl (by decide) (by kernel_rfl) ⟨rfl, by decide, by decide⟩ ?F (fun _ _ _ _ _ z => z)
    intro w mg fa h Y G hmg0
    obtain ⟨K, KX, c, cg⟩ := Y
    have hmg : mg ("law" : PySem.Str) = some (.ref fa) := by
      have e : (HandSHeadRun.topDef (OpenLaw.row PySem.Challenge.rw_oldmap_k13_whole_walks).prog 40).name = ("law" : PySem.Str) := by kernel_rfl
      rw [← e]
      exact hmg0
    exact ⟨K, KX, Om.law_at KX G hmg c cg⟩
