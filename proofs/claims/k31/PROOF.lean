import PyProof.Rows.All
import Wide.All
import OpenK.AllK
import Wide.FinOn
import HandS.ForMost
import HandS.Defaults
import HandS.More
import HandS.TupAny
import HandS.TupMul
import HandS.Exc
import HandS.ExcInit
import HandS.ExcField
import HandS.ExcIs
import HandS.TryOnly
import HandS.WordsExc
import HandS.Lambda
import HandS.EndTab
import HandS.HeadWalk
import HandS.HeadHook4
import PySem.Challenge.RW_oldmap_k31_whole_digs
import KE.GoesMore
import KE.GoesEnum
import HandS.Property
import HandS.OwnEq
import HandS.IsInst
import HandS.Walk
import HandS.ExcOwn
import PyProof.ExcBaseAll.ValueError
import HandS.SetTxt0
import HandS.Deep
import HandS.ReplaceLit
import HandS.ReplaceList
import HandS.Sort
import HandS.Codes
import HandS.Head0
import HandS.Head1
import HandS.Head2
set_option Elab.async false
set_option linter.all false
set_option maxRecDepth 100000
set_option maxHeartbeats 0
namespace Om
open PySem PySem.Spec PyProof.Rows L2
def top (i : Nat) : Stmt := PySem.Challenge.pw_oldmap_k31_whole_digs.main.body.getD i (.Pass ⟨0, 0, 0, 0⟩)
/-- a def of the top -/
abbrev FnP (K : PySem.W.Frag) (x qual : Str) (st : Stmt) (f : Addr) (fd : FuncData) : Prop := FunD K x qual (defArgs st) (defBody st) (defScope st) [] [] f fd
/-- a def as its callers know it -/
structure Cal (P : Program) (w : World) (K : PySem.W.Frag) (mg : Str → Option Value) (base : Heap) (CX : CXT) (k : Nat) (x : Str) (ps : List Str) (sp : Sp) : Prop where
  ex : ∃ (f : Addr) (fd : FuncData), FnOk P w K mg base CX k f fd ps sp ∧ mg x = some (.ref f) ∧ PySem.W.keepIn K (.ref f) = true ∧ Binds K fd ps []
theorem pe_cal {X : Cx} {CX : CXT} {k : Nat} {x : Str} {ps : List Str} {sp : Sp} {E : XK} {e : Expr} {es : List Expr} {t : TA} {p pos : Pos} (C : Cal X.prog X.w X.K X.mg X.base CX k x ps sp) (hr : Room k X.A) (hx : Passes CX X E) (ha : PA X (e :: es) t) (hg : Gl X x := by rfl)
    (hdb : (x == ("__debug__" : Str)) = false := by decide) (he : starEach (e :: es) X.env = (false, eval e X.env) :: starEach es X.env := by rfl) (hpl : (backTo pos (starEach es X.env)).any (·.1) = false := by rfl) :
    PE X (.Call (.Name x p) (e :: es) [] pos) (tCall sp [] E t) := by
  obtain ⟨f, fd, F, hm, hk, hb⟩ := C.ex
  exact pe_call F hr hg hm hk hb .nil hx ha (hdb := hdb) (he := he) (hpl := hpl)
/-- all but two objects stay -/
def Kp (b l : Addr) (H H' : Hp) : Prop := ∀ c o, H c = some o → c ≠ b → c ≠ l → H' c = some o
theorem Kp.refl (b l : Addr) (H : Hp) : Kp b l H H := fun _ _ h _ _ => h
theorem Kp.trans {b l : Addr} {H H1 H2 : Hp} (a : Kp b l H H1) (c : Kp b l H1 H2) : Kp b l H H2 := fun x o h n1 n2 => c x o (a x o h n1 n2) n1 n2
theorem Kp.of {b l : Addr} {H H' : Hp} (a : Same H H') : Kp b l H H' := fun x o h _ _ => a x o h
theorem Kp.upd1 {b l : Addr} {H H' : Hp} {o : HO} (a : Kp b l H H') : Kp b l H (upd H' b o) := fun x u h n1 n2 => by rw [upd_ne n1]; exact a x u h n1 n2
theorem Kp.upd2 {b l : Addr} {H H' : Hp} {o : HO} (a : Kp b l H H') : Kp b l H (upd H' l o) := fun x u h n1 n2 => by rw [upd_ne n2]; exact a x u h n1 n2
theorem Same.new {H H' : Hp} {p : Addr} {o : HO} (a : Same H H') (h : H' p = none) : Same H (upd H' p o) := fun x u e => by
  rw [upd_ne (ne_of_none (a x u e) h)]
  exact a x u e
/-- the box of numbers that a law draws from -/
structure Box (H : Hp) (b l : Addr) : Prop where
  ex : ∃ (ns : List Int) (z : Int), H b = some (.lst [.ref l, .int z]) ∧ H l = some (.lst (ns.map V.int)) ∧ ns.length ≤ 63
theorem Box.ne {H : Hp} {b l : Addr} (B : Box H b l) : b ≠ l := by
  obtain ⟨ns, z, h1, h2, _⟩ := B.ex
  refine ne_of h1 h2 fun e => ?_
  have e2 : [V.ref l, V.int z] = ns.map V.int := HO.lst.inj e
  cases ns with
  | nil => cases e2
  | cons n r =>
    injection e2 with e3 _
    cases e3
theorem Box.same {H H' : Hp} {b l : Addr} (B : Box H b l) (s : Same H H') : Box H' b l := by
  obtain ⟨ns, z, h1, h2, h3⟩ := B.ex
  exact ⟨ns, z, s _ _ h1, s _ _ h2, h3⟩
def spBegun (K : PySem.W.Frag) : Sp := fun vs H Q _ => ∃ (a : Addr) (ns : List Int), vs = [.ref a] ∧ SqL K H a (ns.map V.int) ∧ ns.length ≤ 63 ∧
  ∀ (b l : Addr) (H' : Hp), H b = none → H l = none → Same H H' → Box H' b l → Q (.ref b) H'
def spTake : Sp := fun vs H Q _ => ∃ (b l : Addr) (m : Int), vs = [.ref b, .int m] ∧ Box H b l ∧ 0 < m ∧ m ≤ 1000000 ∧
  ∀ (n : Int) (H' : Hp), 0 ≤ n → n < m → Box H' b l → Kp b l H H' → Q (.int n) H'
section
variable {P : Program} {w : World} {K : PySem.W.Frag} {mg : Str → Option Value} {base : Heap}
theorem fun_binds {x qual : Str} {st : Stmt} {f : Addr} {fd : FuncData} {ps : List Str} (F : FnP K x qual st f fd)
    (h : ∀ (kV doc pm : Value) (an : Option Addr) (cdv ct : Value) (us : List Value), us.length = ps.length → bindArgs (PySem.W.fnOf x qual (defArgs st) (defBody st) (defScope st) .none kV doc pm an cdv ct) ⟨us, []⟩ = pure (ps.zip us)) : Binds K fd ps [] := FunD.bindsN F h
end
end Om

namespace Om
open PySem PySem.Spec PyProof.Rows L2
/-! ### data -/
theorem lay_ints : ∀ ns : List Int, PyData.canLayAll0 (ns.map PyData.int) = true
  | [] => by simp [PyData.canLayAll0]
  | n :: r => by simp [PyData.canLayAll0, PyData.canLay0, lay_ints r]
theorem dep_ints : ∀ ns : List Int, PyData.depthAll (ns.map PyData.int) = 0
  | [] => by simp [PyData.depthAll]
  | n :: r => by simp [PyData.depthAll, PyData.depth, dep_ints r]
theorem shaped_of {d : PyData} (h1 : d.canLay0 = true) (h2 : d.depth ≤ 64) : SeqAt.shaped d = true := by
  show (d.canLay0 && decide (d.depth ≤ 64)) = true
  rw [h1, decide_eq_true h2]
  rfl
theorem shaped_ints (ns : List Int) : SeqAt.shaped (.list (ns.map PyData.int)) = true :=
  shaped_of (by simp only [PyData.canLay0]; exact lay_ints ns) (by simp only [PyData.depth, dep_ints]; omega)
theorem shaped_nil : SeqAt.shaped (.list []) = true := shaped_of (by simp [PyData.canLay0, PyData.canLayAll0]) (by simp [PyData.depth, PyData.depthAll])
theorem dpAll_ints {K : PySem.W.Frag} {H : Hp} : ∀ ns : List Int, DpAll K H (ns.map V.int) (ns.map PyData.int)
  | [] => .nil
  | n :: r => .cons (.int n) (dpAll_ints r)
theorem eqv_ints_nil (ns : List Int) : PyData.eqv (.list (ns.map PyData.int)) (.list []) = ns.isEmpty := by
  cases ns <;> simp [PyData.eqv, PyData.eqvAll]
theorem fmod_pos {a m : Int} (h : 0 < m) : 0 ≤ a.fmod m ∧ a.fmod m < m := by
  rw [Int.fmod_eq_emod_of_nonneg _ (Int.le_of_lt h)]
  exact ⟨Int.emod_nonneg _ (by omega), Int.emod_lt_of_pos _ h⟩
theorem at0 {x : V} {r : List V} : atI (x :: r) 0 = some x := by
  unfold atI ixN
  rw [if_pos (by omega), if_pos (by simp)]
  rfl
theorem ix0 {x : V} {r : List V} : ixN (x :: r).length 0 = some 0 := by
  unfold ixN
  rw [if_pos (by omega), if_pos (by simp)]
  rfl
/-! ### take -/
end Om

namespace Om
open PySem PySem.Spec PyProof.Rows L2
/-! ### texts as lists of codes -/
def tx (cs : List Nat) : Str := ⟨cs.toArray⟩
theorem tx_cps (cs : List Nat) : (tx cs).cps.toList = cs := by simp [tx]
theorem tx_len (cs : List Nat) : (tx cs).length = cs.length := by simp [tx, Str.length]
theorem tx_app (a b : List Nat) : tx a ++ tx b = tx (a ++ b) := by
  show Str.append (tx a) (tx b) = tx (a ++ b)
  simp [tx, Str.append]
theorem tx_inj {a b : List Nat} (h : tx a = tx b) : a = b := by
  have e : (tx a).cps.toList = (tx b).cps.toList := by rw [h]
  rw [tx_cps, tx_cps] at e
  exact e
theorem of_tx (s : Str) : tx s.cps.toList = s := by
  obtain ⟨c⟩ := s
  simp [tx]
theorem join_tx : ∀ cs : List Nat, Str.join ⟨#[]⟩ (cs.map fun c => tx [c]) = tx cs
  | [] => rfl
  | [c] => rfl
  | c :: d :: r => by
    have ih := join_tx (d :: r)
    show tx [c] ++ (⟨#[]⟩ : Str) ++ Str.join ⟨#[]⟩ ((d :: r).map fun c => tx [c]) = tx (c :: d :: r)
    rw [ih]
    have e0 : (⟨#[]⟩ : Str) = tx [] := rfl
    rw [e0, tx_app, tx_app]
    rfl
theorem empty_tx : Str.ofString "" = (⟨#[]⟩ : Str) := by decide +kernel
def okSign (c : Nat) : Prop := c = 46 ∨ c = 126 ∨ (65 ≤ c ∧ c ≤ 90)
/-- what a law draws as rows -/
structure RowsOk (m : Nat) (rows : List (List Nat)) : Prop where
  h1 : 1 ≤ rows.length
  hm : rows.length ≤ m
  w : ∃ wd, 1 ≤ wd ∧ wd ≤ m ∧ ∀ r ∈ rows, r.length = wd ∧ ∀ c ∈ r, okSign c
def vt (r : List Nat) : V := .str (tx r)
def spRows : Sp := fun vs H Q _ => ∃ (b l : Addr) (m : Nat), vs = [.ref b, .int m] ∧ Box H b l ∧ 1 ≤ m ∧ m ≤ 12 ∧
  ∀ (p : Addr) (rows : List (List Nat)) (H' : Hp), RowsOk m rows → H p = none → H' p = some (.tup (rows.map vt)) → Box H' b l → Kp b l H H' → Q (.ref p) H'
def rJoin (K : PySem.W.Frag) : V → List V → Hp → VK → Prop := fun x xs H Q => ∃ a p, ∃ ys : List Str, x = .str a ∧ xs = [.ref p] ∧ (SqL K H p (ys.map V.str) ∨ SqT K H p (ys.map V.str)) ∧
      (ys.map (·.length)).sum + ys.length * a.length ≤ 16777216 ∧ Q (.str (Txt.join a ys)) H
theorem pe_joinK {X : Cx} {o e : Expr} {to te : TE} {apos pos : Pos} (ho : PE X o to) (he : PE X e te) (hs : starEach [e] X.env = [(false, eval e X.env)] := by rfl) (hbase : attributeBase o "join" X.env (eval o X.env) = eval o X.env := by rfl) (hline : (apos.endLine == pos.line) = true := by rfl) :
    PE X (.Call (.Attribute o "join" apos) [e] [] pos) (tM1 (rJoin X.K) to te) := pe_join ho he hs hbase hline
/-- the scope of the i-th comprehension of a return's call -/
def retExpr (s : Stmt) : Expr := match s with
  | .Return (some e) _ => e
  | _ => .Constant .none 0 ⟨0, 0, 0, 0⟩
def arg0 (e : Expr) : Expr := match e with
  | .Call _ (a :: _) _ _ => a
  | _ => .Constant .none 0 ⟨0, 0, 0, 0⟩
def lcScope (e : Expr) : Scope := match e with
  | .ListComp _ _ sc _ => sc
  | _ => { kind := .function, names := [], isGenerator := false, isCoroutine := false }
def lcElt (e : Expr) : Expr := match e with
  | .ListComp e _ _ _ => e
  | _ => .Constant .none 0 ⟨0, 0, 0, 0⟩
def relab (sc : Scope) (out : Scope) : Scope := { sc with names := sc.names.map fun (n, k) => if (k == NameKind.free && out.kind == .function && out.names.lookup n == some .cell) then (n, NameKind.cell) else (n, k) }
theorem atI_of {α : Type} {xs : List α} {n : Int} (h0 : 0 ≤ n) (h1 : n < xs.length) : ∃ v, atI xs n = some v ∧ v ∈ xs := by
  have hj : n.toNat < xs.length := by omega
  refine ⟨xs[n.toNat], ?_, List.getElem_mem hj⟩
  have e : ((n.toNat : Nat) : Int) = n := by omega
  have z := atI_nat (xs := xs) (j := n.toNat) (v := xs[n.toNat]) (by simp [hj])
  rw [e] at z
  exact z
theorem tyes {σ : L2.St} {H : Hp} {f g : Hp → Prop} (h : f H) : tYes σ H fun b H3 => if b = true then f H3 else g H3 := by
  show (if true = true then f H else g H)
  rw [if_pos rfl]
  exact h
end Om

/-! enumerate(tuple) and enumerate(text) -/
namespace PySem
open Sem (wp)
open Builtin
set_option maxHeartbeats 2000000 in
theorem om_enum_new {u : Value} {ob : Obj} {Hh : Heap → Prop} (B : Begins u ob Hh) :
    Meets (Builtin.«enumerate.__new__» ⟨[.type "enumerate", u], []⟩) (fun _ R z => Hh z.heap ∧
      R (.ok (.ret (.ref (z.heap.push ob).objs.size))) { z with heap := (z.heap.push ob).push { cls := .type "enumerate", data := .fields #[.none, .bool false, .ref z.heap.objs.size, rawInt 0, .none, .none] } }) :=
  Meets.of_wp fun pr wo Ar Re st hq => by
    obtain ⟨hp0, gg, dd, tt, oo⟩ := st
    obtain ⟨hB, hq⟩ := hq
    have hs0 := sub_enumerate
    have step : ∀ {A' : Around} {E : Value → Shared → Prop} {Q : Value → Shared → Prop}, Q (.ref hp0.objs.size) ⟨hp0.push ob, gg, dd, tt, oo⟩ → wpAny (model pr wo) A' (pyIter u) Q E ⟨hp0, gg, dd, tt, oo⟩ :=
      fun q => B.iter pr wo _ _ ⟨hp0, gg, dd, tt, oo⟩ _ hB q
    wp_walk using step
    refine wpAny_stack_any fun zz => wpAny_pure ?_
    split
    · rename_i cc _ _ _ _ _
      cases (cc == Value.type "enumerate") <;> (wp_walk using step; exact ⟨_, rfl, hq⟩)
    · wp_walk using step
      exact ⟨_, rfl, hq⟩
theorem om_enum_call {prog : Program} {w : World} {A : Around} {E : Value → Shared → Prop} {s : Shared} {u : Value} {ob : Obj} {Hh : Heap → Prop} {Q : Value → Shared → Prop} (B : Begins u ob Hh) (hB : Hh s.heap)
    (hq : ∀ h', IsEnum h' (s.heap.objs.size + 1) s.heap.objs.size 0 .none → h'.get? s.heap.objs.size = some ob → (∀ b o, s.heap.get? b = some o → h'.get? b = some o) → Q (.ref (s.heap.objs.size + 1)) { s with heap := h' }) :
    wpAny (model prog w) A (call (.type "enumerate") [u]) Q E s := by
  refine callType_new F.called_enumerate (by decide) (F.typeCall_enumerate_1 _) (F.newCall_enumerate_1 _) (fun obj => F.args_object_init_2 obj _) F.entry_enumerate_new (om_enum_new B) ⟨hB, ?_⟩
  have z1 : (s.heap.push ob).objs.size = s.heap.objs.size + 1 := Heap.size_push ..
  show _ ∧ _
  rw [z1]
  have z2 : IsEnum ((s.heap.push ob).push { cls := .type "enumerate", data := .fields #[.none, .bool false, .ref s.heap.objs.size, rawInt 0, .none, .none] }) (s.heap.objs.size + 1) s.heap.objs.size 0 .none := by
    have z3 := Heap.get?_push_size (s.heap.push ob) (o := { cls := .type "enumerate", data := .fields #[.none, .bool false, .ref s.heap.objs.size, rawInt 0, .none, .none] }) rfl
    rw [z1] at z3
    exact z3
  exact ⟨⟨_, z2, rfl⟩, hq _ z2 (Heap.get?_push_of_some _ (Heap.get?_push_size _ B.free)) fun b o x => Heap.get?_push_of_some _ (Heap.get?_push_of_some _ x)⟩
end PySem
namespace Om
open PySem PySem.Spec PyProof.Rows L2
/-- the tuple's items in new pairs -/
def IteT (K : PySem.W.Frag) (a : Addr) (xs : List V) : It :=
  ⟨fun i H => SqT K H a xs ∧ i < xs.length, fun i H v H' => ∃ T x, v = .ref T ∧ H T = none ∧ H' = upd H T (.tup [.int (i : Nat), x]) ∧ xs[i]? = some x, fun i H => SqT K H a xs ∧ xs.length = i⟩
theorem turn_enumT {P : Program} {w : World} {K : PySem.W.Frag} {elts : List Expr} {kk : Nat} {tpos : Pos} {a e it : Addr} {xs : List V} (nae : a ≠ e) (nai : a ≠ it) (nei : e ≠ it) :
    Turn P w K (.Tuple elts kk tpos) (IteT K a xs) [e, it] e (fun i h => (∃ old, IsEnum h e it ((i : Nat) : Int) old) ∧ h.IsTupleIter it a i) where
  mem := by simp
  obj := fun i h ⟨⟨old, he⟩, o, ho, hc, hd⟩ b hb => by
    rcases (show b = e ∨ b = it by simpa using hb) with rfl | rfl
    · exact ⟨_, he, fun v q => nomatch q⟩
    · exact ⟨o, ho, fun v q => by rw [hd] at q; cases q⟩
  keep := fun i h h' ⟨⟨old, he⟩, hi⟩ k => ⟨⟨old, k e (by simp) _ he⟩, hi.at fun o q => k it (by simp) o q⟩
  item := by
    intro X eP ew eK hc i pins s σ H E I hf ⟨⟨old, he⟩, hit⟩ ⟨hq, hlt⟩
    subst eP ew eK
    obtain ⟨its, rv, tu, hz⟩ := I.tuple hq
    have hx : xs[i]? = some xs[i] := by simp [hlt]
    obtain ⟨u, hu, ru⟩ := rv.get hx
    have el : e < s.heap.objs.size := Heap.lt_size he
    have il : it < s.heap.objs.size := by obtain ⟨_, q, _⟩ := hit; exact Heap.lt_size q
    have hsz : i < its.toArray.size := by
      have := rv.length
      simp
      omega
    have hd0 : X.A.in1.handled = none := I.ok.hd hc
    refine wpAny_pyNext_enum_itemD (Draws.tuple hd0 it a nai its.toArray) he ⟨hit, tu⟩ hsz nei (by simp [nei, Ne.symm nae]) fun x h' tk hx2 ho hst hT hs2 hk => ?_
    obtain rfl : x = u := by
      have e1 : its.toArray[i]? = some x := hx2
      have e2 : its.toArray[i]? = some u := by simpa using hu
      rw [e1] at e2
      exact Option.some.inj e2
    refine ⟨_, rfl, wpAny_letOwnedTupleGo_enum (s := { s with heap := h', toks := tk + 1 }) ho fun h2 he2 sb => ?_⟩
    have hT2 := (sb.2 _ (Nat.ne_of_gt el)).trans hT
    have new : ObjOk X.prog X.w (upd H s.heap.objs.size (.tup [.int (i : Nat), xs[i]])) h2 s.heap.objs.size (.tup [.int (i : Nat), xs[i]]) :=
      ⟨(show 2 ≤ sizeLine by decide), [.int i tk, x], .cons ⟨_, rfl⟩ (.cons ru .nil), _, hT2, rfl, _, rfl⟩
    have I1 : Inv X pins σ (upd H s.heap.objs.size (.tup [.int (i : Nat), xs[i]])) { s with heap := h2, toks := tk + 1 } :=
      I.turnedNew (ch := [e, it]) (fun b ob hb q => (sb.2 b (by rintro rfl; simp at hb)).trans (hk b ob (by rintro rfl; simp at hb) (by rintro rfl; simp at hb) q)) hf (Nat.le_refl _) new
    have ei : ((i + 1 : Nat) : Int) = (i : Int) + 1 := by omega
    refine ⟨.ref s.heap.objs.size, _, I1, rfl, ⟨_, _, rfl, I.hok.fresh (Nat.le_refl _), rfl, hx⟩, ⟨⟨x, by rw [ei]; exact he2⟩, hst.1.at fun o q => (sb.2 it (Ne.symm nei)).trans q⟩, fun b hb => ?_⟩
    have hlt2 : b < s.heap.objs.size := by
      rcases (show b = e ∨ b = it by simpa using hb) with rfl | rfl
      · exact el
      · exact il
    rw [upd_ne (Nat.ne_of_lt hlt2)]
    exact (hf b hb).1
  done := by
    intro X eP ew eK hc i pins s σ H E I hf ⟨⟨old, he⟩, hit⟩ ⟨hq, hle⟩
    subst eP ew eK
    obtain ⟨its, rv, tu, hz⟩ := I.tuple hq
    obtain ⟨f0, f1, f2, f3, f4, f5⟩ := hf it (by simp)
    have hl := rv.length
    have hd0 : X.A.in1.handled = none := I.ok.hd hc
    obtain rfl : i = its.toArray.size := by simp; omega
    exact wpAny_pyNext_enum_endD (Draws.tuple hd0 it a nai its.toArray) he ⟨hit, tu⟩ fun h' eb => ⟨rfl, I.turned (t' := s.toks) (fun b o hb q => eb b o hb q) f0 f1 f3 f4 f5⟩
  self := fun A i s Q E ⟨⟨_, he⟩, _⟩ h => wpAny_pyIter_enum he h
def iEnumT (K : PySem.W.Frag) (ta : TA) : TI := fun σ H R => ta σ H fun vs H1 => ∃ a xs, vs = [.ref a] ∧ SqT K H1 a xs ∧ R (IteT K a xs) H1
theorem pi_enumT {X : Cx} {e : Expr} {ta : TA} {p pos tpos : Pos} {elts : List Expr} {kk : Nat} (hg : Gl X "enumerate") (hm : X.mg "enumerate" = none) (ha : PA X [e] ta) (hs : starEach [e] X.env = [(false, eval e X.env)] := by rfl) :
    PI X (.Tuple elts kk tpos) (.Call (.Name "enumerate" p) [e] [] pos) (iEnumT X.K ta) := by
  constructor
  intro pins s σ H R I h
  refine Call_ (ld_blt I hg hm boot_enumerate (PyProof.Rows.callWith_type1 (thn (ha.run pos pins s σ H _ I h) fun us s1 ⟨vs, H1, I1, r1, a, xs, ev, hq, q⟩ => ?_) hs rfl))
  subst ev
  cases r1 with
  | cons ra rr =>
    cases rr
    cases ra
    obtain ⟨its, rv, tu, hz⟩ := I1.tuple hq
    have la : a < s1.heap.objs.size := by obtain ⟨o, ho, _⟩ := tu; exact Heap.lt_size ho
    refine om_enum_call (begins_tuple a its.toArray) tu fun h' he hi hk => wpAny_pyIter_enum he ?_
    have I2 : Inv X pins σ H1 { s1 with heap := h' } := I1.kept (t' := s1.toks) hk
    refine ⟨s1.heap.objs.size + 1, [s1.heap.objs.size + 1, s1.heap.objs.size], _, _, H1, rfl, I2, turn_enumT (a := a) (xs := xs) (Nat.ne_of_lt (Nat.lt_succ_of_lt la)) (Nat.ne_of_lt la) (Nat.succ_ne_self _), ⟨⟨.none, he⟩, _, hi, rfl, rfl⟩, fun b hb => ?_, q⟩
    have hb2 : s1.heap.objs.size ≤ b := by
      rcases (show b = s1.heap.objs.size + 1 ∨ b = s1.heap.objs.size by simpa using hb) with rfl | rfl
      · omega
      · exact Nat.le_refl _
    exact I1.fpOk hb2 (I1.hok.fresh hb2)
/-- for i, x in enumerate(t): one turn from Pv i to Pv (i + 1) -/
theorem for_enumT {K : PySem.W.Frag} {a : Addr} {xs : List V} {g : TG} {tb : TS} {D : Ends} {σ : L2.St} {H : Hp} (Pv : Nat → L2.St → Hp → Prop) (h0 : Pv 0 σ H) (hl : ∀ i σ H, i ≤ xs.length → Pv i σ H → SqT K H a xs)
    (hs : ∀ i x T σ H, xs[i]? = some x → Pv i σ H → H T = none → g (.ref T) σ (upd H T (.tup [.int (i : Nat), x])) fun σ2 H2 => tb { D with nx := Pv (i + 1), ct := Pv (i + 1), bk := D.nx } σ2 H2) (hd : ∀ σ H, Pv xs.length σ H → D.nx σ H) :
    ∃ W : Nat → Nat → L2.St → Hp → Prop, (∃ m, W 0 m σ H) ∧ ∀ i m σ H, W i m σ H → ((IteT K a xs).stop i H ∧ D.nx σ H) ∨ ((IteT K a xs).go i H ∧ ∃ Nx : L2.St → Hp → Prop, (∀ σ' H', Nx σ' H' → ∃ m', m' < m ∧ W (i + 1) m' σ' H') ∧
      ∀ x H', (IteT K a xs).yld i H x H' → g x σ H' fun σ2 H2 => tb { D with nx := Nx, ct := Nx, bk := D.nx } σ2 H2) := by
  refine ⟨fun i m σ H => m = xs.length - i ∧ i ≤ xs.length ∧ Pv i σ H, ⟨xs.length, by omega, Nat.zero_le _, h0⟩, ?_⟩
  rintro i m σ H ⟨rfl, hi, p⟩
  have q := hl i σ H hi p
  by_cases hlt : i < xs.length
  · refine .inr ⟨⟨q, hlt⟩, Pv (i + 1), fun σ' H' p' => ⟨xs.length - (i + 1), by omega, rfl, hlt, p'⟩, fun x H' hy => ?_⟩
    obtain ⟨T, y, rfl, hT, rfl, hx⟩ := hy
    exact hs i y T σ H hx p hT
  · obtain rfl : i = xs.length := by omega
    exact .inl ⟨⟨q, rfl⟩, hd σ H p⟩
end Om


/-! the first wrong sign of rows: the program's way and the law's -/
namespace Om
def okB (c : Nat) : Bool := decide (c = 46 ∨ c = 126 ∨ (65 ≤ c ∧ c ≤ 90))
theorem okB_iff (c : Nat) : okB c = true ↔ okSign c := by unfold okB okSign; exact decide_eq_true_iff
/-- the first of n columns from i on that is missing or wrong -/
def fw (r : List Nat) : Nat → Nat → Option Nat
  | 0, _ => none
  | n + 1, i => if i = r.length ∨ okB (r.getD i 0) = false then some i else fw r n (i + 1)
def fwEnd (r : List Nat) (wd : Nat) : Option Nat := if wd < r.length then some wd else none
def orElse' (a b : Option Nat) : Option Nat := match a with
  | some c => some c
  | none => b
def fwc (r : List Nat) (wd : Nat) : Option Nat := orElse' (fw r wd 0) (fwEnd r wd)
def chkF (wd : Nat) : List (List Nat) → Nat → Option (Nat × Nat)
  | [], _ => none
  | r :: rs, i => if i = 12 then some (i, 0) else match fwc r wd with
    | some c => some (i, c)
    | none => chkF wd rs (i + 1)
def wdOf (r : List Nat) : Nat := max 1 (min r.length 12)
def chk : List (List Nat) → Option (Nat × Nat)
  | [] => some (0, 0)
  | r :: rs => chkF (wdOf r) (r :: rs) 0
def dc (w0 : Nat) (r : List Nat) : Nat → Nat → Option Nat
  | 0, _ => none
  | n + 1, i => if 12 ≤ i ∨ w0 ≤ i ∨ okB (r.getD i 0) = false then some i else dc w0 r n (i + 1)
def dcEnd (w0 : Nat) (r : List Nat) : Option Nat := if r.length < w0 then some r.length else none
def dcc (w0 : Nat) (r : List Nat) : Option Nat := orElse' (dc w0 r r.length 0) (dcEnd w0 r)
def dueF (w0 : Nat) : List (List Nat) → Nat → Option (Nat × Nat)
  | [], _ => none
  | r :: rs, i => if i = 12 then some (12, 0) else match dcc w0 r with
    | some c => some (i, c)
    | none => dueF w0 rs (i + 1)
def due : List (List Nat) → Option (Nat × Nat)
  | [] => some (0, 0)
  | [] :: _ => some (0, 0)
  | (c :: r) :: rs => dueF (r.length + 1) ((c :: r) :: rs) 0
theorem row_same {r : List Nat} {w0 wd : Nat} (hwd : wd = min w0 12) (hc : w0 ≤ 12 ∨ r.length = w0) :
    ∀ (m i n k : Nat), m = wd - i → i ≤ wd → i ≤ r.length → n = wd - i → k = r.length - i → orElse' (fw r n i) (fwEnd r wd) = orElse' (dc w0 r k i) (dcEnd w0 r) := by
  intro m
  induction m with
  | zero =>
    intro i n k hm hi hr hn hk
    obtain rfl : i = wd := by omega
    obtain rfl : n = 0 := by omega
    show fwEnd r i = _
    unfold fwEnd
    by_cases hl : i < r.length
    · rw [if_pos hl]
      obtain ⟨k', rfl⟩ : ∃ k', k = k' + 1 := ⟨k - 1, by omega⟩
      unfold dc
      rw [if_pos (by omega)]
      rfl
    · rw [if_neg hl]
      obtain rfl : k = 0 := by omega
      show none = dcEnd w0 r
      unfold dcEnd
      rw [if_neg (by omega)]
  | succ m ih =>
    intro i n k hm hi hr hn hk
    obtain ⟨n', rfl⟩ : ∃ n', n = n' + 1 := ⟨n - 1, by omega⟩
    by_cases he : i = r.length
    · obtain rfl : k = 0 := by omega
      unfold fw
      rw [if_pos (.inl he)]
      show some i = dcEnd w0 r
      unfold dcEnd
      rw [if_pos (by omega), he]
    · obtain ⟨k', rfl⟩ : ∃ k', k = k' + 1 := ⟨k - 1, by omega⟩
      unfold fw dc
      by_cases hb : okB (r.getD i 0) = false
      · rw [if_pos (.inr hb), if_pos (.inr (.inr hb))]
        rfl
      · rw [if_neg (by intro h; rcases h with h | h; exact he h; exact hb h), if_neg (by intro h; rcases h with h | h | h; omega; omega; exact hb h)]
        exact ih (i + 1) n' k' (by omega) (by omega) (by omega) (by omega) (by omega)
theorem fwc_dcc {r : List Nat} {w0 : Nat} (hc : w0 ≤ 12 ∨ r.length = w0) : fwc r (min w0 12) = dcc w0 r :=
  row_same (wd := min w0 12) rfl hc _ 0 _ _ rfl (Nat.zero_le _) (Nat.zero_le _) rfl rfl
theorem chkF_dueF {w0 : Nat} (h : w0 ≤ 12) : ∀ (rs : List (List Nat)) (i : Nat), chkF (min w0 12) rs i = dueF w0 rs i
  | [], _ => rfl
  | r :: rs, i => by
    unfold chkF dueF
    by_cases hi : i = 12
    · rw [if_pos hi, if_pos hi, hi]
    · rw [if_neg hi, if_neg hi, fwc_dcc (.inl h), chkF_dueF h rs (i + 1)]
theorem chk_due : ∀ rows : List (List Nat), chk rows = due rows
  | [] => rfl
  | [] :: rs => rfl
  | (c :: r) :: rs => by
    have hw : wdOf (c :: r) = min (r.length + 1) 12 := by unfold wdOf; simp only [List.length_cons]; omega
    show chkF (wdOf (c :: r)) ((c :: r) :: rs) 0 = dueF (r.length + 1) ((c :: r) :: rs) 0
    rw [hw]
    by_cases h : r.length + 1 ≤ 12
    · exact chkF_dueF h _ 0
    · unfold chkF dueF
      rw [if_neg (by decide), if_neg (by decide), fwc_dcc (r := c :: r) (w0 := r.length + 1) (.inr rfl)]
      have hs : ∃ x, dcc (r.length + 1) (c :: r) = some x := by
        rw [← fwc_dcc (r := c :: r) (w0 := r.length + 1) (.inr rfl)]
        unfold fwc fwEnd
        cases hf : fw (c :: r) (min (r.length + 1) 12) 0 with
        | some x => exact ⟨x, rfl⟩
        | none => exact ⟨_, if_pos (by simp only [List.length_cons]; omega)⟩
      obtain ⟨x, hx⟩ := hs
      rw [hx]
/-- rows that are good -/
theorem fw_none {r : List Nat} (h : ∀ c ∈ r, okSign c) : ∀ n i, i + n ≤ r.length → fw r n i = none
  | 0, _, _ => rfl
  | n + 1, i, hi => by
    unfold fw
    have h1 : okB (r.getD i 0) = true := by
      rw [okB_iff, List.getD_eq_getElem?_getD, List.getElem?_eq_getElem (by omega)]
      exact h _ (List.getElem_mem _)
    rw [if_neg (by rintro (h | h); · omega
                   · rw [h1] at h; cases h), fw_none h n (i + 1) (by omega)]
theorem chkF_none {wd : Nat} : ∀ (rs : List (List Nat)) (i : Nat), i + rs.length ≤ 12 → (∀ r ∈ rs, r.length = wd ∧ ∀ c ∈ r, okSign c) → chkF wd rs i = none
  | [], _, _, _ => rfl
  | r :: rs, i, hi, h => by
    obtain ⟨h1, h2⟩ := h r (List.mem_cons_self ..)
    unfold chkF
    have e : fwc r wd = none := by
      unfold fwc fwEnd
      rw [fw_none h2 wd 0 (by omega), if_neg (by omega)]
      rfl
    simp only [List.length_cons] at hi
    rw [if_neg (by omega), e]
    exact chkF_none rs (i + 1) (by omega) fun r hr => h r (List.mem_cons_of_mem _ hr)
theorem chk_rows {m : Nat} {rows : List (List Nat)} (h : RowsOk m rows) (hm : m ≤ 12) : chk rows = none := by
  obtain ⟨h1, h2, wd, w1, w2, hr⟩ := h
  cases rows with
  | nil => simp at h1
  | cons r rs =>
    have e := (hr r (List.mem_cons_self ..)).1
    have hw : wdOf r = wd := by unfold wdOf; omega
    show chkF (wdOf r) (r :: rs) 0 = none
    rw [hw]
    exact chkF_none _ 0 (by omega) hr
end Om


namespace Om
open PySem PySem.Spec PyProof.Rows L2
abbrev sFwc : Stmt := top 18
abbrev sChk : Stmt := top 17
abbrev sII : Stmt := inClass (top 7) 0
abbrev sIslI : Stmt := inClass (top 14) 0
def allSigns : Str := Str.ofString ".ABCDEFGHIJKLMNOPQRSTUVWXYZ~"
theorem allSigns_cps : allSigns.cps.toList = [46, 65, 66, 67, 68, 69, 70, 71, 72, 73, 74, 75, 76, 77, 78, 79, 80, 81, 82, 83, 84, 85, 86, 87, 88, 89, 90, 126] := by decide +kernel
theorem mem_allSigns (c : Nat) : decide (c ∈ allSigns.cps.toList) = okB c := by
  rw [allSigns_cps]
  unfold okB
  apply decide_eq_decide.mpr
  simp only [List.mem_cons, List.not_mem_nil, or_false]
  omega
def optV : Option Nat → V
  | some c => .int (c : Nat)
  | none => .non
def spFwc : Sp := fun vs H Q _ => ∃ (r : List Nat) (wd : Nat), vs = [.str (tx r), .int wd] ∧ r.length ≤ 1000 ∧ wd ≤ 12 ∧ Q (optV (fwc r wd)) H
theorem small_le {n : Nat} (h : n ≤ 1000) : n ≤ sizeLine := Nat.le_of_lt (small1000 h)
theorem fw_succ (r : List Nat) (n i : Nat) : fw r (n + 1) i = if i = r.length ∨ okB (r.getD i 0) = false then some i else fw r n (i + 1) := rfl
section
variable {P : Program} {w : World} {K : PySem.W.Frag} {mg : Str → Option Value} {base : Heap}
theorem scFwc : FnScope ["signs", "width", "column"] ["signs", "width"] (defScope sFwc) := ⟨rfl, rfl, rfl, by decide +kernel, rfl, by decide +kernel, by decide +kernel⟩
theorem ok_fwc {f : Addr} {fd : FuncData} (F : FnP K "_first_wrong_column" "_first_wrong_column" sFwc f fd) (grange : mg "range" = none) (glen : mg "len" = none) (gall : ∃ t, mg "ALL_SIGNS" = some (.str allSigns t)) :
    FnOk P w K mg base CX0 1 f fd ["signs", "width"] spFwc := by
  obtain ⟨t0, gall⟩ := gall
  refine F.ok scFwc (fun vs H Q E h => ?_) (fun cdv A outer s H vs Q E hr h => ?_)
  · obtain ⟨r, wd, rfl, _⟩ := h
    rfl
  · obtain ⟨r, wd, rfl, hl, hw, k⟩ := h
    have nd := scFwc.nd
    have hl2 : (tx r).length ≤ sizeLine := by rw [tx_len]; exact small_le hl
    refine ⟨_, PSs.nox (pss_cons (ps_for PassesOwn.never rfl (pi_range1 rfl grange (pa_cons (pv 1) pa_nil)) (pg_name (i := 2) nd rfl (.inl rfl))
        (pss_one (ps_if (PW.pt (pw_or (pt_cmpR op_eq (pv 2) (pe_callB call_len_str (by rfl) glen PySem.boot_len (pa_cons (pv 0) pa_nil)) (nomark _))
            (pw_or1 (pt_cmpR op_notIn_sign (pe_ix ix_str (pv 0) (pv 2) (fun _ _ => rfl)) (pe_glob (v := .str allSigns) rfl gall ⟨_, rfl⟩) rfl)))) (pss_one (ps_ret (pv 2))) pss_nil)))
      (pss_cons (ps_if (pt_cmpR op_gt (pe_callB call_len_str (by rfl) glen PySem.boot_len (pa_cons (pv 0) pa_nil)) (pv 1) (nomark _)) (pss_one (ps_ret (pv 1))) pss_nil)
      (pss_one (ps_ret pe_non)))), ?_⟩
    refine ⟨_, rfl, _, rfl, by omega, by omega, for_range (lo := 0) (n := (wd : Int).toNat) (fun i σ H' => H' = H ∧ (∃ v, σ = [some (.str (tx r)), some (.int wd), v]) ∧ fw r wd 0 = fw r (wd - i) i ∧ i ≤ r.length) ⟨rfl, ⟨none, rfl⟩, rfl, Nat.zero_le _⟩ ?_ ?_⟩
    · rintro i σ H' hi ⟨rfl, ⟨v, rfl⟩, hf, hir⟩
      have hi' : i < wd := by omega
      obtain ⟨n, hn⟩ : ∃ n, wd - i = n + 1 := ⟨wd - i - 1, by omega⟩
      have hn2 : n = wd - (i + 1) := by omega
      rw [hn, fw_succ] at hf
      refine ⟨_, rfl, _, rfl, _, rfl, hl2, rfl, _, rfl, ?_⟩
      have e1 : decide (V.int (0 + (i : Int)) = V.int ((tx r).length : Nat)) = decide (i = r.length) := by
        rw [tx_len]
        apply decide_eq_decide.mpr
        constructor
        · intro h; injection h with h; omega
        · intro h; subst h; rw [Int.zero_add]
      have ret : (i = r.length ∨ okB (r.getD i 0) = false) → Q (.int (0 + (i : Int))) H' := fun h => by
        rw [if_pos h] at hf
        have e2 : fwc r wd = some i := by
          unfold fwc
          rw [hf]
          rfl
        rw [e2] at k
        rw [Int.zero_add]
        exact k
      show (if decide (V.int (0 + (i : Int)) = V.int ((tx r).length : Nat)) = true then _ else _)
      rw [e1]
      refine ite2 (fun hz => ?_) (fun hz => ?_)
      · refine iteT ⟨_, rfl, ?_⟩
        exact ret (.inl (of_decide_eq_true hz))
      · have hne : i ≠ r.length := fun e => hz (decide_eq_true e)
        have hlt : i < r.length := by omega
        · refine ⟨_, rfl, _, rfl, _, _, r[i], rfl, rfl, hl2, ?_, _, _, rfl, rfl, _, rfl, ?_⟩
          · rw [tx_cps, Int.zero_add]
            exact atI_nat (by simp [hlt])
          · rw [mem_allSigns]
            have e3 : r.getD i 0 = r[i] := by rw [List.getD_eq_getElem?_getD, List.getElem?_eq_getElem hlt]; rfl
            rw [e3] at ret hf
            cases hb : okB r[i] with
            | false =>
              refine iteT ⟨_, rfl, ?_⟩
              exact ret (.inr hb)
            | true =>
              refine iteF ?_
              refine ⟨rfl, ⟨_, rfl⟩, ?_, hlt⟩
              rw [hf, if_neg (by rintro (h | h); · exact hne h
                                 · rw [hb] at h; cases h), hn2]
    · rintro σ H' ⟨rfl, ⟨v, rfl⟩, hf, hir⟩
      have e0 : (wd : Int).toNat = wd := by omega
      rw [e0, Nat.sub_self] at hf
      have hf : fw r wd 0 = none := hf
      refine ⟨_, rfl, _, rfl, hl2, _, rfl, _, _, rfl, rfl, _, rfl, ?_⟩
      have e2 : fwc r wd = fwEnd r wd := by
        unfold fwc
        rw [hf]
        rfl
      rw [e2] at k
      rw [tx_len]
      refine ite2 (fun hz => ?_) (fun hz => ?_)
      · have hz' : (wd : Int) < (r.length : Nat) := of_decide_eq_true hz
        refine ⟨_, rfl, ?_⟩
        unfold fwEnd at k
        rw [if_pos (by omega)] at k
        exact k
      · have hz' : ¬ (wd : Int) < (r.length : Nat) := fun h => hz (decide_eq_true h)
        unfold fwEnd at k
        rw [if_neg (by omega)] at k
        exact k
end
end Om


namespace Om
open PySem PySem.Spec PyProof.Rows L2
/-- what the top says of InvalidIsland, at C, its __init__ at fI -/
structure IsI (K : PySem.W.Frag) (mg : Str → Option Value) (C fI : Addr) : Prop where
  oex : OexC K C
  noR : PySem.W.findIn K (.ref C) "row" = some none
  noC : PySem.W.findIn K (.ref C) "column" = some none
  iC : PySem.W.findIn K (.ref C) "__init__" = some (some (.ref fI))
  tI : PySem.W.typeIn K (.ref fI) = some (.type "function")
  gC : mg "InvalidIsland" = some (.ref C)
def xdII (x y : V) : List (Str × V) := [(("column" : Str), y), (("row" : Str), x)]
def spII (C : Addr) : Sp := fun vs H Q _ => ∃ (a : Addr) (x y : V), vs = [.ref a, x, y] ∧ H a = some (exo a C none) ∧
  ∀ dx, H dx = none → dx ≠ a → Q .non (upd (upd (upd H dx (exd dx [(("row" : Str), x)])) a (exo a C (some dx))) dx (exd dx (xdII x y)))
theorem mkII {C : Addr} {H1 : Hp} {W : XK} {x y : V} (k : ∀ d H', H1 d = none → Same H1 H' → H' d = some (.xd (xdII x y)) → W (.ref C) (some d) H') :
    [x, y].length ≤ 1000 ∧ ∀ a, H1 a = none → spII C (.ref a :: ([x, y] ++ [])) (upd H1 a (exo a C none)) (fun v H2 => v = .non ∧ ∃ (d : Addr) (fs : List (Str × V)), H2 a = some (exo a C (some d)) ∧ H2 d = some (exd d fs) ∧ H1 d = none ∧ W (.ref C) (some d) (upd (del H2 a) d (.xd fs))) (fun _ _ _ => False) := by
  refine ⟨by simp, fun a ha => ⟨a, x, y, rfl, upd_same, fun dx h1 h2 => ⟨rfl, dx, _, ?_, upd_same, ?_, ?_⟩⟩⟩
  · rw [upd_ne (Ne.symm h2), upd_same]
  · rw [upd_ne h2] at h1; exact h1
  · rw [upd_ne h2] at h1
    refine k dx _ h1 (fun c o hc => ?_) upd_same
    have n1 : c ≠ dx := ne_of_none hc h1
    have n2 : c ≠ a := ne_of_none hc ha
    rw [upd_ne n1, del_ne n2, upd_ne n1, upd_ne n2, upd_ne n1, upd_ne n2]
    exact hc
theorem Same.tup {K : PySem.W.Frag} {H H' : Hp} {a : Addr} {xs : List V} (e : Same H H') (h : SqT K H a xs) : SqT K H' a xs := by
  rcases h with (h | ⟨o, h⟩) | h
  · exact .inl (.inl (e _ _ h))
  · exact .inl (.inr ⟨o, e _ _ h⟩)
  · exact .inr h
theorem chkF_cons (wd : Nat) (r : List Nat) (rs : List (List Nat)) (i : Nat) : chkF wd (r :: rs) i = if i = 12 then some (i, 0) else match fwc r wd with
    | some c => some (i, c)
    | none => chkF wd rs (i + 1) := rfl
def spChk (K : PySem.W.Frag) (C : Addr) : Sp := fun vs H Q E => ∃ (a : Addr) (rows : List (List Nat)), vs = [.ref a] ∧ SqT K H a (rows.map vt) ∧ rows.length ≤ 1000 ∧ (∀ r ∈ rows, r.length ≤ 1000) ∧
  (chk rows = none → ∀ H', Same H H' → Q .non H') ∧ ∀ r c, chk rows = some (r, c) → ∀ d H', H d = none → Same H H' → H' d = some (.xd (xdII (.int (r : Nat)) (.int (c : Nat)))) → E (.ref C) (some d) H'
section
variable {P : Program} {w : World} {K : PySem.W.Frag} {mg : Str → Option Value} {base : Heap} {C fI : Addr}
theorem scII : FnScope ["self", "row", "column"] ["self", "row", "column"] (defScope sII) := ⟨rfl, rfl, rfl, by decide +kernel, rfl, by decide +kernel, by decide +kernel⟩
theorem ok_II {fd : FuncData} (F : FnP K "__init__" "InvalidIsland.__init__" sII fI fd) (T : IsI K mg C fI) : FnOk P w K mg base CX0 1 fI fd ["self", "row", "column"] (spII C) := by
  refine F.ok scII (fun vs H Q E h => ?_) (fun cdv A outer s H vs Q E hr h => ?_)
  · obtain ⟨a, x, y, rfl, _⟩ := h
    rfl
  · obtain ⟨a, x, y, rfl, ha, k⟩ := h
    refine ⟨_, PSs.nox (pss_cons (ps_ost (pv 0) (pv 1)) (pss_one (ps_ost (pv 0) (pv 2)))), ?_⟩
    refine ⟨_, rfl, _, rfl, a, C, rfl, T.oex, T.noR, .inl ⟨ha, fun dx h1 h2 => ?_⟩⟩
    exact ⟨_, rfl, _, rfl, a, C, rfl, T.oex, T.noC, .inr ⟨dx, _, upd_same, (by rw [upd_ne h2]; exact upd_same), by simp, k dx h1 h2⟩⟩
abbrev nChk : List Str := ["rows", "width", "row", "signs", "column"]
theorem scChk : FnScope nChk ["rows"] (defScope sChk) := ⟨rfl, rfl, rfl, by decide +kernel, rfl, by decide +kernel, by decide +kernel⟩
theorem ok_chk {f : Addr} {fd fdI : FuncData} (F : FnP K "_check_rows" "_check_rows" sChk f fd) (T : IsI K mg C fI) (FI : FnOk P w K mg base CX0 1 fI fdI ["self", "row", "column"] (spII C)) (bI : Binds K fdI ["self", "row", "column"] [])
    (G : Cal P w K mg base CX0 1 "_first_wrong_column" ["signs", "width"] spFwc) (glen : mg "len" = none) (gmax : mg "max" = none) (gmin : mg "min" = none) (genum : mg "enumerate" = none) (glg : ∃ t, mg "LARGEST" = some (.int 12 t)) :
    FnOk P w K mg base (L2.CX P w) 3 f fd ["rows"] (spChk K C) := by
  obtain ⟨t0, glg⟩ := glg
  refine F.ok scChk (fun vs H Q E h => ?_) (fun cdv A outer s H vs Q E hr h => ?_)
  · obtain ⟨a, rows, rfl, _⟩ := h
    rfl
  · obtain ⟨a, rows, rfl, hS, hl, hrl, kN, kS⟩ := h
    have nd := scChk.nd
    have hr1 : Room 1 _ := hr.mono (by decide)
    refine ⟨_, pss_cons (ps_if (pt_cmpR op_eq (pe_callB call_len_seq (by rfl) glen PySem.boot_len (pa_cons (pv 0) pa_nil)) pe_int (nomark _))
          (pss_one (ps_raise rfl (takes_of rfl rfl rfl rfl) (pmk_oex T.oex T.iC T.tI FI hr bI .nil pass0 rfl T.gC (pa_cons pe_int (pa_cons pe_int pa_nil))))) pss_nil)
      (pss_cons (ps_set (i := 1) nd rfl (.inl rfl) (pe_callB (call_max2 rfl) (by rfl) gmax (by decide +kernel) (pa_cons pe_int (pa_cons
          (pe_callB (call_min2 rfl) (by rfl) gmin (by decide +kernel) (pa_cons (pe_callB call_len_str (by rfl) glen PySem.boot_len (pa_cons (pe_ix ix_tup (pv 0) pe_int (fun _ _ => rfl)) pa_nil)) (pa_cons (pe_glob (v := .int 12) rfl glg ⟨_, rfl⟩) pa_nil))) pa_nil))))
      (pss_one (ps_for (passes_of rfl) rfl (pi_enumT rfl genum (pa_cons (pv 0) pa_nil)) (pg_tup rfl (pgs_cons (pg_name (i := 2) nd rfl (.inl rfl)) (pgs_cons (pg_name (i := 3) nd rfl (.inl rfl)) pgs_nil)))
        (pss_cons (ps_if (pt_cmpR op_eq (pv 2) (pe_glob (v := .int 12) rfl glg ⟨_, rfl⟩) (nomark _))
            (pss_one (ps_raise rfl (takes_of rfl rfl rfl rfl) (pmk_oex T.oex T.iC T.tI FI hr bI .nil pass0 rfl T.gC (pa_cons (pv 2) (pa_cons pe_int pa_nil))))) pss_nil)
        (pss_cons (ps_set (i := 4) nd rfl (.inl rfl) (pe_cal G hr1 pass0 (pa_cons (pv 3) (pa_cons (pv 1) pa_nil))))
        (pss_one (ps_if (pt_cmpR op_notN (pv 4) pe_non (nomark _))
            (pss_one (ps_raise rfl (takes_of rfl rfl rfl rfl) (pmk_oex T.oex T.iC T.tI FI hr bI .nil pass0 rfl T.gC (pa_cons (pv 2) (pa_cons (pv 4) pa_nil))))) pss_nil))))))), ?_⟩
    refine ⟨_, rfl, a, _, rfl, .inr hS, rfl, _, rfl, ?_⟩
    cases rows with
    | nil =>
      refine iteT ?_
      exact mkII (W := E) fun d H' h1 h2 h3 => kS 0 0 rfl d H' h1 h2 h3
    | cons r0 rs =>
      have hne : ¬ decide (V.int (((r0 :: rs).map vt).length : Nat) = V.int 0) = true := fun h => by
        have h := of_decide_eq_true h
        injection h with h
        simp only [List.length_map, List.length_cons] at h
        omega
      rw [if_neg hne]
      have hr0 : (tx r0).length ≤ sizeLine := by rw [tx_len]; exact small_le (hrl r0 (List.mem_cons_self ..))
      refine ⟨_, rfl, a, _, 0, _, rfl, rfl, hS, at0, _, rfl, hr0, _, _, rfl, _, _, rfl, ?_⟩
      have ew : (if (if (12 : Int) < ((tx r0).length : Nat) then (12 : Int) else ((tx r0).length : Nat)) > 1 then (if (12 : Int) < ((tx r0).length : Nat) then (12 : Int) else ((tx r0).length : Nat)) else 1) = ((wdOf r0 : Nat) : Int) := by
        rw [tx_len]
        unfold wdOf
        split <;> split <;> omega
      rw [ew]
      have hwd : wdOf r0 ≤ 12 := by unfold wdOf; omega
      refine ⟨_, rfl, a, _, rfl, hS, for_enumT (K := K) (a := a) (xs := (r0 :: rs).map vt) (fun i σ H' => Same H H' ∧ (∃ v2 v3 v4, σ = [some (.ref a), some (.int (wdOf r0 : Nat)), v2, v3, v4]) ∧ chk (r0 :: rs) = chkF (wdOf r0) ((r0 :: rs).drop i) i)
        ⟨Same.refl H, ⟨_, _, _, rfl⟩, rfl⟩ (fun i σ H' _ p => Same.tup p.1 hS) ?_ ?_⟩
      · rintro i x T1 σ H1 hx ⟨sm, ⟨v2, v3, v4, rfl⟩, hc⟩ hT1
        rw [List.getElem?_map] at hx
        cases hri : (r0 :: rs)[i]? with
        | none => rw [hri] at hx; cases hx
        | some r =>
          rw [hri] at hx
          obtain rfl : vt r = x := Option.some.inj hx
          have hlt : i < (r0 :: rs).length := (List.getElem?_eq_some_iff.mp hri).1
          have hre : (r0 :: rs)[i] = r := (List.getElem?_eq_some_iff.mp hri).2
          have hmem : r ∈ r0 :: rs := hre ▸ List.getElem_mem hlt
          rw [List.drop_eq_getElem_cons hlt, hre, chkF_cons] at hc
          have sm1 : Same H (upd H1 T1 (.tup [.int (i : Nat), vt r])) := Same.new sm hT1
          refine ⟨T1, _, rfl, .inl (.inl upd_same), rfl, _, _, rfl, _, _, rfl, rfl, ?_⟩
          refine ⟨_, rfl, rfl, _, rfl, ?_⟩
          refine ite2 (fun hz => ?_) (fun hz => ?_)
          · have hz := of_decide_eq_true hz
            injection hz with hz
            have hi : i = 12 := by omega
            rw [if_pos hi] at hc
            refine ⟨_, rfl, ?_⟩
            exact mkII (W := E) fun d H' h1 h2 h3 => kS i 0 hc d H' (Same.free sm1 h1) (sm1.trans h2) h3
          · have hi : i ≠ 12 := fun h => hz (decide_eq_true (by rw [h]; rfl))
            rw [if_neg hi] at hc
            refine ⟨_, rfl, _, rfl, r, wdOf r0, rfl, hrl r hmem, hwd, ?_⟩
            refine ⟨_, rfl, rfl, _, rfl, ?_⟩
            cases hf : fwc r (wdOf r0) with
            | none =>
              rw [hf] at hc
              refine iteF ?_
              exact ⟨sm1, ⟨_, _, _, rfl⟩, hc⟩
            | some c =>
              rw [hf] at hc
              refine iteT ⟨_, rfl, _, rfl, ?_⟩
              exact mkII (W := E) fun d H' h1 h2 h3 => kS i c hc d H' (Same.free sm1 h1) (sm1.trans h2) h3
      · rintro σ H1 ⟨sm, ⟨v2, v3, v4, rfl⟩, hc⟩
        have e0 : (r0 :: rs).drop ((r0 :: rs).map vt).length = [] := by simp
        rw [e0] at hc
        exact kN hc H1 sm
end
end Om


namespace Om
open PySem PySem.Spec PyProof.Rows L2 LamX
theorem iteT' {b : Bool} {A B : Prop} (h : b = true) (a : A) : if b = true then A else B := by
  rw [h, if_pos rfl]
  exact a
theorem iteF' {b : Bool} {A B : Prop} (h : b = false) (a : B) : if b = true then A else B := by
  rw [h, if_neg Bool.false_ne_true]
  exact a
end Om

namespace Om
open PySem PySem.Spec PyProof.Rows L2 LamX
/-! ### a text of some signs, several times -/
theorem foldl_rep (cs : List Nat) : ∀ (n : Nat) (acc : List Nat), (List.replicate n cs.toArray).foldl (· ++ ·) acc.toArray = (acc ++ (List.replicate n cs).flatten).toArray
  | 0, acc => by simp
  | n + 1, acc => by
    rw [List.replicate_succ, List.foldl_cons]
    have e : acc.toArray ++ cs.toArray = (acc ++ cs).toArray := by simp
    rw [e, foldl_rep cs n (acc ++ cs), List.replicate_succ, List.flatten_cons, List.append_assoc]
def rMulS : R2 := fun x y H Q => ∃ (cs : List Nat) (k : Int), x = .str (tx cs) ∧ y = .int k ∧ cs ≠ [] ∧ cs.length ≤ 1000 ∧ 2 ≤ k ∧ k ≤ 1000 ∧ Q (.str (tx (List.replicate k.toNat cs).flatten)) H
theorem op_mulS {X : Cx} : OpR X (binaryOp .Mult) rMulS := by
  rintro pins s σ H x y v u Q I rx ry ⟨cs, k, rfl, rfl, hne, hl, h2, h3, q⟩
  obtain ⟨t, rfl⟩ := rx
  obtain ⟨t', rfl⟩ := ry
  have hk : (List.replicate k.toNat cs).flatten.length ≤ 1000000 := by
    rw [PyProof.Rows.lm_len_rep_flat]
    have a1 : k.toNat * cs.length ≤ 1000 * 1000 := Nat.mul_le_mul (by omega) hl
    omega
  have hm : (tx cs).length * k.toNat ≤ 1000000 := by
    rw [tx_len]
    have a1 : cs.length * k.toNat ≤ 1000 * 1000 := Nat.mul_le_mul hl (by omega)
    omega
  have n1 : ¬ k < 1 := by omega
  have n2 : (k == 1 || (tx cs).length == 0) = false := by
    rw [tx_len, Bool.or_eq_false_iff]
    refine ⟨by simpa using (show ¬ k = 1 by omega), ?_⟩
    cases cs with
    | nil => exact absurd rfl hne
    | cons a r => rfl
  refine PySem.P.mul_str ?_ (fun _ _ => ?_) (fun _ _ => ?_) ?_
  · rw [decide_eq_false (show ¬ k < -(2 ^ 63 : Int) by omega), decide_eq_false (show ¬ k ≥ 2 ^ 63 by omega)]
    rfl
  · have e1 : (1000 : Int) ≤ (2 ^ 63 - 1) / k := by
      rw [Int.le_ediv_iff_mul_le (by omega)]
      have : 1000 * k ≤ 1000 * 1000 := Int.mul_le_mul_of_nonneg_left h3 (by omega)
      omega
    rw [tx_len]
    omega
  · refine decide_eq_false (show ¬ (tx cs).length * k.toNat > sizeLine from Nat.not_lt.mpr (Nat.le_trans hm (by decide)))
  · rw [if_neg n1, if_neg (by rw [n2]; exact Bool.false_ne_true)]
    have e2 : (⟨(List.replicate k.toNat (tx cs).cps).foldl (· ++ ·) #[]⟩ : Str) = tx (List.replicate k.toNat cs).flatten := by
      have := foldl_rep cs k.toNat []
      unfold tx
      rw [← List.nil_append (List.replicate k.toNat cs).flatten, ← this]
    rw [e2]
    exact ⟨by rw [tx_len]; exact Nat.le_trans hk (by decide), .str (tx (List.replicate k.toNat cs).flatten), H, I.tok _, ⟨_, rfl⟩, q⟩
/-! ### the island is made -/
/-- what the top says of Island, at CI -/
structure IslF (K : PySem.W.Frag) (mg : Str → Option Value) (CI fN : Addr) : Prop where
  cl : Cls K CI
  nR : NoAttr K CI "_rows"
  made : Mk K CI fN
  gI : mg "Island" = some (.ref CI)
def islFs (a : Addr) : List (Str × V) := putF "_rows" (.ref a) []
def spIsl (K : PySem.W.Frag) (CI C0 : Addr) : Sp := fun vs H Q E => ∃ (p dx a : Addr) (rows : List (List Nat)), vs = [.ref p, .ref a] ∧ H p = some (.ins CI dx []) ∧ SqT K H a (rows.map vt) ∧ rows.length ≤ 1000 ∧ (∀ r ∈ rows, r.length ≤ 1000) ∧
  (chk rows = none → ∀ H', (∀ b o, H b = some o → b ≠ p → H' b = some o) → H' p = some (.ins CI dx (islFs a)) → Q .non H') ∧
  ∀ r c, chk rows = some (r, c) → ∀ d H', H d = none → Same H H' → H' d = some (.xd (xdII (.int (r : Nat)) (.int (c : Nat)))) → E (.ref C0) (some d) H'
section
variable {P : Program} {w : World} {K : PySem.W.Frag} {mg : Str → Option Value} {base : Heap} {CI C0 fN : Addr}
theorem scIsl : FnScope ["self", "rows"] ["self", "rows"] (defScope sIslI) := ⟨rfl, rfl, rfl, by decide +kernel, rfl, by decide +kernel, by decide +kernel⟩
theorem ok_isl {fd : FuncData} (F : FnP K "__init__" "Island.__init__" sIslI fN fd) (T : IslF K mg CI fN) (G : Cal P w K mg base (L2.CX P w) 3 "_check_rows" ["rows"] (spChk K C0)) (gtuple : mg "tuple" = none) :
    FnOk P w K mg base (L2.CX P w) 4 fN fd ["self", "rows"] (spIsl K CI C0) := by
  refine F.ok scIsl (fun vs H Q E h => ?_) (fun cdv A outer s H vs Q E hr h => ?_)
  · obtain ⟨p, dx, a, rows, rfl, _⟩ := h
    rfl
  · obtain ⟨p, dx, a, rows, rfl, hp, hS, hl, hrl, kN, kS⟩ := h
    refine ⟨_, pss_cons (ps_expr (pe_cal G hr (E := E) (passes_call (W := fun cls d _ H => E cls d H) (takes_of rfl rfl rfl rfl) fun _ _ _ _ h => h) (pa_cons (pv 1) pa_nil)))
      (pss_one (ps_fld (pv 0) (pe_callTy call_tuple_of (by rfl) gtuple (by decide +kernel) (pa_cons (pv 1) pa_nil)) rfl)), ?_⟩
    refine ⟨_, rfl, a, rows, rfl, hS, hl, hrl, fun e H1 s1 => ?_, fun r c e d H' h1 h2 h3 => kS r c e d H' h1 h2 h3⟩
    refine ⟨_, rfl, a, _, rfl, .inr ⟨Same.tup s1 hS, ?_⟩⟩
    refine ⟨_, rfl, p, CI, dx, [], rfl, s1 _ _ hp, T.cl, T.nR, by decide, ?_⟩
    exact kN e _ (fun b o hb n => by rw [upd_ne n]; exact s1 _ _ hb) upd_same
end
end Om


namespace Om
open PySem PySem.Spec PyProof.Rows L2 LamX
def ansII (r c : Nat) : List V := [.str "InvalidIsland", .int (r : Nat), .int (c : Nat)]
def Lo (rows : List (List Nat)) : Prop := ∀ r ∈ rows, ∀ c ∈ r, c < 1000
/-! ### what stays from step to step of a law -/
/-- all but tables and the box stay -/
def Lv (b l : Addr) (H H' : Hp) : Prop := ∀ c o, H c = some o → (∀ ps, o ≠ .tbl ps) → c ≠ b → c ≠ l → H' c = some o
theorem Lv.refl (b l : Addr) (H : Hp) : Lv b l H H := fun _ _ h _ _ _ => h
theorem Lv.trans {b l : Addr} {H H1 H2 : Hp} (u : Lv b l H H1) (v : Lv b l H1 H2) : Lv b l H H2 := fun c o h n n1 n2 => v c o (u c o h n n1 n2) n n1 n2
theorem Kp.lv {b l : Addr} {H H' : Hp} (k : Kp b l H H') : Lv b l H H' := fun c o h _ n1 n2 => k c o h n1 n2
theorem lv_ext {b l : Addr} {H H' : Hp} (k : ExtN H H') : Lv b l H H' := fun c o h n _ _ => k c o h n
theorem lv_same {b l : Addr} {H H' : Hp} (k : Same H H') : Lv b l H H' := fun c o h _ _ _ => k c o h
theorem Lv.tup {K : PySem.W.Frag} {b l a : Addr} {H H' : Hp} {xs : List V} (v : Lv b l H H') (B : Box H b l) (h : SqT K H a xs) : SqT K H' a xs := by
  obtain ⟨ns, z, h1, h2, _⟩ := B.ex
  rcases h with (h | ⟨o, h⟩) | h
  · exact .inl (.inl (v _ _ h (fun ps e => by cases e) (ne_of h h1 fun e => by cases e) (ne_of h h2 fun e => by cases e)))
  · exact .inl (.inr ⟨o, v _ _ h (fun ps e => by cases e) (ne_of h h1 fun e => by cases e) (ne_of h h2 fun e => by cases e)⟩)
  · exact .inr h
theorem Box.ext {b l : Addr} {H H' : Hp} (B : Box H b l) (k : ExtN H H') : Box H' b l := by
  obtain ⟨ns, z, h1, h2, h3⟩ := B.ex
  exact ⟨ns, z, k _ _ h1 (fun ps e => by cases e), k _ _ h2 (fun ps e => by cases e), h3⟩
theorem tabs_kp {T : List (Addr × Str)} {b l : Addr} {H H' : Hp} (t : Tabs T H) (B : Box H b l) (k : Kp b l H H') : Tabs T H' := fun p hp => by
  obtain ⟨ns, z, h1, h2, _⟩ := B.ex
  obtain ⟨ps, q1, q2, q3⟩ := t p hp
  refine ⟨ps, k _ _ q1 (ne_of q1 h1 fun e => by cases e) (ne_of q1 h2 fun e => by cases e), q2, fun pos cv hc => ?_⟩
  obtain ⟨c, e1, e2⟩ := q3 pos cv hc
  exact ⟨c, e1, k _ _ e2 (ne_of e2 h1 fun e => by unfold CodeO at e; cases e) (ne_of e2 h2 fun e => by unfold CodeO at e; cases e)⟩
/-! ### tuples cut and put together -/
theorem catA_read {K : PySem.W.Frag} {a b : Addr} {xs ys : List V} {H : Hp} {Q : VK} (hx : SqT K H a xs) (hy : SqT K H b ys) (hl : xs.length + ys.length ≤ sizeLine) (k : ∀ p H', Same H H' → SqT K H' p (xs ++ ys) → Q (.ref p) H') : rCatA K (.ref a) (.ref b) H Q :=
  ⟨a, b, xs, ys, rfl, rfl, hx, hy, hl, fun e => k b H (Same.refl H) (by rw [e]; exact hy), fun _ e => k a H (Same.refl H) (by rw [e, List.append_nil]; exact hx), fun _ _ p hp => k p _ (Same.new (Same.refl H) hp) (.inl (.inl upd_same))⟩
theorem slA_read {K : PySem.W.Frag} {a : Addr} {xs : List V} {lo hi : Option Int} {H : Hp} {Q : VK} (hx : SqT K H a xs) (k : ∀ p H', Same H H' → SqT K H' p (cutV xs lo hi) → Q (.ref p) H') : rSlA K (.ref a) lo hi H Q := by
  refine ⟨a, xs, rfl, hx, fun ⟨e1, e2⟩ => k a H (Same.refl H) ?_, fun _ p hp => k p _ (Same.new (Same.refl H) hp) (.inl (.inl upd_same))⟩
  unfold cutV
  rw [e1, e2, List.drop_zero, Nat.sub_zero, List.take_length]
  exact hx
/-! ### rows with some bound -/
structure Good (rows : List (List Nat)) : Prop where
  len : rows.length ≤ 900
  row : ∀ r ∈ rows, r.length ≤ 1000 ∧ ∀ c ∈ r, c < 1000
theorem Good.lens {rows : List (List Nat)} (g : Good rows) : ∀ r ∈ rows, r.length ≤ 1000 := fun r h => (g.row r h).1
theorem Good.lo {rows : List (List Nat)} (g : Good rows) : Lo rows := fun r h => (g.row r h).2
theorem Good.le {rows : List (List Nat)} (g : Good rows) : rows.length ≤ 1000 := Nat.le_trans g.len (by decide)
theorem RowsOk.good {m : Nat} {rows : List (List Nat)} (h : RowsOk m rows) (hm : m ≤ 12) : Good rows := by
  obtain ⟨h1, h2, wd, w1, w2, hr⟩ := h
  refine ⟨by omega, fun r hr' => ⟨by have := (hr r hr').1; omega, fun c hc => ?_⟩⟩
  rcases (hr r hr').2 c hc with e | e | e <;> omega
theorem cutV_rows (rows : List (List Nat)) (lo hi : Option Int) : ∃ rs : List (List Nat), cutV (rows.map vt) lo hi = rs.map vt ∧ rs.length ≤ rows.length ∧ ∀ r ∈ rs, r ∈ rows := by
  refine ⟨(rows.drop (HT.sIx (rows.map vt).length 0 lo)).take (HT.sIx (rows.map vt).length (rows.map vt).length hi - HT.sIx (rows.map vt).length 0 lo), ?_, ?_, fun r h => List.mem_of_mem_drop (List.mem_of_mem_take h)⟩
  · unfold cutV
    rw [List.map_take, List.map_drop]
  · rw [List.length_take, List.length_drop]
    omega
theorem cutS_tx (r : List Nat) (lo hi : Option Int) : ∃ q : List Nat, cutS (tx r) lo hi = tx q ∧ q.length ≤ r.length ∧ ∀ c ∈ q, c ∈ r := by
  refine ⟨_, rfl, ?_, fun c h => ?_⟩
  · rw [List.length_take, List.length_drop, tx_cps]
    omega
  · have := List.mem_of_mem_drop (List.mem_of_mem_take h)
    rwa [tx_cps] at this
/-! ### the answers of _law_error and of _law_due -/
end Om

namespace Om
open PySem PySem.Spec PyProof.Rows L2 LamX
/-! ### own __getitem__, __contains__, __len__, __eq__ -/
/-- the class at C finds the name as the def at f -/
structure OwnM (K : PySem.W.Frag) (C : Addr) (n : Str) (f : Addr) : Prop where
  at_ : PySem.W.findIn K (.ref C) n = some (some (.ref f))
  fn : PySem.W.isFn K (.ref f) = true
  isF : PySem.W.fnIn K f = true
section
variable {X : Cx} {CX : CXT} {k : Nat} {C f : Addr} {fd : FuncData} {ps : List Str} {sp : Sp} {E : XK}
theorem run_fnS {A : Around} {pins : List (Addr × Obj)} {σ : L2.St} {H : Hp} {s : Shared} {Q : VK} {us : List Value} {vs : List V} (F : FnOk X.prog X.w X.K X.mg X.base CX k f fd ps sp) (sb : Sub X k A) (hb : Binds X.K fd ps []) (hx : Passes CX X E) (I : Inv X pins σ H s)
    (r : Vals vs us) (h : sp vs H Q E) : wpAny (model X.prog X.w) A (call (.ref f) us) (EP X pins σ Q) X.xe s := by
  have e0 : Env0 X.prog X.w X.K X.mg X.base A X.stack s H := by
    have e := I.env0
    exact ⟨by rw [sb.fr]; exact e.frames, e.mod, e.bs, e.bsz, e.funs, e.frf, e.hok, e.bare⟩
  have hl : us.length = ps.length := by rw [← r.length]; exact F.len _ _ _ _ h
  refine wpAny_call (codeAny_mono (F.run A X.stack s H ⟨us, []⟩ us vs Q E sb.room e0 (by
    have := hb s us I.kIn (by simpa using hl)
    simpa using this) r h) fun r s' hq => ?_)
  cases r with
  | error e => exact hx pins σ H s e s' I hq
  | ok fl =>
    cases fl with
    | ret w =>
      obtain ⟨v, H', I', rz, q⟩ := I.after hq
      exact ⟨v, H', I', rz, q⟩
    | next => exact False.elim hq
    | brk => exact False.elim hq
    | cont => exact False.elim hq
def rIxOwn (C : Addr) (sp : Sp) (E : XK) : R2 := fun x y H Q => ∃ a dx fs, x = .ref a ∧ H a = some (.ins C dx fs) ∧ sp [x, y] H Q E
theorem pe_ixOwn {a b : Expr} {ta tb : TE} {pos : Pos} (M : OwnM X.K C "__getitem__" f) (F : FnOk X.prog X.w X.K X.mg X.base CX k f fd ps sp) (hr : Room (k + 1) X.A) (hb : Binds X.K fd ps []) (hx : Passes CX X E) (ha : PE X a ta) (hi : PE X b tb)
    (hsl : ∀ v u, subscripted b true v u = runValue (.builtin "lifetime.subscript" ⟨[v, u], []⟩) := by intro v u; rfl) : PE X (.Subscript a b pos) (tOp (rIxOwn C sp E) ta tb) := by
  refine ⟨fun pins s σ H Q I h => ?_⟩
  refine Subscript_ (binT ha hi I h fun v u s2 x y H2 I2 rx ry q => ?_)
  obtain ⟨p, dx, fs, rfl, hp, q⟩ := q
  cases rx
  obtain ⟨mA, J, _⟩ := ins_get I2.hok hp
  obtain ⟨od, J, _⟩ := J.look
  obtain ⟨m, hF⟩ := I2.fr
  exact PySem.W.sub_K hF I2.ok.mod.kin J M.at_ M.isF M.fn (run_fnS F ⟨hr.in1, rfl⟩ hb hx I2 (.cons (show RelV (V.ref p) (Value.ref p) from rfl) (.cons ry .nil)) q) (hsl _ _)
def rInOwn (C : Addr) (sp : Sp) (E : XK) : R2 := fun x y H Q => ∃ a dx fs, y = .ref a ∧ H a = some (.ins C dx fs) ∧ sp [y, x] H (fun v H' => ∃ b, v = .bl b ∧ Q (.bl b) H') E
theorem op_inOwn (M : OwnM X.K C "__contains__" f) (F : FnOk X.prog X.w X.K X.mg X.base CX k f fd ps sp) (hr : Room k X.A) (hb : Binds X.K fd ps []) (hx : Passes CX X E) : OpR X (compareOp .In) (rInOwn C sp E) := by
  intro pins s σ H x y v u Q I rx ry h
  obtain ⟨p, dx, fs, rfl, hp, q⟩ := h
  cases ry
  obtain ⟨mA, J, _⟩ := ins_get I.hok hp
  obtain ⟨od, J, _⟩ := J.look
  obtain ⟨m, hF⟩ := I.fr
  refine PySem.W.in_K hF I.ok.mod.kin J M.at_ M.fn (wpAny_mono (run_fnS F ⟨hr, rfl⟩ hb hx I (.cons (show RelV (V.ref p) (Value.ref p) from rfl) (.cons rx .nil)) q) (fun r s' z => ?_) fun _ _ z => z)
  obtain ⟨z, H', I', rz, b, ez, q⟩ := z
  subst ez
  cases rz
  exact wpAny_truthy_bool ⟨.bl b, H', I', rfl, q⟩
def rNotInOwn (C : Addr) (sp : Sp) (E : XK) : R2 := fun x y H Q => ∃ a dx fs, y = .ref a ∧ H a = some (.ins C dx fs) ∧ sp [y, x] H (fun v H' => ∃ b, v = .bl b ∧ Q (.bl (!b)) H') E
theorem op_notInOwn (M : OwnM X.K C "__contains__" f) (F : FnOk X.prog X.w X.K X.mg X.base CX k f fd ps sp) (hr : Room k X.A) (hb : Binds X.K fd ps []) (hx : Passes CX X E) : OpR X (compareOp .NotIn) (rNotInOwn C sp E) := by
  intro pins s σ H x y v u Q I rx ry h
  obtain ⟨p, dx, fs, rfl, hp, q⟩ := h
  cases ry
  obtain ⟨mA, J, _⟩ := ins_get I.hok hp
  obtain ⟨od, J, _⟩ := J.look
  obtain ⟨m, hF⟩ := I.fr
  refine PySem.W.notIn_K hF I.ok.mod.kin J M.at_ M.fn (wpAny_mono (run_fnS F ⟨hr, rfl⟩ hb hx I (.cons (show RelV (V.ref p) (Value.ref p) from rfl) (.cons rx .nil)) q) (fun r s' z => ?_) fun _ _ z => z)
  obtain ⟨z, H', I', rz, b, ez, q⟩ := z
  subst ez
  cases rz
  exact wpAny_truthy_bool ⟨.bl (!b), H', I', rfl, q⟩
/-- both sides instances of C -/
def rEqOwn (C : Addr) (sp : Sp) (E : XK) : R2 := fun x y H Q => ∃ a dx fs b dy gs, x = .ref a ∧ H a = some (.ins C dx fs) ∧ y = .ref b ∧ H b = some (.ins C dy gs) ∧ sp [x, y] H (fun v H' => ∃ b, v = .bl b ∧ Q (.bl b) H') E
theorem op_eqOwn (M : OwnM X.K C "__eq__" f) (F : FnOk X.prog X.w X.K X.mg X.base CX k f fd ps sp) (hr : Room k X.A) (hb : Binds X.K fd ps []) (hx : Passes CX X E) : OpR X (compareOp .Eq) (rEqOwn C sp E) := by
  intro pins s σ H x y v u Q I rx ry h
  obtain ⟨p, dx, fs, q', dy, gs, rfl, hp, rfl, hq, q⟩ := h
  cases rx
  cases ry
  obtain ⟨mA, J, _⟩ := ins_get I.hok hp
  obtain ⟨od, J, _⟩ := J.look
  obtain ⟨mB, J', _⟩ := ins_get I.hok hq
  obtain ⟨od', J', _⟩ := J'.look
  obtain ⟨m, hF⟩ := I.fr
  show wpAny (model X.prog X.w) X.A (richCompare .Eq _ _) _ _ _
  refine PySem.W.cmp_K (op := .Eq) (tb := .ref C) hr.units0 hF I.ok.mod.kin J J'.type (by simp [PySem.W.notFirst]) M.at_ M.fn (wpAny_mono (run_fnS F ⟨hr, rfl⟩ hb hx I (.cons (show RelV (V.ref p) (Value.ref p) from rfl) (.cons (show RelV (V.ref q') (Value.ref q') from rfl) .nil)) q) (fun r s' z => ?_) fun _ _ z => z)
  obtain ⟨z, H', I', rz, b, ez, q⟩ := z
  subst ez
  cases rz
  exact ⟨.bl b, H', I', rfl, q⟩
/-- len(o) -/
def rLenOwn (C : Addr) (sp : Sp) (E : XK) : List V → Hp → VK → Prop := fun xs H Q => ∃ a dx fs, xs = [.ref a] ∧ H a = some (.ins C dx fs) ∧ sp xs H (fun v H' => ∃ n : Int, v = .int n ∧ 0 ≤ n ∧ n < 2 ^ 63 ∧ Q (.int n) H') E
theorem call_lenOwn (M : OwnM X.K C "__len__" f) (F : FnOk X.prog X.w X.K X.mg X.base CX k f fd ps sp) (hr : Room (k + 1) X.A) (hb : Binds X.K fd ps []) (hx : Passes CX X E) : CallR X (.builtin "len") (rLenOwn C sp E) := by
  intro pins s σ H xs us Q I r h
  obtain ⟨p, dx, fs, rfl, hp, q⟩ := h
  cases r with
  | cons r1 r2 =>
    cases r2
    cases r1
    obtain ⟨mA, J, _⟩ := ins_get I.hok hp
    obtain ⟨od, J, _⟩ := J.look
    obtain ⟨m, hF⟩ := I.fr
    refine PySem.W.len_K hF I.ok.mod.kin J M.at_ M.fn (wpAny_mono (run_fnS F ⟨hr.in1, rfl⟩ hb hx I (.cons (show RelV (V.ref p) (Value.ref p) from rfl) .nil) q) (fun r s' z => ?_) fun _ _ z => z)
    obtain ⟨z, H', I', rz, n, ez, n0, n1, q⟩ := z
    subst ez
    obtain ⟨t, rfl⟩ := rz
    exact ⟨⟨n0, n1⟩, .int n, H', I'.tok (s'.toks + 1), ⟨_, rfl⟩, q⟩
end
end Om


namespace Om
open PySem PySem.Spec PyProof.Rows L2
/-! ### enumerate(text) -/
def IteS (x : Str) : It :=
  ⟨fun i _ => i < x.cps.size, fun i H v H' => ∃ T c, v = .ref T ∧ H T = none ∧ H' = upd H T (.tup [.int (i : Nat), .str ⟨#[c]⟩]) ∧ x.cps[i]? = some c, fun i _ => x.cps.size = i⟩
theorem turn_enumS {P : Program} {w : World} {K : PySem.W.Frag} {elts : List Expr} {kk : Nat} {tpos : Pos} {e it : Addr} {x : Str} {t : Tok} (nei : e ≠ it) :
    Turn P w K (.Tuple elts kk tpos) (IteS x) [e, it] e (fun i h => (∃ old, IsEnum h e it ((i : Nat) : Int) old) ∧ h.IsStrIter it (strIterType x) x t i) where
  mem := by simp
  obj := fun i h ⟨⟨old, he⟩, o, ho, hc, hd⟩ b hb => by
    rcases (show b = e ∨ b = it by simpa using hb) with rfl | rfl
    · exact ⟨_, he, fun v q => nomatch q⟩
    · exact ⟨o, ho, fun v q => by rw [hd] at q; cases q⟩
  keep := fun i h h' ⟨⟨old, he⟩, hi⟩ k => ⟨⟨old, k e (by simp) _ he⟩, let ⟨o, q, r⟩ := hi; ⟨o, k it (by simp) o q, r⟩⟩
  item := by
    intro X eP ew eK hc i pins s σ H E I hf ⟨⟨old, he⟩, hit⟩ hlt
    subst eP ew eK
    have el : e < s.heap.objs.size := Heap.lt_size he
    have il : it < s.heap.objs.size := by obtain ⟨_, q, _⟩ := hit; exact Heap.lt_size q
    have hd0 : X.A.in1.handled = none := I.ok.hd hc
    refine wpAny_pyNext_enum_itemD (Draws.text hd0 it x t) he hit hlt nei (by simp [nei]) fun v h' tk hx2 ho hst hT hs2 hk => ?_
    obtain ⟨c, u, hxc, rfl⟩ := hx2
    refine ⟨_, rfl, wpAny_letOwnedTupleGo_enum (s := { s with heap := h', toks := tk + 1 }) ho fun h2 he2 sb => ?_⟩
    have hT2 := (sb.2 _ (Nat.ne_of_gt el)).trans hT
    have new : ObjOk X.prog X.w (upd H s.heap.objs.size (.tup [.int (i : Nat), .str ⟨#[c]⟩])) h2 s.heap.objs.size (.tup [.int (i : Nat), .str ⟨#[c]⟩]) :=
      ⟨(show 2 ≤ sizeLine by decide), [.int i tk, .str ⟨#[c]⟩ u], .cons ⟨_, rfl⟩ (.cons ⟨_, rfl⟩ .nil), _, hT2, rfl, _, rfl⟩
    have I1 : Inv X pins σ (upd H s.heap.objs.size (.tup [.int (i : Nat), .str ⟨#[c]⟩])) { s with heap := h2, toks := tk + 1 } :=
      I.turnedNew (ch := [e, it]) (fun b ob hb q => (sb.2 b (by rintro rfl; simp at hb)).trans (hk b ob (by rintro rfl; simp at hb) (by rintro rfl; simp at hb) q)) hf (Nat.le_refl _) new
    have ei : ((i + 1 : Nat) : Int) = (i : Int) + 1 := by omega
    refine ⟨.ref s.heap.objs.size, _, I1, rfl, ⟨_, c, rfl, I.hok.fresh (Nat.le_refl _), rfl, hxc⟩, ⟨⟨.str ⟨#[c]⟩ u, by rw [ei]; exact he2⟩, let ⟨o, q, r⟩ := hst; ⟨o, (sb.2 it (Ne.symm nei)).trans q, r⟩⟩, fun b hb => ?_⟩
    have hlt2 : b < s.heap.objs.size := by
      rcases (show b = e ∨ b = it by simpa using hb) with rfl | rfl
      · exact el
      · exact il
    rw [upd_ne (Nat.ne_of_lt hlt2)]
    exact (hf b hb).1
  done := by
    intro X eP ew eK hc i pins s σ H E I hf ⟨⟨old, he⟩, hit⟩ hle
    subst eP ew eK
    obtain ⟨f0, f1, f2, f3, f4, f5⟩ := hf it (by simp)
    have hd0 : X.A.in1.handled = none := I.ok.hd hc
    obtain rfl : i = x.cps.size := Eq.symm hle
    exact wpAny_pyNext_enum_endD (Draws.text hd0 it x t) he hit fun h' eb => ⟨rfl, I.turned (t' := s.toks) (fun b o hb q => eb b o hb q) f0 f1 f3 f4 f5⟩
  self := fun A i s Q E ⟨⟨_, he⟩, _⟩ h => wpAny_pyIter_enum he h
def iEnumS (ta : TA) : TI := fun σ H R => ta σ H fun vs H1 => ∃ x, vs = [.str x] ∧ R (IteS x) H1
theorem pi_enumS {X : Cx} {e : Expr} {ta : TA} {p pos tpos : Pos} {elts : List Expr} {kk : Nat} (hg : Gl X "enumerate") (hm : X.mg "enumerate" = none) (ha : PA X [e] ta) (hs : starEach [e] X.env = [(false, eval e X.env)] := by rfl) :
    PI X (.Tuple elts kk tpos) (.Call (.Name "enumerate" p) [e] [] pos) (iEnumS ta) := by
  constructor
  intro pins s σ H R I h
  refine Call_ (ld_blt I hg hm boot_enumerate (PyProof.Rows.callWith_type1 (thn (ha.run pos pins s σ H _ I h) fun us s1 ⟨vs, H1, I1, r1, x, ev, q⟩ => ?_) hs rfl))
  subst ev
  cases r1 with
  | cons ra rr =>
    cases rr
    obtain ⟨t, rfl⟩ := ra
    refine om_enum_call (begins_text x t) trivial fun h' he hi hk => wpAny_pyIter_enum he ?_
    have I2 : Inv X pins σ H1 { s1 with heap := h' } := I1.kept (t' := s1.toks) hk
    refine ⟨s1.heap.objs.size + 1, [s1.heap.objs.size + 1, s1.heap.objs.size], _, _, H1, rfl, I2, turn_enumS (x := x) (t := t) (Nat.succ_ne_self _), ⟨⟨.none, he⟩, _, hi, rfl, rfl⟩, fun b hb => ?_, q⟩
    have hb2 : s1.heap.objs.size ≤ b := by
      rcases (show b = s1.heap.objs.size + 1 ∨ b = s1.heap.objs.size by simpa using hb) with rfl | rfl
      · omega
      · exact Nat.le_refl _
    exact I1.fpOk hb2 (I1.hok.fresh hb2)
end Om


namespace Om
open PySem PySem.Spec PyProof.Rows L2
/-! ### walks of enumerate; a comprehension of two for over walks -/
def YEnum (xs : Nat → Option V) : Nat → Hp → V → Hp → Prop := fun i H v H' => ∃ T x, v = .ref T ∧ H T = none ∧ H' = upd H T (.tup [.int (i : Nat), x]) ∧ xs i = some x
theorem walk_enumT {K : PySem.W.Frag} {a : Addr} {xs : List V} : Walk (IteT K a xs) xs.length (fun H => SqT K H a xs) (YEnum fun i => xs[i]?) :=
  ⟨fun i _ hi q => ⟨q, hi⟩, fun _ q => ⟨q, rfl⟩, fun _ _ _ _ _ _ y => y⟩
theorem walk_enumS {x : Str} : Walk (IteS x) x.cps.size (fun _ => True) (YEnum fun i => x.cps[i]?.map fun c => .str ⟨#[c]⟩) :=
  ⟨fun i _ hi _ => hi, fun _ _ => rfl, fun i H v H' _ _ y => by
    obtain ⟨T, c, e1, e2, e3, e4⟩ := y
    exact ⟨T, _, e1, e2, e3, by show (x.cps[i]?).map _ = _; rw [e4]; rfl⟩⟩
section
variable {J : It} {n : Nat} {G : Hp → Prop} {Y : Nat → Hp → V → Hp → Prop}
/-- the inner walk of a comprehension of two for: Pv by the inner turn -/
theorem in_it (w : Walk J n G Y) {g : TG} {tt : TT} {te : TE} {vs : List Nat} {σ : L2.St} {H : Hp} {D : Addr} {Nx : Hp → Prop} (Pv : Nat → Hp → Prop) (h0 : Pv 0 H) (hG : ∀ i H, i ≤ n → Pv i H → G H)
    (hs : ∀ i x H H', i < n → Pv i H → Y i H x H' → g x (wipe σ vs) H' fun σ2 H2 => wipe σ2 vs = wipe σ vs ∧ tt σ2 H2 fun b H3 =>
      if b = true then te σ2 H3 fun y H4 => ∃ acc, H4 D = some (.lst acc) ∧ acc.length < sizeLine ∧ Pv (i + 1) (upd H4 D (.lst (acc ++ [y]))) else Pv (i + 1) H3) (hd : ∀ H, Pv n H → Nx H) :
    ∃ W1 : Nat → Nat → Hp → Prop, (∃ m, W1 0 m H) ∧ ∀ j k H, W1 j k H →
      (J.stop j H ∧ Nx H) ∨ (J.go j H ∧ ∃ Nx1 : Hp → Prop, (∀ H', Nx1 H' → ∃ k', k' < k ∧ W1 (j + 1) k' H') ∧ ∀ x H', J.yld j H x H' → g x (wipe σ vs) H' fun σ3 H5 => wipe σ3 vs = wipe σ vs ∧ tt σ3 H5 fun b H6 =>
        if b = true then te σ3 H6 fun y H7 => ∃ acc, H7 D = some (.lst acc) ∧ acc.length < sizeLine ∧ Nx1 (upd H7 D (.lst (acc ++ [y]))) else Nx1 H6) := by
  refine ⟨fun i m H => m = n - i ∧ i ≤ n ∧ Pv i H, ⟨n, by simp, Nat.zero_le _, h0⟩, ?_⟩
  rintro i m H ⟨rfl, hi, p⟩
  have q := hG i H hi p
  by_cases hlt : i < n
  · exact .inr ⟨w.goes i H hlt q, Pv (i + 1), fun H' p' => ⟨n - (i + 1), by omega, rfl, hlt, p'⟩, fun x H' y => hs i x H H' hlt p (w.yields i H x H' hlt q y)⟩
  · have e : i = n := by omega
    subst e
    exact .inl ⟨w.stops H q, hd H p⟩
/-- the outer walk: what a turn's inner part does is told by B, from Pv i to Pv (i + 1) -/
theorem out_it (w : Walk J n G Y) {H1 : Hp} {D : Addr} {Qd : Hp → Prop} {B : (Hp → Prop) → V → Hp → Prop} (Pv : Nat → Hp → Prop) (h0 : Pv 0 (upd H1 D (.lst []))) (hG : ∀ i H, i ≤ n → Pv i H → G H)
    (hs : ∀ i x H H', i < n → Pv i H → Y i H x H' → B (Pv (i + 1)) x H') (hd : ∀ H, Pv n H → Qd H) :
    ∃ W : Nat → Nat → Hp → Prop, (∃ m, W 0 m (upd H1 D (.lst []))) ∧ ∀ i m H, W i m H →
      (J.stop i H ∧ Qd H) ∨ (J.go i H ∧ ∃ Nx : Hp → Prop, (∀ H', Nx H' → ∃ m', m' < m ∧ W (i + 1) m' H') ∧ ∀ x H', J.yld i H x H' → B Nx x H') := by
  refine ⟨fun i m H => m = n - i ∧ i ≤ n ∧ Pv i H, ⟨n, by simp, Nat.zero_le _, h0⟩, ?_⟩
  rintro i m H ⟨rfl, hi, p⟩
  have q := hG i H hi p
  by_cases hlt : i < n
  · exact .inr ⟨w.goes i H hlt q, Pv (i + 1), fun H' p' => ⟨n - (i + 1), by omega, rfl, hlt, p'⟩, fun x H' y => hs i x H H' hlt p (w.yields i H x H' hlt q y)⟩
  · have e : i = n := by omega
    subst e
    exact .inl ⟨w.stops H q, hd H p⟩
end
end Om


namespace Om
open PySem PySem.Spec PyProof.Rows L2
abbrev sInR : Stmt := top 4
abbrev sLies : Stmt := top 16
def inR (v lo hi : Int) : Bool := decide (lo ≤ v) && decide (v ≤ hi)
def insd (rows : List (List Nat)) (i j : Int) : Bool := inR i 0 ((rows.length : Int) - 1) && inR j 0 (((rows.headD []).length : Int) - 1)
def spInR : Sp := fun vs H Q _ => ∃ v lo hi : Int, vs = [.int v, .int lo, .int hi] ∧ Q (.bl (inR v lo hi)) H
/-- rows of an island as they are kept -/
structure Shp (rows : List (List Nat)) : Prop where
  len : rows.length ≤ 1000
  row : ∀ r ∈ rows, r.length ≤ 1000
  ne : rows ≠ []
def spLies (K : PySem.W.Frag) : Sp := fun vs H Q _ => ∃ (p c : Addr) (rows : List (List Nat)) (i j : Int), vs = [.ref p, .ref c] ∧ SqT K H p (rows.map vt) ∧ Shp rows ∧ SqT K H c [.int i, .int j] ∧ Q (.bl (insd rows i j)) H
section
variable {P : Program} {w : World} {K : PySem.W.Frag} {mg : Str → Option Value} {base : Heap}
abbrev nInR : List Str := ["value", "least", "most"]
theorem scInR : FnScope nInR nInR (defScope sInR) := ⟨rfl, rfl, rfl, by decide +kernel, rfl, by decide +kernel, by decide +kernel⟩
theorem ok_inR {f : Addr} {fd : FuncData} (F : FnP K "in_range" "in_range" sInR f fd) (gisi : mg "isinstance" = none) (gint : mg "int" = none) (gbool : mg "bool" = none) : FnOk P w K mg base CX0 1 f fd nInR spInR := by
  refine F.ok scInR (fun vs H Q E h => ?_) (fun cdv A outer s H vs Q E hr h => ?_)
  · obtain ⟨v, lo, hi, rfl, _⟩ := h
    rfl
  · obtain ⟨v, lo, hi, rfl, k⟩ := h
    refine ⟨_, PSs.nox (pss_one (ps_ret (pe_and (pe_callB call_isi (by rfl) gisi (by decide +kernel) (pa_cons (pv 0) (pa_cons (pe_bltn (v := .ty "int") (by rfl) gint boot_int rfl) pa_nil)))
      (pe_and (pe_not (pe_callB call_isi (by rfl) gisi (by decide +kernel) (pa_cons (pv 0) (pa_cons (pe_bltn (v := .ty "bool") (by rfl) gbool (by decide +kernel) rfl) pa_nil))))
        (pe_one (pe_chain op_le op_le (pv 1) (pv 0) (pv 2))))))), ?_⟩
    refine ⟨_, rfl, _, _, _, _, _, rfl, .ty "int", .base (.int _), kit_ty (a := "int") (b := "int") (r := true) (by decide +kernel), ?_⟩
    refine ⟨true, rfl, iteT ?_⟩
    refine ⟨_, rfl, _, _, _, _, _, rfl, .ty "bool", .base (.int _), kit_ty (a := "int") (b := "bool") (r := false) (by decide +kernel), false, rfl, true, rfl, iteT ?_⟩
    refine ⟨_, rfl, _, rfl, _, _, rfl, rfl, _, rfl, ?_⟩
    unfold inR at k
    cases e : decide (lo ≤ v) with
    | true =>
      rw [e, Bool.true_and] at k
      exact iteT ⟨_, rfl, _, _, rfl, rfl, k⟩
    | false =>
      rw [e, Bool.false_and] at k
      exact iteF k
theorem scLies : FnScope ["rows", "cell", "row", "column"] ["rows", "cell"] (defScope sLies) := ⟨rfl, rfl, rfl, by decide +kernel, rfl, by decide +kernel, by decide +kernel⟩
theorem ok_lies {f : Addr} {fd : FuncData} (F : FnP K "_lies_within" "_lies_within" sLies f fd) (G : Cal P w K mg base CX0 1 "in_range" nInR spInR) (glen : mg "len" = none) : FnOk P w K mg base CX0 2 f fd ["rows", "cell"] (spLies K) := by
  refine F.ok scLies (fun vs H Q E h => ?_) (fun cdv A outer s H vs Q E hr h => ?_)
  · obtain ⟨p, c, rows, i, j, rfl, _⟩ := h
    rfl
  · obtain ⟨p, c, rows, i, j, rfl, hS, sh, hC, k⟩ := h
    have nd := scLies.nd
    have hr1 : Room 1 _ := hr.mono (by decide)
    refine ⟨_, PSs.nox (pss_cons (ps_asg (pv 1) (pg_tup rfl (pgs_cons (pg_name (i := 2) nd rfl (.inl rfl)) (pgs_cons (pg_name (i := 3) nd rfl (.inl rfl)) pgs_nil))))
      (pss_one (ps_ret (pe_and (pe_cal G hr1 pass0 (pa_cons (pv 2) (pa_cons pe_int (pa_cons (pe_op op_sub (pe_callB call_len_seq (by rfl) glen PySem.boot_len (pa_cons (pv 0) pa_nil)) pe_int) pa_nil))))
        (pe_one (pe_cal G hr1 pass0 (pa_cons (pv 3) (pa_cons pe_int (pa_cons (pe_op op_sub (pe_callB call_len_str (by rfl) glen PySem.boot_len (pa_cons (pe_ix ix_tup (pv 0) pe_int (fun _ _ => rfl)) pa_nil)) pe_int) pa_nil))))))))), ?_⟩
    obtain ⟨r0, rs, rfl⟩ : ∃ r0 rs, rows = r0 :: rs := by
      cases rows with
      | nil => exact absurd rfl sh.ne
      | cons r0 rs => exact ⟨r0, rs, rfl⟩
    have hr0 : (tx r0).length ≤ sizeLine := by rw [tx_len]; exact small_le (sh.row r0 (List.mem_cons_self ..))
    refine ⟨_, rfl, c, _, rfl, hC, rfl, _, _, rfl, _, _, rfl, rfl, ?_⟩
    refine ⟨_, rfl, _, rfl, p, _, rfl, .inr hS, _, _, rfl, rfl, i, 0, _, rfl, ?_⟩
    refine ⟨_, rfl, ?_⟩
    have k2 : Q (.bl (inR i 0 ((((r0 :: rs).map vt).length : Nat) - 1) && inR j 0 (((tx r0).length : Nat) - 1))) H := by
      rw [tx_len, List.length_map]; exact k
    cases e : inR i 0 ((((r0 :: rs).map vt).length : Nat) - 1) with
    | false =>
      rw [e, Bool.false_and] at k2
      exact iteF k2
    | true =>
      rw [e, Bool.true_and] at k2
      refine iteT ?_
      exact ⟨_, rfl, _, rfl, p, _, 0, _, rfl, rfl, hS, at0, _, rfl, hr0, _, _, rfl, rfl, j, 0, _, rfl, k2⟩
end
end Om


namespace Om
open PySem PySem.Spec PyProof.Rows L2
/-! ### rows as data -/
def dt (r : List Nat) : PyData := .str (tx r)
theorem dpAll_rows {K : PySem.W.Frag} {H : Hp} : ∀ rows : List (List Nat), DpAll K H (rows.map vt) (rows.map dt)
  | [] => .nil
  | r :: rs => .cons (.str _) (dpAll_rows rs)
theorem strOk_tx {r : List Nat} (h : ∀ c ∈ r, c < 1000) : PyData.strOk (tx r) = true := by
  unfold PyData.strOk
  rw [Array.all_eq_true']
  intro c hc
  have hc' : c ∈ r := by
    have : c ∈ (tx r).cps.toList := by simpa using hc
    rwa [tx_cps] at this
  have := h c hc'
  exact decide_eq_true (by omega)
theorem lay_rows : ∀ {rows : List (List Nat)}, Lo rows → PyData.canLayAll0 (rows.map dt) = true
  | [], _ => by simp [PyData.canLayAll0]
  | r :: rs, h => by
    have h1 : PyData.strOk (tx r) = true := strOk_tx (h r (List.mem_cons_self ..))
    simp only [List.map_cons, PyData.canLayAll0, dt, PyData.canLay0, h1, lay_rows (rows := rs) fun r hr => h r (List.mem_cons_of_mem _ hr), Bool.and_self]
theorem dep_rows : ∀ rows : List (List Nat), PyData.depthAll (rows.map dt) = 0
  | [] => by simp [PyData.depthAll]
  | r :: rs => by simp [PyData.depthAll, PyData.depth, dt, dep_rows rs]
theorem shaped_rows {rows : List (List Nat)} (h : Lo rows) : SeqAt.shaped (.tuple (rows.map dt)) = true :=
  shaped_of (by simp only [PyData.canLay0]; exact lay_rows h) (by simp only [PyData.depth, dep_rows]; omega)
theorem eqv_str (a b : List Nat) : PyData.eqv (.str (tx a)) (.str (tx b)) = decide (a = b) := by
  rw [Bool.eq_iff_iff, decide_eq_true_iff]
  constructor
  · intro h
    have h2 : tx a = tx b := by simpa [PyData.eqv] using h
    exact tx_inj h2
  · rintro rfl
    simp [PyData.eqv]
theorem eqvAll_rows : ∀ a b : List (List Nat), PyData.eqvAll (a.map dt) (b.map dt) = decide (a = b)
  | [], [] => by simp [PyData.eqvAll]
  | [], _ :: _ => by simp [PyData.eqvAll]
  | _ :: _, [] => by simp [PyData.eqvAll]
  | r :: rs, q :: qs => by
    have e1 : PyData.eqvAll ((r :: rs).map dt) ((q :: qs).map dt) = (PyData.eqv (dt r) (dt q) && PyData.eqvAll (rs.map dt) (qs.map dt)) := by simp [PyData.eqvAll]
    rw [e1, eqvAll_rows rs qs, dt, dt, eqv_str, Bool.eq_iff_iff]
    simp
theorem eqv_rows (a b : List (List Nat)) : PyData.eqv (.tuple (a.map dt)) (.tuple (b.map dt)) = decide (a = b) := by
  have e1 : PyData.eqv (.tuple (a.map dt)) (.tuple (b.map dt)) = PyData.eqvAll (a.map dt) (b.map dt) := by simp [PyData.eqv]
  rw [e1, eqvAll_rows]
end Om


namespace Om
open PySem PySem.Spec PyProof.Rows L2
/-! ### an island's methods -/
abbrev sIslM (i : Nat) : Stmt := inClass (top 14) i
/-- an island at a: its rows -/
def Isl (K : PySem.W.Frag) (CI : Addr) (H : Hp) (a : Addr) (rows : List (List Nat)) : Prop := ∃ dx p, H a = some (.ins CI dx (islFs p)) ∧ SqT K H p (rows.map vt)
structure Good2 (rows : List (List Nat)) : Prop extends Shp rows where
  rect : ∀ r ∈ rows, r.length = (rows.headD []).length
  lo : Lo rows
def sgAt (rows : List (List Nat)) (i j : Int) : Nat := (rows.getD i.toNat []).getD j.toNat 0
theorem Isl.same {K : PySem.W.Frag} {CI a : Addr} {H H' : Hp} {rows : List (List Nat)} (h : Isl K CI H a rows) (s : Same H H') : Isl K CI H' a rows := by
  obtain ⟨dx, p, h1, h2⟩ := h
  exact ⟨dx, p, s _ _ h1, Same.tup s h2⟩
theorem islFs_at (p : Addr) : (islFs p).lookup ("_rows" : Str) = some (.ref p) := rfl
theorem insd_at {rows : List (List Nat)} {i j : Int} (g : Good2 rows) (h : insd rows i j = true) : ∃ r c, rows[i.toNat]? = some r ∧ r[j.toNat]? = some c ∧ sgAt rows i j = c ∧ r ∈ rows ∧ 0 ≤ i ∧ 0 ≤ j := by
  unfold insd inR at h
  simp only [Bool.and_eq_true, decide_eq_true_eq] at h
  obtain ⟨⟨h1, h2⟩, h3, h4⟩ := h
  have hi : i.toNat < rows.length := by omega
  have hm : rows[i.toNat] ∈ rows := List.getElem_mem hi
  have hl := g.rect _ hm
  have hj : j.toNat < (rows[i.toNat]).length := by omega
  refine ⟨rows[i.toNat], (rows[i.toNat])[j.toNat], by simp [hi], by simp [hj], ?_, hm, h1, h3⟩
  unfold sgAt
  have e1 : rows.getD i.toNat [] = rows[i.toNat] := by rw [List.getD_eq_getElem?_getD, List.getElem?_eq_getElem hi, Option.getD_some]
  rw [e1, List.getD_eq_getElem?_getD, List.getElem?_eq_getElem hj, Option.getD_some]
/-- an own error class made with a text -/
structure ErrU (K : PySem.W.Frag) (mg : Str → Option Value) (x : Str) (C : Addr) : Prop where
  q : PySem.W.excIn K C [.type "ValueError", .type "Exception", .type "BaseException", .type "object"] "ValueError.__new__" = true
  kp : PySem.W.keepIn K (.ref C) = true
  r1 : PySem.W.subIn K (.ref C) (.type "BaseException") = some true
  r2 : PySem.W.typeIn K (.ref C) = some (.type "type")
  g : mg x = some (.ref C)
def spGet (K : PySem.W.Frag) (CI CU : Addr) : Sp := fun vs H Q E => ∃ (a c : Addr) (rows : List (List Nat)) (i j : Int), vs = [.ref a, .ref c] ∧ Isl K CI H a rows ∧ Good2 rows ∧ SqT K H c [.int i, .int j] ∧
  (insd rows i j = true → Q (vt [sgAt rows i j]) H) ∧ (insd rows i j = false → E (.ref CU) none H)
def hasC (rows : List (List Nat)) (i j : Int) : Bool := insd rows i j && !decide (sgAt rows i j = 126)
def spHas (K : PySem.W.Frag) (CI : Addr) : Sp := fun vs H Q _ => ∃ (a c : Addr) (rows : List (List Nat)) (i j : Int), vs = [.ref a, .ref c] ∧ Isl K CI H a rows ∧ Good2 rows ∧ SqT K H c [.int i, .int j] ∧ Q (.bl (hasC rows i j)) H
def spIEq (K : PySem.W.Frag) (CI : Addr) : Sp := fun vs H Q _ => ∃ (a b : Addr) (r1 r2 : List (List Nat)), vs = [.ref a, .ref b] ∧ Isl K CI H a r1 ∧ Isl K CI H b r2 ∧ Lo r1 ∧ Lo r2 ∧ Q (.bl (decide (r1 = r2))) H
def spIRows (K : PySem.W.Frag) (CI : Addr) : Sp := fun vs H Q _ => ∃ (a dx p : Addr), vs = [.ref a] ∧ H a = some (.ins CI dx (islFs p)) ∧ Q (.ref p) H
def spIHgt (K : PySem.W.Frag) (CI : Addr) : Sp := fun vs H Q _ => ∃ (a : Addr) (rows : List (List Nat)), vs = [.ref a] ∧ Isl K CI H a rows ∧ Q (.int (rows.length : Nat)) H
def spIWid (K : PySem.W.Frag) (CI : Addr) : Sp := fun vs H Q _ => ∃ (a : Addr) (rows : List (List Nat)), vs = [.ref a] ∧ Isl K CI H a rows ∧ Shp rows ∧ Q (.int ((rows.headD []).length : Nat)) H
/-- what isinstance asks of the class -/
structure InsF (K : PySem.W.Frag) (C : Addr) : Prop where
  ha : PySem.W.findIn K (.ref C) "__class__" = some (some (.builtin "object.__class__"))
  hn : PySem.W.specialIn K (.builtin "object.__class__") "__get__" = some (some (.builtin "getset_descriptor.__get__"))
  ht : PySem.W.takesIn K (.builtin "object.__class__") = some true
  hm : PySem.W.mroIn K C (.type "object") = some true
theorem kit_self {K : PySem.W.Frag} {C : Addr} : PySem.W.kitOne K (.ref C) (.ref C) = some true := by
  unfold PySem.W.kitOne
  rw [if_pos (by simp)]
section
variable {P : Program} {w : World} {K : PySem.W.Frag} {mg : Str → Option Value} {base : Heap} {CI CU fN : Addr}
abbrev nGet : List Str := ["self", "cell", "row", "column"]
theorem scGet : FnScope nGet ["self", "cell"] (defScope (sIslM 7)) := ⟨rfl, rfl, rfl, by decide +kernel, rfl, by decide +kernel, by decide +kernel⟩
theorem ok_get {f : Addr} {fd : FuncData} (F : FnP K "__getitem__" "Island.__getitem__" (sIslM 7) f fd) (T : IslF K mg CI fN) (U : ErrU K mg "UnknownCell" CU) (G : Cal P w K mg base CX0 2 "_lies_within" ["rows", "cell"] (spLies K)) : FnOk P w K mg base (L2.CX P w) 3 f fd ["self", "cell"] (spGet K CI CU) := by
  refine F.ok scGet (fun vs H Q E h => ?_) (fun cdv A outer s H vs Q E hr h => ?_)
  · obtain ⟨a, c, rows, i, j, rfl, _⟩ := h
    rfl
  · obtain ⟨a, c, rows, i, j, rfl, hI, g, hC, k1, k2⟩ := h
    have nd := scGet.nd
    have hr2 : Room 2 _ := hr.mono (by decide)
    refine ⟨_, pss_cons (ps_if (pt_not (pt_val (pe_cal G hr2 pass0 (pa_cons (pe_fld (pv 0) rfl) (pa_cons (pv 1) pa_nil)))))
        (pss_one (ps_raise rfl (takes_of rfl rfl rfl rfl) (pmk_own PySem.F.excBase_ValueError U.q U.g U.kp (raises_own U.r1 U.r2) rfl))) pss_nil)
      (pss_cons (ps_asg (pv 1) (pg_tup rfl (pgs_cons (pg_name (i := 2) nd rfl (.inl rfl)) (pgs_cons (pg_name (i := 3) nd rfl (.inl rfl)) pgs_nil))))
      (pss_one (ps_ret (pe_ix ix_str (pe_ix ix_tup (pe_fld (pv 0) rfl) (pv 2) (fun _ _ => rfl)) (pv 3) (fun _ _ => rfl))))), ?_⟩
    obtain ⟨dx, p, hp, hS⟩ := hI
    refine ⟨_, rfl, a, CI, dx, _, .ref p, rfl, hp, T.cl, T.nR, rfl, ?_⟩
    refine ⟨_, rfl, p, c, rows, i, j, rfl, hS, g.toShp, hC, _, rfl, ?_⟩
    cases e : insd rows i j with
    | false => exact iteT (k2 e)
    | true =>
      refine iteF ?_
      obtain ⟨r, ch, h1, h2, h3, hm, hi, hj⟩ := insd_at g e
      refine ⟨_, rfl, c, _, rfl, hC, rfl, _, _, rfl, _, _, rfl, rfl, ?_⟩
      refine ⟨_, rfl, a, CI, dx, _, .ref p, rfl, hp, T.cl, T.nR, rfl, ?_⟩
      have ei : atI (rows.map vt) i = some (vt r) := by
        have z := atI_nat (xs := rows.map vt) (j := i.toNat) (v := vt r) (by rw [List.getElem?_map, h1]; rfl)
        rwa [Int.toNat_of_nonneg hi] at z
      have ej : atI (tx r).cps.toList j = some ch := by
        have z := atI_nat (xs := (tx r).cps.toList) (j := j.toNat) (v := ch) (by rw [tx_cps]; exact h2)
        rwa [Int.toNat_of_nonneg hj] at z
      refine ⟨_, rfl, p, _, i, _, rfl, rfl, hS, ei, _, rfl, _, j, ch, rfl, rfl, (by rw [tx_len]; exact small_le (g.row r hm)), ej, ?_⟩
      have k := k1 e
      rw [h3] at k
      exact k
theorem scHas : FnScope ["self", "cell"] ["self", "cell"] (defScope (sIslM 8)) := ⟨rfl, rfl, rfl, by decide +kernel, rfl, by decide +kernel, by decide +kernel⟩
theorem ok_has {f : Addr} {fd : FuncData} (F : FnP K "__contains__" "Island.__contains__" (sIslM 8) f fd) (T : IslF K mg CI fN) (G : Cal P w K mg base CX0 2 "_lies_within" ["rows", "cell"] (spLies K)) (gw : ∃ t, mg "WATER" = some (.str (Str.ofString "~") t)) :
    FnOk P w K mg base CX0 3 f fd ["self", "cell"] (spHas K CI) := by
  obtain ⟨t0, gw⟩ := gw
  refine F.ok scHas (fun vs H Q E h => ?_) (fun cdv A outer s H vs Q E hr h => ?_)
  · obtain ⟨a, c, rows, i, j, rfl, _⟩ := h
    rfl
  · obtain ⟨a, c, rows, i, j, rfl, hI, g, hC, k⟩ := h
    have nd := scHas.nd
    have hr2 : Room 2 _ := hr.mono (by decide)
    refine ⟨_, PSs.nox (pss_one (ps_ret (pe_and (pe_cal G hr2 pass0 (pa_cons (pe_fld (pv 0) rfl) (pa_cons (pv 1) pa_nil)))
      (pe_one (pe_cmpR op_ne (pe_ix ix_str (pe_ix ix_tup (pe_fld (pv 0) rfl) (pe_ix ix_tup (pv 1) pe_int (fun _ _ => rfl)) (fun _ _ => rfl)) (pe_ix ix_tup (pv 1) pe_int (fun _ _ => rfl)) (fun _ _ => rfl))
        (pe_glob (v := .str (Str.ofString "~")) rfl gw ⟨_, rfl⟩) (nomark _)))))), ?_⟩
    obtain ⟨dx, p, hp, hS⟩ := hI
    refine ⟨_, rfl, a, CI, dx, _, .ref p, rfl, hp, T.cl, T.nR, rfl, ?_⟩
    refine ⟨_, rfl, p, c, rows, i, j, rfl, hS, g.toShp, hC, _, rfl, ?_⟩
    unfold hasC at k
    cases e : insd rows i j with
    | false =>
      rw [e, Bool.false_and] at k
      exact iteF k
    | true =>
      rw [e, Bool.true_and] at k
      refine iteT ?_
      obtain ⟨r, ch, h1, h2, h3, hm, hi, hj⟩ := insd_at g e
      have ei : atI (rows.map vt) i = some (vt r) := by
        have z := atI_nat (xs := rows.map vt) (j := i.toNat) (v := vt r) (by rw [List.getElem?_map, h1]; rfl)
        rwa [Int.toNat_of_nonneg hi] at z
      have ej : atI (tx r).cps.toList j = some ch := by
        have z := atI_nat (xs := (tx r).cps.toList) (j := j.toNat) (v := ch) (by rw [tx_cps]; exact h2)
        rwa [Int.toNat_of_nonneg hj] at z
      refine ⟨_, rfl, a, CI, dx, _, .ref p, rfl, hp, T.cl, T.nR, rfl, ?_⟩
      refine ⟨_, rfl, c, _, 0, _, rfl, rfl, hC, rfl, p, _, i, _, rfl, rfl, hS, ei, ?_⟩
      refine ⟨_, rfl, c, _, 1, _, rfl, rfl, hC, rfl, _, j, ch, rfl, rfl, (by rw [tx_len]; exact small_le (g.row r hm)), ej, ?_⟩
      rw [h3] at k
      have e2 : (decide (V.str ⟨#[ch]⟩ = V.str (Str.ofString "~"))) = decide (ch = 126) := by
        have z : Str.ofString "~" = (⟨#[126]⟩ : Str) := by decide +kernel
        rw [z]
        apply decide_eq_decide.mpr
        simp
      refine ⟨rfl, ?_⟩
      show Q (.bl (!decide (V.str ⟨#[ch]⟩ = V.str (Str.ofString "~")))) H
      rw [e2]
      exact k
theorem scIEq : FnScope ["self", "other"] ["self", "other"] (defScope (sIslM 10)) := ⟨rfl, rfl, rfl, by decide +kernel, rfl, by decide +kernel, by decide +kernel⟩
theorem ok_ieq {f : Addr} {fd : FuncData} (F : FnP K "__eq__" "Island.__eq__" (sIslM 10) f fd) (T : IslF K mg CI fN) (N : InsF K CI) (gisi : mg "isinstance" = none) : FnOk P w K mg base CX0 1 f fd ["self", "other"] (spIEq K CI) := by
  refine F.ok scIEq (fun vs H Q E h => ?_) (fun cdv A outer s H vs Q E hr h => ?_)
  · obtain ⟨a, b, r1, r2, rfl, _⟩ := h
    rfl
  · obtain ⟨a, b, r1, r2, rfl, ⟨dx, p, hp, hS⟩, ⟨dy, q, hq, hS2⟩, l1, l2, k⟩ := h
    refine ⟨_, PSs.nox (pss_one (ps_ret (pe_and (pe_callB call_isi (by rfl) gisi (by decide +kernel) (pa_cons (pv 1) (pa_cons (pe_glob (v := .ref CI) rfl T.gI rfl) pa_nil)))
      (pe_one (pe_cmpR (op_eqD hr.units) (pe_fld (pv 0) rfl) (pe_fld (pv 1) rfl) (nomark _)))))), ?_⟩
    refine ⟨_, rfl, _, _, _, _, _, rfl, .own CI, .base (.ins hq T.cl N.ha N.hn N.ht N.hm), kit_self, true, rfl, iteT ?_⟩
    refine ⟨_, rfl, a, CI, dx, _, .ref p, rfl, hp, T.cl, T.nR, rfl, ?_⟩
    refine ⟨_, rfl, b, CI, dy, _, .ref q, rfl, hq, T.cl, T.nR, rfl, ?_⟩
    refine ⟨_, _, .tup hS (dpAll_rows r1), .tup hS2 (dpAll_rows r2), shaped_rows l1, shaped_rows l2, ?_⟩
    rw [eqv_rows]
    exact k
theorem scI1 (i : Nat) (h : i = 1 ∨ i = 2 ∨ i = 3) : FnScope ["self"] ["self"] (defScope (sIslM i)) := by
  rcases h with rfl | rfl | rfl <;> exact ⟨rfl, rfl, rfl, by decide +kernel, rfl, by decide +kernel, by decide +kernel⟩
theorem ok_irows {f : Addr} {fd : FuncData} (F : FnP K "rows" "Island.rows" (sIslM 1) f fd) (T : IslF K mg CI fN) : FnOk P w K mg base CX0 1 f fd ["self"] (spIRows K CI) := by
  refine F.ok (scI1 1 (.inl rfl)) (fun vs H Q E h => ?_) (fun cdv A outer s H vs Q E hr h => ?_)
  · obtain ⟨a, dx, p, rfl, _⟩ := h
    rfl
  · obtain ⟨a, dx, p, rfl, hp, k⟩ := h
    exact ⟨_, PSs.nox (pss_one (ps_ret (pe_fld (pv 0) rfl))), _, rfl, a, CI, dx, _, .ref p, rfl, hp, T.cl, T.nR, rfl, k⟩
theorem ok_iwid {f : Addr} {fd : FuncData} (F : FnP K "width" "Island.width" (sIslM 3) f fd) (T : IslF K mg CI fN) (glen : mg "len" = none) : FnOk P w K mg base CX0 1 f fd ["self"] (spIWid K CI) := by
  refine F.ok (scI1 3 (.inr (.inr rfl))) (fun vs H Q E h => ?_) (fun cdv A outer s H vs Q E hr h => ?_)
  · obtain ⟨a, rows, rfl, _⟩ := h
    rfl
  · obtain ⟨a, rows, rfl, ⟨dx, p, hp, hS⟩, sh, k⟩ := h
    obtain ⟨r0, rs, rfl⟩ : ∃ r0 rs, rows = r0 :: rs := by
      cases rows with
      | nil => exact absurd rfl sh.ne
      | cons r0 rs => exact ⟨r0, rs, rfl⟩
    have hr0 : (tx r0).length ≤ sizeLine := by rw [tx_len]; exact small_le (sh.row r0 (List.mem_cons_self ..))
    refine ⟨_, PSs.nox (pss_one (ps_ret (pe_callB call_len_str (by rfl) glen PySem.boot_len (pa_cons (pe_ix ix_tup (pe_fld (pv 0) rfl) pe_int (fun _ _ => rfl)) pa_nil)))), ?_⟩
    refine ⟨_, rfl, a, CI, dx, _, .ref p, rfl, hp, T.cl, T.nR, rfl, p, _, 0, _, rfl, rfl, hS, at0, _, rfl, hr0, ?_⟩
    rw [tx_len]
    exact k
end
end Om


namespace Om
open PySem PySem.Spec PyProof.Rows L2
/-! ### Dp stays -/
theorem Same.lst {K : PySem.W.Frag} {H H' : Hp} {a : Addr} {xs : List V} (e : Same H H') (h : SqL K H a xs) : SqL K H' a xs := by
  rcases h with (h | ⟨o, h⟩) | h
  · exact .inl (.inl (e _ _ h))
  · exact .inl (.inr ⟨o, e _ _ h⟩)
  · exact .inr h
theorem dp_mono {K : PySem.W.Frag} {H H' : Hp} (hS : ∀ a xs, SqT K H a xs → SqT K H' a xs) (hL : ∀ a xs, SqL K H a xs → SqL K H' a xs) {v : V} {d : PyData} (h : Dp K H v d) : Dp K H' v d :=
  Dp.rec (motive_1 := fun v d _ => Dp K H' v d) (motive_2 := fun vs ds _ => DpAll K H' vs ds) .non .bl .int .str (fun s _ ih => .lst (hL _ _ s) ih) (fun s _ ih => .tup (hS _ _ s) ih) .nil (fun _ _ i1 i2 => .cons i1 i2) h
theorem dpAll_mono {K : PySem.W.Frag} {H H' : Hp} (hS : ∀ a xs, SqT K H a xs → SqT K H' a xs) (hL : ∀ a xs, SqL K H a xs → SqL K H' a xs) {vs : List V} {ds : List PyData} (h : DpAll K H vs ds) : DpAll K H' vs ds :=
  DpAll.rec (motive_1 := fun v d _ => Dp K H' v d) (motive_2 := fun vs ds _ => DpAll K H' vs ds) .non .bl .int .str (fun s _ ih => .lst (hL _ _ s) ih) (fun s _ ih => .tup (hS _ _ s) ih) .nil (fun _ _ i1 i2 => .cons i1 i2) h
theorem Same.dp {K : PySem.W.Frag} {H H' : Hp} {v : V} {d : PyData} (e : Same H H') (h : Dp K H v d) : Dp K H' v d := dp_mono (fun _ _ => Same.tup e) (fun _ _ => Same.lst e) h
theorem Same.dpAll {K : PySem.W.Frag} {H H' : Hp} {v : List V} {d : List PyData} (e : Same H H') (h : DpAll K H v d) : DpAll K H' v d := dpAll_mono (fun _ _ => Same.tup e) (fun _ _ => Same.lst e) h
theorem dpAll_app {K : PySem.W.Frag} {H : Hp} : ∀ {a : List V} {da : List PyData} {b : List V} {db : List PyData}, DpAll K H a da → DpAll K H b db → DpAll K H (a ++ b) (da ++ db)
  | [], [], _, _, .nil, h => h
  | _ :: _, _ :: _, _, _, .cons x y, h => .cons x (dpAll_app y h)
theorem dpAll_len {K : PySem.W.Frag} {H : Hp} : ∀ {a : List V} {da : List PyData}, DpAll K H a da → a.length = da.length
  | [], [], .nil => rfl
  | _ :: _, _ :: _, .cons _ y => by rw [List.length_cons, List.length_cons, dpAll_len y]
/-! ### pairs of numbers in a list that grows at D -/
def cdp (c : Nat × Nat) : PyData := .tuple [.int (c.1 : Nat), .int (c.2 : Nat)]
theorem SqT.other {K : PySem.W.Frag} {H : Hp} {a D : Addr} {xs acc : List V} {o : HO} (h : SqT K H a xs) (hD : H D = some (.lst acc)) : SqT K (upd H D o) a xs := by
  rcases h with (h | ⟨ob, h⟩) | h
  · have n : a ≠ D := fun e => by rw [e, hD] at h; cases h
    exact .inl (.inl (by rw [upd_ne n]; exact h))
  · have n : a ≠ D := fun e => by rw [e, hD] at h; cases h
    exact .inl (.inr ⟨ob, by rw [upd_ne n]; exact h⟩)
  · exact .inr h
theorem pairs_other {K : PySem.W.Frag} {H : Hp} {D : Addr} {acc : List V} {o : HO} (hD : H D = some (.lst acc)) : ∀ {xs : List V} {cs : List (Nat × Nat)}, DpAll K H xs (cs.map cdp) → DpAll K (upd H D o) xs (cs.map cdp)
  | [], [], .nil => .nil
  | _ :: _, _ :: _, .cons h t => by
    refine .cons ?_ (pairs_other hD t)
    unfold cdp at h ⊢
    cases h with
    | tup s al =>
      refine .tup (SqT.other s hD) ?_
      cases al with
      | cons h1 t1 =>
        cases h1
        cases t1 with
        | cons h2 t2 =>
          cases h2
          cases t2
          exact .cons (.int _) (.cons (.int _) .nil)
/-! ### the cells of land -/
def rowCells (r : List Nat) (i n : Nat) : List (Nat × Nat) := ((List.range n).filter fun j => !decide (r.getD j 0 = 126)).map fun j => (i, j)
def cellsTo (rows : List (List Nat)) (n : Nat) : List (Nat × Nat) := (List.range n).flatMap fun i => rowCells (rows.getD i []) i (rows.getD i []).length
def cellsOf (rows : List (List Nat)) : List (Nat × Nat) := cellsTo rows rows.length
theorem rowCells_succ (r : List Nat) (i n : Nat) : rowCells r i (n + 1) = if r.getD n 0 = 126 then rowCells r i n else rowCells r i n ++ [(i, n)] := by
  unfold rowCells
  rw [List.range_succ, List.filter_append, List.map_append]
  by_cases h : r.getD n 0 = 126
  · rw [if_pos h]
    simp only [List.filter_cons, h, decide_true, Bool.not_true, Bool.false_eq_true, if_false, List.filter_nil, List.map_nil, List.append_nil]
  · rw [if_neg h]
    have e : (!decide (r.getD n 0 = 126)) = true := by rw [decide_eq_false h]; rfl
    simp only [List.filter_cons, e, if_true, List.filter_nil, List.map_cons, List.map_nil]
theorem cellsTo_succ (rows : List (List Nat)) (n : Nat) : cellsTo rows (n + 1) = cellsTo rows n ++ rowCells (rows.getD n []) n (rows.getD n []).length := by
  unfold cellsTo
  rw [List.range_succ, List.flatMap_append]
  simp
theorem rowCells_len (r : List Nat) (i n : Nat) : (rowCells r i n).length ≤ n := by
  unfold rowCells
  rw [List.length_map]
  exact Nat.le_trans (List.length_filter_le ..) (by rw [List.length_range]; exact Nat.le_refl _)
theorem cellsTo_len {rows : List (List Nat)} {w : Nat} (hw : ∀ r ∈ rows, r.length ≤ w) : ∀ n, n ≤ rows.length → (cellsTo rows n).length ≤ n * w
  | 0, _ => by simp [cellsTo]
  | n + 1, h => by
    rw [cellsTo_succ, List.length_append]
    have h1 := cellsTo_len hw n (by omega)
    have hm : rows.getD n [] ∈ rows := by
      rw [List.getD_eq_getElem?_getD, List.getElem?_eq_getElem (by omega), Option.getD_some]
      exact List.getElem_mem _
    have h2 := rowCells_len (rows.getD n []) n (rows.getD n []).length
    have h3 := hw _ hm
    rw [Nat.succ_mul]
    omega
theorem getD_at {rows : List (List Nat)} {i : Nat} {r : List Nat} (h : rows[i]? = some r) : rows.getD i [] = r := by
  rw [List.getD_eq_getElem?_getD, h, Option.getD_some]
/-- an island as it may be -/
structure Vd (rows : List (List Nat)) : Prop extends Good2 rows where
  hgt : rows.length ≤ 12
  wid : ∀ r ∈ rows, 1 ≤ r.length ∧ r.length ≤ 12
theorem RowsOk.vd {m : Nat} {rows : List (List Nat)} (h : RowsOk m rows) (hm : m ≤ 12) : Vd rows := by
  obtain ⟨h1, h2, wd, w1, w2, hr⟩ := h
  have g := RowsOk.good ⟨h1, h2, wd, w1, w2, hr⟩ hm
  refine ⟨⟨⟨g.le, g.lens, fun e => by rw [e] at h1; simp at h1⟩, fun r hr' => ?_, g.lo⟩, by omega, fun r hr' => by have := (hr r hr').1; omega⟩
  cases rows with
  | nil => cases hr'
  | cons r0 rs =>
    have e1 := (hr r hr').1
    have e2 := (hr r0 (List.mem_cons_self ..)).1
    show r.length = r0.length
    omega
def spICells (K : PySem.W.Frag) (CI : Addr) : Sp := fun vs H Q _ => ∃ (a : Addr) (rows : List (List Nat)), vs = [.ref a] ∧ Isl K CI H a rows ∧ Vd rows ∧ ∀ v H', Same H H' → Dp K H' v (.list ((cellsOf rows).map cdp)) → Q v H'
end Om


namespace Om
open PySem PySem.Spec PyProof.Rows L2
/-! ### _law_alike of two readings of the same data -/
/-- none, bools, ints, texts, tuples and lists of such, some deep -/
def okD : Nat → PyData → Bool
  | 0, _ => false
  | _ + 1, .none => true
  | _ + 1, .bool _ => true
  | _ + 1, .int _ => true
  | _ + 1, .str x => PyData.strOk x
  | n + 1, .list ds => decide (ds.length ≤ 10000) && ds.all (okD n)
  | n + 1, .tuple ds => decide (ds.length ≤ 10000) && ds.all (okD n)
  | _ + 1, .dict _ => false
theorem dpAll_at {K : PySem.W.Frag} {H : Hp} : ∀ {xs : List V} {ds : List PyData}, DpAll K H xs ds → ∀ {i : Nat} {e : PyData}, ds[i]? = some e → ∃ v, xs[i]? = some v ∧ Dp K H v e
  | [], [], .nil, i, e, h => by simp at h
  | v :: _, d :: _, .cons h1 t, 0, e, h => by
    have h : some d = some e := h
    cases h
    exact ⟨v, rfl, h1⟩
  | v :: _, d :: _, .cons h1 t, i + 1, e, h => by
    obtain ⟨u, h2, h3⟩ := dpAll_at t (i := i) (e := e) h
    exact ⟨u, h2, h3⟩
def tyD : PyData → String
  | .none => "NoneType"
  | .bool _ => "bool"
  | .int _ => "int"
  | .str _ => "str"
  | .list _ => "list"
  | .tuple _ => "tuple"
  | .dict _ => "dict"
theorem sqL_ty {K : PySem.W.Frag} {H : Hp} {a : Addr} {xs : List V} (h : SqL K H a xs) : TyX K H (.ref a) (.type "list") := by
  rcases h with (h | ⟨o, h⟩) | h
  · exact .base (.lst h)
  · exact .base (.frz h)
  · obtain ⟨o, its, n, e1, e2, _⟩ := h
    exact .kList e1 e2
theorem sqT_ty {K : PySem.W.Frag} {H : Hp} {a : Addr} {xs : List V} (h : SqT K H a xs) : TyX K H (.ref a) (.type "tuple") := by
  rcases h with (h | ⟨o, h⟩) | h
  · exact .base (.tup h)
  · exact .fTuple h
  · obtain ⟨o, its, n, e1, e2, _⟩ := h
    exact .kTuple e1 e2
theorem dp_ty {K : PySem.W.Frag} {H : Hp} {v : V} {d : PyData} (h : Dp K H v d) : TyX K H v (.type (tyD d)) := by
  cases h with
  | non => exact .base .non
  | bl b => exact .base (.bl b)
  | int i => exact .base (.int i)
  | str x => exact .base (.str x)
  | lst s _ => exact sqL_ty s
  | tup s _ => exact sqT_ty s
end Om

namespace Om
open PySem PySem.Spec PyProof.Rows L2 LamX
/-! ### the heap of numbers that a law draws from -/
structure Bx (H : Hp) (b l : Addr) : Prop where
  ex : ∃ (ns : List Int) (z k : Int), H b = some (.lst [.int z, .ref l, .int k]) ∧ H l = some (.lst (ns.map V.int)) ∧ ns.length ≤ 63
theorem Bx.ne {H : Hp} {b l : Addr} (B : Bx H b l) : b ≠ l := by
  obtain ⟨ns, z, k, h1, h2, _⟩ := B.ex
  refine ne_of h1 h2 fun e => ?_
  have e2 : [V.int z, V.ref l, V.int k] = ns.map V.int := HO.lst.inj e
  cases ns with
  | nil => cases e2
  | cons n r =>
    cases r with
    | nil => cases e2
    | cons m q =>
      injection e2 with _ e3
      injection e3 with e4 _
      cases e4
theorem Bx.same {H H' : Hp} {b l : Addr} (B : Bx H b l) (s : Same H H') : Bx H' b l := by
  obtain ⟨ns, z, k, h1, h2, h3⟩ := B.ex
  exact ⟨ns, z, k, s _ _ h1, s _ _ h2, h3⟩
theorem Bx.new {H : Hp} {b l D : Addr} (B : Bx H b l) (hD : H D = none) : D ≠ b ∧ D ≠ l := by
  obtain ⟨_, _, _, x1, x2, _⟩ := B.ex
  exact ⟨(fun e => by rw [← e, hD] at x1; cases x1), (fun e => by rw [← e, hD] at x2; cases x2)⟩
def spMix (K : PySem.W.Frag) : Sp := fun vs H Q _ => ∃ (a : Addr) (ns : List Int) (sd : Int), vs = [.ref a, .int sd] ∧ SqL K H a (ns.map V.int) ∧ ns.length ≤ 63 ∧
  ∀ (b l : Addr) (H' : Hp), H b = none → H l = none → Same H H' → Bx H' b l → Q (.ref b) H'
def spNext : Sp := fun vs H Q _ => ∃ (b l : Addr) (m : Int), vs = [.ref b, .int m] ∧ Bx H b l ∧ 0 < m ∧ m ≤ 1000000 ∧
  ∀ (n : Int) (H' : Hp), 0 ≤ n → n < m → Bx H' b l → Kp b l H H' → Q (.int n) H'
abbrev sMix : Stmt := top 30
abbrev sNext : Stmt := top 31
section
variable {P : Program} {w : World} {K : PySem.W.Frag} {mg : Str → Option Value} {base : Heap}
abbrev nMix : List Str := ["_law_script", "_law_seed", "_law_state", "_law_cell"]
theorem scMix : FnScope nMix ["_law_script", "_law_seed"] (defScope sMix) := ⟨rfl, rfl, rfl, by decide +kernel, rfl, by decide +kernel, by decide +kernel⟩
theorem ok_mix {f : Addr} {fd : FuncData} (F : FnP K "_law_mix" "_law_mix" sMix f fd) (gint : mg "int" = none) (glist : mg "list" = none) : FnOk P w K mg base CX0 1 f fd ["_law_script", "_law_seed"] (spMix K) := by
  refine F.ok scMix (fun vs H Q E h => ?_) (fun cdv A outer s H vs Q E hr h => ?_)
  · obtain ⟨a, ns, sd, rfl, _⟩ := h
    rfl
  · obtain ⟨a, ns, sd, rfl, hS, hlen, k⟩ := h
    have nd := scMix.nd
    refine ⟨_, PSs.nox (pss_cons (ps_set (i := 2) nd rfl (.inl rfl) (pv 1))
      (pss_cons (ps_for PassesOwn.never rfl (pi_list (pv 0)) (pg_name (i := 3) nd rfl (.inl rfl))
        (pss_one (ps_set (i := 2) nd rfl (.inl rfl) (pe_op op_modN (pe_callTy call_int1 (by rfl) gint boot_int (pa_cons (pe_op op_add (pe_op op_add (pe_op op_mul (pv 2) pe_int) (pe_op op_modN (pe_callTy call_int1 (by rfl) gint boot_int (pa_cons (pv 3) pa_nil)) pe_int)) pe_int) pa_nil)) pe_int))))
      (pss_one (ps_ret (pe_lst (pa_cons (pv 2) (pa_cons (pe_callTy call_list_of (by rfl) glist (by decide +kernel) (pa_cons (pv 0) pa_nil)) (pa_cons pe_int pa_nil)))))))), ?_⟩
    refine ⟨_, rfl, _, rfl, a, rfl, ⟨_, hS⟩, for_list (K := K) (a := a) (xs := ns.map V.int) (fun i σ H2 => ∃ (z : Int) (v : Option V), σ = [some (.ref a), some (.int sd), some (.int z), v] ∧ H2 = H)
      ⟨sd, none, rfl, rfl⟩ (fun i σ H2 _ ⟨_, _, _, e⟩ => by rw [e]; exact hS) ?_ ?_⟩
    · rintro i y σ H2 hi ⟨z, v, rfl, rfl⟩
      obtain ⟨n, rfl⟩ : ∃ n, y = V.int n := by
        rw [List.getElem?_map] at hi
        cases e : ns[i]? with
        | none => rw [e] at hi; cases hi
        | some n => rw [e] at hi; exact ⟨n, (Option.some.inj hi).symm⟩
      refine ⟨_, rfl, _, _, rfl, rfl, .inr ⟨by decide, by decide⟩, _, rfl, .inl ⟨_, rfl, _, _, rfl, rfl, (by show (2147483629 : Int) ≠ 0; decide), _, _, rfl, rfl, _, _, rfl, rfl, .inl ⟨_, rfl, _, _, rfl, rfl, (by show (2147483647 : Int) ≠ 0; decide), ?_⟩⟩⟩
      exact ⟨_, _, rfl, rfl⟩
    · rintro σ H2 ⟨z, v, rfl, rfl⟩
      refine ⟨_, rfl, _, rfl, a, _, rfl, .inl hS, fun l hl => ?_⟩
      refine ⟨by show 3 ≤ sizeLine; decide, fun p hp => ?_⟩
      have npl : p ≠ l := fun e => by rw [e, upd_same] at hp; cases hp
      have hp0 : H2 p = none := by rw [upd_ne npl] at hp; exact hp
      refine k p l _ hp0 hl (Same.new (Same.new (Same.refl _) hl) hp) ⟨ns, _, _, upd_same, ?_, hlen⟩
      rw [upd_ne npl.symm, upd_same]
abbrev nNext : List Str := ["_law_h", "_law_limit", "_law_cell"]
theorem scNext : FnScope nNext ["_law_h", "_law_limit"] (defScope sNext) := ⟨rfl, rfl, rfl, by decide +kernel, rfl, by decide +kernel, by decide +kernel⟩
theorem ok_next {f : Addr} {fd : FuncData} (F : FnP K "_law_next" "_law_next" sNext f fd) (gint : mg "int" = none) (gmax : mg "max" = none) (glen : mg "len" = none) : FnOk P w K mg base CX0 1 f fd ["_law_h", "_law_limit"] spNext := by
  refine F.ok scNext (fun vs H Q E h => ?_) (fun cdv A outer s H vs Q E hr h => ?_)
  · obtain ⟨b, l, m, rfl, _⟩ := h
    rfl
  · obtain ⟨b, l, m, rfl, B, hm0, hm1, k⟩ := h
    have nd := scNext.nd
    have nbl := B.ne
    obtain ⟨ns, z, kc, hb, hl, hlen⟩ := id B.ex
    refine ⟨_, PSs.nox (pss_cons (ps_set (i := 2) nd rfl (.inl rfl) (pe_ix ix_list (pe_op op_cat (pe_ix ix_list (pv 0) pe_int (fun _ _ => rfl)) (pe_lst (pa_cons pe_int pa_nil))) (pe_op op_mod (pe_callTy call_int1 (by rfl) gint boot_int (pa_cons (pe_ix ix_list (pv 0) pe_int (fun _ _ => rfl)) pa_nil)) (pe_callB (call_max2 rfl) (by rfl) gmax (by decide +kernel) (pa_cons pe_int (pa_cons (pe_callB call_len_seq (by rfl) glen PySem.boot_len (pa_cons (pe_ix ix_list (pv 0) pe_int (fun _ _ => rfl)) pa_nil)) pa_nil)))) (fun _ _ => rfl)))
      (pss_cons (ps_if (pt_cmpR op_ge (pv 2) (pe_op op_pow pe_int pe_int) (nomark _))
          (pss_cons (ps_asg (pe_op op_fdivN (pv 2) (pv 1)) (pg_sub (pe_ix ix_list (pv 0) pe_int (fun _ _ => rfl)) (pe_op op_mod (pe_callTy call_int1 (by rfl) gint boot_int (pa_cons (pe_ix ix_list (pv 0) pe_int (fun _ _ => rfl)) pa_nil)) (pe_callB call_len_seq (by rfl) glen PySem.boot_len (pa_cons (pe_ix ix_list (pv 0) pe_int (fun _ _ => rfl)) pa_nil))) set_list))
          (pss_one (ps_ret (pe_op op_modN (pe_callTy call_int1 (by rfl) gint boot_int (pa_cons (pv 2) pa_nil)) (pv 1))))) pss_nil)
      (pss_cons (ps_asg (pe_op op_modN (pe_callTy call_int1 (by rfl) gint boot_int (pa_cons (pe_op op_add (pe_op op_add (pe_op op_mul (pe_ix ix_list (pv 0) pe_int (fun _ _ => rfl)) pe_int) (pe_op op_mul (pv 2) pe_int)) pe_int) pa_nil)) pe_int) (pg_sub (pv 0) pe_int set_list))
      (pss_cons (ps_asg (pe_op op_add (pe_ix ix_list (pv 0) pe_int (fun _ _ => rfl)) pe_int) (pg_sub (pv 0) pe_int set_list))
      (pss_one (ps_ret (pe_op op_modN (pe_callTy call_int1 (by rfl) gint boot_int (pa_cons (pe_op op_fdivN (pe_ix ix_list (pv 0) pe_int (fun _ _ => rfl)) pe_int) pa_nil)) (pv 1)))))))), ?_⟩
    refine ⟨_, rfl, b, _, 1, _, rfl, rfl, .inl (.inl hb), rfl, by show 1 ≤ sizeLine; decide, fun e1 he1 => ?_⟩
    have s1 := Same.new (Same.refl H) he1 (o := .lst [.int 0])
    refine ⟨l, e1, _, _, rfl, rfl, s1 _ _ hl, upd_same, Nat.le_trans (show _ ≤ 64 by rw [List.length_map]; exact Nat.succ_le_succ hlen) (by decide), fun e2 he2 => ?_⟩
    have s2 := Same.new (Same.refl _) he2 (o := .lst (ns.map V.int ++ [.int 0]))
    have s12 := s1.trans s2
    have hb2 := s12 _ _ hb
    have hl2 := s12 _ _ hl
    have hc2 : (upd (upd H e1 (.lst [.int 0])) e2 (.lst (ns.map V.int ++ [.int 0]))) e2 = some (.lst ((ns ++ [0]).map V.int)) := by
      rw [upd_same, List.map_append]
      rfl
    have K2 : Kp b l H _ := Kp.of s12
    generalize upd (upd H e1 (.lst [.int 0])) e2 (.lst (ns.map V.int ++ [.int 0])) = H2 at hb2 hl2 hc2 K2 ⊢
    clear s1 s2 s12
    have hD : ∃ D : Int, (if ((ns.map V.int).length : Int) > 1 then ((ns.map V.int).length : Int) else 1) = D ∧ 0 < D ∧ D ≤ (ns.length : Int) + 1 ∧ (ns ≠ [] → D = (ns.length : Int)) := by
      rw [List.length_map]
      refine ⟨_, rfl, ?_, ?_, ?_⟩
      · split <;> omega
      · split <;> omega
      · intro hne
        have : 1 ≤ ns.length := List.length_pos_iff.mpr hne
        split <;> omega
    obtain ⟨D, eD, D0, D1, D2⟩ := hD
    obtain ⟨v, hv1, hv2⟩ := atI_of (xs := (ns ++ [0]).map V.int) (n := kc % D) (Int.emod_nonneg _ (by omega)) (by
      have := Int.emod_lt_of_pos kc D0
      rw [List.length_map, List.length_append, List.length_singleton]
      omega)
    obtain ⟨cv, hcv, rfl⟩ := List.mem_map.mp hv2
    refine ⟨_, rfl, b, _, 2, _, rfl, rfl, .inl (.inl hb2), rfl, .inl ⟨_, rfl, _, rfl, b, _, 1, _, rfl, rfl, .inl (.inl hb2), rfl, l, _, rfl, .inl (.inl (.inl hl2)), _, _, rfl, ?_⟩⟩
    rw [eD]
    refine ⟨_, _, rfl, rfl, D0, e2, _, _, _, rfl, rfl, .inl (.inl hc2), hv1, ?_⟩
    refine ⟨_, rfl, _, _, rfl, rfl, ?_, _, _, rfl, rfl, _, rfl, ?_⟩
    · exact ⟨by decide, by decide⟩
    refine ite2 (fun hz => ?_) (fun hz => ?_)
    · have hge : (10 ^ 18 : Int) ≤ cv := of_decide_eq_true hz
      have hne : ns ≠ [] := fun e => by
        subst e
        simp at hcv
        omega
      have eD2 := D2 hne
      have l1 : 1 ≤ ns.length := List.length_pos_iff.mpr hne
      have i0 := Int.emod_nonneg kc (b := (ns.length : Int)) (by omega)
      have i1 := Int.emod_lt_of_pos kc (b := (ns.length : Int)) (by omega)
      have hix : ixN (ns.map V.int).length (kc % (ns.length : Int)) = some (kc % (ns.length : Int)).toNat := by
        unfold ixN
        rw [if_pos i0, if_pos (by rw [List.length_map]; exact i1)]
      refine ⟨_, rfl, _, rfl, _, _, rfl, rfl, ⟨(by show m ≠ 0; omega), (by show m.natAbs < 1073741824; omega)⟩, ?_⟩
      refine ⟨_, rfl, b, _, 1, _, rfl, rfl, .inl (.inl hb2), rfl, _, rfl, b, _, 2, _, rfl, rfl, .inl (.inl hb2), rfl, .inl ⟨_, rfl, _, rfl, b, _, 1, _, rfl, rfl, .inl (.inl hb2), rfl, l, _, rfl, .inl (.inl (.inl hl2)), ?_⟩⟩
      rw [List.length_map]
      refine ⟨_, _, rfl, rfl, (by show (0 : Int) < (ns.length : Int); omega), l, _, _, _, rfl, rfl, hl2, hix, ?_⟩
      refine ⟨_, rfl, .inl ⟨_, rfl, _, rfl, _, _, rfl, rfl, (by show m ≠ 0; omega), ?_⟩⟩
      refine k _ _ (fmod_pos hm0).1 (fmod_pos hm0).2 ⟨⟨ns.set (kc % (ns.length : Int)).toNat (cv.fdiv m), z, kc, ?_, ?_, ?_⟩⟩ (Kp.upd2 K2)
      · rw [upd_ne nbl]
        exact hb2
      · rw [upd_same, List.map_set]
      · rw [List.length_set]
        exact hlen
    · refine ⟨_, rfl, b, _, 0, _, rfl, rfl, .inl (.inl hb2), rfl, _, _, rfl, rfl, .inr ⟨by decide, by decide⟩, _, rfl, _, _, rfl, rfl, .inr ⟨by decide, by decide⟩, _, _, rfl, rfl, _, _, rfl, rfl, .inl ⟨_, rfl, _, _, rfl, rfl, (by show (2147483647 : Int) ≠ 0; decide), ?_⟩⟩
      refine ⟨_, rfl, b, _, 0, 0, rfl, rfl, hb2, rfl, ?_⟩
      refine ⟨_, rfl, b, _, 2, _, rfl, rfl, .inl (.inl upd_same), rfl, _, _, rfl, rfl, _, rfl, b, _, 2, 2, rfl, rfl, upd_same, rfl, ?_⟩
      refine ⟨_, rfl, b, _, 0, _, rfl, rfl, .inl (.inl upd_same), rfl, _, _, rfl, rfl, ⟨by decide, by decide⟩, .inl ⟨_, rfl, _, rfl, _, _, rfl, rfl, (by show m ≠ 0; omega), ?_⟩⟩
      refine k _ _ (fmod_pos hm0).1 (fmod_pos hm0).2 ⟨⟨ns, _, _, upd_same, ?_, hlen⟩⟩ (Kp.upd1 (Kp.upd1 K2))
      rw [upd_ne nbl.symm, upd_ne nbl.symm]
      exact hl2
end
end Om

namespace Om
open PySem PySem.Spec PyProof.Rows L2 LamX
/-! ### data without lists stay when the numbers are drawn -/
mutual
def noL : PyData → Bool
  | .list _ => false
  | .tuple ds => noLs ds
  | .dict _ => false
  | .none => true
  | .bool _ => true
  | .int _ => true
  | .str _ => true
def noLs : List PyData → Bool
  | [] => true
  | d :: r => noL d && noLs r
end
theorem SqT.kp {K : PySem.W.Frag} {H H' : Hp} {b l a : Addr} {xs : List V} (B : Bx H b l) (k : Kp b l H H') (h : SqT K H a xs) : SqT K H' a xs := by
  obtain ⟨ns, z, _, h1, h2, _⟩ := B.ex
  rcases h with (h | ⟨o, h⟩) | h
  · exact .inl (.inl (k _ _ h (ne_of h h1 fun e => by cases e) (ne_of h h2 fun e => by cases e)))
  · exact .inl (.inr ⟨o, k _ _ h (ne_of h h1 fun e => by cases e) (ne_of h h2 fun e => by cases e)⟩)
  · exact .inr h
theorem dp_noL {K : PySem.W.Frag} {H H' : Hp} {v : V} {d : PyData} (hS : ∀ a xs, SqT K H a xs → SqT K H' a xs) (hn : noL d = true) (h : Dp K H v d) : Dp K H' v d :=
  Dp.rec (motive_1 := fun v d _ => noL d = true → Dp K H' v d) (motive_2 := fun vs ds _ => noLs ds = true → DpAll K H' vs ds) (fun _ => .non) (fun b _ => .bl b) (fun i _ => .int i) (fun x _ => .str x)
    (fun _ _ _ hn => by simp [noL] at hn) (fun s _ ih hn => .tup (hS _ _ s) (ih (by simpa [noL] using hn))) (fun _ => .nil) (fun _ _ i1 i2 hn => by
      rw [noLs, Bool.and_eq_true] at hn
      exact .cons (i1 hn.1) (i2 hn.2)) h hn
theorem dpAll_noL {K : PySem.W.Frag} {H H' : Hp} : ∀ {vs : List V} {ds : List PyData} (hS : ∀ a xs, SqT K H a xs → SqT K H' a xs) (hn : noLs ds = true) (h : DpAll K H vs ds), DpAll K H' vs ds
  | [], [], _, _, .nil => .nil
  | _ :: _, _ :: _, hS, hn, .cons h t => by
    rw [noLs, Bool.and_eq_true] at hn
    exact .cons (dp_noL hS hn.1 h) (dpAll_noL hS hn.2 t)
theorem SqT.updL {K : PySem.W.Frag} {H : Hp} {D a : Addr} {xs ys zs : List V} (hD : H D = some (.lst ys)) (h : SqT K H a xs) : SqT K (upd H D (.lst zs)) a xs := by
  rcases h with (h | ⟨o, h⟩) | h
  · exact .inl (.inl (by rw [upd_ne (ne_of h hD fun e => by cases e)]; exact h))
  · exact .inl (.inr ⟨o, by rw [upd_ne (ne_of h hD fun e => by cases e)]; exact h⟩)
  · exact .inr h
theorem Bx.updL {H : Hp} {b l D : Addr} {ys : List V} (B : Bx H b l) (nb : D ≠ b) (nl : D ≠ l) : Bx (upd H D (.lst ys)) b l := by
  obtain ⟨u1, u2, u3, u4, u5, u6⟩ := B.ex
  exact ⟨u1, u2, u3, by rw [upd_ne nb.symm]; exact u4, by rw [upd_ne nl.symm]; exact u5, u6⟩
theorem Kp.updL {H H0 : Hp} {b l D : Addr} {ys : List V} (k : Kp b l H0 H) (hD : H0 D = none) : Kp b l H0 (upd H D (.lst ys)) := by
  intro x o hx n1 n2
  rw [upd_ne (ne_of_none hx hD)]
  exact k x o hx n1 n2
theorem Kp.ins {b l a C dx : Addr} {H H' : Hp} {fs : List (Str × V)} (k : Kp b l H H') (B : Bx H b l) (h : H a = some (.ins C dx fs)) : H' a = some (.ins C dx fs) := by
  obtain ⟨ns, z, _, h1, h2, _⟩ := id B.ex
  exact k _ _ h (ne_of h h1 fun e => by cases e) (ne_of h h2 fun e => by cases e)
theorem Isl.kp {K : PySem.W.Frag} {H H' : Hp} {CI a b l : Addr} {rows : List (List Nat)} (B : Bx H b l) (k : Kp b l H H') (h : Isl K CI H a rows) : Isl K CI H' a rows := by
  obtain ⟨dx, p, hp, hS⟩ := h
  exact ⟨dx, p, k.ins B hp, SqT.kp B k hS⟩
theorem noL_cells : ∀ cs : List (Nat × Nat), noLs (cs.map cdp) = true
  | [] => rfl
  | c :: r => by
    have ih := noL_cells r
    simp only [List.map_cons, noLs, cdp, noL, ih, Bool.and_self]
/-! ### _law_alike of two readings of the same data -/
theorem ixsK {X : Cx} {K : PySem.W.Frag} (hK : X.K = K) : IxR X (rIx K) := by
  subst hK
  exact ix_seq
theorem pss_no {X : Cx} {st : List Stmt} : PSs X st (fun _ _ _ => False) := ⟨fun _ _ _ _ _ _ h => False.elim h⟩
abbrev sAlike : Stmt := top 32
def spAlike (K : PySem.W.Frag) (n : Nat) : Sp := fun vs H Q _ => ∃ (x y : V) (d : PyData), vs = [x, y] ∧ Dp K H x d ∧ Dp K H y d ∧ okD n d = true ∧ ∀ H', Same H H' → Q (.bl true) H'
abbrev nAlike : List Str := ["_law_found", "_law_due", "_law_k"]
theorem scAlike : FnScope nAlike ["_law_found", "_law_due"] (defScope sAlike) := ⟨rfl, rfl, rfl, by decide +kernel, rfl, by decide +kernel, by decide +kernel⟩
def asgExpr (s : Stmt) : Expr := match s with
  | .Assign _ e _ => e
  | _ => .Constant .none 0 ⟨0, 0, 0, 0⟩
def noS : Stmt := .Pass ⟨0, 0, 0, 0⟩
def inIf (s : Stmt) (i : Nat) : Stmt := match s with
  | .If _ b _ _ => b.getD i noS
  | _ => noS
def inFor (s : Stmt) (i : Nat) : Stmt := match s with
  | .For _ _ b _ _ => b.getD i noS
  | _ => noS
def cmpL (e : Expr) : Expr := match e with
  | .Compare a _ _ _ => a
  | _ => .Constant .none 0 ⟨0, 0, 0, 0⟩
def alLc : Expr := cmpL (retExpr (inIf ((defBody sAlike).getD 1 noS) 2))
theorem blkAl : BlkOk nAlike (defScope sAlike) (lcScope alLc) [("_law_k", 2)] := blkOk_by (by decide +kernel)
theorem kit2 {K : PySem.W.Frag} {a : String} {r1 r2 : Bool} (h1 : kitB a "tuple" = some r1) (h2 : kitB a "list" = some r2) : PySem.W.kitAny K (.type a) [.type "tuple", .type "list"] = some (r1 || r2) := by
  have k1 : PySem.W.kitOne K (.type a) (.type "tuple") = some r1 := kit_ty h1
  have k2 : PySem.W.kitOne K (.type a) (.type "list") = some r2 := kit_ty h2
  refine kitAny_cons k1 (fun e => ?_) (fun e => by rw [e]; rfl)
  subst e
  refine kitAny_cons k2 (fun e => by rw [e]; exact kitAny_nil) (fun e => by rw [e]; rfl)
section
variable {P : Program} {w : World} {K : PySem.W.Frag} {mg : Str → Option Value} {base : Heap}
theorem ok_alike {f : Addr} {fd : FuncData} (F : FnP K "_law_alike" "_law_alike" sAlike f fd) (hg : mg "_law_alike" = some (.ref f)) (hk : PySem.W.keepIn K (.ref f) = true) (hb : Binds K fd ["_law_found", "_law_due"] [])
    (gisi : mg "isinstance" = none) (gint : mg "int" = none) (gbool : mg "bool" = none) (gstr : mg "str" = none) (gtuple : mg "tuple" = none) (glist : mg "list" = none) (gdict : mg "dict" = none) (glen : mg "len" = none) (grange : mg "range" = none) :
    ∀ n, FnOk P w K mg base CX0 (n + 1) f fd ["_law_found", "_law_due"] (spAlike K n) := by
  intro n
  induction n with
  | zero =>
    refine F.ok scAlike (fun vs H Q E h => ?_) (fun cdv A outer s H vs Q E hr h => ?_)
    · obtain ⟨x, y, d, _, _, _, h, _⟩ := h
      cases h
    · obtain ⟨x, y, d, _, _, _, h, _⟩ := h
      cases h
  | succ n ih =>
    have G : Cal P w K mg base CX0 (n + 1) "_law_alike" ["_law_found", "_law_due"] (spAlike K n) := ⟨_, _, ih, hg, hk, hb⟩
    refine F.ok scAlike (fun vs H Q E h => ?_) (fun cdv A outer s H vs Q E hr h => ?_)
    · obtain ⟨x, y, d, rfl, _⟩ := h
      rfl
    · obtain ⟨x, y, d, rfl, hx, hy, ok, k⟩ := h
      have nd := scAlike.nd
      refine ⟨_, PSs.nox (pss_cons (ps_if (pt_val (pe_callB call_isi (by rfl) gisi (by decide +kernel) (pa_cons (pv 1) (pa_cons (pe_bltn (v := .ty "dict") (by rfl) gdict (by decide +kernel) rfl) pa_nil)))) pss_no pss_nil)
        (pss_cons (ps_if (pt_val (pe_callB call_isiT (by rfl) gisi (by decide +kernel) (pa_cons (pv 1) (pa_cons (pe_tup (pa_cons (pe_bltn (v := .ty "tuple") (by rfl) gtuple (by decide +kernel) rfl) (pa_cons (pe_bltn (v := .ty "list") (by rfl) glist (by decide +kernel) rfl) pa_nil))) pa_nil))))
            (pss_cons (ps_if (PW.pt (pw_or (pt_not (pt_val (pe_callB call_isiT (by rfl) gisi (by decide +kernel) (pa_cons (pv 0) (pa_cons (pe_tup (pa_cons (pe_bltn (v := .ty "tuple") (by rfl) gtuple (by decide +kernel) rfl) (pa_cons (pe_bltn (v := .ty "list") (by rfl) glist (by decide +kernel) rfl) pa_nil))) pa_nil)))))
                  (pw_or1 (pt_cmpR op_ne (pe_callB call_isi (by rfl) gisi (by decide +kernel) (pa_cons (pv 0) (pa_cons (pe_bltn (v := .ty "list") (by rfl) glist (by decide +kernel) rfl) pa_nil))) (pe_callB call_isi (by rfl) gisi (by decide +kernel) (pa_cons (pv 1) (pa_cons (pe_bltn (v := .ty "list") (by rfl) glist (by decide +kernel) rfl) pa_nil))) (nomark _))))) (pss_one (ps_ret pe_bl)) pss_nil)
            (pss_cons (ps_if (pt_cmpR op_ne (pe_callB call_len_seq (by rfl) glen PySem.boot_len (pa_cons (pv 0) pa_nil)) (pe_callB call_len_seq (by rfl) glen PySem.boot_len (pa_cons (pv 1) pa_nil)) (nomark _)) (pss_one (ps_ret pe_bl)) pss_nil)
            (pss_one (ps_ret (pe_cmpR (op_eqD hr.units) (pe_lc (own := [("_law_k", 2)]) (g := gName 2) rfl nd (pi_range1 rfl grange (pa_cons (pe_callB call_len_seq (by rfl) glen PySem.boot_len (pa_cons (pv 1) pa_nil)) pa_nil)) blkAl (fun _ _ _ _ _ => pg_name (i := 2) nd rfl (.inl rfl))
                (fun _ _ _ _ _ => pts_one (pt_not (pt_val (pe_cal G hr pass0 (pa_cons (pe_ix (ixsK (K := K) rfl) (pv 0) (pv 2) (fun _ _ => rfl)) (pa_cons (pe_ix (ixsK (K := K) rfl) (pv 1) (pv 2) (fun _ _ => rfl)) pa_nil)))))) (fun _ _ _ _ _ => pv 2)) (pe_lst pa_nil) (nomark _)))))) pss_nil)
        (pss_cons (ps_if (PW.pt (pw_or (pt_cmpR op_isN (pv 1) pe_non (nomark _)) (pw_or1 (pt_val (pe_callB call_isi (by rfl) gisi (by decide +kernel) (pa_cons (pv 1) (pa_cons (pe_bltn (v := .ty "str") (by rfl) gstr (by decide +kernel) rfl) pa_nil)))))))
            (pss_one (ps_ret (pe_and (pe_cmpR (op_eqD hr.units) (pv 0) (pv 1) (nomark _)) (pe_one (pe_cmpR op_eq (pe_callB call_isi (by rfl) gisi (by decide +kernel) (pa_cons (pv 0) (pa_cons (pe_bltn (v := .ty "str") (by rfl) gstr (by decide +kernel) rfl) pa_nil)))
              (pe_callB call_isi (by rfl) gisi (by decide +kernel) (pa_cons (pv 1) (pa_cons (pe_bltn (v := .ty "str") (by rfl) gstr (by decide +kernel) rfl) pa_nil))) (nomark _)))))) pss_nil)
        (pss_one (ps_ret (pe_and (pe_callB call_isi (by rfl) gisi (by decide +kernel) (pa_cons (pv 0) (pa_cons (pe_bltn (v := .ty "int") (by rfl) gint boot_int rfl) pa_nil)))
          (pe_and (pe_cmpR op_eq (pe_callB call_isi (by rfl) gisi (by decide +kernel) (pa_cons (pv 0) (pa_cons (pe_bltn (v := .ty "bool") (by rfl) gbool (by decide +kernel) rfl) pa_nil))) (pe_callB call_isi (by rfl) gisi (by decide +kernel) (pa_cons (pv 1) (pa_cons (pe_bltn (v := .ty "bool") (by rfl) gbool (by decide +kernel) rfl) pa_nil))) (nomark _))
            (pe_one (pe_cmpR (op_eqD hr.units) (pv 0) (pv 1) (nomark _)))))))))), ?_⟩
      have kt : ∀ {a b : String} {r : Bool}, kitB a b = some r → PySem.W.kitOne K (.type a) (.type b) = some r := fun h => kit_ty h
      have pr : Paired ClsV [V.ty "tuple", V.ty "list"] [.type "tuple", .type "list"] := .cons (.ty _) (.cons (.ty _) .nil)
      have tup_new : ∀ {H : Hp} {T : Addr}, H T = none → Same H (upd H T (.tup [.ty "tuple", .ty "list"])) := fun h => Same.new (Same.refl _) h
      -- the items one by one
      have items : ∀ (xs ys : List V) (ds : List PyData), DpAll K H xs ds → DpAll K H ys ds → ds.all (okD n) = true →
          ∀ i, i < ys.length → ∃ v u, xs[i]? = some v ∧ ys[i]? = some u ∧ ∃ e, Dp K H v e ∧ Dp K H u e ∧ okD n e = true := fun xs ys ds h1 h2 h3 i hi => by
        have hl := dpAll_len h2
        have hi2 : i < ds.length := by omega
        have he : ds[i]? = some ds[i] := by simp [hi2]
        obtain ⟨v, a1, a2⟩ := dpAll_at h1 he
        obtain ⟨u, b1, b2⟩ := dpAll_at h2 he
        exact ⟨v, u, a1, b1, _, a2, b2, List.all_eq_true.mp h3 _ (List.getElem_mem hi2)⟩
      cases d with
      | none =>
        cases hx
        cases hy
        refine ⟨_, rfl, _, _, _, _, _, rfl, .ty "dict", dp_ty .non, kt (a := "NoneType") (r := false) (by decide +kernel), false, rfl, iteF ?_⟩
        refine ⟨_, rfl, by show 2 ≤ sizeLine; decide, fun T hT => ⟨_, T, _, _, _, _, rfl, upd_same, pr, dp_ty .non, kit2 (a := "NoneType") (r1 := false) (r2 := false) (by decide +kernel) (by decide +kernel), false, rfl, iteF ?_⟩⟩
        have s1 := tup_new hT
        refine ⟨_, rfl, rfl, _, rfl, iteT' (decide_eq_true rfl) (iteT' rfl ?_)⟩
        refine ⟨_, rfl, _, rfl, .none, .none, .non, .non, rfl, rfl, true, rfl, iteT ?_⟩
        refine ⟨_, rfl, _, _, _, _, _, rfl, .ty "str", dp_ty .non, kt (a := "NoneType") (r := false) (by decide +kernel), _, rfl, _, _, _, _, _, rfl, .ty "str", dp_ty .non, kt (a := "NoneType") (r := false) (by decide +kernel), rfl, ?_⟩
        rw [decide_eq_true (rfl : V.bl false = V.bl false)]
        exact k _ s1
      | dict kvs => cases ok
      | bool b =>
        cases hx
        cases hy
        refine ⟨_, rfl, _, _, _, _, _, rfl, .ty "dict", dp_ty (.bl b), kt (a := "bool") (r := false) (by decide +kernel), false, rfl, iteF ?_⟩
        refine ⟨_, rfl, by show 2 ≤ sizeLine; decide, fun T hT => ⟨_, T, _, _, _, _, rfl, upd_same, pr, dp_ty (.bl b), kit2 (a := "bool") (r1 := false) (r2 := false) (by decide +kernel) (by decide +kernel), false, rfl, iteF ?_⟩⟩
        have s1 := tup_new hT
        refine ⟨_, rfl, rfl, _, rfl, iteF' (decide_eq_false (fun e => by cases e)) ?_⟩
        refine ⟨_, rfl, _, _, _, _, _, rfl, .ty "str", dp_ty (.bl b), kt (a := "bool") (r := false) (by decide +kernel), false, rfl, iteF' rfl ?_⟩
        refine ⟨_, rfl, _, _, _, _, _, rfl, .ty "int", dp_ty (.bl b), kt (a := "bool") (r := true) (by decide +kernel), true, rfl, iteT ?_⟩
        refine ⟨_, rfl, _, _, _, _, _, rfl, .ty "bool", dp_ty (.bl b), kt (a := "bool") (r := true) (by decide +kernel), _, rfl, _, _, _, _, _, rfl, .ty "bool", dp_ty (.bl b), kt (a := "bool") (r := true) (by decide +kernel), rfl, _, rfl, iteT' (decide_eq_true rfl) ?_⟩
        refine ⟨_, rfl, _, rfl, _, _, .bl b, .bl b, rfl, rfl, ?_⟩
        rw [PySem.SeqAt.eqv_refl (.bool b) rfl]
        exact k _ s1
      | int i =>
        cases hx
        cases hy
        refine ⟨_, rfl, _, _, _, _, _, rfl, .ty "dict", dp_ty (.int i), kt (a := "int") (r := false) (by decide +kernel), false, rfl, iteF ?_⟩
        refine ⟨_, rfl, by show 2 ≤ sizeLine; decide, fun T hT => ⟨_, T, _, _, _, _, rfl, upd_same, pr, dp_ty (.int i), kit2 (a := "int") (r1 := false) (r2 := false) (by decide +kernel) (by decide +kernel), false, rfl, iteF ?_⟩⟩
        have s1 := tup_new hT
        refine ⟨_, rfl, rfl, _, rfl, iteF' (decide_eq_false (fun e => by cases e)) ?_⟩
        refine ⟨_, rfl, _, _, _, _, _, rfl, .ty "str", dp_ty (.int i), kt (a := "int") (r := false) (by decide +kernel), false, rfl, iteF' rfl ?_⟩
        refine ⟨_, rfl, _, _, _, _, _, rfl, .ty "int", dp_ty (.int i), kt (a := "int") (r := true) (by decide +kernel), true, rfl, iteT ?_⟩
        refine ⟨_, rfl, _, _, _, _, _, rfl, .ty "bool", dp_ty (.int i), kt (a := "int") (r := false) (by decide +kernel), _, rfl, _, _, _, _, _, rfl, .ty "bool", dp_ty (.int i), kt (a := "int") (r := false) (by decide +kernel), rfl, _, rfl, iteT' (decide_eq_true rfl) ?_⟩
        refine ⟨_, rfl, _, rfl, _, _, .int i, .int i, rfl, rfl, ?_⟩
        rw [PySem.SeqAt.eqv_refl (.int i) rfl]
        exact k _ s1
      | str z =>
        cases hx
        cases hy
        have hz : PyData.strOk z = true := ok
        have lay : PyData.canLay0 (.str z) = true := by simp only [PyData.canLay0]; exact hz
        have sh : SeqAt.shaped (.str z) = true := shaped_of lay (by simp [PyData.depth])
        refine ⟨_, rfl, _, _, _, _, _, rfl, .ty "dict", dp_ty (.str z), kt (a := "str") (r := false) (by decide +kernel), false, rfl, iteF ?_⟩
        refine ⟨_, rfl, by show 2 ≤ sizeLine; decide, fun T hT => ⟨_, T, _, _, _, _, rfl, upd_same, pr, dp_ty (.str z), kit2 (a := "str") (r1 := false) (r2 := false) (by decide +kernel) (by decide +kernel), false, rfl, iteF ?_⟩⟩
        have s1 := tup_new hT
        refine ⟨_, rfl, rfl, _, rfl, iteF' (decide_eq_false (fun e => by cases e)) ?_⟩
        refine ⟨_, rfl, _, _, _, _, _, rfl, .ty "str", dp_ty (.str z), kt (a := "str") (r := true) (by decide +kernel), true, rfl, iteT' rfl ?_⟩
        refine ⟨_, rfl, _, rfl, _, _, .str z, .str z, sh, sh, ?_⟩
        rw [PySem.SeqAt.eqv_refl (.str z) lay]
        refine ⟨true, rfl, iteT ?_⟩
        refine ⟨_, rfl, _, _, _, _, _, rfl, .ty "str", dp_ty (.str z), kt (a := "str") (r := true) (by decide +kernel), _, rfl, _, _, _, _, _, rfl, .ty "str", dp_ty (.str z), kt (a := "str") (r := true) (by decide +kernel), rfl, ?_⟩
        rw [decide_eq_true (rfl : V.bl true = V.bl true)]
        exact k _ s1
      | list ds =>
        cases hx with
        | lst sx ax =>
          rename_i a xs
          cases hy with
          | lst sy ay =>
            rename_i b ys
            have ok2 : (decide (ds.length ≤ 10000) && ds.all (okD n)) = true := ok
            obtain ⟨o1, o2⟩ := Bool.and_eq_true_iff.mp ok2
            have it := items xs ys ds ax ay o2
            have lx : xs.length = ys.length := by rw [dpAll_len ax, dpAll_len ay]
            have lb1 : ys.length ≤ 10000 := by
              rw [dpAll_len ay]
              exact of_decide_eq_true o1
            refine ⟨_, rfl, _, _, _, _, _, rfl, .ty "dict", sqL_ty sy, kt (a := "list") (r := false) (by decide +kernel), false, rfl, iteF ?_⟩
            refine ⟨_, rfl, by show 2 ≤ sizeLine; decide, fun T hT => ?_⟩
            have s1 := tup_new hT
            refine ⟨_, T, _, _, _, _, rfl, upd_same, pr, sqL_ty (Same.lst s1 sy), kit2 (a := "list") (r1 := false) (r2 := true) (by decide +kernel) (by decide +kernel), true, rfl, iteT ?_⟩
            generalize upd H T (.tup [.ty "tuple", .ty "list"]) = H1 at s1 ⊢
            refine ⟨_, rfl, by show 2 ≤ sizeLine; decide, fun T2 hT2 => ?_⟩
            have s2 := tup_new hT2
            have s12 := s1.trans s2
            refine ⟨_, T2, _, _, _, _, rfl, upd_same, pr, sqL_ty (Same.lst s12 sx), kit2 (a := "list") (r1 := false) (r2 := true) (by decide +kernel) (by decide +kernel), true, rfl, iteF' rfl ?_⟩
            generalize upd H1 T2 (.tup [.ty "tuple", .ty "list"]) = H2 at s12 ⊢
            have ll := kt (a := "list") (b := "list") (r := true) (by decide +kernel)
            refine ⟨_, rfl, _, _, _, _, _, rfl, .ty "list", sqL_ty (Same.lst s12 sx), ll, _, rfl, _, _, _, _, _, rfl, .ty "list", sqL_ty (Same.lst s12 sy), ll, rfl, _, rfl, iteF' (by rw [decide_eq_true rfl]; rfl) ?_⟩
            refine ⟨_, rfl, a, xs, rfl, .inl (Same.lst s12 sx), _, rfl, b, ys, rfl, .inl (Same.lst s12 sy), rfl, _, rfl, iteF' (by rw [lx, decide_eq_true rfl]; rfl) ?_⟩
            refine ⟨_, rfl, b, ys, rfl, .inl (Same.lst s12 sy), _, rfl, by omega, by omega, fun D hD => ?_⟩
            refine lc_range (lo := 0) (n := ((ys.length : Nat) : Int).toNat) (fun i H' => H' D = some (.lst []) ∧ Same H2 H') ⟨upd_same, Same.new (Same.refl _) hD⟩ ?_ ?_
            · rintro i H3 hi ⟨g1, g2⟩
              have s3 := s12.trans g2
              obtain ⟨v, u, h1, h2, e, d1, d2, d3⟩ := it i (by omega)
              have e1 : atI xs (0 + ((i : Nat) : Int)) = some v := by rw [Int.zero_add]; exact atI_nat h1
              have e2 : atI ys (0 + ((i : Nat) : Int)) = some u := by rw [Int.zero_add]; exact atI_nat h2
              refine ⟨rfl, ?_⟩
              refine ⟨_, rfl, _, rfl, .inl ⟨a, xs, _, v, rfl, rfl, Same.lst s3 sx, e1, _, rfl, _, rfl, .inl ⟨b, ys, _, u, rfl, rfl, Same.lst s3 sy, e2, ?_⟩⟩⟩
              exact ⟨v, u, e, rfl, Same.dp s3 d1, Same.dp s3 d2, d3, fun H4 s4 => ⟨true, rfl, iteF' rfl ⟨s4 _ _ g1, g2.trans s4⟩⟩⟩
            · rintro H3 ⟨g1, g2⟩
              refine ⟨by show 0 ≤ sizeLine; decide, fun e0 he0 => ?_⟩
              have s4 := Same.new (Same.refl H3) he0 (o := .lst [])
              refine ⟨.list [], .list [], .lst (.inl (.inl (s4 _ _ g1))) .nil, .lst (.inl (.inl upd_same)) .nil, shaped_nil, shaped_nil, ?_⟩
              rw [PySem.SeqAt.eqv_refl (.list []) (by simp [PyData.canLay0, PyData.canLayAll0])]
              exact k _ ((s12.trans g2).trans s4)
      | tuple ds =>
        cases hx with
        | tup sx ax =>
          rename_i a xs
          cases hy with
          | tup sy ay =>
            rename_i b ys
            have ok2 : (decide (ds.length ≤ 10000) && ds.all (okD n)) = true := ok
            obtain ⟨o1, o2⟩ := Bool.and_eq_true_iff.mp ok2
            have it := items xs ys ds ax ay o2
            have lx : xs.length = ys.length := by rw [dpAll_len ax, dpAll_len ay]
            have lb1 : ys.length ≤ 10000 := by
              rw [dpAll_len ay]
              exact of_decide_eq_true o1
            refine ⟨_, rfl, _, _, _, _, _, rfl, .ty "dict", sqT_ty sy, kt (a := "tuple") (r := false) (by decide +kernel), false, rfl, iteF ?_⟩
            refine ⟨_, rfl, by show 2 ≤ sizeLine; decide, fun T hT => ?_⟩
            have s1 := tup_new hT
            refine ⟨_, T, _, _, _, _, rfl, upd_same, pr, sqT_ty (Same.tup s1 sy), kit2 (a := "tuple") (r1 := true) (r2 := false) (by decide +kernel) (by decide +kernel), true, rfl, iteT ?_⟩
            generalize upd H T (.tup [.ty "tuple", .ty "list"]) = H1 at s1 ⊢
            refine ⟨_, rfl, by show 2 ≤ sizeLine; decide, fun T2 hT2 => ?_⟩
            have s2 := tup_new hT2
            have s12 := s1.trans s2
            refine ⟨_, T2, _, _, _, _, rfl, upd_same, pr, sqT_ty (Same.tup s12 sx), kit2 (a := "tuple") (r1 := true) (r2 := false) (by decide +kernel) (by decide +kernel), true, rfl, iteF' rfl ?_⟩
            generalize upd H1 T2 (.tup [.ty "tuple", .ty "list"]) = H2 at s12 ⊢
            have ll := kt (a := "tuple") (b := "list") (r := false) (by decide +kernel)
            refine ⟨_, rfl, _, _, _, _, _, rfl, .ty "list", sqT_ty (Same.tup s12 sx), ll, _, rfl, _, _, _, _, _, rfl, .ty "list", sqT_ty (Same.tup s12 sy), ll, rfl, _, rfl, iteF' (by rw [decide_eq_true rfl]; rfl) ?_⟩
            refine ⟨_, rfl, a, xs, rfl, .inr (Same.tup s12 sx), _, rfl, b, ys, rfl, .inr (Same.tup s12 sy), rfl, _, rfl, iteF' (by rw [lx, decide_eq_true rfl]; rfl) ?_⟩
            refine ⟨_, rfl, b, ys, rfl, .inr (Same.tup s12 sy), _, rfl, by omega, by omega, fun D hD => ?_⟩
            refine lc_range (lo := 0) (n := ((ys.length : Nat) : Int).toNat) (fun i H' => H' D = some (.lst []) ∧ Same H2 H') ⟨upd_same, Same.new (Same.refl _) hD⟩ ?_ ?_
            · rintro i H3 hi ⟨g1, g2⟩
              have s3 := s12.trans g2
              obtain ⟨v, u, h1, h2, e, d1, d2, d3⟩ := it i (by omega)
              have e1 : atI xs (0 + ((i : Nat) : Int)) = some v := by rw [Int.zero_add]; exact atI_nat h1
              have e2 : atI ys (0 + ((i : Nat) : Int)) = some u := by rw [Int.zero_add]; exact atI_nat h2
              refine ⟨rfl, ?_⟩
              refine ⟨_, rfl, _, rfl, .inr (.inl ⟨a, xs, _, v, rfl, rfl, Same.tup s3 sx, e1, _, rfl, _, rfl, .inr (.inl ⟨b, ys, _, u, rfl, rfl, Same.tup s3 sy, e2, ?_⟩)⟩)⟩
              exact ⟨v, u, e, rfl, Same.dp s3 d1, Same.dp s3 d2, d3, fun H4 s4 => ⟨true, rfl, iteF' rfl ⟨s4 _ _ g1, g2.trans s4⟩⟩⟩
            · rintro H3 ⟨g1, g2⟩
              refine ⟨by show 0 ≤ sizeLine; decide, fun e0 he0 => ?_⟩
              have s4 := Same.new (Same.refl H3) he0 (o := .lst [])
              refine ⟨.list [], .list [], .lst (.inl (.inl (s4 _ _ g1))) .nil, .lst (.inl (.inl upd_same)) .nil, shaped_nil, shaped_nil, ?_⟩
              rw [PySem.SeqAt.eqv_refl (.list []) (by simp [PyData.canLay0, PyData.canLayAll0])]
              exact k _ ((s12.trans g2).trans s4)
end
end Om

namespace Om
open PySem PySem.Spec PyProof.Rows L2 LamX
/-! ### signs at places -/
def sg2 (rows : List (List Nat)) (i j : Nat) : Nat := (rows.getD i []).getD j 0
structure Rect (rows : List (List Nat)) (h w : Nat) : Prop where
  len : rows.length = h
  row : ∀ r ∈ rows, r.length = w
theorem rect_getD {rows : List (List Nat)} {h w : Nat} (R : Rect rows h w) {i : Nat} (hi : i < h) : rows.getD i [] ∈ rows ∧ (rows.getD i []).length = w := by
  have hi2 : i < rows.length := by rw [R.len]; exact hi
  have e : rows.getD i [] = rows[i] := by rw [List.getD_eq_getElem?_getD, List.getElem?_eq_getElem hi2, Option.getD_some]
  rw [e]
  exact ⟨List.getElem_mem hi2, R.row _ (List.getElem_mem hi2)⟩
/-! ### cells -/
theorem cells_mem (rows : List (List Nat)) (a b : Nat) : (a, b) ∈ cellsOf rows ↔ a < rows.length ∧ b < (rows.getD a []).length ∧ sg2 rows a b ≠ 126 := by
  unfold cellsOf cellsTo rowCells sg2
  simp only [List.mem_flatMap, List.mem_range, List.mem_map, List.mem_filter, Bool.not_eq_true', decide_eq_false_iff_not, Prod.mk.injEq]
  constructor
  · rintro ⟨i, hi, j, ⟨hj1, hj2⟩, rfl, rfl⟩
    exact ⟨hi, hj1, hj2⟩
  · rintro ⟨h1, h2, h3⟩
    exact ⟨a, h1, b, ⟨h2, h3⟩, rfl, rfl⟩
theorem eqv_cell (c : Nat × Nat) (i j : Int) : PyData.eqv (cdp c) (.tuple [.int i, .int j]) = (decide (((c.1 : Nat) : Int) = i) && decide (((c.2 : Nat) : Int) = j)) := by
  simp only [cdp, PyData.eqv, PyData.eqvAll, Bool.and_true]
  rfl
theorem cells_any {rows : List (List Nat)} (g : Good2 rows) (i j : Int) : (((cellsOf rows).map cdp).any fun z => PyData.eqv z (.tuple [.int i, .int j])) = hasC rows i j := by
  rw [Bool.eq_iff_iff, List.any_map, List.any_eq_true]
  constructor
  · rintro ⟨⟨a, b⟩, hm, h⟩
    have h : PyData.eqv (cdp (a, b)) (.tuple [.int i, .int j]) = true := h
    rw [eqv_cell, Bool.and_eq_true, decide_eq_true_eq, decide_eq_true_eq] at h
    obtain ⟨rfl, rfl⟩ := h
    obtain ⟨h1, h2, h3⟩ := (cells_mem rows a b).mp hm
    have hl := g.rect _ (rect_getD (h := rows.length) (w := (rows.headD []).length) ⟨rfl, g.rect⟩ h1).1
    unfold hasC insd inR sgAt
    simp only [Int.toNat_natCast, Bool.and_eq_true, decide_eq_true_eq, Bool.not_eq_true', decide_eq_false_iff_not]
    exact ⟨by omega, h3⟩
  · intro h
    unfold hasC insd inR sgAt at h
    simp only [Bool.and_eq_true, decide_eq_true_eq, Bool.not_eq_true', decide_eq_false_iff_not] at h
    obtain ⟨⟨⟨h1, h2⟩, h3, h4⟩, h5⟩ := h
    have hl := g.rect _ (rect_getD (h := rows.length) (w := (rows.headD []).length) ⟨rfl, g.rect⟩ (i := i.toNat) (by omega)).1
    refine ⟨(i.toNat, j.toNat), (cells_mem rows _ _).mpr ⟨by omega, by omega, h5⟩, ?_⟩
    show PyData.eqv (cdp (i.toNat, j.toNat)) (.tuple [.int i, .int j]) = true
    rw [eqv_cell, Bool.and_eq_true, decide_eq_true_eq, decide_eq_true_eq]
    exact ⟨by show ((i.toNat : Nat) : Int) = i; omega, by show ((j.toNat : Nat) : Int) = j; omega⟩
theorem lay_cells (cs : List (Nat × Nat)) : PyData.canLayAll0 (cs.map cdp) = true := by
  induction cs with
  | nil => simp [PyData.canLayAll0]
  | cons c r ih => simp only [List.map_cons, PyData.canLayAll0, cdp, PyData.canLay0, ih, Bool.and_self]
theorem dep_cells (cs : List (Nat × Nat)) : PyData.depthAll (cs.map cdp) ≤ 1 := by
  induction cs with
  | nil => simp [PyData.depthAll]
  | cons c r ih => simp [PyData.depthAll, cdp, PyData.depth]; omega
theorem sh_cells (cs : List (Nat × Nat)) : SeqAt.shaped (.list (cs.map cdp)) = true := shaped_of (by simp only [PyData.canLay0]; exact lay_cells cs) (by have := dep_cells cs; simp only [PyData.depth]; omega)
theorem sh_pair (i j : Int) : SeqAt.shaped (.tuple [.int i, .int j]) = true := shaped_of (by simp [PyData.canLay0, PyData.canLayAll0]) (by simp [PyData.depth, PyData.depthAll])
theorem eqv_pair (i j : Int) : PyData.eqv (.tuple [.int i, .int j]) (.tuple [.int i, .int j]) = true := PySem.SeqAt.eqv_refl _ (by simp [PyData.canLay0, PyData.canLayAll0])
/-! ### rules, what digs tell -/
inductive Rl where
  | plain
  | rows
  | near (m : Nat)
def Rl.vs : Rl → List V
  | .plain => [.str "plain"]
  | .rows => [.str "rows"]
  | .near m => [.str "near", .int (m : Nat)]
def Rl.ds : Rl → List PyData
  | .plain => [.str "plain"]
  | .rows => [.str "rows"]
  | .near m => [.str "near", .int (m : Nat)]
def Rl.d (r : Rl) : PyData := .tuple r.ds
def iabs (i : Int) : Int := if i < 0 then -i else i
abbrev Cell := Nat × Nat
def cvs (c : Cell) : List V := [.int (c.1 : Nat), .int (c.2 : Nat)]
def away (c p : Cell) : Int := iabs ((c.1 : Int) - (p.1 : Int)) + iabs ((c.2 : Int) - (p.2 : Int))
def toldR (a b : Nat) : Str := if b = a then "level" else if b < a then "north" else "south"
def told (r : Rl) (c p : Cell) : Str := if c = p then "found" else match r with
  | .plain => "empty"
  | .rows => toldR c.1 p.1
  | .near m => if away c p ≤ (m : Int) then "near" else "far"
theorem cell_dp {K : PySem.W.Frag} {H : Hp} {a : Addr} {c : Cell} (h : SqT K H a (cvs c)) : Dp K H (.ref a) (cdp c) := .tup h (.cons (.int _) (.cons (.int _) .nil))
theorem cell_at {K : PySem.W.Frag} {H : Hp} {v : V} {c : Cell} (h : Dp K H v (cdp c)) : ∃ a, v = .ref a ∧ SqT K H a (cvs c) := by
  unfold cdp at h
  cases h with
  | tup s t =>
    cases t with
    | cons h1 t =>
      cases h1
      cases t with
      | cons h2 t =>
        cases h2
        cases t
        exact ⟨_, rfl, s⟩
theorem eqv_cells (c p : Cell) : PyData.eqv (cdp c) (cdp p) = decide (c = p) := by
  have z := eqv_cell c (p.1 : Nat) (p.2 : Nat)
  show PyData.eqv (cdp c) (.tuple [.int (p.1 : Nat), .int (p.2 : Nat)]) = _
  rw [z, Bool.eq_iff_iff]
  simp only [Bool.and_eq_true, decide_eq_true_eq, Int.natCast_inj]
  constructor
  · rintro ⟨h1, h2⟩
    exact Prod.ext h1 h2
  · rintro rfl
    exact ⟨rfl, rfl⟩
theorem sh_cell (c : Cell) : SeqAt.shaped (cdp c) = true := sh_pair _ _
/-- which words a rule knows -/
def words : Rl → List Str
  | .plain => ["found", "empty"]
  | .rows => ["found", "north", "south", "level"]
  | .near _ => ["found", "near", "far"]
theorem told_mem (r : Rl) (c p : Cell) : told r c p ∈ words r := by
  unfold told
  split
  · cases r <;> simp [words]
  · cases r with
    | plain => simp [words]
    | rows =>
      show toldR _ _ ∈ _
      unfold toldR
      split
      · simp [words]
      · split <;> simp [words]
    | near m =>
      show (if _ then _ else _ : Str) ∈ _
      split <;> simp [words]
/-! ### x in (a written tuple of data) -/
def rInT (K : PySem.W.Frag) : R2 := fun x y H Q => ∃ d ds, Dp K H x d ∧ Dp K H y (.tuple ds) ∧ SeqAt.shaped d = true ∧ SeqAt.shaped (.tuple ds) = true ∧ Q (.bl (ds.any fun z => PyData.eqv z d)) H
theorem op_inT {X : Cx} (hu : X.A.units + 65 < cLine) : OpR X (compareOp .In) (rInT X.K) := by
  intro pins s σ H x y v u Q I rx ry h
  obtain ⟨d, ds, hd, he, sd, se, q⟩ := h
  obtain ⟨as, r1⟩ := Dp.reads I d x v hd rx
  obtain ⟨bs, r2⟩ := Dp.reads I (.tuple ds) y u he ry
  exact SeqAt.in_tuple_reads r2 r1 (SeqAt.canLay_of_shaped se) (SeqAt.canLay_of_shaped sd) (room_in_shaped sd hu) ⟨.bl _, H, I, rfl, q⟩
end Om

namespace Om
open PySem PySem.Spec PyProof.Rows L2 LamX
abbrev sHintL : Stmt := top 36
abbrev sTold : Stmt := top 26
abbrev sToldR : Stmt := top 27
abbrev sReqR : Stmt := top 24
abbrev sHint : Stmt := top 21
def spTold (K : PySem.W.Frag) : Sp := fun vs H Q _ => ∃ (ra ca pa : Addr) (r : Rl) (c p : Cell), vs = [.ref ra, .ref ca, .ref pa] ∧ SqT K H ra r.vs ∧ SqT K H ca (cvs c) ∧ SqT K H pa (cvs p) ∧ Q (.str (told r c p)) H
def spToldR : Sp := fun vs H Q _ => ∃ a b : Nat, vs = [.int (a : Nat), .int (b : Nat)] ∧ Q (.str (toldR a b)) H
def Rl.Ok : Rl → Prop
  | .near m => 1 ≤ m ∧ m ≤ 22
  | _ => True
def spReqR (K : PySem.W.Frag) : Sp := fun vs H Q _ => ∃ (ra : Addr) (r : Rl), vs = [.ref ra] ∧ SqT K H ra r.vs ∧ r.Ok ∧ ∀ H', Same H H' → Q .non H'
def spHint (K : PySem.W.Frag) : Sp := fun vs H Q _ => ∃ (ra ca pa : Addr) (r : Rl) (c p : Cell), vs = [.ref ra, .ref ca, .ref pa] ∧ SqT K H ra r.vs ∧ SqT K H ca (cvs c) ∧ SqT K H pa (cvs p) ∧ r.Ok ∧ ∀ H', Same H H' → Q (.str (told r c p)) H'
theorem room65 {k : Nat} {A : Around} (r : Room k A) : A.units + 65 < cLine := by have := r.un; omega
theorem rl_dp {K : PySem.W.Frag} {H : Hp} {a : Addr} {r : Rl} (h : SqT K H a r.vs) : Dp K H (.ref a) r.d := by
  refine .tup h ?_
  cases r with
  | plain => exact .cons (.str _) .nil
  | rows => exact .cons (.str _) .nil
  | near m => exact .cons (.str _) (.cons (.int _) .nil)
theorem neS {a b : Str} (h : a ≠ b) : decide (V.str a = V.str b) = false := decide_eq_false fun e => h (V.str.inj e)
theorem eqS (a : Str) : decide (V.str a = V.str a) = true := decide_eq_true rfl
theorem npr : (Str.ofString "plain" : Str) ≠ Str.ofString "rows" := by decide +kernel
theorem npn : (Str.ofString "plain" : Str) ≠ Str.ofString "near" := by decide +kernel
theorem nrn : (Str.ofString "rows" : Str) ≠ Str.ofString "near" := by decide +kernel
theorem nnr : (Str.ofString "near" : Str) ≠ Str.ofString "rows" := by decide +kernel
theorem intEq (a b : Nat) : decide (V.int ((a : Nat) : Int) = V.int ((b : Nat) : Int)) = decide (a = b) := decide_eq_decide.mpr ⟨fun e => Int.ofNat.inj (V.int.inj e), fun e => by rw [e]⟩
section
variable {P : Program} {w : World} {K : PySem.W.Frag} {mg : Str → Option Value} {base : Heap}
abbrev nHintL : List Str := ["_law_rule_here", "_law_cell", "_law_place", "_law_paces"]
theorem scHintL : FnScope nHintL ["_law_rule_here", "_law_cell", "_law_place"] (defScope sHintL) := ⟨rfl, rfl, rfl, by decide +kernel, rfl, by decide +kernel, by decide +kernel⟩
theorem ok_hintL {f : Addr} {fd : FuncData} (F : FnP K "_law_hint" "_law_hint" sHintL f fd) (gabs : mg "abs" = none) : FnOk P w K mg base CX0 1 f fd ["_law_rule_here", "_law_cell", "_law_place"] (spTold K) := by
  refine F.ok scHintL (fun vs H Q E h => ?_) (fun cdv A outer s H vs Q E hr h => ?_)
  · obtain ⟨ra, ca, pa, r, c, p, rfl, _⟩ := h
    rfl
  · obtain ⟨ra, ca, pa, r, c, p, rfl, hR, hC, hP, k⟩ := h
    have nd := scHintL.nd
    refine ⟨_, PSs.nox (pss_cons (ps_if (pt_cmpR (op_eqD hr.units) (pv 1) (pv 2) (nomark _)) (pss_one (ps_ret pe_str)) pss_nil)
      (pss_cons (ps_if (pt_cmpR op_eq (pe_ix ix_tup (pv 0) pe_int (fun _ _ => rfl)) pe_str (nomark _)) (pss_one (ps_ret (pe_ifExp (pt_cmpR op_eq (pe_ix ix_tup (pv 1) pe_int (fun _ _ => rfl)) (pe_ix ix_tup (pv 2) pe_int (fun _ _ => rfl)) (nomark _)) pe_str (pe_ifExp (pt_cmpR op_lt (pe_ix ix_tup (pv 2) pe_int (fun _ _ => rfl)) (pe_ix ix_tup (pv 1) pe_int (fun _ _ => rfl)) (nomark _)) pe_str pe_str)))) pss_nil)
      (pss_cons (ps_if (pt_cmpR op_eq (pe_ix ix_tup (pv 0) pe_int (fun _ _ => rfl)) pe_str (nomark _)) (pss_cons (ps_set (i := 3) nd rfl (.inl rfl) (pe_op op_add (pe_callB call_abs (by rfl) gabs (by decide +kernel) (pa_cons (pe_op op_sub (pe_ix ix_tup (pv 1) pe_int (fun _ _ => rfl)) (pe_ix ix_tup (pv 2) pe_int (fun _ _ => rfl))) pa_nil)) (pe_callB call_abs (by rfl) gabs (by decide +kernel) (pa_cons (pe_op op_sub (pe_ix ix_tup (pv 1) pe_int (fun _ _ => rfl)) (pe_ix ix_tup (pv 2) pe_int (fun _ _ => rfl))) pa_nil))))
          (pss_one (ps_ret (pe_ifExp (pt_cmpR op_le (pv 3) (pe_ix ix_tup (pv 0) pe_int (fun _ _ => rfl)) (nomark _)) pe_str pe_str)))) pss_nil)
      (pss_one (ps_ret pe_str))))), ?_⟩
    refine ⟨_, rfl, _, rfl, _, _, cell_dp hC, cell_dp hP, sh_cell _, sh_cell _, _, rfl, ?_⟩
    rw [eqv_cells]
    unfold told at k
    by_cases hcp : c = p
    · rw [if_pos hcp] at k
      exact iteT' (decide_eq_true hcp) k
    · rw [if_neg hcp] at k
      refine iteF' (decide_eq_false hcp) ?_
      cases r with
      | plain =>
        refine ⟨_, rfl, ra, _, 0, _, rfl, rfl, hR, at0, rfl, _, rfl, iteF' (neS npr) ?_⟩
        refine ⟨_, rfl, ra, _, 0, _, rfl, rfl, hR, at0, rfl, _, rfl, iteF' (neS npn) ?_⟩
        exact k
      | rows =>
        refine ⟨_, rfl, ra, _, 0, _, rfl, rfl, hR, at0, rfl, _, rfl, iteT' (eqS _) ?_⟩
        refine ⟨_, rfl, ca, _, 0, _, rfl, rfl, hC, at0, _, rfl, pa, _, 0, _, rfl, rfl, hP, at0, rfl, _, rfl, ?_⟩
        rw [intEq]
        have k : Q (.str (toldR c.1 p.1)) H := k
        unfold toldR at k
        by_cases e1 : p.1 = c.1
        · rw [if_pos e1] at k
          exact iteT' (decide_eq_true e1.symm) k
        · rw [if_neg e1] at k
          refine iteF' (decide_eq_false fun e => e1 e.symm) ?_
          refine ⟨_, rfl, pa, _, 0, _, rfl, rfl, hP, at0, _, rfl, ca, _, 0, _, rfl, rfl, hC, at0, _, _, rfl, rfl, _, rfl, ?_⟩
          by_cases e2 : p.1 < c.1
          · rw [if_pos e2] at k
            exact iteT' (decide_eq_true (by omega)) k
          · rw [if_neg e2] at k
            exact iteF' (decide_eq_false (by omega)) k
      | near m =>
        refine ⟨_, rfl, ra, _, 0, _, rfl, rfl, hR, at0, rfl, _, rfl, iteF' (neS nnr) ?_⟩
        refine ⟨_, rfl, ra, _, 0, _, rfl, rfl, hR, at0, rfl, _, rfl, iteT' (eqS _) ?_⟩
        refine ⟨_, rfl, ca, _, 0, _, rfl, rfl, hC, at0, _, rfl, pa, _, 0, _, rfl, rfl, hP, at0, _, _, rfl, rfl, _, rfl, _, rfl, ca, _, 1, _, rfl, rfl, hC, rfl, _, rfl, pa, _, 1, _, rfl, rfl, hP, rfl, _, _, rfl, rfl, _, rfl, _, _, rfl, rfl, ?_⟩
        refine ⟨_, rfl, _, rfl, ra, _, 1, _, rfl, rfl, hR, rfl, _, _, rfl, rfl, _, rfl, ?_⟩
        have k : Q (.str (if away c p ≤ (m : Int) then "near" else "far")) H := k
        by_cases e : away c p ≤ (m : Int)
        · rw [if_pos e] at k
          exact iteT' (decide_eq_true e) k
        · rw [if_neg e] at k
          exact iteF' (decide_eq_false e) k
theorem scToldR : FnScope ["row", "place_row"] ["row", "place_row"] (defScope sToldR) := ⟨rfl, rfl, rfl, by decide +kernel, rfl, by decide +kernel, by decide +kernel⟩
theorem ok_toldR {f : Addr} {fd : FuncData} (F : FnP K "_told_of_rows" "_told_of_rows" sToldR f fd) : FnOk P w K mg base CX0 1 f fd ["row", "place_row"] spToldR := by
  refine F.ok scToldR (fun vs H Q E h => ?_) (fun cdv A outer s H vs Q E hr h => ?_)
  · obtain ⟨a, b, rfl, _⟩ := h
    rfl
  · obtain ⟨a, b, rfl, k⟩ := h
    refine ⟨_, PSs.nox (pss_cons (ps_if (pt_cmpR op_eq (pv 1) (pv 0) (nomark _)) (pss_one (ps_ret pe_str)) pss_nil) (pss_one (ps_ret (pe_ifExp (pt_cmpR op_lt (pv 1) (pv 0) (nomark _)) pe_str pe_str)))), ?_⟩
    refine ⟨_, rfl, _, rfl, rfl, _, rfl, ?_⟩
    rw [intEq]
    unfold toldR at k
    by_cases e1 : b = a
    · rw [if_pos e1] at k
      exact iteT' (decide_eq_true e1) k
    · rw [if_neg e1] at k
      refine iteF' (decide_eq_false e1) ?_
      refine ⟨_, rfl, _, rfl, _, _, rfl, rfl, _, rfl, ?_⟩
      by_cases e2 : b < a
      · rw [if_pos e2] at k
        exact iteT' (decide_eq_true (by omega)) k
      · rw [if_neg e2] at k
        exact iteF' (decide_eq_false (by omega)) k
abbrev nTold : List Str := ["rule", "cell", "place", "away"]
theorem scTold : FnScope nTold ["rule", "cell", "place"] (defScope sTold) := ⟨rfl, rfl, rfl, by decide +kernel, rfl, by decide +kernel, by decide +kernel⟩
theorem ok_told {f : Addr} {fd : FuncData} (F : FnP K "_told" "_told" sTold f fd) (TR : Cal P w K mg base CX0 1 "_told_of_rows" ["row", "place_row"] spToldR) (gabs : mg "abs" = none) : FnOk P w K mg base CX0 2 f fd ["rule", "cell", "place"] (spTold K) := by
  refine F.ok scTold (fun vs H Q E h => ?_) (fun cdv A outer s H vs Q E hr h => ?_)
  · obtain ⟨ra, ca, pa, r, c, p, rfl, _⟩ := h
    rfl
  · obtain ⟨ra, ca, pa, r, c, p, rfl, hR, hC, hP, k⟩ := h
    have nd := scTold.nd
    refine ⟨_, PSs.nox (pss_cons (ps_if (pt_cmpR (op_eqD hr.units) (pv 1) (pv 2) (nomark _)) (pss_one (ps_ret pe_str)) pss_nil)
      (pss_cons (ps_if (pt_cmpR op_eq (pe_ix ix_tup (pv 0) pe_int (fun _ _ => rfl)) pe_str (nomark _)) (pss_one (ps_ret (pe_cal TR hr pass0 (pa_cons (pe_ix ix_tup (pv 1) pe_int (fun _ _ => rfl)) (pa_cons (pe_ix ix_tup (pv 2) pe_int (fun _ _ => rfl)) pa_nil))))) pss_nil)
      (pss_cons (ps_if (pt_cmpR op_eq (pe_ix ix_tup (pv 0) pe_int (fun _ _ => rfl)) pe_str (nomark _)) (pss_cons (ps_set (i := 3) nd rfl (.inl rfl) (pe_op op_add (pe_callB call_abs (by rfl) gabs (by decide +kernel) (pa_cons (pe_op op_sub (pe_ix ix_tup (pv 1) pe_int (fun _ _ => rfl)) (pe_ix ix_tup (pv 2) pe_int (fun _ _ => rfl))) pa_nil)) (pe_callB call_abs (by rfl) gabs (by decide +kernel) (pa_cons (pe_op op_sub (pe_ix ix_tup (pv 1) pe_int (fun _ _ => rfl)) (pe_ix ix_tup (pv 2) pe_int (fun _ _ => rfl))) pa_nil))))
          (pss_one (ps_ret (pe_ifExp (pt_cmpR op_le (pv 3) (pe_ix ix_tup (pv 0) pe_int (fun _ _ => rfl)) (nomark _)) pe_str pe_str)))) pss_nil)
      (pss_one (ps_ret pe_str))))), ?_⟩
    refine ⟨_, rfl, _, rfl, _, _, cell_dp hC, cell_dp hP, sh_cell _, sh_cell _, _, rfl, ?_⟩
    rw [eqv_cells]
    unfold told at k
    by_cases hcp : c = p
    · rw [if_pos hcp] at k
      exact iteT' (decide_eq_true hcp) k
    · rw [if_neg hcp] at k
      refine iteF' (decide_eq_false hcp) ?_
      cases r with
      | plain =>
        refine ⟨_, rfl, ra, _, 0, _, rfl, rfl, hR, at0, rfl, _, rfl, iteF' (neS npr) ?_⟩
        refine ⟨_, rfl, ra, _, 0, _, rfl, rfl, hR, at0, rfl, _, rfl, iteF' (neS npn) ?_⟩
        exact k
      | rows =>
        refine ⟨_, rfl, ra, _, 0, _, rfl, rfl, hR, at0, rfl, _, rfl, iteT' (eqS _) ?_⟩
        exact ⟨_, rfl, ca, _, 0, _, rfl, rfl, hC, at0, _, rfl, pa, _, 0, _, rfl, rfl, hP, at0, c.1, p.1, rfl, k⟩
      | near m =>
        refine ⟨_, rfl, ra, _, 0, _, rfl, rfl, hR, at0, rfl, _, rfl, iteF' (neS nnr) ?_⟩
        refine ⟨_, rfl, ra, _, 0, _, rfl, rfl, hR, at0, rfl, _, rfl, iteT' (eqS _) ?_⟩
        refine ⟨_, rfl, ca, _, 0, _, rfl, rfl, hC, at0, _, rfl, pa, _, 0, _, rfl, rfl, hP, at0, _, _, rfl, rfl, _, rfl, _, rfl, ca, _, 1, _, rfl, rfl, hC, rfl, _, rfl, pa, _, 1, _, rfl, rfl, hP, rfl, _, _, rfl, rfl, _, rfl, _, _, rfl, rfl, ?_⟩
        refine ⟨_, rfl, _, rfl, ra, _, 1, _, rfl, rfl, hR, rfl, _, _, rfl, rfl, _, rfl, ?_⟩
        have k : Q (.str (if away c p ≤ (m : Int) then "near" else "far")) H := k
        by_cases e : away c p ≤ (m : Int)
        · rw [if_pos e] at k
          exact iteT' (decide_eq_true e) k
        · rw [if_neg e] at k
          exact iteF' (decide_eq_false e) k
theorem scReqR : FnScope ["rule"] ["rule"] (defScope sReqR) := ⟨rfl, rfl, rfl, by decide +kernel, rfl, by decide +kernel, by decide +kernel⟩
theorem eqvP : PyData.eqv (.tuple [.str "plain"]) (.tuple [.str "plain"]) = true := by decide +kernel
theorem eqvRP : PyData.eqv (.tuple [.str "plain"]) (.tuple [.str "rows"]) = false := by decide +kernel
theorem eqvR : PyData.eqv (.tuple [.str "rows"]) (.tuple [.str "rows"]) = true := by decide +kernel
theorem ok_reqR {f : Addr} {fd : FuncData} (F : FnP K "require_rule" "require_rule" sReqR f fd) (G : Cal P w K mg base CX0 1 "in_range" nInR spInR) (glen : mg "len" = none) (gaw : ∃ t, mg "MOST_AWAY" = some (.int 22 t)) : FnOk P w K mg base CX0 2 f fd ["rule"] (spReqR K) := by
  obtain ⟨taw, gaw⟩ := gaw
  refine F.ok scReqR (fun vs H Q E h => ?_) (fun cdv A outer s H vs Q E hr h => ?_)
  · obtain ⟨ra, r, rfl, _⟩ := h
    rfl
  · obtain ⟨ra, r, rfl, hR, hok, k⟩ := h
    refine ⟨_, PSs.nox (pss_cons (ps_if (pt_cmpR (op_inT (room65 hr)) (pv 0) (pe_tup (pa_cons (pe_tup (pa_cons pe_str pa_nil)) (pa_cons (pe_tup (pa_cons pe_str pa_nil)) pa_nil))) (by with_unfolding_all rfl)) (pss_one ps_retN) pss_nil)
      (pss_one (ps_if (PW.pt (pw_or (pt_cmpR op_ne (pe_callB call_len_seq (by rfl) glen PySem.boot_len (pa_cons (pv 0) pa_nil)) pe_int (nomark _)) (pw_or (pt_cmpR op_ne (pe_ix ix_tup (pv 0) pe_int (fun _ _ => rfl)) pe_str (nomark _)) (pw_or1 (pt_not (pt_val (pe_cal G hr pass0 (pa_cons (pe_ix ix_tup (pv 0) pe_int (fun _ _ => rfl)) (pa_cons pe_int (pa_cons (pe_glob (v := .int 22) rfl gaw ⟨_, rfl⟩) pa_nil))))))))))
        pss_no pss_nil))), ?_⟩
    refine ⟨_, rfl, by show 1 ≤ sizeLine; decide, fun a1 h1 => ⟨by show 1 ≤ sizeLine; decide, fun a2 h2 => ⟨by show 2 ≤ sizeLine; decide, fun a3 h3 => ?_⟩⟩⟩
    have s1 := Same.new (Same.refl H) h1 (o := .tup [.str (Str.ofString "plain")])
    have s2 := Same.new (Same.refl _) h2 (o := .tup [.str (Str.ofString "rows")])
    have s3 := Same.new (Same.refl _) h3 (o := .tup [.ref a1, .ref a2])
    have s13 := (s1.trans s2).trans s3
    have hR3 := Same.tup s13 hR
    have shr : SeqAt.shaped r.d = true := by cases r <;> first | decide +kernel | exact shaped_of (by simp only [Rl.d, Rl.ds, PyData.canLay0, PyData.canLayAll0, Bool.and_true]; decide +kernel) (by simp [Rl.d, Rl.ds, PyData.depth, PyData.depthAll])
    refine ⟨r.d, [.tuple [.str "plain"], .tuple [.str "rows"]], rl_dp hR3, .tup (.inl (.inl upd_same)) (.cons (.tup (.inl (.inl (s3 _ _ (s2 _ _ upd_same)))) (.cons (.str _) .nil)) (.cons (.tup (.inl (.inl (s3 _ _ upd_same))) (.cons (.str _) .nil)) .nil)), shr, by decide +kernel, _, rfl, ?_⟩
    cases r with
    | plain =>
      refine iteT' ?_ (k _ s13)
      simp only [List.any_cons, Rl.d, Rl.ds, eqvP, Bool.true_or]
    | rows =>
      refine iteT' ?_ (k _ s13)
      simp only [List.any_cons, List.any_nil, Rl.d, Rl.ds, eqvR, Bool.true_or, Bool.or_true]
    | near m =>
      refine iteF' ?_ ?_
      · simp only [List.any_cons, List.any_nil, Rl.d, Rl.ds, Bool.or_false]
        rfl
      refine ⟨_, rfl, ra, _, rfl, .inr hR3, rfl, _, rfl, iteF' rfl ?_⟩
      refine ⟨_, rfl, ra, _, 0, _, rfl, rfl, hR3, at0, rfl, _, rfl, iteF' (by rw [eqS]; rfl) ?_⟩
      obtain ⟨m1, m2⟩ := hok
      refine ⟨_, rfl, ra, _, 1, _, rfl, rfl, hR3, rfl, _, _, _, rfl, true, ?_, iteF' rfl (k _ s13)⟩
      show V.bl (inR _ _ _) = _
      unfold inR
      rw [decide_eq_true (by omega), decide_eq_true (by omega)]
      rfl
theorem scHint : FnScope ["rule", "cell", "place"] ["rule", "cell", "place"] (defScope sHint) := ⟨rfl, rfl, rfl, by decide +kernel, rfl, by decide +kernel, by decide +kernel⟩
theorem ok_hint {f : Addr} {fd : FuncData} (F : FnP K "hint" "hint" sHint f fd) (RR : Cal P w K mg base CX0 2 "require_rule" ["rule"] (spReqR K)) (TO : Cal P w K mg base CX0 2 "_told" ["rule", "cell", "place"] (spTold K)) : FnOk P w K mg base CX0 3 f fd ["rule", "cell", "place"] (spHint K) := by
  refine F.ok scHint (fun vs H Q E h => ?_) (fun cdv A outer s H vs Q E hr h => ?_)
  · obtain ⟨ra, ca, pa, r, c, p, rfl, _⟩ := h
    rfl
  · obtain ⟨ra, ca, pa, r, c, p, rfl, hR, hC, hP, hok, k⟩ := h
    refine ⟨_, PSs.nox (pss_cons (ps_expr (pe_cal RR hr pass0 (pa_cons (pv 0) pa_nil))) (pss_one (ps_ret (pe_cal TO hr pass0 (pa_cons (pv 0) (pa_cons (pv 1) (pa_cons (pv 2) pa_nil))))))), ?_⟩
    refine ⟨_, rfl, ra, r, rfl, hR, hok, fun H1 s1 => ?_⟩
    exact ⟨_, rfl, _, rfl, _, rfl, ra, ca, pa, r, c, p, rfl, Same.tup s1 hR, Same.tup s1 hC, Same.tup s1 hP, k _ s1⟩
end
end Om

namespace Om
open PySem PySem.Spec PyProof.Rows L2 LamX
abbrev sLand : Stmt := top 15
abbrev sPlaces : Stmt := top 25
abbrev sLeftB : Stmt := top 28
abbrev sLeftA : Stmt := top 22
abbrev sFirstW : Stmt := top 23
abbrev Dig := Cell × Str
def digD (d : Dig) : PyData := .tuple [cdp d.1, .str d.2]
theorem dig_at {K : PySem.W.Frag} {H : Hp} {v : V} {d : Dig} (h : Dp K H v (digD d)) : ∃ t ca, v = .ref t ∧ SqT K H t [.ref ca, .str d.2] ∧ SqT K H ca (cvs d.1) := by
  unfold digD at h
  cases h with
  | tup s t =>
    cases t with
    | cons h1 t =>
      obtain ⟨ca, rfl, hC⟩ := cell_at h1
      cases t with
      | cons h2 t =>
        cases h2
        cases t
        exact ⟨_, ca, rfl, s, hC⟩
theorem has_of {rows : List (List Nat)} (g : Good2 rows) {c : Cell} (h : c ∈ cellsOf rows) : hasC rows (c.1 : Nat) (c.2 : Nat) = true := by
  rw [← cells_any g, List.any_eq_true]
  refine ⟨cdp c, List.mem_map_of_mem h, ?_⟩
  have z := eqv_cells c c
  rw [decide_eq_true rfl] at z
  exact z
def spLand (K : PySem.W.Frag) (CI : Addr) : Sp := fun vs H Q _ => ∃ (a ca : Addr) (rows : List (List Nat)) (c : Cell), vs = [.ref a, .ref ca] ∧ Isl K CI H a rows ∧ Good2 rows ∧ SqT K H ca (cvs c) ∧ c ∈ cellsOf rows ∧ Q .non H
def spPlaces (K : PySem.W.Frag) (CI : Addr) : Sp := fun vs H Q _ => ∃ (a pa ra : Addr) (rows : List (List Nat)) (ps : List Cell) (r : Rl), vs = [.ref a, .ref pa, .ref ra] ∧ Isl K CI H a rows ∧ Good2 rows ∧ Dp K H (.ref pa) (.tuple (ps.map cdp)) ∧ (∀ c ∈ ps, c ∈ cellsOf rows) ∧ SqT K H ra r.vs ∧ r.Ok ∧ ∀ H', Same H H' → Q .non H'
def leftA (r : Rl) (ps : List Cell) (ds : List Dig) : List Cell := ds.foldl (fun l d => l.filter fun p => decide (told r d.1 p = d.2)) ps
theorem leftA_snoc (r : Rl) (ps : List Cell) (ds : List Dig) (d : Dig) : leftA r ps (ds ++ [d]) = (leftA r ps ds).filter fun p => decide (told r d.1 p = d.2) := by
  unfold leftA
  rw [List.foldl_append]
  rfl
/-- a list of lists of cells at L -/
structure LL (K : PySem.W.Frag) (H : Hp) (L : Addr) (ls : List (List Cell)) : Prop where
  ex : ∃ as : List Addr, H L = some (.lst (as.map V.ref)) ∧ as.length = ls.length ∧ ∀ (i : Nat) (l : List Cell), ls[i]? = some l → ∃ a xs, as[i]? = some a ∧ a ≠ L ∧ H a = some (.lst xs) ∧ DpAll K H xs (l.map cdp)
theorem LL.same {K : PySem.W.Frag} {H H' : Hp} {L : Addr} {ls : List (List Cell)} (h : LL K H L ls) (s : Same H H') : LL K H' L ls := by
  obtain ⟨as, h1, h2, h3⟩ := h.ex
  refine ⟨as, s _ _ h1, h2, fun i l hl => ?_⟩
  obtain ⟨a, xs, e1, e2, e3, e4⟩ := h3 i l hl
  exact ⟨a, xs, e1, e2, s _ _ e3, Same.dpAll s e4⟩
theorem LL.push {K : PySem.W.Frag} {H : Hp} {L D : Addr} {ls : List (List Cell)} {as : List Addr} {l : List Cell} {ys : List V} (h1 : H L = some (.lst (as.map V.ref))) (h2 : as.length = ls.length)
    (h3 : ∀ (i : Nat) (l : List Cell), ls[i]? = some l → ∃ a xs, as[i]? = some a ∧ a ≠ L ∧ H a = some (.lst xs) ∧ DpAll K H xs (l.map cdp)) (hD : H D = some (.lst ys)) (hne : D ≠ L) (hy : DpAll K H ys (l.map cdp)) :
    LL K (upd H L (.lst (as.map V.ref ++ [.ref D]))) L (ls ++ [l]) := by
  refine ⟨as ++ [D], by rw [upd_same, List.map_append]; rfl, by rw [List.length_append, List.length_append, h2]; rfl, fun i m hm => ?_⟩
  by_cases hi : i < ls.length
  · rw [List.getElem?_append_left hi] at hm
    obtain ⟨a, xs, e1, e2, e3, e4⟩ := h3 i m hm
    exact ⟨a, xs, by rw [List.getElem?_append_left (by omega)]; exact e1, e2, by rw [upd_ne e2]; exact e3, pairs_other h1 e4⟩
  · have hi2 : i = ls.length := by
      have := (List.getElem?_eq_some_iff.mp hm).1
      rw [List.length_append, List.length_singleton] at this
      omega
    subst hi2
    rw [List.getElem?_append_right (Nat.le_refl _), Nat.sub_self] at hm
    obtain rfl : l = m := Option.some.inj hm
    exact ⟨D, ys, by rw [List.getElem?_append_right (by omega), h2, Nat.sub_self]; rfl, hne, by rw [upd_ne hne]; exact hD, pairs_other h1 hy⟩
def leftsOf (r : Rl) (ps : List Cell) (ds : List Dig) (n : Nat) : List (List Cell) := (List.range (n + 1)).map fun i => leftA r ps (ds.take i)
theorem leftsOf_succ (r : Rl) (ps : List Cell) (ds : List Dig) (n : Nat) : leftsOf r ps ds (n + 1) = leftsOf r ps ds n ++ [leftA r ps (ds.take (n + 1))] := by
  unfold leftsOf
  rw [List.range_succ, List.map_append]
  rfl
theorem leftsOf_len (r : Rl) (ps : List Cell) (ds : List Dig) (n : Nat) : (leftsOf r ps ds n).length = n + 1 := by unfold leftsOf; rw [List.length_map, List.length_range]
theorem leftsOf_at (r : Rl) (ps : List Cell) (ds : List Dig) {n i : Nat} (h : i ≤ n) : (leftsOf r ps ds n)[i]? = some (leftA r ps (ds.take i)) := by
  unfold leftsOf
  rw [List.getElem?_map, List.getElem?_range (by omega)]
  rfl
theorem leftA_len (r : Rl) (ps : List Cell) : ∀ ds : List Dig, (leftA r ps ds).length ≤ ps.length := by
  intro ds
  unfold leftA
  induction ds generalizing ps with
  | nil => exact Nat.le_refl _
  | cons d ds ih => exact Nat.le_trans (ih _) (List.length_filter_le ..)
structure LB (K : PySem.W.Frag) (CI : Addr) (H : Hp) (a pa ra da : Addr) (rows : List (List Nat)) (ps : List Cell) (r : Rl) (ds : List Dig) : Prop where
  I : Isl K CI H a rows
  g : Good2 rows
  P : Dp K H (.ref pa) (.tuple (ps.map cdp))
  pin : ∀ c ∈ ps, c ∈ cellsOf rows
  R : SqT K H ra r.vs
  rok : r.Ok
  D : Dp K H (.ref da) (.list (ds.map digD))
  din : ∀ d ∈ ds, d.1 ∈ cellsOf rows ∧ d.2 ∈ words r
  pl : ps.length ≤ 1000
  dl : ds.length ≤ 1000
theorem LB.same {K : PySem.W.Frag} {CI : Addr} {H H' : Hp} {a pa ra da : Addr} {rows : List (List Nat)} {ps : List Cell} {r : Rl} {ds : List Dig} (h : LB K CI H a pa ra da rows ps r ds) (s : Same H H') : LB K CI H' a pa ra da rows ps r ds :=
  ⟨h.I.same s, h.g, Same.dp s h.P, h.pin, Same.tup s h.R, h.rok, Same.dp s h.D, h.din, h.pl, h.dl⟩
def spLeftB (K : PySem.W.Frag) (CI : Addr) : Sp := fun vs H Q _ => ∃ (a pa ra da : Addr) (rows : List (List Nat)) (ps : List Cell) (r : Rl) (ds : List Dig), vs = [.ref a, .ref pa, .ref ra, .ref da] ∧ LB K CI H a pa ra da rows ps r ds ∧
  ∀ L H', Same H H' → LL K H' L (leftsOf r ps ds ds.length) → Q (.ref L) H'
def spLeftA (K : PySem.W.Frag) (CI : Addr) : Sp := fun vs H Q _ => ∃ (a pa ra da : Addr) (rows : List (List Nat)) (ps : List Cell) (r : Rl) (ds : List Dig), vs = [.ref a, .ref pa, .ref ra, .ref da] ∧ LB K CI H a pa ra da rows ps r ds ∧
  ∀ D H', Same H H' → Dp K H' (.ref D) (.list ((leftA r ps ds).map cdp)) → Q (.ref D) H'
/-- the first dig behind which nothing is left -/
def firstW (r : Rl) (ps : List Cell) (ds : List Dig) : Option Nat := (List.range ds.length).find? fun i => (leftA r ps (ds.take (i + 1))).isEmpty
def optI : Option Nat → V
  | none => .non
  | some i => .int (i : Nat)
def spFirstW (K : PySem.W.Frag) (CI : Addr) : Sp := fun vs H Q _ => ∃ (a pa ra da : Addr) (rows : List (List Nat)) (ps : List Cell) (r : Rl) (ds : List Dig), vs = [.ref a, .ref pa, .ref ra, .ref da] ∧ LB K CI H a pa ra da rows ps r ds ∧
  ∀ H', Same H H' → Q (optI (firstW r ps ds)) H'
/-- the module's table of words -/
def Rl.word : Rl → Str
  | .plain => "plain"
  | .rows => "rows"
  | .near _ => "near"
structure WF (K : PySem.W.Frag) (w : World) (mg : Str → Option Value) (wd : Addr) : Prop where
  g : mg "WORDS" = some (.ref wd)
  at_ : ∀ r : Rl, ∃ p, KDct K w wd r.word (.ref p) ∧ ∀ H, SqT K H p ((words r).map V.str)
theorem inV_strs (x : Str) (ws : List Str) : inV (.str x) (ws.map V.str) = decide (x ∈ ws) := by
  unfold inV
  induction ws with
  | nil => rfl
  | cons y r ih =>
    rw [List.map_cons, List.any_cons, ih]
    show ((y == x) || decide (x ∈ r)) = _
    rw [Bool.eq_iff_iff]
    simp only [Bool.or_eq_true, beq_iff_eq, decide_eq_true_eq, List.mem_cons]
    exact ⟨fun h => h.imp Eq.symm id, fun h => h.imp Eq.symm id⟩
theorem flat_strs (ws : List Str) : (ws.map V.str).all flatV = true := by
  rw [List.all_map]
  exact List.all_eq_true.mpr fun _ _ => rfl
theorem walk_enumL {K : PySem.W.Frag} {a : Addr} {xs : List V} : Walk (Ite K a) xs.length (fun H => SqL K H a xs) (YEnum fun i => xs[i]?) where
  goes := fun i H hi q => ⟨xs, xs[i], q, List.getElem?_eq_getElem _⟩
  stops := fun H q => ⟨xs, q, Nat.le_refl _⟩
  yields := fun i H v H' _ q y => by
    obtain ⟨T, x, h1, h2, h3, h4⟩ := y
    exact ⟨T, x, h1, h2, h3, h4 xs q⟩
theorem ixlK {X : Cx} {K : PySem.W.Frag} (hK : X.K = K) : IxR X (rIxL K) := by
  subst hK
  exact ix_list
section
variable {P : Program} {w : World} {K : PySem.W.Frag} {mg : Str → Option Value} {base : Heap} {CI : Addr}
theorem scLand : FnScope ["island", "cell"] ["island", "cell"] (defScope sLand) := ⟨rfl, rfl, rfl, by decide +kernel, rfl, by decide +kernel, by decide +kernel⟩
theorem ok_land {f gC : Addr} {fd fdC : FuncData} (F : FnP K "require_land" "require_land" sLand f fd) (mC : OwnM K CI "__contains__" gC) (GC : FnOk P w K mg base CX0 3 gC fdC ["self", "cell"] (spHas K CI)) (bC : Binds K fdC ["self", "cell"] []) : FnOk P w K mg base CX0 4 f fd ["island", "cell"] (spLand K CI) := by
  refine F.ok scLand (fun vs H Q E h => ?_) (fun cdv A outer s H vs Q E hr h => ?_)
  · obtain ⟨a, ca, rows, c, rfl, _⟩ := h
    rfl
  · obtain ⟨a, ca, rows, c, rfl, hI, g, hC, hin, k⟩ := h
    refine ⟨_, PSs.nox (pss_one (ps_if (pt_cmpR (op_notInOwn mC GC hr bC pass0) (pv 1) (pv 0) (by with_unfolding_all rfl)) pss_no pss_nil)), ?_⟩
    obtain ⟨dx, p, hp, _⟩ := id hI
    refine ⟨_, rfl, _, rfl, a, dx, _, rfl, hp, a, ca, rows, _, _, rfl, hI, g, hC, _, rfl, _, rfl, ?_⟩
    rw [has_of g hin]
    exact iteF' rfl k
abbrev nPl : List Str := ["island", "places", "rule", "place"]
theorem scPl : FnScope nPl ["island", "places", "rule"] (defScope sPlaces) := ⟨rfl, rfl, rfl, by decide +kernel, rfl, by decide +kernel, by decide +kernel⟩
theorem ok_places {f : Addr} {fd : FuncData} (F : FnP K "_require_places" "_require_places" sPlaces f fd) (LD : Cal P w K mg base CX0 4 "require_land" ["island", "cell"] (spLand K CI)) (RR : Cal P w K mg base CX0 2 "require_rule" ["rule"] (spReqR K)) : FnOk P w K mg base CX0 5 f fd ["island", "places", "rule"] (spPlaces K CI) := by
  refine F.ok scPl (fun vs H Q E h => ?_) (fun cdv A outer s H vs Q E hr h => ?_)
  · obtain ⟨a, pa, ra, rows, ps, r, rfl, _⟩ := h
    rfl
  · obtain ⟨a, pa, ra, rows, ps, r, rfl, hI, g, hP, pin, hR, hok, k⟩ := h
    have nd := scPl.nd
    have hr2 : Room 2 _ := hr.mono (by decide)
    refine ⟨_, PSs.nox (pss_cons (ps_for PassesOwn.never rfl (pi_tup (pv 1)) (pg_name (i := 3) nd rfl (.inl rfl)) (pss_one (ps_expr (pe_cal LD hr pass0 (pa_cons (pv 0) (pa_cons (pv 3) pa_nil)))))) (pss_one (ps_expr (pe_cal RR hr2 pass0 (pa_cons (pv 2) pa_nil))))), ?_⟩
    cases hP with
    | tup hS hA =>
      rename_i xs
      refine ⟨_, rfl, pa, rfl, ⟨_, hS⟩, for_tup (K := K) (a := pa) (xs := xs) (fun i σ H' => H' = H ∧ ∃ v, σ = [some (.ref a), some (.ref pa), some (.ref ra), v]) ⟨rfl, _, rfl⟩ (fun i σ H' _ p => by rw [p.1]; exact hS) ?_ ?_⟩
      · rintro i x σ H' hx ⟨rfl, v, rfl⟩
        have hl := dpAll_len hA
        rw [List.length_map] at hl
        have hi : i < ps.length := by
          have := (List.getElem?_eq_some_iff.mp hx).1
          omega
        obtain ⟨u, hu, hd⟩ := dpAll_at hA (i := i) (e := cdp ps[i]) (by rw [List.getElem?_map, List.getElem?_eq_getElem hi]; rfl)
        rw [hx] at hu
        cases hu
        obtain ⟨ca, rfl, hC⟩ := cell_at hd
        exact ⟨_, rfl, _, rfl, a, ca, rows, ps[i], rfl, hI, g, hC, pin _ (List.getElem_mem hi), rfl, _, rfl⟩
      · rintro σ H' ⟨rfl, v, rfl⟩
        exact ⟨_, rfl, ra, r, rfl, hR, hok, fun H2 s2 => k H2 s2⟩
end
end Om

namespace Om
open PySem PySem.Spec PyProof.Rows L2 LamX
theorem nilArgs {σ : L2.St} {H : Hp} {Q : List V → Hp → Prop} (h : Q [] H) : tNil σ H Q := h
theorem noPart {σ : L2.St} {H : Hp} {Q : Option Int → Hp → Prop} (h : Q none H) : tNoPart σ H Q := h
theorem notIn_K' {X : Cx} {K : PySem.W.Frag} (hK : X.K = K) : OpR X (compareOp .NotIn) (rIn K true) := by
  subst hK
  exact op_notIn_seq
theorem Same.updN {H H' : Hp} {D : Addr} {o : HO} (s : Same H H') (h : H D = none) : Same H (upd H' D o) := by
  intro b q hb
  rw [upd_ne (ne_of_none hb h)]
  exact s _ _ hb
theorem Same.none {H H' : Hp} {a : Addr} (s : Same H H') (h : H' a = none) : H a = none := by
  cases e : H a with
  | none => rfl
  | some o => rw [s _ _ e] at h; cases h
theorem pdp_at {K : PySem.W.Frag} {H : Hp} {xs : List V} {α : Type} {f : α → PyData} {l : List α} (hA : DpAll K H xs (l.map f)) {i : Nat} {x : V} (hx : xs[i]? = some x) : ∃ d, l[i]? = some d ∧ Dp K H x (f d) := by
  have hl := dpAll_len hA
  rw [List.length_map] at hl
  have hi : i < l.length := by
    have := (List.getElem?_eq_some_iff.mp hx).1
    omega
  obtain ⟨u, hu, hd⟩ := dpAll_at hA (i := i) (e := f l[i]) (by rw [List.getElem?_map, List.getElem?_eq_getElem hi]; rfl)
  rw [hx] at hu
  cases hu
  exact ⟨_, List.getElem?_eq_getElem hi, hd⟩
theorem Rl.at0 (r : Rl) : atI r.vs 0 = some (.str r.word) := by cases r <;> rfl
section
variable {P : Program} {w : World} {K : PySem.W.Frag} {mg : Str → Option Value} {base : Heap} {CI : Addr}
abbrev nLB : List Str := ["island", "places", "rule", "digs", "cell", "_", "index", "word", "left", "place"]
theorem scLB : FnScope nLB ["island", "places", "rule", "digs"] (defScope sLeftB) := ⟨rfl, rfl, rfl, by decide +kernel, rfl, by decide +kernel, by decide +kernel⟩
def callArg (s : Stmt) : Expr := match s with
  | .Expr (.Call _ [e] _ _) _ => e
  | _ => .Constant .none 0 ⟨0, 0, 0, 0⟩
def lbLc : Expr := callArg (inFor ((defBody sLeftB).getD 4 noS) 0)
theorem blkLB : BlkOk nLB (defScope sLeftB) (lcScope lbLc) [("place", 9)] := blkOk_by (by decide +kernel)
theorem ok_leftB {f wd : Addr} {fd : FuncData} (F : FnP K "_left_behind" "_left_behind" sLeftB f fd) (PL : Cal P w K mg base CX0 5 "_require_places" ["island", "places", "rule"] (spPlaces K CI)) (LD : Cal P w K mg base CX0 4 "require_land" ["island", "cell"] (spLand K CI)) (TO : Cal P w K mg base CX0 2 "_told" ["rule", "cell", "place"] (spTold K))
    (W : WF K w mg wd) (genum : mg "enumerate" = none) (glist : mg "list" = none) : FnOk P w K mg base CX0 6 f fd ["island", "places", "rule", "digs"] (spLeftB K CI) := by
  refine F.ok scLB (fun vs H Q E h => ?_) (fun cdv A outer s H vs Q E hr h => ?_)
  · obtain ⟨a, pa, ra, da, rows, ps, r, ds, rfl, _⟩ := h
    rfl
  · obtain ⟨a, pa, ra, da, rows, ps, r, ds, rfl, B, k⟩ := h
    have nd := scLB.nd
    have hr5 : Room 5 _ := hr.mono (by decide)
    have hr4 : Room 4 _ := hr.mono (by decide)
    have hr2 : Room 2 _ := hr.mono (by decide)
    refine ⟨_, PSs.nox (pss_cons (ps_expr (pe_cal PL hr5 pass0 (pa_cons (pv 0) (pa_cons (pv 1) (pa_cons (pv 2) pa_nil)))))
      (pss_cons (ps_for PassesOwn.never rfl (pi_list (pv 3)) (pg_tup rfl (pgs_cons (pg_name (i := 4) nd rfl (.inr rfl)) (pgs_cons (pg_name (i := 5) nd rfl (.inl rfl)) pgs_nil))) (pss_one (ps_expr (pe_cal LD hr4 pass0 (pa_cons (pv 0) (pa_cons (pv 4) pa_nil))))))
      (pss_cons (ps_for PassesOwn.never rfl (pi_enum rfl genum (pa_cons (pv 3) pa_nil)) (pg_tup rfl (pgs_cons (pg_name (i := 6) nd rfl (.inl rfl)) (pgs_cons (pg_tup rfl (pgs_cons (pg_name (i := 5) nd rfl (.inl rfl)) (pgs_cons (pg_name (i := 7) nd rfl (.inr rfl)) pgs_nil))) pgs_nil)))
        (pss_one (ps_if (pt_cmpR (notIn_K' (K := K) rfl) (pv 7) (pe_ix ix_kdict (pe_glob (v := .ref wd) rfl W.g rfl) (pe_ix ix_tup (pv 2) pe_int (fun _ _ => rfl)) (fun _ _ => rfl)) (by with_unfolding_all rfl)) pss_no pss_nil)))
      (pss_cons (ps_set (i := 8) nd rfl (.inl rfl) (pe_lst (pa_cons (pe_callTy call_list_of (by rfl) glist (by decide +kernel) (pa_cons (pv 1) pa_nil)) pa_nil)))
      (pss_cons (ps_for PassesOwn.never rfl (pi_list (pv 3)) (pg_tup rfl (pgs_cons (pg_name (i := 4) nd rfl (.inr rfl)) (pgs_cons (pg_name (i := 7) nd rfl (.inr rfl)) pgs_nil)))
        (pss_one (ps_expr (pe_bm PySem.F.plainAttrs_list PySem.F.slot_list_append PySem.F.type_list_append mt_append (pv 8) (pa_cons
          (pe_lc (own := [("place", 9)]) (g := gName 9) rfl nd (pi_list (pe_ix ix_list (pv 8) (pe_un un_neg pe_int) (fun _ _ => rfl))) blkLB (fun _ _ _ _ _ => pg_name (i := 9) nd rfl (.inl rfl))
            (fun _ _ _ _ _ => pts_one (pt_cmpR op_eq (pe_cal TO hr2 pass0 (pa_cons (pv 2) (pa_cons (pv 4) (pa_cons (pv 9) pa_nil)))) (pv 7) (nomark _))) (fun _ _ _ _ _ => pv 9)) pa_nil)))))
      (pss_one (ps_ret (pv 8)))))))), ?_⟩
    refine ⟨_, rfl, _, rfl, _, rfl, a, pa, ra, rows, ps, r, rfl, B.I, B.g, B.P, B.pin, B.R, B.rok, fun H1 s1 => ?_⟩
    have B1 := B.same s1
    have hD := B1.D
    cases hD with
    | lst hS hA =>
    rename_i xs
    have lds := dpAll_len hA
    rw [List.length_map] at lds
    have dig : ∀ {i : Nat} {x : V}, xs[i]? = some x → ∃ d t ca, ds[i]? = some d ∧ x = .ref t ∧ SqT K H1 t [.ref ca, .str d.2] ∧ SqT K H1 ca (cvs d.1) := fun {i x} hx => by
      obtain ⟨d, hd, hp⟩ := pdp_at hA hx
      obtain ⟨t, ca, e1, e2, e3⟩ := dig_at hp
      exact ⟨d, t, ca, hd, e1, e2, e3⟩
    -- each dig's cell is land
    refine ⟨_, rfl, da, rfl, ⟨_, hS⟩, for_list (K := K) (a := da) (xs := xs) (fun i σ H' => H' = H1 ∧ ∃ v4 v5, σ = [some (.ref a), some (.ref pa), some (.ref ra), some (.ref da), v4, v5, none, none, none, none])
      ⟨rfl, _, _, rfl⟩ (fun i σ H' _ q => by rw [q.1]; exact hS) ?_ ?_⟩
    · rintro i x σ H' hx ⟨rfl, v4, v5, rfl⟩
      obtain ⟨d, t, ca, hd, rfl, hT, hC⟩ := dig hx
      refine ⟨t, _, rfl, hT, rfl, _, _, rfl, _, _, rfl, rfl, ?_⟩
      exact ⟨_, rfl, _, rfl, a, ca, rows, d.1, rfl, B1.I, B1.g, hC, (B1.din _ (List.mem_of_getElem? hd)).1, rfl, _, _, rfl⟩
    rintro σ H' ⟨rfl, v4, v5, rfl⟩
    -- each dig's word is known
    refine ⟨_, rfl, da, xs, rfl, hS, for_it (walk_enumL (K := K) (a := da) (xs := xs)) (fun i σ H2 => Same H' H2 ∧ ∃ v5 v6 v7, σ = [some (.ref a), some (.ref pa), some (.ref ra), some (.ref da), v4, v5, v6, v7, none, none])
      ⟨Same.refl _, _, _, _, rfl⟩ (fun i σ H2 _ q => Same.lst q.1 hS) ?_ ?_⟩
    · rintro i x σ H2 H3 hi ⟨s2, v5, v6, v7, rfl⟩ ⟨T, y, rfl, hT, rfl, hy⟩
      have s3 := Same.new (Same.refl H2) hT (o := .tup [.int (i : Nat), y])
      have s23 := s2.trans s3
      obtain ⟨d, t, ca, hd, rfl, hT2, hC⟩ := dig hy
      obtain ⟨p, hk, hp⟩ := W.at_ r
      refine ⟨T, _, rfl, .inl (.inl upd_same), rfl, _, _, rfl, _, _, rfl, ⟨t, _, rfl, Same.tup s23 hT2, rfl, _, _, rfl, _, _, rfl, rfl, rfl, ?_⟩⟩
      refine ⟨_, rfl, _, rfl, ra, _, 0, _, rfl, rfl, Same.tup s23 B1.R, r.at0, wd, r.word, .ref p, rfl, rfl, hk, p, _, rfl, .inr (hp _), rfl, flat_strs _, ?_⟩
      refine ⟨_, rfl, iteF' ?_ ⟨s23, _, _, _, rfl⟩⟩
      rw [if_pos rfl, inV_strs, decide_eq_true (B1.din _ (List.mem_of_getElem? hd)).2]
      rfl
    rintro σ H2 ⟨s2, v5, v6, v7, rfl⟩
    -- the places, and the places behind each dig
    have hP := B1.P
    cases hP with
    | tup pS pA =>
    rename_i pvs
    refine ⟨_, rfl, pa, pvs, rfl, .inr (Same.tup s2 pS), fun l0 hl0 => ⟨by show 1 ≤ sizeLine; decide, fun L hL => ?_⟩⟩
    have hn0 : L ≠ l0 := fun e => by rw [e, upd_same] at hL; cases hL
    have hL2 : H2 L = none := by rwa [upd_ne hn0] at hL
    have s0 : Same H2 (upd (upd H2 l0 (.lst pvs)) L (.lst [.ref l0])) := (Same.new (Same.refl H2) hl0).trans (Same.new (Same.refl _) hL)
    have ll0 : LL K (upd (upd H2 l0 (.lst pvs)) L (.lst [.ref l0])) L (leftsOf r ps ds 0) := by
      refine ⟨[l0], upd_same, rfl, fun i l hl => ?_⟩
      have hi : i = 0 := by
        have := (List.getElem?_eq_some_iff.mp hl).1
        rw [leftsOf_len] at this
        omega
      subst hi
      obtain rfl : ps = l := Option.some.inj hl
      exact ⟨l0, pvs, rfl, hn0.symm, by rw [upd_ne hn0.symm, upd_same], Same.dpAll s0 (Same.dpAll s2 pA)⟩
    generalize upd (upd H2 l0 (.lst pvs)) L (.lst [.ref l0]) = H3 at s0 ll0 ⊢
    have s03 := s2.trans s0
    clear hl0 hL
    refine ⟨_, rfl, da, rfl, ⟨_, Same.lst s03 hS⟩, for_list (K := K) (a := da) (xs := xs) (fun i σ H4 => Same H2 H4 ∧ LL K H4 L (leftsOf r ps ds i) ∧ ∃ v4 v7, σ = [some (.ref a), some (.ref pa), some (.ref ra), some (.ref da), v4, v5, v6, v7, some (.ref L), none])
      ⟨s0, ll0, _, _, rfl⟩ (fun i σ H4 _ q => Same.lst (s2.trans q.1) hS) ?_ ?_⟩
    · rintro i x σ H4 hx ⟨s4, ll, v4, v7, rfl⟩
      have s24 := s2.trans s4
      have hil : i < ds.length := by
        have := (List.getElem?_eq_some_iff.mp hx).1
        omega
      obtain ⟨d, t, ca, hd, rfl, hT, hC⟩ := dig hx
      have etk : ds.take (i + 1) = ds.take i ++ [d] := by rw [List.take_succ, hd]; rfl
      obtain ⟨as, e1, e2, e3⟩ := id ll.ex
      rw [leftsOf_len] at e2
      obtain ⟨la, ys, f1, f2, f3, f4⟩ := e3 i _ (leftsOf_at r ps ds (Nat.le_refl i))
      have hlast : atI (as.map V.ref) (-1) = some (V.ref la) := by
        have : as = as.take i ++ [la] := by
          have := List.take_succ (l := as) (i := i)
          rw [f1] at this
          rw [List.take_of_length_le (l := as) (i := i + 1) (by omega)] at this
          exact this
        rw [this, List.map_append]
        exact atI_last _ _
      refine ⟨t, _, rfl, Same.tup s24 hT, rfl, _, _, rfl, _, _, rfl, rfl, ?_⟩
      refine ⟨_, rfl, .inl ⟨rfl, _, .inl (.inl e1)⟩, ?_⟩
      refine ⟨_, rfl, ⟨1, rfl, L, _, -1, _, rfl, rfl, .inl (.inl e1), hlast, la, rfl, ⟨ys, .inl (.inl f3)⟩, fun D hD => ?_⟩⟩
      let fl (n : Nat) : List Cell := ((leftA r ps (ds.take i)).take n).filter fun p => decide (told r d.1 p = d.2)
      have lys := dpAll_len f4
      rw [List.length_map] at lys
      have hll := leftA_len r ps (ds.take i)
      have hpl := B.pl
      have hdl := B.dl
      refine lc_list (K := K) (a := la) (xs := ys) (fun j H5 => ∃ acc, H5 D = some (.lst acc) ∧ DpAll K H5 acc ((fl j).map cdp) ∧ Same H4 H5) ⟨[], upd_same, .nil, Same.new (Same.refl H4) hD⟩
        (fun j H5 _ q => by obtain ⟨_, _, _, q⟩ := q; exact .inl (.inl (q _ _ f3))) ?_ ?_
      · rintro j y H5 hy ⟨acc, g1, g2, g3⟩
        obtain ⟨p, hp, hpd⟩ := pdp_at f4 hy
        obtain ⟨pc, rfl, hpc⟩ := cell_at hpd
        have s25 := s24.trans g3
        have ef : fl (j + 1) = fl j ++ (if told r d.1 p = d.2 then [p] else []) := by
          show (List.take (j + 1) _).filter _ = (List.take j _).filter _ ++ _
          rw [List.take_succ, hp, List.filter_append]
          by_cases e : told r d.1 p = d.2
          · rw [if_pos e]; simp only [Option.toList_some, List.filter_cons, e, decide_true, if_true, List.filter_nil]
          · rw [if_neg e]; simp only [Option.toList_some, List.filter_cons, e, decide_false, Bool.false_eq_true, if_false, List.filter_nil]
        have la2 := dpAll_len g2
        rw [List.length_map] at la2
        have lfl : (fl j).length ≤ 1000 := by
          have := List.length_filter_le (fun p => decide (told r d.1 p = d.2)) ((leftA r ps (ds.take i)).take j)
          have h2 : ((leftA r ps (ds.take i)).take j).length ≤ (leftA r ps (ds.take i)).length := by rw [List.length_take]; omega
          show (List.filter _ _).length ≤ _
          omega
        refine ⟨rfl, ?_⟩
        refine ⟨_, rfl, _, rfl, _, rfl, ra, ca, pc, r, d.1, p, rfl, Same.tup s25 B1.R, Same.tup s25 hC, Same.tup g3 hpc, _, rfl, rfl, _, rfl, ?_⟩
        by_cases e : told r d.1 p = d.2
        · rw [if_pos e] at ef
          refine iteT' (by rw [e]; exact eqS _) ⟨_, rfl, acc, g1, Nat.lt_of_le_of_lt (show _ ≤ 1000 by omega) (by decide), acc ++ [.ref pc], upd_same, ?_, Same.updN g3 hD⟩
          rw [ef]
          refine pairs_other g1 ?_
          rw [List.map_append]
          exact dpAll_app g2 (.cons (cell_dp (Same.tup g3 hpc)) .nil)
        · rw [if_neg e, List.append_nil] at ef
          refine iteF' (neS e) ⟨acc, g1, ?_, g3⟩
          rw [ef]
          exact g2
      · rintro H5 ⟨acc, g1, g2, g3⟩
        have efl : fl ys.length = leftA r ps (ds.take (i + 1)) := by
          rw [etk, leftA_snoc]
          show (List.take _ _).filter _ = _
          rw [lys, List.take_length]
        rw [efl] at g2
        have hDL : D ≠ L := fun e => by rw [e, e1] at hD; cases hD
        refine nilArgs ⟨L, _, _, rfl, rfl, g3 _ _ e1, Nat.lt_of_le_of_lt (show _ ≤ 1001 by rw [List.length_map]; omega) (by decide), ?_⟩
        refine ⟨Same.updN (s4.trans g3) hL2, ?_, _, _, rfl⟩
        rw [leftsOf_succ]
        exact LL.push (g3 _ _ e1) (by rw [leftsOf_len]; exact e2) (fun n l hl => by
          obtain ⟨a1, a2, a3, a4, a5, a6⟩ := e3 n l hl
          exact ⟨a1, a2, a3, a4, g3 _ _ a5, Same.dpAll g3 a6⟩) g1 hDL g2
    · rintro σ H4 ⟨s4, ll, v4, v7, rfl⟩
      rw [lds] at ll
      exact ⟨_, rfl, k L H4 (s1.trans (s2.trans s4)) ll⟩
end
end Om

namespace Om
open PySem PySem.Spec PyProof.Rows L2 LamX
theorem cutV_tail (xs : List V) (h : 1 ≤ xs.length) : cutV xs (some 1) none = xs.drop 1 := by
  unfold cutV
  have e1 : HT.sIx xs.length 0 (some 1) = 1 := by
    have := HT.sIx_nat xs.length 0 1
    rw [Nat.min_eq_left h] at this
    exact this
  have e2 : HT.sIx xs.length xs.length none = xs.length := rfl
  rw [e1, e2]
  exact List.take_of_length_le (by rw [List.length_drop]; omega)
theorem firstW_some {r : Rl} {ps : List Cell} {ds : List Dig} {i : Nat} (h1 : i < ds.length) (h2 : (leftA r ps (ds.take (i + 1))).isEmpty = true) (h3 : ∀ j < i, (leftA r ps (ds.take (j + 1))).isEmpty = false) : firstW r ps ds = some i := by
  unfold firstW
  rw [List.find?_range_eq_some]
  refine ⟨h2, List.mem_range.mpr h1, fun j hj => ?_⟩
  rw [h3 j hj]
  rfl
theorem firstW_none {r : Rl} {ps : List Cell} {ds : List Dig} (h3 : ∀ j < ds.length, (leftA r ps (ds.take (j + 1))).isEmpty = false) : firstW r ps ds = none := by
  unfold firstW
  rw [List.find?_eq_none]
  intro j hj
  rw [h3 j (List.mem_range.mp hj)]
  exact Bool.false_ne_true
section
variable {P : Program} {w : World} {K : PySem.W.Frag} {mg : Str → Option Value} {base : Heap} {CI : Addr}
abbrev n4 : List Str := ["island", "places", "rule", "digs"]
theorem scLA : FnScope n4 n4 (defScope sLeftA) := ⟨rfl, rfl, rfl, by decide +kernel, rfl, by decide +kernel, by decide +kernel⟩
theorem ok_leftA {f : Addr} {fd : FuncData} (F : FnP K "left_after" "left_after" sLeftA f fd) (LB : Cal P w K mg base CX0 6 "_left_behind" n4 (spLeftB K CI)) : FnOk P w K mg base CX0 7 f fd n4 (spLeftA K CI) := by
  refine F.ok scLA (fun vs H Q E h => ?_) (fun cdv A outer s H vs Q E hr h => ?_)
  · obtain ⟨a, pa, ra, da, rows, ps, r, ds, rfl, _⟩ := h
    rfl
  · obtain ⟨a, pa, ra, da, rows, ps, r, ds, rfl, B, k⟩ := h
    refine ⟨_, PSs.nox (pss_one (ps_ret (pe_ix ix_list (pe_cal LB hr pass0 (pa_cons (pv 0) (pa_cons (pv 1) (pa_cons (pv 2) (pa_cons (pv 3) pa_nil))))) (pe_un un_neg pe_int) (fun _ _ => rfl)))), ?_⟩
    refine ⟨_, rfl, _, rfl, _, rfl, _, rfl, a, pa, ra, da, rows, ps, r, ds, rfl, B, fun L H1 s1 ll => ?_⟩
    obtain ⟨as, e1, e2, e3⟩ := ll.ex
    rw [leftsOf_len] at e2
    obtain ⟨la, ys, f1, f2, f3, f4⟩ := e3 _ _ (leftsOf_at r ps ds (Nat.le_refl ds.length))
    rw [List.take_length] at f4
    have hlast : atI (as.map V.ref) (-1) = some (V.ref la) := by
      have : as = as.take ds.length ++ [la] := by
        have := List.take_succ (l := as) (i := ds.length)
        rw [f1] at this
        rw [List.take_of_length_le (l := as) (i := ds.length + 1) (by omega)] at this
        exact this
      rw [this, List.map_append]
      exact atI_last _ _
    exact ⟨1, rfl, L, _, -1, _, rfl, rfl, .inl (.inl e1), hlast, k la H1 s1 (.lst (.inl (.inl f3)) f4)⟩
abbrev nFW : List Str := ["island", "places", "rule", "digs", "index", "left"]
theorem scFW : FnScope nFW n4 (defScope sFirstW) := ⟨rfl, rfl, rfl, by decide +kernel, rfl, by decide +kernel, by decide +kernel⟩
theorem ok_firstW {f : Addr} {fd : FuncData} (F : FnP K "first_wrong" "first_wrong" sFirstW f fd) (LB : Cal P w K mg base CX0 6 "_left_behind" n4 (spLeftB K CI)) (genum : mg "enumerate" = none) (glen : mg "len" = none) : FnOk P w K mg base CX0 7 f fd n4 (spFirstW K CI) := by
  refine F.ok scFW (fun vs H Q E h => ?_) (fun cdv A outer s H vs Q E hr h => ?_)
  · obtain ⟨a, pa, ra, da, rows, ps, r, ds, rfl, _⟩ := h
    rfl
  · obtain ⟨a, pa, ra, da, rows, ps, r, ds, rfl, B, k⟩ := h
    have nd := scFW.nd
    refine ⟨_, PSs.nox (pss_cons (ps_for PassesOwn.never rfl (pi_enum rfl genum (pa_cons (pe_slice sl_list (pe_cal LB hr pass0 (pa_cons (pv 0) (pa_cons (pv 1) (pa_cons (pv 2) (pa_cons (pv 3) pa_nil))))) (po_some pe_int) po_none) pa_nil)) (pg_tup rfl (pgs_cons (pg_name (i := 4) nd rfl (.inl rfl)) (pgs_cons (pg_name (i := 5) nd rfl (.inl rfl)) pgs_nil)))
        (pss_one (ps_if (pt_cmpR op_eq (pe_callB call_len_seq (by rfl) glen PySem.boot_len (pa_cons (pv 5) pa_nil)) pe_int (nomark _)) (pss_one (ps_ret (pv 4))) pss_nil)))
      (pss_one (ps_ret pe_non))), ?_⟩
    refine ⟨_, rfl, _, rfl, _, rfl, _, rfl, a, pa, ra, da, rows, ps, r, ds, rfl, B, fun L H1 s1 ll => ?_⟩
    obtain ⟨as, e1, e2, e3⟩ := ll.ex
    rw [leftsOf_len] at e2
    refine ⟨1, rfl, noPart ?_⟩
    refine ⟨L, _, rfl, .inl (.inl e1), fun S hS => ?_⟩
    rw [cutV_tail _ (by rw [List.length_map]; omega)]
    have s2 := Same.new (Same.refl H1) hS (o := .lst ((as.map V.ref).drop 1))
    have hS2 : (upd H1 S (.lst ((as.map V.ref).drop 1))) S = some (.lst ((as.map V.ref).drop 1)) := upd_same
    generalize upd H1 S (.lst ((as.map V.ref).drop 1)) = H2 at s2 hS2 ⊢
    have ln : ((as.map V.ref).drop 1).length = ds.length := by rw [List.length_drop, List.length_map]; omega
    refine nilArgs ⟨S, _, rfl, .inl (.inl hS2), for_it (walk_enumL (K := K) (a := S) (xs := (as.map V.ref).drop 1)) (fun i σ H3 => Same H2 H3 ∧ (∀ j < i, (leftA r ps (ds.take (j + 1))).isEmpty = false) ∧ ∃ v4 v5, σ = [some (.ref a), some (.ref pa), some (.ref ra), some (.ref da), v4, v5])
      ⟨Same.refl _, fun _ h => absurd h (Nat.not_lt_zero _), _, _, rfl⟩ (fun i σ H3 _ q => .inl (.inl (q.1 _ _ hS2))) ?_ ?_⟩
    · rintro i x σ H3 H4 hi ⟨s3, hne, v4, v5, rfl⟩ ⟨T, y, rfl, hT, rfl, hy⟩
      rw [ln] at hi
      have s4 := Same.new (Same.refl H3) hT (o := .tup [.int (i : Nat), y])
      obtain ⟨la, ys, f1, f2, f3, f4⟩ := e3 _ _ (leftsOf_at r ps ds (show i + 1 ≤ ds.length by omega))
      have hy2 : y = .ref la := by
        have hy : ((as.map V.ref).drop 1)[i]? = some y := hy
        rw [List.getElem?_drop, Nat.add_comm, List.getElem?_map, f1] at hy
        exact (Option.some.inj hy).symm
      subst hy2
      have lys := dpAll_len f4
      rw [List.length_map] at lys
      refine ⟨T, _, rfl, .inl (.inl upd_same), rfl, _, _, rfl, _, _, rfl, rfl, ?_⟩
      refine ⟨_, rfl, la, ys, rfl, .inl (.inl (.inl (s4 _ _ (s3 _ _ (s2 _ _ f3))))), rfl, _, rfl, ?_⟩
      have e : decide (V.int (ys.length : Nat) = V.int 0) = (leftA r ps (ds.take (i + 1))).isEmpty := by
        rw [lys, Bool.eq_iff_iff, decide_eq_true_eq, List.isEmpty_iff, ← List.length_eq_zero_iff]
        exact ⟨fun h => Int.ofNat.inj (V.int.inj h), fun h => by rw [h]; rfl⟩
      show (if decide (V.int (ys.length : Nat) = V.int 0) = true then _ else _)
      rw [e]
      refine ite2 (fun hz => ?_) (fun hz => ?_)
      · refine ⟨_, rfl, ?_⟩
        have kk := k _ (s1.trans (s2.trans (s3.trans s4)))
        rw [firstW_some hi hz hne] at kk
        exact kk
      · refine ⟨s3.trans s4, fun j hj => ?_, _, _, rfl⟩
        by_cases hji : j < i
        · exact hne j hji
        · obtain rfl : j = i := by omega
          exact Bool.eq_false_iff.mpr hz
    · rintro σ H3 ⟨s3, hne, v4, v5, rfl⟩
      rw [ln] at hne
      have kk := k _ (s1.trans (s2.trans s3))
      rw [firstW_none hne] at kk
      exact kk
end
end Om

namespace Om
open PySem PySem.Spec PyProof.Rows L2 LamX
/-! ### ''.join(..).replace(y, z) -/
section
variable {X : Cx} {e : Expr} {te : TE} {a y z : Str} {i j k : Nat} {cp c0 c1 apos pos apos1 pos1 : Pos}
theorem pe_joinRepl (he : PE X e te) (hyz : (y == z) = false) (hs1 : starEach [e] X.env = [(false, eval e X.env)] := by rfl)
    (hst : starEach [.Constant (.str y) j c0, .Constant (.str z) k c1] X.env = [(false, eval (.Constant (.str y) j c0) X.env), (false, eval (.Constant (.str z) k c1) X.env)] := by rfl)
    (hb1 : attributeBase (.Constant (.str a) i cp) "join" X.env (eval (.Constant (.str a) i cp) X.env) = eval (.Constant (.str a) i cp) X.env := by rfl) (hl1 : (apos1.endLine == pos1.line) = true := by rfl)
    (hb2 : attributeBase (.Call (.Attribute (.Constant (.str a) i cp) "join" apos1) [e] [] pos1) "replace" X.env (eval (.Call (.Attribute (.Constant (.str a) i cp) "join" apos1) [e] [] pos1) X.env) = eval (.Call (.Attribute (.Constant (.str a) i cp) "join" apos1) [e] [] pos1) X.env := by rfl) (hl2 : (apos.endLine == pos.line) = true := by rfl) :
    PE X (.Call (.Attribute (.Call (.Attribute (.Constant (.str a) i cp) "join" apos1) [e] [] pos1) "replace" apos) [.Constant (.str y) j c0, .Constant (.str z) k c1] [] pos)
      (fun σ H Q => te σ H fun v H1 => rJoin X.K (.str a) [v] H1 fun v2 H2 => ∃ x, v2 = .str x ∧ x.length + (x.length + 1) * z.length ≤ 16777216 ∧ Q (.str (Txt.replace x y z)) H2) := by
  refine ⟨fun pins s σ H Q I h => ?_⟩
  refine PySem.Call_method2 hb2 hst hl2 (wpAny_mono (Q := fun v s1 => 1 ≤ s1.toks ∧ EP X pins σ (fun v2 H2 => ∃ x, v2 = .str x ∧ x.length + (x.length + 1) * z.length ≤ 16777216 ∧ Q (.str (Txt.replace x y z)) H2) v s1) ?_ (fun v s1 q => ?_) fun _ _ z => z)
  · refine PySem.Call_method1 hb1 hs1 hl1 (Calls.Constant_str ?_)
    refine ⟨"str", _, F.plainAttrs_str, F.slot_str_join, F.type_str_join, typeIs_str _ _ _, (fun _ e => nomatch e), ?_⟩
    refine wpAny_mono (wpAny_toks_of (n := 1) (Q := EP X pins σ (fun v2 H2 => ∃ x, v2 = .str x ∧ x.length + (x.length + 1) * z.length ≤ 16777216 ∧ Q (.str (Txt.replace x y z)) H2)) (E := X.xe) (Nat.le_add_left 1 s.toks) ?_) (fun _ _ z => z) (fun _ _ z => z.2)
    refine Calls.callWith_builtin rfl (Calls.evalArgs_plain (Calls.spliced_cons ?_))
    exact thn (he.run pins _ σ H _ (I.tok _) h) fun u s2 ⟨yv, H2, I2, r2, q2⟩ => Calls.spliced_nil (mt_join pins s2 σ H2 (.str a) [yv] _ [u] _ I2 ⟨_, rfl⟩ (.cons r2 .nil) q2)
  · obtain ⟨hk, v', H1, I1, r1, x, e1, hb, q⟩ := q
    subst e1
    obtain ⟨tk, e2⟩ := r1
    subst e2
    refine ⟨"str", _, F.plainAttrs_str, F.slot_str_replace, F.type_str_replace, typeIs_str _ _ _, (fun _ e => nomatch e), Calls.callWith_builtin rfl (Calls.evalArgs_plain (Calls.spliced_cons ?_))⟩
    refine Calls.Constant_str (Calls.spliced_cons (Calls.Constant_str (Calls.spliced_nil ?_)))
    exact PySem.SC.replace (by show s1.toks ≠ 0; omega) (by show s1.toks + 1 ≠ 0; omega) (by show s1.toks ≠ s1.toks + 1; omega) hyz hb fun t' k => ⟨.str (Txt.replace x y z), H1, I1.tok k, ⟨t', rfl⟩, q⟩
end
theorem replL_drop1 (l : List Nat) : PySem.StrLaws.replL [126] [] l = l.filter fun c => !decide (c = 126) := by
  induction l with
  | nil => exact PySem.StrLaws.replL_nil
  | cons c r ih =>
    by_cases h : c = 126
    · subst h
      rw [PySem.StrLaws.replL_hit (by simp) (by simp)]
      simp only [List.nil_append, List.length_cons, List.length_nil, List.drop_succ_cons, List.drop_zero, ih]
      simp
    · rw [PySem.StrLaws.replL_miss (by simp; exact h), ih]
      simp [h]
theorem join_rows : ∀ rows : List (List Nat), Str.join ⟨#[]⟩ (rows.map tx) = tx rows.flatten
  | [] => rfl
  | [r] => by show tx r = tx ([r].flatten); simp
  | r :: d :: q => by
    have ih := join_rows (d :: q)
    show tx r ++ (⟨#[]⟩ : Str) ++ Str.join ⟨#[]⟩ ((d :: q).map tx) = tx (r :: d :: q).flatten
    rw [ih]
    have e0 : (⟨#[]⟩ : Str) = tx [] := rfl
    rw [e0, tx_app, tx_app, List.append_nil]
    rfl
theorem sum_tx (rows : List (List Nat)) : ((rows.map tx).map (·.length)).sum = rows.flatten.length := by
  induction rows with
  | nil => rfl
  | cons a r ih => simp only [List.map_cons, List.sum_cons, ih, tx_len, List.flatten_cons, List.length_append]
theorem wavy : Str.ofString "~" = tx [126] := by decide +kernel
theorem repl_rows (cs : List Nat) : Txt.replace (tx cs) (Str.ofString "~") (⟨#[]⟩ : Str) = tx (cs.filter fun c => !decide (c = 126)) := by
  have e := PySem.StrLaws.replace_list (x := tx cs) (y := Str.ofString "~") (z := (⟨#[]⟩ : Str)) (by decide +kernel)
  rw [tx_cps, wavy, tx_cps, show (⟨#[]⟩ : Str).cps.toList = [] from rfl, replL_drop1] at e
  rw [wavy, ← of_tx (Txt.replace _ _ _), e]
/-! ### a text of some signs, some times -/
def rMulS1 : R2 := fun x y H Q => ∃ (cs : List Nat) (k : Int), x = .str (tx cs) ∧ y = .int k ∧ cs ≠ [] ∧ cs.length ≤ 1000 ∧ 1 ≤ k ∧ k ≤ 1000 ∧ Q (.str (tx (List.replicate k.toNat cs).flatten)) H
theorem op_mulS1 {X : Cx} : OpR X (binaryOp .Mult) rMulS1 := by
  rintro pins s σ H x y v u Q I rx ry ⟨cs, k, rfl, rfl, hne, hl, h2, h3, q⟩
  by_cases hk2 : 2 ≤ k
  · exact op_mulS pins s σ H _ _ v u Q I rx ry ⟨cs, k, rfl, rfl, hne, hl, hk2, h3, q⟩
  · obtain rfl : k = 1 := by omega
    have eq1 : (List.replicate (1 : Int).toNat cs).flatten = cs := by
      show (List.replicate 1 cs).flatten = cs
      simp
    rw [eq1] at q
    obtain ⟨t, rfl⟩ := rx
    obtain ⟨t', rfl⟩ := ry
    have hm : (tx cs).length * (1 : Int).toNat ≤ 1000000 := by
      rw [tx_len]
      show cs.length * 1 ≤ _
      omega
    refine PySem.P.mul_str ?_ (fun _ _ => ?_) (fun _ _ => ?_) ?_
    · rfl
    · rw [tx_len]
      omega
    · refine decide_eq_false (show ¬ (tx cs).length * (1 : Int).toNat > sizeLine from Nat.not_lt.mpr (Nat.le_trans hm (by decide)))
    · rw [if_neg (by omega), if_pos (by rfl)]
      exact ⟨.str (tx cs), H, I, ⟨_, rfl⟩, q⟩
end Om

namespace Om
open PySem PySem.Spec PyProof.Rows L2 LamX
abbrev sLRows : Stmt := top 33
def spLRows (K : PySem.W.Frag) : Sp := fun vs H Q _ => ∃ (b l : Addr) (m : Nat), vs = [.ref b, .int (m : Nat)] ∧ Bx H b l ∧ 1 ≤ m ∧ m ≤ 12 ∧
  ∀ (p : Addr) (rows : List (List Nat)) (H' : Hp), RowsOk m rows → cellsOf rows ≠ [] → SqT K H' p (rows.map vt) → Bx H' b l → Kp b l H H' → Q (.ref p) H'
def eightC : List Nat := [46, 46, 46, 126, 46, 65, 66, 84]
theorem eight_eq : [V.str (Str.ofString "."), V.str (Str.ofString "."), V.str (Str.ofString "."), V.str (Str.ofString "~"), V.str (Str.ofString "."), V.str (Str.ofString "A"), V.str (Str.ofString "B"), V.str (Str.ofString "T")] = eightC.map fun c => vt [c] := by
  rw [show Str.ofString "." = tx [46] from by decide +kernel, show Str.ofString "~" = tx [126] from by decide +kernel, show Str.ofString "A" = tx [65] from by decide +kernel, show Str.ofString "B" = tx [66] from by decide +kernel, show Str.ofString "T" = tx [84] from by decide +kernel]
  rfl
theorem eight_ok : ∀ c ∈ eightC, okSign c := by
  intro c hc
  unfold eightC at hc
  simp only [List.mem_cons, List.not_mem_nil, or_false] at hc
  unfold okSign
  omega
theorem cells_ne {rows : List (List Nat)} {r : List Nat} {c : Nat} (h1 : r ∈ rows) (h2 : c ∈ r) (h3 : c ≠ 126) : cellsOf rows ≠ [] := by
  obtain ⟨i, hi, rfl⟩ := List.mem_iff_getElem.mp h1
  obtain ⟨j, hj, rfl⟩ := List.mem_iff_getElem.mp h2
  have e : rows.getD i [] = rows[i] := by rw [List.getD_eq_getElem?_getD, List.getElem?_eq_getElem hi, Option.getD_some]
  have e2 : rows[i].getD j 0 = rows[i][j] := by rw [List.getD_eq_getElem?_getD, List.getElem?_eq_getElem hj, Option.getD_some]
  have : (i, j) ∈ cellsOf rows := (cells_mem rows i j).mpr ⟨hi, by rw [e]; exact hj, by unfold sg2; rw [e, e2]; exact h3⟩
  exact List.ne_nil_of_mem this
section
variable {P : Program} {w : World} {K : PySem.W.Frag} {mg : Str → Option Value} {base : Heap}
abbrev nLR : List Str := ["_law_h", "_law_most", "_law_high", "_law_wide", "_law_found", "_law_row", "_law_column"]
theorem scLR : FnScope nLR ["_law_h", "_law_most"] (defScope sLRows) := ⟨rfl, rfl, rfl, by decide +kernel, rfl, by decide +kernel, by decide +kernel⟩
def callArg0 (e : Expr) : Expr := match e with
  | .Call _ [e] _ _ => e
  | _ => .Constant .none 0 ⟨0, 0, 0, 0⟩
def lrLc : Expr := callArg0 (callArg (inFor ((defBody sLRows).getD 2 noS) 0))
theorem blkLR : BlkOk nLR (defScope sLRows) (lcScope lrLc) [("_law_column", 6)] := blkOk_by (by decide +kernel)
theorem ok_lrows {f : Addr} {fd : FuncData} (F : FnP K "_law_rows" "_law_rows" sLRows f fd) (NX : Cal P w K mg base CX0 1 "_law_next" ["_law_h", "_law_limit"] spNext) (grange : mg "range" = none) (gtuple : mg "tuple" = none) :
    FnOk P w K mg base CX0 2 f fd ["_law_h", "_law_most"] (spLRows K) := by
  refine F.ok scLR (fun vs H Q E h => ?_) (fun cdv A outer s H vs Q E hr h => ?_)
  · obtain ⟨b, l, m, rfl, _⟩ := h
    rfl
  · obtain ⟨b, l, m, rfl, B, hm0, hm1, k⟩ := h
    have nd := scLR.nd
    refine ⟨_, PSs.nox (pss_cons (ps_par (i := 2) (j := 3) rfl nd rfl rfl (by decide) rfl rfl (pa_cons (pe_op op_add pe_int (pe_cal NX hr pass0 (pa_cons (pv 0) (pa_cons (pv 1) pa_nil)))) (pa_cons (pe_op op_add pe_int (pe_cal NX hr pass0 (pa_cons (pv 0) (pa_cons (pv 1) pa_nil)))) pa_nil)) rfl)
      (pss_cons (ps_set (i := 4) nd rfl (.inl rfl) (pe_lst pa_nil))
      (pss_cons (ps_for PassesOwn.never rfl (pi_range1 rfl grange (pa_cons (pv 2) pa_nil)) (pg_name (i := 5) nd rfl (.inl rfl)) (pss_one (ps_expr (pe_bm PySem.F.plainAttrs_list PySem.F.slot_list_append PySem.F.type_list_append mt_append (pv 4) (pa_cons
          (pe_joinK pe_str (pe_lc (own := [("_law_column", 6)]) (g := gName 6) rfl nd (pi_range1 rfl grange (pa_cons (pv 3) pa_nil)) blkLR (fun _ _ _ _ _ => pg_name (i := 6) nd rfl (.inl rfl)) (fun _ _ _ _ _ => pts_nil) (fun _ _ _ _ _ =>
            pe_ix (ixlK (K := K) rfl) (pe_lst (pa_cons pe_str (pa_cons pe_str (pa_cons pe_str (pa_cons pe_str (pa_cons pe_str (pa_cons pe_str (pa_cons pe_str (pa_cons pe_str pa_nil))))))))) (pe_cal NX hr pass0 (pa_cons (pv 0) (pa_cons pe_int pa_nil))) (fun _ _ => rfl)))) pa_nil)))))
      (pss_one (ps_ret (pe_ifExp (pt_cmpR op_ne (pe_joinRepl (pv 4) (by decide +kernel)) pe_str (nomark _)) (pe_callTy call_tuple_of (by rfl) gtuple (by decide +kernel) (pa_cons (pv 4) pa_nil))
        (pe_op op_catA (pe_tup (pa_cons (pe_op op_mulS1 pe_str (pv 3)) pa_nil)) (pe_callTy call_tuple_of (by rfl) gtuple (by decide +kernel) (pa_cons (pe_slice sl_list (pv 4) (po_some pe_int) po_none) pa_nil))))))))), ?_⟩
    refine ⟨_, rfl, _, rfl, b, l, _, rfl, B, by omega, by omega, fun n1 H1 a1 a2 B1 K1 => ⟨_, _, rfl, rfl, ?_⟩⟩
    refine ⟨_, rfl, _, rfl, b, l, _, rfl, B1, by omega, by omega, fun n2 H3 b1 b2 B3 K2 => ⟨_, _, rfl, rfl, _, _, rfl, ?_⟩⟩
    have K3 := K1.trans K2
    refine ⟨by show 0 ≤ sizeLine; decide, fun Fo hFo => ?_⟩
    obtain ⟨Fb, Fl⟩ := B3.new hFo
    have s4 := Same.new (Same.refl H3) hFo (o := .lst [])
    have hF0 : H Fo = none := by
      cases hh : H Fo with
      | none => rfl
      | some o =>
        have := K3 _ _ hh Fb Fl
        rw [hFo] at this
        cases this
    -- the rows
    have hwd : (1 + n2).toNat ≤ m := by omega
    refine ⟨_, rfl, _, rfl, by omega, by omega, for_range (lo := 0) (n := (1 + n1).toNat) (fun j σ H' => (∃ v5, σ = [some (.ref b), some (.int (m : Nat)), some (.int (1 + n1)), some (.int (1 + n2)), some (.ref Fo), v5, none]) ∧ ∃ rows : List (List Nat), rows.length = j ∧ (∀ r ∈ rows, r.length = (1 + n2).toNat ∧ ∀ c ∈ r, okSign c) ∧ H' Fo = some (.lst (rows.map vt)) ∧ Bx H' b l ∧ Kp b l H H')
      ⟨⟨_, rfl⟩, [], rfl, by simp, upd_same, B3.same s4, K3.trans (Kp.of s4)⟩ ?_ ?_⟩
    · rintro j σ H' hj ⟨⟨v5, rfl⟩, rows, e1, e2, e3, B5, K5⟩
      refine ⟨_, rfl, .inl ⟨rfl, _, .inl (.inl e3)⟩, ?_⟩
      refine ⟨⟨_, rfl⟩, _, rfl, _, rfl, by omega, by omega, fun D2 hD2 => lc_range (lo := 0) (n := (1 + n2).toNat) (fun i H6 => ∃ cs : List Nat, cs.length = i ∧ (∀ c ∈ cs, okSign c) ∧ H6 D2 = some (.lst (cs.map fun c => vt [c])) ∧ Bx H6 b l ∧ Kp b l H' H6)
        ⟨[], rfl, by simp, upd_same, B5.same (Same.new (Same.refl _) hD2), Kp.of (Same.new (Same.refl _) hD2)⟩ ?_ ?_⟩
      · rintro i H6 hi ⟨cs, f1, f2, f3, B6, K6⟩
        obtain ⟨nb2, nl2⟩ := B5.new hD2
        refine ⟨rfl, tyes ?_⟩
        refine ⟨by show 8 ≤ sizeLine; decide, fun q hq => ?_⟩
        obtain ⟨qb, ql⟩ := B6.new hq
        rw [eight_eq]
        have s7 := Same.new (Same.refl H6) hq (o := .lst (eightC.map fun c => vt [c]))
        refine ⟨_, rfl, b, l, 8, rfl, B6.same s7, by decide, by decide, fun n H7 g1 g2 B7 K7 => ?_⟩
        obtain ⟨v, hv, hm⟩ := atI_of (xs := eightC.map fun c => vt [c]) g1 (by show n < ((8 : Nat) : Int); omega)
        obtain ⟨c, hc, rfl⟩ := List.mem_map.mp hm
        refine ⟨q, _, n, _, rfl, rfl, .inl (.inl (K7 q _ upd_same qb ql)), hv, ?_⟩
        have f4 := K7 D2 _ (s7 _ _ f3) nb2 nl2
        refine ⟨_, f4, ?_, cs ++ [c], by simp [f1], ?_, ?_, B7.updL nb2 nl2, ?_⟩
        · rw [List.length_map, f1]
          exact Nat.lt_of_lt_of_le hi (Nat.le_trans hwd (Nat.le_trans hm1 (by decide)))
        · intro c' hc'
          rcases List.mem_append.mp hc' with h | h
          · exact f2 c' h
          · rw [List.mem_singleton.mp h]; exact eight_ok c hc
        · rw [upd_same, List.map_append]; rfl
        · exact Kp.updL ((K6.trans (Kp.of s7)).trans K7) hD2
      · rintro H6 ⟨cs, f1, f2, f3, B6, K6⟩
        refine ⟨_, D2, cs.map fun c => tx [c], rfl, rfl, .inl (.inl (.inl (by rw [f3, List.map_map]; rfl))), ?_, ?_⟩
        · rw [empty_tx]
          have e5 : ∀ l : List Nat, ((l.map fun c => tx [c]).map (·.length)).sum = l.length := by
            intro l
            induction l with
            | nil => rfl
            | cons a r ih => simp only [List.map_cons, List.sum_cons, ih, tx_len, List.length_cons, List.length_nil]; omega
          rw [e5]
          show cs.length + _ * 0 ≤ _
          omega
        · rw [empty_tx, TL.join_eq, join_tx]
          have f4 := K6 Fo _ e3 Fb Fl
          refine nilArgs ⟨Fo, _, _, rfl, rfl, f4, ?_, ?_⟩
          · rw [List.length_map, e1]
            exact Nat.lt_of_lt_of_le hj (Nat.le_trans (show (1 + n1).toNat ≤ 12 by omega) (by decide))
          · refine ⟨⟨_, rfl⟩, rows ++ [cs], by simp [e1], ?_, ?_, B6.updL Fb Fl, Kp.updL (K5.trans K6) hF0⟩
            · intro r hr'
              rcases List.mem_append.mp hr' with h | h
              · exact e2 r h
              · rw [List.mem_singleton.mp h]; exact ⟨f1, f2⟩
            · rw [upd_same, List.map_append]; rfl
    · rintro σ H' ⟨⟨v5, rfl⟩, rows, e1, e2, e3, B5, K5⟩
      have hne : rows ≠ [] := fun e => by rw [e] at e1; simp at e1; omega
      have lsum : ∀ rs : List (List Nat), (∀ r ∈ rs, r.length ≤ 12) → rs.flatten.length ≤ rs.length * 12 := by
        intro rs
        induction rs with
        | nil => intro _; exact Nat.zero_le _
        | cons a r ih =>
          intro h
          have h1 := h a (List.mem_cons_self ..)
          have h2 := ih fun x hx => h x (List.mem_cons_of_mem _ hx)
          rw [List.flatten_cons, List.length_append, List.length_cons]
          omega
      have hfl : rows.flatten.length ≤ 144 := by
        have := lsum rows fun r hr' => by have := (e2 r hr').1; omega
        omega
      refine ⟨_, rfl, _, Fo, rows.map tx, rfl, rfl, .inl (.inl (.inl (by rw [e3, List.map_map]; rfl))), ?_, ?_⟩
      · rw [sum_tx, empty_tx]
        show rows.flatten.length + _ * 0 ≤ _
        omega
      rw [empty_tx, TL.join_eq, join_rows]
      refine ⟨_, rfl, ?_, ?_⟩
      · rw [tx_len]
        show rows.flatten.length + (rows.flatten.length + 1) * 0 ≤ _
        omega
      rw [repl_rows]
      refine ⟨rfl, _, rfl, ?_⟩
      by_cases hz : (rows.flatten.filter fun c => !decide (c = 126)) = []
      · refine iteF' ?_ ?_
        · rw [hz]
          decide +kernel
        refine ⟨_, rfl, [46], _, (by rw [show Str.ofString "." = tx [46] from by decide +kernel]), rfl, by simp, by decide, by omega, by omega, by show 1 ≤ sizeLine; decide, fun t1 ht1 => ?_⟩
        have ew : (List.replicate (1 + n2).toNat [46]).flatten = List.replicate (1 + n2).toNat 46 := by
          induction (1 + n2).toNat with
          | zero => rfl
          | succ n ih => rw [List.replicate_succ, List.flatten_cons, ih, List.replicate_succ]; rfl
        rw [ew]
        have s6 := Same.new (Same.refl H') ht1 (o := .tup [vt (List.replicate (1 + n2).toNat 46)])
        refine ⟨_, rfl, 1, rfl, noPart ⟨Fo, _, rfl, .inl (.inl (s6 _ _ e3)), fun S hS => nilArgs ?_⟩⟩
        rw [cutV_tail _ (by rw [List.length_map]; omega)]
        refine ⟨S, _, rfl, .inl ⟨.inl (.inl upd_same), fun t2 ht2 => ?_⟩⟩
        have s7 := Same.new (Same.refl _) hS (o := .lst ((rows.map vt).drop 1))
        have s8 := Same.new (Same.refl _) ht2 (o := .tup ((rows.map vt).drop 1))
        refine catA_read (xs := [vt (List.replicate (1 + n2).toNat 46)]) (ys := (rows.map vt).drop 1) (.inl (.inl (s8 _ _ (s7 _ _ upd_same)))) (.inl (.inl upd_same)) (Nat.le_trans (show _ ≤ 100 by rw [List.length_drop, List.length_map]; simp; omega) (by decide)) fun p2 H2' s9 hp2 => ?_
        have sall := ((s6.trans s7).trans s8).trans s9
        refine k p2 (List.replicate (1 + n2).toNat 46 :: rows.drop 1) H2' ⟨by simp, by simp; omega, (1 + n2).toNat, by omega, by omega, ?_⟩ ?_ ?_ (B5.same sall) (K5.trans (Kp.of sall))
        · intro r hr'
          rcases List.mem_cons.mp hr' with h | h
          · subst h
            exact ⟨List.length_replicate, fun c hc => by rw [List.eq_of_mem_replicate hc]; exact .inl rfl⟩
          · exact e2 r (List.mem_of_mem_drop h)
        · refine cells_ne (List.mem_cons_self ..) (c := 46) ?_ (by decide)
          rw [List.mem_replicate]
          exact ⟨by omega, rfl⟩
        · rw [List.map_cons, List.map_drop]
          exact hp2
      · obtain ⟨c, hc⟩ := List.exists_mem_of_ne_nil _ hz
        rw [List.mem_filter, List.mem_flatten] at hc
        obtain ⟨⟨r, hr1, hr2⟩, hc3⟩ := hc
        refine iteT' ?_ ?_
        · have e : decide (V.str (tx (rows.flatten.filter fun c => !decide (c = 126))) = V.str (⟨#[]⟩ : Str)) = false := neS fun e => hz (tx_inj (e.trans (show (⟨#[]⟩ : Str) = tx [] from rfl)))
          show (!decide (V.str (tx (rows.flatten.filter fun c => !decide (c = 126))) = V.str (⟨#[]⟩ : Str))) = true
          rw [e]
          rfl
        refine ⟨_, rfl, Fo, _, rfl, .inl ⟨.inl (.inl e3), fun t ht => ?_⟩⟩
        have s6 := Same.new (Same.refl H') ht (o := .tup (rows.map vt))
        exact k t rows _ ⟨by omega, by omega, (1 + n2).toNat, by omega, by omega, e2⟩ (cells_ne hr1 hr2 (by simpa using hc3)) (.inl (.inl upd_same)) (B5.same s6) (K5.trans (Kp.of s6))
end
end Om

namespace Om
open PySem PySem.Spec PyProof.Rows L2 LamX
theorem ixtK {X : Cx} {K : PySem.W.Frag} (hK : X.K = K) : IxR X (rIxT K) := by
  subst hK
  exact ix_tup
/-! ### cells that stand in the heap -/
abbrev TC := List (Addr × Cell)
def CA (H : Hp) (t : TC) : Prop := ∀ p ∈ t, H p.1 = some (.tup (cvs p.2))
def vz (t : TC) : List V := t.map fun p => V.ref p.1
def cz (t : TC) : List Cell := t.map fun p => p.2
theorem CA.nil {H : Hp} : CA H [] := fun p hp => by cases hp
theorem CA.same {H H' : Hp} {t : TC} (h : CA H t) (s : Same H H') : CA H' t := fun p hp => s _ _ (h p hp)
theorem CA.updL {H : Hp} {D : Addr} {ys zs : List V} {t : TC} (h : CA H t) (hD : H D = some (.lst ys)) : CA (upd H D (.lst zs)) t := fun p hp => by
  rw [upd_ne (ne_of (h p hp) hD fun e => by cases e)]
  exact h p hp
theorem CA.kp {H H' : Hp} {b l : Addr} {t : TC} (h : CA H t) (B : Bx H b l) (k : Kp b l H H') : CA H' t := fun p hp => by
  obtain ⟨ns, z, _, h1, h2, _⟩ := B.ex
  exact k _ _ (h p hp) (ne_of (h p hp) h1 fun e => by cases e) (ne_of (h p hp) h2 fun e => by cases e)
theorem CA.app {H : Hp} {t u : TC} (h1 : CA H t) (h2 : CA H u) : CA H (t ++ u) := fun p hp => (List.mem_append.mp hp).elim (h1 p) (h2 p)
theorem CA.one {H : Hp} {a : Addr} {c : Cell} (h : H a = some (.tup (cvs c))) : CA H [(a, c)] := fun p hp => by
  rw [List.mem_singleton] at hp
  subst hp
  exact h
theorem CA.dp {K : PySem.W.Frag} {H : Hp} : ∀ {t : TC}, CA H t → DpAll K H (vz t) ((cz t).map cdp)
  | [], _ => .nil
  | p :: t, h => .cons (cell_dp (.inl (.inl (h p (List.mem_cons_self ..))))) (CA.dp fun q hq => h q (List.mem_cons_of_mem _ hq))
theorem vz_len (t : TC) : (vz t).length = t.length := List.length_map ..
theorem cz_len (t : TC) : (cz t).length = t.length := List.length_map ..
theorem vz_app (t u : TC) : vz (t ++ u) = vz t ++ vz u := List.map_append
theorem cz_app (t u : TC) : cz (t ++ u) = cz t ++ cz u := List.map_append
theorem vz_of {xs : List V} {t : TC} (h : ∀ x ∈ xs, x ∈ vz t) : ∃ u : TC, xs = vz u ∧ ∀ p ∈ u, p ∈ t := by
  induction xs with
  | nil => exact ⟨[], rfl, fun p hp => by cases hp⟩
  | cons x r ih =>
    obtain ⟨u, e, hu⟩ := ih fun y hy => h y (List.mem_cons_of_mem _ hy)
    obtain ⟨p, hp, rfl⟩ := List.mem_map.mp (h x (List.mem_cons_self ..))
    refine ⟨p :: u, by rw [e]; rfl, fun q hq => ?_⟩
    rcases List.mem_cons.mp hq with rfl | hq
    · exact hp
    · exact hu q hq
abbrev sLCells : Stmt := top 34
abbrev sLRule : Stmt := top 35
abbrev sLSome : Stmt := top 37
def spLCells (K : PySem.W.Frag) : Sp := fun vs H Q _ => ∃ (a : Addr) (rows : List (List Nat)), vs = [.ref a] ∧ SqT K H a (rows.map vt) ∧ Vd rows ∧ ∀ v t H', Same H H' → H' v = some (.lst (vz t)) → CA H' t → cz t = cellsOf rows → Q (.ref v) H'
def spLRule (K : PySem.W.Frag) : Sp := fun vs H Q _ => ∃ b l : Addr, vs = [.ref b] ∧ Bx H b l ∧ ∀ (a : Addr) (r : Rl) (H' : Hp), r.Ok → SqT K H' a r.vs → Bx H' b l → Kp b l H H' → Q (.ref a) H'
def spLSome : Sp := fun vs H Q _ => ∃ (b l ca : Addr) (t : TC) (m : Nat), vs = [.ref b, .ref ca, .int (m : Nat)] ∧ Bx H b l ∧ H ca = some (.lst (vz t)) ∧ CA H t ∧ t.length ≤ 1000 ∧ m ≤ 100 ∧
  ∀ (p : Addr) (u : TC) (H' : Hp), H' p = some (.tup (vz u)) → CA H' u → (∀ q ∈ u, q.2 ∈ cz t) → u.length ≤ m → Bx H' b l → Kp b l H H' → Q (.ref p) H'
section
variable {P : Program} {w : World} {K : PySem.W.Frag} {mg : Str → Option Value} {base : Heap}
abbrev nLC : List Str := ["_law_rows_here", "_law_found", "_law_row", "_law_column"]
theorem scLC : FnScope nLC ["_law_rows_here"] (defScope sLCells) := ⟨rfl, rfl, rfl, by decide +kernel, rfl, by decide +kernel, by decide +kernel⟩
def binR (e : Expr) : Expr := match e with
  | .BinOp _ _ e _ => e
  | _ => .Constant .none 0 ⟨0, 0, 0, 0⟩
def lcLc : Expr := binR (asgExpr (inFor ((defBody sLCells).getD 1 noS) 0))
theorem blkLC : BlkOk nLC (defScope sLCells) (lcScope lcLc) [("_law_column", 3)] := blkOk_by (by decide +kernel)
theorem ok_lcells {f : Addr} {fd : FuncData} (F : FnP K "_law_cells" "_law_cells" sLCells f fd) (grange : mg "range" = none) (glen : mg "len" = none) : FnOk P w K mg base CX0 1 f fd ["_law_rows_here"] (spLCells K) := by
  refine F.ok scLC (fun vs H Q E h => ?_) (fun cdv A outer s H vs Q E hr h => ?_)
  · obtain ⟨a, rows, rfl, _⟩ := h
    rfl
  · obtain ⟨a, rows, rfl, hS, g, k⟩ := h
    have nd := scLC.nd
    refine ⟨_, PSs.nox (pss_cons (ps_set (i := 1) nd rfl (.inl rfl) (pe_lst pa_nil))
      (pss_cons (ps_for PassesOwn.never rfl (pi_range1 rfl grange (pa_cons (pe_callB call_len_seq (by rfl) glen PySem.boot_len (pa_cons (pv 0) pa_nil)) pa_nil)) (pg_name (i := 2) nd rfl (.inr rfl)) (pss_one (ps_set (i := 1) nd rfl (.inl rfl) (pe_op op_cat (pv 1)
          (pe_lc (own := [("_law_column", 3)]) (g := gName 3) rfl nd (pi_range1 rfl grange (pa_cons (pe_callB call_len_str (by rfl) glen PySem.boot_len (pa_cons (pe_ix ix_tup (pv 0) pe_int (fun _ _ => rfl)) pa_nil)) pa_nil)) blkLC (fun _ _ _ _ _ => pg_name (i := 3) nd rfl (.inl rfl)) (fun _ _ _ _ _ => pts_one (pt_cmpR op_ne (pe_ix ix_str (pe_ix (ixtK (K := K) rfl) (pv 0) (pv 2) (fun _ _ => rfl)) (pv 3) (fun _ _ => rfl)) pe_str (nomark _)))
            (fun _ _ _ _ _ => pe_tup (pa_cons (pv 2) (pa_cons (pv 3) pa_nil))))))))
      (pss_one (ps_ret (pv 1))))), ?_⟩
    have hne := g.ne
    have hh := g.hgt
    have at00 : atI (rows.map vt) 0 = some (vt (rows.headD [])) := by
      cases rows with
      | nil => exact absurd rfl hne
      | cons r0 rs => exact at0
    have hr0 : (tx (rows.headD [])).length ≤ sizeLine := by
      rw [tx_len]
      cases rows with
      | nil => exact absurd rfl hne
      | cons r0 rs => exact small_le (by have := (g.wid r0 (List.mem_cons_self ..)).2; show r0.length ≤ _; omega)
    refine ⟨by show 0 ≤ sizeLine; decide, fun f0 hf0 => ?_⟩
    have s1 := Same.new (Same.refl H) hf0 (o := .lst [])
    refine ⟨_, rfl, a, _, rfl, .inr (Same.tup s1 hS), _, rfl, by omega, by rw [List.length_map]; omega, ?_⟩
    rw [List.length_map]
    refine for_range (lo := 0) (n := ((rows.length : Nat) : Int).toNat) (fun i σ H' => ∃ fo t v2, σ = [some (.ref a), some (.ref fo), v2, none] ∧ H' fo = some (.lst (vz t)) ∧ CA H' t ∧ cz t = cellsTo rows i ∧ Same H H')
      ⟨f0, [], _, rfl, upd_same, CA.nil, rfl, s1⟩ ?_ ?_
    · rintro i σ H8 hi' ⟨fo, t, v2, rfl, ha1, ha2, ha4, ha3⟩
      have hir : i < rows.length := by omega
      have hri : rows[i]? = some rows[i] := List.getElem?_eq_getElem hir
      have hmr : rows[i] ∈ rows := List.getElem_mem hir
      have hwr := g.rect _ hmr
      have eri : rows.getD i [] = rows[i] := by rw [List.getD_eq_getElem?_getD, hri, Option.getD_some]
      have R8 := Same.tup ha3 hS
      have ei : atI (rows.map vt) (0 + (i : Int)) = some (vt rows[i]) := by
        rw [Int.zero_add]
        exact atI_nat (by rw [List.getElem?_map, hri]; rfl)
      have hw12 := (g.wid _ hmr).2
      have hlr : (tx rows[i]).length ≤ sizeLine := by rw [tx_len]; exact small_le (by omega)
      have lc := cellsTo_len (rows := rows) (w := 12) (fun r hr => (g.wid r hr).2) i (by omega)
      have lt : t.length = (cellsTo rows i).length := by rw [← ha4, cz_len]
      refine ⟨_, rfl, _, rfl, a, _, 0, _, rfl, rfl, R8, at00, _, rfl, hr0, _, rfl, by omega, by rw [tx_len]; omega, fun D hD => ?_⟩
      rw [tx_len]
      refine lc_range (lo := 0) (n := (((rows.headD []).length : Nat) : Int).toNat) (fun j H' => ∃ u, H' D = some (.lst (vz u)) ∧ CA H' u ∧ cz u = rowCells rows[i] i j ∧ Same H8 H')
        ⟨[], upd_same, CA.nil, rfl, Same.new (Same.refl _) hD⟩ ?_ ?_
      · rintro j H9 hj ⟨u, g1, g2, g4, g3⟩
        have hjr : j < (rows[i]).length := by omega
        obtain ⟨ch, hch⟩ : ∃ ch, (rows[i])[j]? = some ch := ⟨_, List.getElem?_eq_getElem hjr⟩
        have ech : (rows[i]).getD j 0 = ch := by rw [List.getD_eq_getElem?_getD, hch, Option.getD_some]
        have ej : atI (tx rows[i]).cps.toList (0 + (j : Int)) = some ch := by
          rw [Int.zero_add]
          exact atI_nat (by rw [tx_cps]; exact hch)
        have es := rowCells_succ rows[i] i j
        rw [ech] at es
        have l3 := rowCells_len rows[i] i j
        have lu : u.length = (rowCells rows[i] i j).length := by rw [← g4, cz_len]
        refine ⟨rfl, ?_⟩
        refine ⟨_, rfl, _, rfl, a, _, _, _, rfl, rfl, Same.tup g3 R8, ei, _, rfl, _, _, _, rfl, rfl, hlr, ej, rfl, _, rfl, ?_⟩
        have e2 : decide (V.str ⟨#[ch]⟩ = V.str (Str.ofString "~")) = decide (ch = 126) := by
          rw [show Str.ofString "~" = (⟨#[126]⟩ : Str) from by decide +kernel]
          apply decide_eq_decide.mpr
          simp
        rw [e2]
        by_cases h : ch = 126
        · rw [if_pos h] at es
          refine iteF' (by rw [decide_eq_true h]; rfl) ?_
          exact ⟨u, g1, g2, by rw [es]; exact g4, g3⟩
        · rw [if_neg h] at es
          refine iteT' (by rw [decide_eq_false h]; rfl) ?_
          refine ⟨_, rfl, _, rfl, by show 2 ≤ sizeLine; decide, fun q hq => ?_⟩
          have su := Same.new (Same.refl H9) hq (o := .tup [.int (0 + (i : Int)), .int (0 + (j : Int))])
          have g1' := su _ _ g1
          refine ⟨vz u, g1', Nat.lt_of_le_of_lt (show _ ≤ 100 by rw [vz_len]; omega) (by decide), u ++ [(q, (i, j))], ?_, ?_, ?_, ?_⟩
          · rw [upd_same, vz_app]
            rfl
          · refine CA.updL (CA.app (g2.same su) (CA.one ?_)) g1'
            rw [upd_same, Int.zero_add, Int.zero_add]
            rfl
          · rw [es, cz_app, g4]
            rfl
          · exact Same.updN (g3.trans su) hD
      · rintro H9 ⟨u, g1, g2, g4, g3⟩
        have ejn : (((rows.headD []).length : Nat) : Int).toNat = (rows[i]).length := by omega
        rw [ejn] at g4
        have l3 := rowCells_len rows[i] i (rows[i]).length
        have lu : u.length = (rowCells rows[i] i (rows[i]).length).length := by rw [← g4, cz_len]
        refine ⟨fo, D, vz t, vz u, rfl, rfl, g3 _ _ ha1, g1, Nat.le_trans (show _ ≤ 1000 by rw [vz_len, vz_len]; omega) (by decide), fun p hp => ?_⟩
        have s9 := Same.new (Same.refl H9) hp (o := .lst (vz t ++ vz u))
        refine ⟨p, t ++ u, _, rfl, by rw [upd_same, vz_app], CA.app ((ha2.same g3).same s9) (g2.same s9), ?_, (ha3.trans g3).trans s9⟩
        rw [cz_app, ha4, g4, cellsTo_succ, eri]
    · rintro σ H8 ⟨fo, t, v2, rfl, ha1, ha2, ha4, ha3⟩
      exact ⟨_, rfl, k fo t H8 ha3 ha1 ha2 ha4⟩
theorem scLRule : FnScope ["_law_h"] ["_law_h"] (defScope sLRule) := ⟨rfl, rfl, rfl, by decide +kernel, rfl, by decide +kernel, by decide +kernel⟩
theorem ok_lrule {f : Addr} {fd : FuncData} (F : FnP K "_law_rule" "_law_rule" sLRule f fd) (NX : Cal P w K mg base CX0 1 "_law_next" ["_law_h", "_law_limit"] spNext) : FnOk P w K mg base CX0 2 f fd ["_law_h"] (spLRule K) := by
  refine F.ok scLRule (fun vs H Q E h => ?_) (fun cdv A outer s H vs Q E hr h => ?_)
  · obtain ⟨b, l, rfl, _⟩ := h
    rfl
  · obtain ⟨b, l, rfl, B, k⟩ := h
    refine ⟨_, PSs.nox (pss_one (ps_ret (pe_ix ix_list (pe_lst (pa_cons (pe_tup (pa_cons pe_str pa_nil)) (pa_cons (pe_tup (pa_cons pe_str pa_nil)) (pa_cons (pe_tup (pa_cons pe_str (pa_cons (pe_op op_add pe_int (pe_cal NX hr pass0 (pa_cons (pv 0) (pa_cons pe_int pa_nil)))) pa_nil))) pa_nil)))) (pe_cal NX hr pass0 (pa_cons (pv 0) (pa_cons pe_int pa_nil))) (fun _ _ => rfl)))), ?_⟩
    refine ⟨by show 1 ≤ sizeLine; decide, fun t1 h1 => ⟨by show 1 ≤ sizeLine; decide, fun t2 h2 => ?_⟩⟩
    have s1 := Same.new (Same.refl H) h1 (o := .tup [.str (Str.ofString "plain")])
    have s2 := Same.new (Same.refl _) h2 (o := .tup [.str (Str.ofString "rows")])
    have q1 := s2 _ _ (upd_same (H := H) (a := t1) (o := .tup [.str (Str.ofString "plain")]))
    have q2 : (upd (upd H t1 (.tup [.str (Str.ofString "plain")])) t2 (.tup [.str (Str.ofString "rows")])) t2 = some (.tup [.str (Str.ofString "rows")]) := upd_same
    have s12 := s1.trans s2
    generalize upd (upd H t1 (.tup [.str (Str.ofString "plain")])) t2 (.tup [.str (Str.ofString "rows")]) = H2 at s12 q1 q2 s2 ⊢
    have B2 := B.same s12
    have n1 : t1 ≠ b ∧ t1 ≠ l := by
      obtain ⟨_, _, _, x1, x2, _⟩ := B2.ex
      exact ⟨ne_of q1 x1 (fun e => by cases e), ne_of q1 x2 (fun e => by cases e)⟩
    have n2 : t2 ≠ b ∧ t2 ≠ l := by
      obtain ⟨_, _, _, x1, x2, _⟩ := B2.ex
      exact ⟨ne_of q2 x1 (fun e => by cases e), ne_of q2 x2 (fun e => by cases e)⟩
    refine ⟨_, rfl, b, l, 3, rfl, B2, by decide, by decide, fun m H3 a1 a2 B3 K3 => ⟨_, _, rfl, rfl, by show 2 ≤ sizeLine; decide, fun t3 h3 => ⟨by show 3 ≤ sizeLine; decide, fun L hL => ?_⟩⟩⟩
    have s3 := Same.new (Same.refl H3) h3 (o := .tup [.str (Str.ofString "near"), .int (1 + m)])
    have s4 := Same.new (Same.refl _) hL (o := .lst [.ref t1, .ref t2, .ref t3])
    have r3 := s4 _ _ (upd_same (H := H3) (a := t3) (o := .tup [.str (Str.ofString "near"), .int (1 + m)]))
    have r4 : (upd (upd H3 t3 (.tup [.str (Str.ofString "near"), .int (1 + m)])) L (.lst [.ref t1, .ref t2, .ref t3])) L = some (.lst [.ref t1, .ref t2, .ref t3]) := upd_same
    have s34 := s3.trans s4
    have r1 := s34 _ _ (K3 _ _ q1 n1.1 n1.2)
    have r2 := s34 _ _ (K3 _ _ q2 n2.1 n2.2)
    have nL := (B3.same s3).new hL
    have B4 := B3.same s34
    have n3 : t3 ≠ b ∧ t3 ≠ l := by
      obtain ⟨_, _, _, x1, x2, _⟩ := B4.ex
      exact ⟨ne_of r3 x1 (fun e => by cases e), ne_of r3 x2 (fun e => by cases e)⟩
    have K4 : Kp b l H _ := ((Kp.of s12).trans K3).trans (Kp.of s34)
    generalize upd (upd H3 t3 (.tup [.str (Str.ofString "near"), .int (1 + m)])) L (.lst [.ref t1, .ref t2, .ref t3]) = H4 at B4 K4 r1 r2 r3 r4 ⊢
    refine ⟨_, rfl, b, l, 3, rfl, B4, by decide, by decide, fun n H5 b1 b2 B5 K5 => ?_⟩
    have e5 := K5 _ _ r4 nL.1 nL.2
    have fin : ∀ (t : Addr) (r : Rl), atI [V.ref t1, V.ref t2, V.ref t3] n = some (V.ref t) → r.Ok → H5 t = some (.tup r.vs) → tOp (rIxL K) (fun _ H Q => Q (.ref L) H) (fun _ H Q => Q (.int n) H) ([] : L2.St) H5 Q := fun t r e1 e2 e3 =>
      ⟨L, _, n, _, rfl, rfl, .inl (.inl e5), e1, k t r H5 e2 (.inl (.inl e3)) B5 (K4.trans K5)⟩
    have hn : n = 0 ∨ n = 1 ∨ n = 2 := by omega
    rcases hn with rfl | rfl | rfl
    · exact fin t1 .plain rfl trivial (K5 _ _ r1 n1.1 n1.2)
    · exact fin t2 .rows rfl trivial (K5 _ _ r2 n2.1 n2.2)
    · refine fin t3 (.near (1 + m).toNat) rfl (show 1 ≤ (1 + m).toNat ∧ (1 + m).toNat ≤ 22 by omega) ?_
      show H5 t3 = some (.tup [.str "near", .int (((1 + m).toNat : Nat) : Int)])
      rw [Int.toNat_of_nonneg (by omega)]
      exact K5 _ _ r3 n3.1 n3.2
end
end Om

namespace Om
open PySem PySem.Spec PyProof.Rows L2 LamX
theorem vz_erase : ∀ (t : TC) (k : Nat), (vz t).eraseIdx k = vz (t.eraseIdx k)
  | [], _ => rfl
  | _ :: _, 0 => rfl
  | a :: r, k + 1 => by
    show V.ref a.1 :: (vz r).eraseIdx k = V.ref a.1 :: vz (r.eraseIdx k)
    rw [vz_erase r k]
theorem eqv_cells_nil (cs : List Cell) : PyData.eqv (.list (cs.map cdp)) (.list []) = cs.isEmpty := by
  cases cs <;> simp [PyData.eqv, PyData.eqvAll]
section
variable {P : Program} {w : World} {K : PySem.W.Frag} {mg : Str → Option Value} {base : Heap}
abbrev nLS : List Str := ["_law_h", "_law_cells_here", "_law_most", "_law_left", "_law_found", "_law_k"]
theorem scLS : FnScope nLS ["_law_h", "_law_cells_here", "_law_most"] (defScope sLSome) := ⟨rfl, rfl, rfl, by decide +kernel, rfl, by decide +kernel, by decide +kernel⟩
theorem ok_lsome {f : Addr} {fd : FuncData} (F : FnP K "_law_some" "_law_some" sLSome f fd) (NX : Cal P w K mg base CX0 1 "_law_next" ["_law_h", "_law_limit"] spNext)
    (grange : mg "range" = none) (glen : mg "len" = none) (glist : mg "list" = none) (gtuple : mg "tuple" = none) (gsorted : mg "sorted" = none) : FnOk P w K mg base CX0 2 f fd ["_law_h", "_law_cells_here", "_law_most"] spLSome := by
  refine F.ok scLS (fun vs H Q E h => ?_) (fun cdv A outer s H vs Q E hr h => ?_)
  · obtain ⟨b, l, ca, t, m, rfl, _⟩ := h
    rfl
  · obtain ⟨b, l, ca, t, m, rfl, B, hC, hT, htl, hm, k⟩ := h
    have nd := scLS.nd
    refine ⟨_, PSs.nox (pss_cons (ps_par (i := 3) (j := 4) rfl nd rfl rfl (by decide) rfl rfl (pa_cons (pe_callTy call_list_of (by rfl) glist (by decide +kernel) (pa_cons (pv 1) pa_nil)) (pa_cons (pe_lst pa_nil) pa_nil)) rfl)
      (pss_cons (ps_for PassesOwn.never rfl (pi_range1 rfl grange (pa_cons (pe_cal NX hr pass0 (pa_cons (pv 0) (pa_cons (pe_op op_add (pv 2) pe_int) pa_nil))) pa_nil)) (pg_name (i := 5) nd rfl (.inl rfl))
        (pss_one (ps_if (pt_cmpR (op_neD hr.units) (pv 3) (pe_lst pa_nil) (nomark _))
          (pss_one (ps_expr (pe_bm PySem.F.plainAttrs_list PySem.F.slot_list_append PySem.F.type_list_append mt_append (pv 4) (pa_cons
            (pe_bm PySem.F.plainAttrs_list PySem.F.slot_list_pop PySem.F.type_list_pop mt_popAt (pv 3) (pa_cons (pe_cal NX hr pass0 (pa_cons (pv 0) (pa_cons (pe_callB call_len_seq (by rfl) glen PySem.boot_len (pa_cons (pv 3) pa_nil)) pa_nil))) pa_nil)) pa_nil)))) pss_nil)))
      (pss_one (ps_ret (pe_callTy call_tuple_of (by rfl) gtuple (by decide +kernel) (pa_cons (pe_callB cr_sortedP (by rfl) gsorted (by decide +kernel) (pa_cons (pv 4) pa_nil)) pa_nil)))))), ?_⟩
    refine ⟨_, rfl, ca, _, rfl, .inl (.inl (.inl hC)), fun Lf hLf => ⟨by show 0 ≤ sizeLine; decide, fun Fo hFo => ⟨_, _, rfl, ?_⟩⟩⟩
    have s1 := Same.new (Same.refl H) hLf (o := .lst (vz t))
    have s2 := Same.new (Same.refl _) hFo (o := .lst [])
    have s12 := s1.trans s2
    have hF0 : H Fo = none := Same.none s1 hFo
    have nLF : Lf ≠ Fo := fun e => by rw [← e, upd_same] at hFo; cases hFo
    have q1 := s2 _ _ (upd_same (H := H) (a := Lf) (o := .lst (vz t)))
    have q2 : (upd (upd H Lf (.lst (vz t))) Fo (.lst [])) Fo = some (.lst []) := upd_same
    obtain ⟨Lb, Ll⟩ := B.new hLf
    obtain ⟨Fb, Fl⟩ := B.new hF0
    generalize upd (upd H Lf (.lst (vz t))) Fo (.lst []) = H2 at s12 q1 q2 s2 ⊢
    refine ⟨_, rfl, _, rfl, _, _, rfl, rfl, b, l, _, rfl, B.same s12, by omega, by omega, fun n H3 a1 a2 B3 K3 => ?_⟩
    refine ⟨n, rfl, by omega, by omega, ?_⟩
    refine for_range (lo := 0) (n := n.toNat) (fun i σ H' => (∃ v5, σ = [some (.ref b), some (.ref ca), some (.int (m : Nat)), some (.ref Lf), some (.ref Fo), v5]) ∧ ∃ t1 t2 : TC, H' Lf = some (.lst (vz t1)) ∧ H' Fo = some (.lst (vz t2)) ∧ CA H' t1 ∧ CA H' t2 ∧ (∀ p ∈ t1, p ∈ t) ∧ (∀ p ∈ t2, p ∈ t) ∧ t1.length ≤ 1000 ∧ t2.length ≤ i ∧ Bx H' b l ∧ Kp b l H H')
      ⟨⟨_, rfl⟩, t, [], K3 _ _ q1 Lb Ll, K3 _ _ q2 Fb Fl, (hT.same s12).kp (B.same s12) K3, CA.nil, fun p hp => hp, (fun p hp => by cases hp), htl, Nat.le_refl _, B3, (Kp.of s12).trans K3⟩ ?_ ?_
    · rintro i σ H4 hi ⟨⟨v5, rfl⟩, t1, t2, e1, e2, e3, e4, e5, e6, e7, e8, B4, K4⟩
      refine ⟨_, rfl, by show 0 ≤ sizeLine; decide, fun q hq => ?_⟩
      have s5 := Same.new (Same.refl H4) hq (o := .lst [])
      refine ⟨.list ((cz t1).map cdp), .list [], .lst (.inl (.inl (s5 _ _ e1))) (e3.same s5).dp, .lst (.inl (.inl upd_same)) .nil, sh_cells _, sh_cells [], _, rfl, ?_⟩
      rw [eqv_cells_nil]
      have e1' := s5 _ _ e1
      have e2' := s5 _ _ e2
      have e3' := e3.same s5
      have e4' := e4.same s5
      have B5 := B4.same s5
      have K5 := K4.trans (Kp.of s5)
      generalize upd H4 q (.lst []) = H5 at e1' e2' e3' e4' B5 K5 ⊢
      clear s5
      cases ht : t1 with
      | nil =>
        subst ht
        exact iteF' rfl ⟨⟨_, rfl⟩, [], t2, e1', e2', e3', e4', e5, e6, e7, by omega, B5, K5⟩
      | cons p0 r0 =>
        rw [← ht]
        have h0 : 0 < t1.length := by rw [ht]; exact Nat.succ_pos _
        refine iteT' (by rw [ht]; rfl) ?_
        refine ⟨_, rfl, .inl ⟨rfl, _, .inl (.inl e2')⟩, ?_⟩
        refine ⟨_, rfl, .inl ⟨rfl, _, .inl (.inl e1')⟩, ?_⟩
        refine ⟨_, rfl, _, rfl, Lf, _, rfl, .inl (.inl (.inl e1')), b, l, _, rfl, B5, by rw [vz_len]; omega, by rw [vz_len]; omega, fun j H6 b1 b2 B6 K6 => ?_⟩
        rw [vz_len] at b2
        have hj : j.toNat < t1.length := by omega
        have hx : (vz t1)[j.toNat]? = some (V.ref (t1[j.toNat]).1) := by
          unfold vz
          rw [List.getElem?_map, List.getElem?_eq_getElem hj]
          rfl
        have hmem : t1[j.toNat] ∈ t1 := List.getElem_mem hj
        have e16 := K6 _ _ e1' Lb Ll
        have e26 := K6 _ _ e2' Fb Fl
        have e36 := e3'.kp B5 K6
        have e46 := e4'.kp B5 K6
        have K56 := K5.trans K6
        refine nilArgs ⟨Lf, _, j, j.toNat, _, rfl, rfl, e16, by omega, by omega, ?_, hx, ?_⟩
        · unfold seqIndex?
          rw [vz_len]
          have n1 : ¬ j < 0 := by omega
          simp only [if_neg n1]
          rw [if_pos]
          simp only [Bool.and_eq_true, decide_eq_true_eq]
          omega
        have e27 : (upd H6 Lf (.lst ((vz t1).eraseIdx j.toNat))) Fo = some (.lst (vz t2)) := by rw [upd_ne nLF.symm]; exact e26
        refine nilArgs ⟨Fo, _, _, rfl, rfl, e27, Nat.lt_of_le_of_lt (show _ ≤ 100 by rw [vz_len]; omega) (by decide), ?_⟩
        refine ⟨⟨_, rfl⟩, t1.eraseIdx j.toNat, t2 ++ [t1[j.toNat]], ?_, ?_, ?_, ?_, fun p hp => e5 p (List.mem_of_mem_eraseIdx hp), ?_, ?_, ?_, (B6.updL Lb Ll).updL Fb Fl, (K56.updL hLf).updL hF0⟩
        · rw [upd_ne nLF, upd_same, vz_erase]
        · rw [upd_same, vz_app]
          rfl
        · exact CA.updL (CA.updL (fun p hp => e36 p (List.mem_of_mem_eraseIdx hp)) e16) e27
        · exact CA.updL (CA.updL (CA.app e46 (CA.one (e36 _ hmem))) e16) e27
        · intro p hp
          rcases List.mem_append.mp hp with h | h
          · exact e6 p h
          · rw [List.mem_singleton.mp h]
            exact e5 _ hmem
        · have := List.length_eraseIdx_le t1 j.toNat
          omega
        · rw [List.length_append, List.length_singleton]
          omega
    · rintro σ H4 ⟨⟨v5, rfl⟩, t1, t2, e1, e2, e3, e4, e5, e6, e7, e8, B4, K4⟩
      refine ⟨_, rfl, Fo, _, rfl, .inl (.inl e2), fun x hx => ?_, fun ys p hp hpn => ?_⟩
      · obtain ⟨p, hp, rfl⟩ := List.mem_map.mp hx
        exact ⟨p.1, _, _, rfl, e4 p hp⟩
      · obtain ⟨u, rfl, hu⟩ := vz_of (t := t2) (fun x hx => hp.mem_iff.mp hx)
        have s5 := Same.new (Same.refl H4) hpn (o := .lst (vz u))
        refine nilArgs ⟨p, _, rfl, .inl ⟨.inl (.inl upd_same), fun q hq => ?_⟩⟩
        have s6 := Same.new (Same.refl _) hq (o := .tup (vz u))
        have hl := hp.length_eq
        rw [vz_len, vz_len] at hl
        refine k q u _ upd_same ((CA.same (fun x hx => e4 x (hu x hx)) s5).same s6) (fun x hx => List.mem_map_of_mem (e6 x (hu x hx))) (by omega) (B4.same (s5.trans s6)) (K4.trans (Kp.of (s5.trans s6)))
end
end Om

namespace Om
open PySem PySem.Spec PyProof.Rows L2 LamX
theorem slLK {X : Cx} {K : PySem.W.Frag} (hK : X.K = K) : SlR X (rSlL K) := by
  subst hK
  exact sl_list
theorem piLK {X : Cx} {K : PySem.W.Frag} {tg l : Expr} {tl : TE} (hK : X.K = K) (hl : PE X l tl) : PI X tg l (iList K tl) := by
  subst hK
  exact pi_list hl
theorem eqDK {X : Cx} {K : PySem.W.Frag} (hK : X.K = K) (hu : X.A.units + 64 < cLine) : OpR X (compareOp .Eq) (rEqD K) := by
  subst hK
  exact op_eqD hu
theorem passE0 {P : Program} {w : World} {X : Cx} : Passes (L2.CX P w) X E0 := fun pins σ H s e s' I h => by
  obtain ⟨a, B, H', cls, d, _, _, _, _, _, _, _, z⟩ := h
  exact z.elim
/-- Island(rows), the rows told -/
theorem mk_read {K : PySem.W.Frag} {CI C0 a x dx : Addr} {H : Hp} {W : Hp → Prop} {E : XK} {rows : List (List Nat)} (ok : RowsOk 12 rows) (hS : SqT K H a (rows.map vt)) (hx : H x = none) (hdx : H dx = none) (k : ∀ H', Same H H' → Isl K CI H' x rows → W H') :
    spIsl K CI C0 (.ref x :: ([.ref a] ++ [])) (upd (upd H dx (.own x)) x (.ins CI dx [])) (fun v H2 => v = .non ∧ W H2) E := by
  have g := ok.good (Nat.le_refl _)
  have s2 : Same H (upd (upd H dx (.own x)) x (.ins CI dx [])) := fun c o hc => by
    rw [upd_ne (ne_of_none hc hx), upd_ne (ne_of_none hc hdx)]
    exact hc
  refine ⟨x, dx, a, rows, rfl, upd_same, Same.tup s2 hS, g.le, g.lens, fun e H2 k1 k2 => ⟨rfl, ?_⟩, fun r c e => by rw [chk_rows ok (Nat.le_refl _)] at e; cases e⟩
  have s3 : Same H H2 := fun c o hc => k1 c o (s2 c o hc) (ne_of_none hc hx)
  exact k H2 s3 ⟨dx, a, k2, Same.tup s3 hS⟩
theorem RowsOk.to12 {m : Nat} {rows : List (List Nat)} (h : RowsOk m rows) (hm : m ≤ 12) : RowsOk 12 rows := by
  obtain ⟨h1, h2, wd, w1, w2, hr⟩ := h
  exact ⟨h1, Nat.le_trans h2 hm, wd, w1, Nat.le_trans w2 hm, hr⟩
/-! ### what is left, by one filter -/
theorem leftA_one (r : Rl) : ∀ (ds : List Dig) (ps : List Cell), leftA r ps ds = ps.filter fun p => (ds.filter fun d => !decide (told r d.1 p = d.2)).isEmpty
  | [], ps => by
    show ps = _
    rw [List.filter_eq_self.mpr]
    intro a _
    rfl
  | d :: ds, ps => by
    have ih := leftA_one r ds (ps.filter fun p => decide (told r d.1 p = d.2))
    show leftA r (ps.filter fun p => decide (told r d.1 p = d.2)) ds = _
    rw [ih, List.filter_filter]
    congr 1
    funext p
    rw [List.filter_cons]
    by_cases e : told r d.1 p = d.2
    · simp [e]
    · simp [e]
theorem wrong_head (r : Rl) (ps : List Cell) (ds : List Dig) : ((List.range ds.length).filter fun i => (leftA r ps (ds.take (i + 1))).isEmpty).head? = firstW r ps ds := by
  rw [List.head?_filter]
  rfl
theorem told_ok (r : Rl) (c p : Cell) : PyData.strOk (told r c p) = true := by
  have h := told_mem r c p
  have key : ∀ z ∈ words r, PyData.strOk z = true := by
    intro z hz
    cases r with
    | plain =>
      rcases List.mem_cons.mp hz with rfl | hz
      · decide +kernel
      rcases List.mem_cons.mp hz with rfl | hz
      · decide +kernel
      cases hz
    | rows =>
      rcases List.mem_cons.mp hz with rfl | hz
      · decide +kernel
      rcases List.mem_cons.mp hz with rfl | hz
      · decide +kernel
      rcases List.mem_cons.mp hz with rfl | hz
      · decide +kernel
      rcases List.mem_cons.mp hz with rfl | hz
      · decide +kernel
      cases hz
    | near m =>
      rcases List.mem_cons.mp hz with rfl | hz
      · decide +kernel
      rcases List.mem_cons.mp hz with rfl | hz
      · decide +kernel
      rcases List.mem_cons.mp hz with rfl | hz
      · decide +kernel
      cases hz
  exact key _ h
theorem noL_digs : ∀ ds : List Dig, noLs (ds.map digD) = true
  | [] => rfl
  | d :: r => by
    have ih := noL_digs r
    simp only [List.map_cons, noLs, digD, noL, cdp, ih, Bool.and_self]
theorem okD_cells {cs : List Cell} (h : cs.length ≤ 10000) : okD 3 (.list (cs.map cdp)) = true := by
  show (decide ((cs.map cdp).length ≤ 10000) && (cs.map cdp).all (okD 2)) = true
  rw [Bool.and_eq_true, decide_eq_true_eq, List.length_map, List.all_eq_true]
  refine ⟨h, fun d hd => ?_⟩
  obtain ⟨c, _, rfl⟩ := List.mem_map.mp hd
  rfl
structure CalM (P : Program) (w : World) (K : PySem.W.Frag) (mg : Str → Option Value) (base : Heap) (CX : CXT) (k : Nat) (f : Addr) (ps : List Str) (sp : Sp) : Prop where
  ex : ∃ fd : FuncData, FnOk P w K mg base CX k f fd ps sp ∧ Binds K fd ps []
structure Parts (P : Program) (w : World) (K : PySem.W.Frag) (mg : Str → Option Value) (base : Heap) (CI C0 fN : Addr) : Prop where
  mix : Cal P w K mg base CX0 1 "_law_mix" ["_law_script", "_law_seed"] (spMix K)
  nxt : Cal P w K mg base CX0 1 "_law_next" ["_law_h", "_law_limit"] spNext
  row : Cal P w K mg base CX0 2 "_law_rows" ["_law_h", "_law_most"] (spLRows K)
  rul : Cal P w K mg base CX0 2 "_law_rule" ["_law_h"] (spLRule K)
  cel : Cal P w K mg base CX0 1 "_law_cells" ["_law_rows_here"] (spLCells K)
  som : Cal P w K mg base CX0 2 "_law_some" ["_law_h", "_law_cells_here", "_law_most"] spLSome
  hnl : Cal P w K mg base CX0 1 "_law_hint" ["_law_rule_here", "_law_cell", "_law_place"] (spTold K)
  alk : Cal P w K mg base CX0 4 "_law_alike" ["_law_found", "_law_due"] (spAlike K 3)
  hnt : Cal P w K mg base CX0 3 "hint" ["rule", "cell", "place"] (spHint K)
  lft : Cal P w K mg base CX0 7 "left_after" n4 (spLeftA K CI)
  fst : Cal P w K mg base CX0 7 "first_wrong" n4 (spFirstW K CI)
  isl : IslF K mg CI fN
  mkI : CalM P w K mg base (L2.CX P w) 4 fN ["self", "rows"] (spIsl K CI C0)
/-- what a turn of the law has at hand -/
structure GG (K : PySem.W.Frag) (CI : Addr) (H : Hp) (b l rr xi ce sp pl : Addr) (rows : List (List Nat)) (r : Rl) (t us : TC) (pc : Cell) : Prop where
  B : Bx H b l
  R : SqT K H rr r.vs
  rok : r.Ok
  I : Isl K CI H xi rows
  vd : Vd rows
  C : H ce = some (.lst (vz t))
  cb : ce ≠ b ∧ ce ≠ l
  ca : CA H t
  ct : cz t = cellsOf rows
  cne : cellsOf rows ≠ []
  S : H sp = some (.tup (vz us))
  sa : CA H us
  sin : ∀ q ∈ us, q.2 ∈ cellsOf rows
  sl : us.length ≤ 8
  P : SqT K H pl (cvs pc)
  pin : pc ∈ cellsOf rows
theorem GG.kp {K : PySem.W.Frag} {CI : Addr} {H H' : Hp} {b l rr xi ce sp pl : Addr} {rows : List (List Nat)} {r : Rl} {t us : TC} {pc : Cell} (g : GG K CI H b l rr xi ce sp pl rows r t us pc) (B' : Bx H' b l) (k : Kp b l H H') : GG K CI H' b l rr xi ce sp pl rows r t us pc :=
  { B := B', R := SqT.kp g.B k g.R, rok := g.rok, I := Isl.kp g.B k g.I, vd := g.vd, C := k _ _ g.C g.cb.1 g.cb.2, cb := g.cb, ca := g.ca.kp g.B k, ct := g.ct, cne := g.cne
    S := by
      obtain ⟨_, _, _, h1, h2, _⟩ := g.B.ex
      exact k _ _ g.S (ne_of g.S h1 fun e => by cases e) (ne_of g.S h2 fun e => by cases e)
    sa := g.sa.kp g.B k, sin := g.sin, sl := g.sl, P := SqT.kp g.B k g.P, pin := g.pin }
theorem GG.same {K : PySem.W.Frag} {CI : Addr} {H H' : Hp} {b l rr xi ce sp pl : Addr} {rows : List (List Nat)} {r : Rl} {t us : TC} {pc : Cell} (g : GG K CI H b l rr xi ce sp pl rows r t us pc) (s : Same H H') : GG K CI H' b l rr xi ce sp pl rows r t us pc := g.kp (g.B.same s) (Kp.of s)
theorem GG.updL {K : PySem.W.Frag} {CI : Addr} {H : Hp} {b l rr xi ce sp pl : Addr} {rows : List (List Nat)} {r : Rl} {t us : TC} {pc : Cell} {D : Addr} {ys zs : List V} (g : GG K CI H b l rr xi ce sp pl rows r t us pc) (hD : H D = some (.lst ys)) (n1 : D ≠ b) (n2 : D ≠ l) (n3 : D ≠ ce) : GG K CI (upd H D (.lst zs)) b l rr xi ce sp pl rows r t us pc :=
  { B := g.B.updL n1 n2, R := SqT.updL hD g.R, rok := g.rok
    I := by
      obtain ⟨dx, p, hp, hS⟩ := g.I
      exact ⟨dx, p, by rw [upd_ne (ne_of hp hD fun e => by cases e)]; exact hp, SqT.updL hD hS⟩
    vd := g.vd, C := by rw [upd_ne n3.symm]; exact g.C
    cb := g.cb, ca := g.ca.updL hD, ct := g.ct, cne := g.cne, S := by rw [upd_ne (ne_of g.S hD fun e => by cases e)]; exact g.S
    sa := g.sa.updL hD, sin := g.sin, sl := g.sl, P := SqT.updL hD g.P, pin := g.pin }
/-- the digs -/
structure DG (K : PySem.W.Frag) (H : Hp) (dg : Addr) (rows : List (List Nat)) (r : Rl) (ds : List Dig) : Prop where
  ex : ∃ xs, H dg = some (.lst xs) ∧ DpAll K H xs (ds.map digD)
  din : ∀ d ∈ ds, d.1 ∈ cellsOf rows ∧ d.2 ∈ words r
theorem DG.kp {K : PySem.W.Frag} {H H' : Hp} {b l dg : Addr} {rows : List (List Nat)} {r : Rl} {ds : List Dig} (d : DG K H dg rows r ds) (B : Bx H b l) (k : Kp b l H H') (n1 : dg ≠ b) (n2 : dg ≠ l) : DG K H' dg rows r ds := by
  obtain ⟨⟨xs, h1, h2⟩, h3⟩ := d
  exact ⟨⟨xs, k _ _ h1 n1 n2, dpAll_noL (fun a ys h => SqT.kp B k h) (noL_digs ds) h2⟩, h3⟩
theorem DG.same {K : PySem.W.Frag} {H H' : Hp} {dg : Addr} {rows : List (List Nat)} {r : Rl} {ds : List Dig} (d : DG K H dg rows r ds) (s : Same H H') : DG K H' dg rows r ds := by
  obtain ⟨⟨xs, h1, h2⟩, h3⟩ := d
  exact ⟨⟨xs, s _ _ h1, Same.dpAll s h2⟩, h3⟩
end Om

namespace Om
open PySem PySem.Spec PyProof.Rows L2 LamX
abbrev sLaw : Stmt := top 38
abbrev nLaw : List Str := ["_law_script", "_law_h", "_law_turn", "_law_rows_here", "_law_rule_here", "_law_island", "_law_cells_here", "_law_spots", "_law_digs", "_law_place", "_law_k", "_law_cell", "_law_other", "_law_told", "_law_counts", "_law_due", "_law_wrong", "_law_one", "_law_dig"]
theorem scLaw : FnScope nLaw ["_law_script"] (defScope sLaw) := ⟨rfl, rfl, rfl, by decide +kernel, rfl, by decide +kernel, by decide +kernel⟩
def forBody (s : Stmt) : List Stmt := match s with
  | .For _ _ b _ _ => b
  | _ => []
def lawB : List Stmt := forBody ((defBody sLaw).getD 1 noS)
def dueLc : Expr := asgExpr (inFor (lawB.getD 6 noS) 0)
def lcIf (e : Expr) : Expr := match e with
  | .ListComp _ [⟨_, _, [c], _⟩] _ _ => c
  | _ => .Constant .none 0 ⟨0, 0, 0, 0⟩
theorem blkD1 : BlkOk nLaw (defScope sLaw) (lcScope dueLc) [("_law_one", 17)] := blkOk_by (by decide +kernel)
theorem blkD2 : BlkOk nLaw (relab (lcScope dueLc) (defScope sLaw)) (lcScope (cmpL (lcIf dueLc))) [("_law_dig", 18)] := blkOk_by (by decide +kernel)
def wrongLc : Expr := asgExpr (lawB.getD 7 noS)
theorem blkD3 : BlkOk nLaw (defScope sLaw) (lcScope wrongLc) [("_law_k", 10)] := blkOk_by (by decide +kernel)
def tl5 : List Stmt := lawB.drop 5
def cnts (r : Rl) (ps : List Cell) (ds : List Dig) (n : Nat) : List V := (List.range n).map fun i => V.int ((leftA r ps (ds.take i)).length : Nat)
theorem cnts_succ (r : Rl) (ps : List Cell) (ds : List Dig) (n : Nat) : cnts r ps ds (n + 1) = cnts r ps ds n ++ [V.int ((leftA r ps (ds.take n)).length : Nat)] := by
  unfold cnts
  rw [List.range_succ, List.map_append]
  rfl
theorem cnts_len (r : Rl) (ps : List Cell) (ds : List Dig) (n : Nat) : (cnts r ps ds n).length = n := by unfold cnts; rw [List.length_map, List.length_range]
theorem cutV_take (xs : List V) (k : Nat) (h : k ≤ xs.length) : cutV xs none (some (k : Int)) = xs.take k := by
  unfold cutV
  have e1 : HT.sIx xs.length 0 none = 0 := rfl
  rw [e1, HT.sIx_nat, List.drop_zero, Nat.sub_zero, Nat.min_eq_left h]
theorem dpAll_take {K : PySem.W.Frag} {H : Hp} : ∀ {xs : List V} {ds : List PyData} (n : Nat), DpAll K H xs ds → DpAll K H (xs.take n) (ds.take n)
  | [], [], n, _ => by cases n <;> exact .nil
  | _ :: _, _ :: _, 0, _ => .nil
  | _ :: _, _ :: _, n + 1, .cons h t => .cons h (dpAll_take n t)
theorem lay_digs (ds : List Dig) (h : ∀ d ∈ ds, PyData.strOk d.2 = true) : PyData.canLayAll0 (ds.map digD) = true := by
  induction ds with
  | nil => simp [PyData.canLayAll0]
  | cons d r ih => simp only [List.map_cons, PyData.canLayAll0, digD, cdp, PyData.canLay0, ih fun x hx => h x (List.mem_cons_of_mem _ hx), h d (List.mem_cons_self ..), Bool.and_self]
theorem dep_digs (ds : List Dig) : PyData.depthAll (ds.map digD) ≤ 2 := by
  induction ds with
  | nil => simp [PyData.depthAll]
  | cons c r ih => simp [PyData.depthAll, digD, cdp, PyData.depth]; omega
theorem sh_digs (ds : List Dig) (h : ∀ d ∈ ds, PyData.strOk d.2 = true) : SeqAt.shaped (.list (ds.map digD)) = true := shaped_of (by simp only [PyData.canLay0]; exact lay_digs ds h) (by have := dep_digs ds; simp only [PyData.depth]; omega)
theorem eqv_digs_nil (ds : List Dig) : PyData.eqv (.list (ds.map digD)) (.list []) = ds.isEmpty := by
  cases ds <;> simp [PyData.eqv, PyData.eqvAll]
theorem word_ok {r : Rl} {z : Str} (h : z ∈ words r) : PyData.strOk z = true := by
  cases r with
  | plain =>
    rcases List.mem_cons.mp h with rfl | h
    · decide +kernel
    rcases List.mem_cons.mp h with rfl | h
    · decide +kernel
    cases h
  | rows =>
    rcases List.mem_cons.mp h with rfl | h
    · decide +kernel
    rcases List.mem_cons.mp h with rfl | h
    · decide +kernel
    rcases List.mem_cons.mp h with rfl | h
    · decide +kernel
    rcases List.mem_cons.mp h with rfl | h
    · decide +kernel
    cases h
  | near m =>
    rcases List.mem_cons.mp h with rfl | h
    · decide +kernel
    rcases List.mem_cons.mp h with rfl | h
    · decide +kernel
    rcases List.mem_cons.mp h with rfl | h
    · decide +kernel
    cases h
def wrs (r : Rl) (ps : List Cell) (ds : List Dig) (n : Nat) : List Int := ((List.range n).filter fun i => (leftA r ps (ds.take (i + 1))).isEmpty).map fun i => ((i : Nat) : Int)
section
variable {P : Program} {w : World} {K : PySem.W.Frag} {mg : Str → Option Value} {base : Heap} {CI C0 fN : Addr}
theorem law_tail5 {f : Addr} {cdv : Value} (PP : Parts P w K mg base CI C0 fN) (grange : mg "range" = none) (glen : mg "len" = none)
    {A : Around} {outer : List Env} {s : Shared} {H0 : Hp} {E : XK} (hr : Room 8 (A.deeper (envOfC "law" (defScope sLaw) s.heap.objs.size f cdv))) :
    ∃ t, PSs (cxOf CX0 P w K mg base nLaw "law" (defScope sLaw) f cdv A outer s H0 E).nox tl5 t ∧
      ∀ (Dn : Ends) (b l rr xi ce sp pl dg : Addr) (rows : List (List Nat)) (r : Rl) (tc us : TC) (pc : Cell) (ds : List Dig) (H : Hp) (v0 v2 v3 v10 v11 v12 v13 v14 v15 v16 v17 v18 : Option V),
        GG K CI H b l rr xi ce sp pl rows r tc us pc → DG K H dg rows r ds → ds.length ≤ 5 →
        (∀ H' v2 v3 v4 v5 v6 v7 v8 v9 v10 v11 v12 v13 v14 v15 v16 v17 v18, Bx H' b l → Dn.nx [v0, some (.ref b), v2, v3, v4, v5, v6, v7, v8, v9, v10, v11, v12, v13, v14, v15, v16, v17, v18] H') →
        t Dn [v0, some (.ref b), v2, v3, some (.ref rr), some (.ref xi), some (.ref ce), some (.ref sp), some (.ref dg), some (.ref pl), v10, v11, v12, v13, v14, v15, v16, v17, v18] H := by
  have nd := scLaw.nd
  have hr1 : Room 1 _ := hr.mono (by decide)
  have hr4 : Room 4 _ := hr.mono (by decide)
  have hr7 : Room 7 _ := hr.mono (by decide)
  refine ⟨_, pss_cons (ps_set (i := 14) nd rfl (.inr rfl) (pe_lst pa_nil))
    (pss_cons (ps_for PassesOwn.never rfl (pi_range1 rfl grange (pa_cons (pe_op op_add (pe_callB call_len_seq (by rfl) glen PySem.boot_len (pa_cons (pv 8) pa_nil)) pe_int) pa_nil)) (pg_name (i := 10) nd rfl (.inr rfl))
      (pss_cons (ps_setLc (i := 15) (own := [("_law_one", 17)]) (g := gName 17) rfl nd rfl rfl (sw_true rfl rfl rfl (by decide +kernel)) (pi_tup (pv 7)) blkD1 (fun _ _ _ _ _ => pg_name (i := 17) nd rfl (.inr rfl))
          (fun _ _ _ _ _ => pts_one (pt_cmpR (eqDK (K := K) rfl hr.units) (pe_lc (own := [("_law_dig", 18)]) (g := gName 18) rfl nd (piLK (K := K) rfl (pe_slice (slLK (K := K) rfl) (pv 8) po_none (po_some (pv 10)))) blkD2 (fun _ _ _ _ _ => pg_name (i := 18) nd rfl (.inl rfl))
              (fun _ _ _ _ _ => pts_one (pt_cmpR op_ne (pe_cal PP.hnl hr1 pass0 (pa_cons (pv 4) (pa_cons (pe_ix (ixtK (K := K) rfl) (pv 18) pe_int (fun _ _ => rfl)) (pa_cons (pv 17) pa_nil)))) (pe_ix (ixtK (K := K) rfl) (pv 18) pe_int (fun _ _ => rfl)) (nomark _))) (fun _ _ _ _ _ => pv 18)) (pe_lst pa_nil) (nomark _))) (fun _ _ _ _ _ => pv 17))
      (pss_cons (ps_expr (pe_bm PySem.F.plainAttrs_list PySem.F.slot_list_append PySem.F.type_list_append mt_append (pv 14) (pa_cons (pe_callB call_len_seq (by rfl) glen PySem.boot_len (pa_cons (pv 15) pa_nil)) pa_nil)))
      (pss_one (ps_if (pt_not (pt_val (pe_cal PP.alk hr4 pass0 (pa_cons (pe_cal PP.lft hr7 pass0 (pa_cons (pv 5) (pa_cons (pv 7) (pa_cons (pv 4) (pa_cons (pe_slice sl_list (pv 8) po_none (po_some (pv 10))) pa_nil))))) (pa_cons (pv 15) pa_nil))))) pss_no pss_nil)))))
    (pss_cons (ps_setLc (i := 16) (own := [("_law_k", 10)]) (g := gName 10) rfl nd rfl rfl (sw_true rfl rfl rfl (by decide +kernel)) (pi_range2 rfl grange (pa_cons pe_int (pa_cons (pe_callB call_len_seq (by rfl) glen PySem.boot_len (pa_cons (pv 14) pa_nil)) pa_nil))) blkD3 (fun _ _ _ _ _ => pg_name (i := 10) nd rfl (.inl rfl))
        (fun _ _ _ _ _ => pts_one (pt_cmpR op_eq (pe_ix (ixlK (K := K) rfl) (pv 14) (pv 10) (fun _ _ => rfl)) pe_int (nomark _))) (fun _ _ _ _ _ => pe_op op_sub (pv 10) pe_int))
    (pss_one (ps_if (pt_not (pt_val (pe_cal PP.alk hr4 pass0 (pa_cons (pe_cal PP.fst hr7 pass0 (pa_cons (pv 5) (pa_cons (pv 7) (pa_cons (pv 4) (pa_cons (pv 8) pa_nil))))) (pa_cons (pe_ifExp (pt_cmpR (op_neD hr.units) (pv 16) (pe_lst pa_nil) (nomark _)) (pe_ix ix_list (pv 16) pe_int (fun _ _ => rfl)) pe_non) pa_nil))))) pss_no pss_nil)))), ?_⟩
  intro Dn b l rr xi ce sp pl dg rows r tc us pc ds H v0 v2 v3 v10 v11 v12 v13 v14 v15 v16 v17 v18 g d hds kn
  obtain ⟨⟨xs, hxs, hxd⟩, din⟩ := id d
  have lxs := dpAll_len hxd
  rw [List.length_map] at lxs
  have hsl := g.sl
  let ps : List Cell := cz us
  have lps : ps.length ≤ 8 := by show (cz us).length ≤ 8; rw [cz_len]; exact hsl
  have lb : ∀ (H' : Hp) (da : Addr) (ys : List V) (es : List Dig), Same H H' → H' da = some (.lst ys) → DpAll K H' ys (es.map digD) → (∀ e ∈ es, e ∈ ds) → es.length ≤ ds.length → LB K CI H' xi sp rr da rows ps r es := fun H' da ys es s' h1 h2 h3 h4 =>
    { I := g.I.same s', g := g.vd.toGood2, P := .tup (.inl (.inl (s' _ _ g.S))) (g.sa.same s').dp
      pin := fun c hc => by
        obtain ⟨q, hq, rfl⟩ := List.mem_map.mp hc
        exact g.sin q hq
      R := Same.tup s' g.R, rok := g.rok, D := .lst (.inl (.inl h1)) h2, din := fun e he => din e (h3 e he), pl := by omega, dl := by omega }
  refine ⟨by show 0 ≤ sizeLine; decide, fun cn hcn => ?_⟩
  have s0 := Same.new (Same.refl H) hcn (o := .lst [])
  refine ⟨_, rfl, dg, xs, rfl, .inl (.inl (.inl (s0 _ _ hxs))), _, _, rfl, rfl, _, rfl, by omega, by omega, ?_⟩
  refine for_range (lo := 0) (n := ((xs.length : Nat) + 1 : Int).toNat) (fun k σ H' => Same H H' ∧ H' cn = some (.lst (cnts r ps ds k)) ∧ ∃ v10 v15, σ = [v0, some (.ref b), v2, v3, some (.ref rr), some (.ref xi), some (.ref ce), some (.ref sp), some (.ref dg), some (.ref pl), v10, v11, v12, v13, some (.ref cn), v15, v16, v17, v18])
    ⟨s0, upd_same, _, _, rfl⟩ ?_ ?_
  · rintro k σ H4 hk ⟨s4, h4, v10, v15, rfl⟩
    have hkl : k ≤ ds.length := by omega
    have hkx : k ≤ xs.length := by omega
    have S4 := s4 _ _ g.S
    refine ⟨_, rfl, sp, rfl, ⟨_, .inl (.inl S4)⟩, fun D hD => ?_⟩
    let F (p : Cell) : Bool := ((ds.take k).filter fun d => !decide (told r d.1 p = d.2)).isEmpty
    have hDcn : D ≠ cn := fun e => by rw [e, h4] at hD; cases hD
    refine lc_tup (K := K) (a := sp) (xs := vz us) (fun j H5 => ∃ u : TC, H5 D = some (.lst (vz u)) ∧ (∀ p ∈ u, p ∈ us) ∧ cz u = ((cz us).take j).filter F ∧ Same H4 H5)
      ⟨[], upd_same, fun p hp => (by cases hp), rfl, Same.new (Same.refl H4) hD⟩ (fun j H5 _ q => by obtain ⟨_, _, _, _, q⟩ := q; exact .inl (.inl (q _ _ S4))) ?_ ?_
    · rintro j x H5 hx ⟨u, u1, u2, u3, s5⟩
      have hj : j < us.length := by
        have := (List.getElem?_eq_some_iff.mp hx).1
        rwa [vz_len] at this
      have hxe : x = .ref us[j].1 := by
        unfold vz at hx
        rw [List.getElem?_map, List.getElem?_eq_getElem hj] at hx
        exact (Option.some.inj hx).symm
      subst hxe
      have hmem : us[j] ∈ us := List.getElem_mem hj
      have s45 := s4.trans s5
      have hq := g.sa.same s45 _ hmem
      have hul : u.length ≤ 8 := by
        have e := congrArg List.length u3
        rw [cz_len] at e
        have h2 := List.length_filter_le F ((cz us).take j)
        rw [List.length_take, cz_len] at h2
        omega
      have ez : (cz us).take (j + 1) = (cz us).take j ++ [us[j].2] := by
        rw [List.take_succ]
        unfold cz
        rw [List.getElem?_map, List.getElem?_eq_getElem hj]
        rfl
      have eF : ((cz us).take (j + 1)).filter F = ((cz us).take j).filter F ++ (if F us[j].2 = true then [us[j].2] else []) := by
        rw [ez, List.filter_append, List.filter_cons]
        rfl
      refine ⟨rfl, ?_⟩
      refine ⟨_, rfl, noPart ⟨_, rfl, _, rfl, dg, xs, rfl, .inl (.inl (s45 _ _ hxs)), fun S hS => ?_⟩⟩
      rw [Int.zero_add, cutV_take xs k hkx]
      have s6 := Same.new (Same.refl H5) hS (o := .lst (xs.take k))
      have hS6 : (upd H5 S (.lst (xs.take k))) S = some (.lst (xs.take k)) := upd_same
      generalize upd H5 S (.lst (xs.take k)) = H6 at s6 hS6 ⊢
      have s46 := s45.trans s6
      have hxk : DpAll K H6 (xs.take k) ((ds.take k).map digD) := by
        rw [List.map_take]
        exact dpAll_take k (Same.dpAll s46 hxd)
      have lxk := dpAll_len hxk
      rw [List.length_map] at lxk
      have hq6 := s6 _ _ hq
      have R6 := Same.tup s46 g.R
      let N (e : Dig) : Bool := !decide (told r e.1 us[j].2 = e.2)
      refine ⟨S, rfl, ⟨_, .inl (.inl hS6)⟩, fun D2 hD2 => lc_list (K := K) (a := S) (xs := xs.take k) (fun m H7 => ∃ acc, H7 D2 = some (.lst acc) ∧ DpAll K H7 acc ((((ds.take k).take m).filter N).map digD) ∧ Same H6 H7)
        ⟨[], upd_same, .nil, Same.new (Same.refl H6) hD2⟩ (fun m H7 _ q => by obtain ⟨_, _, _, q⟩ := q; exact .inl (.inl (q _ _ hS6))) ?_ ?_⟩
      · rintro m y H7 hy ⟨acc, a1, a2, s7⟩
        obtain ⟨e, he, hed⟩ := pdp_at hxk hy
        have hed7 := Same.dp s7 hed
        obtain ⟨dt, ca, rfl, hT, hC⟩ := dig_at hed7
        have la := dpAll_len a2
        rw [List.length_map] at la
        have hfl := List.length_filter_le N ((ds.take k).take m)
        rw [List.length_take, List.length_take] at hfl
        have eN : (((ds.take k).take (m + 1)).filter N) = ((ds.take k).take m).filter N ++ (if N e = true then [e] else []) := by
          rw [List.take_succ, he, List.filter_append]
          show _ ++ List.filter N [e] = _
          rw [List.filter_cons]
          rfl
        refine ⟨rfl, ?_⟩
        refine ⟨_, rfl, _, rfl, dt, _, 0, _, rfl, rfl, hT, at0, _, rfl, rr, ca, _, r, e.1, us[j].2, rfl, Same.tup s7 R6, hC, .inl (.inl (s7 _ _ hq6)), _, rfl, dt, _, 1, _, rfl, rfl, hT, rfl, rfl, _, rfl, ?_⟩
        by_cases ht : told r e.1 us[j].2 = e.2
        · have hN : N e = false := by show (!decide _) = false; rw [decide_eq_true ht]; rfl
          rw [hN, if_neg Bool.false_ne_true, List.append_nil] at eN
          refine iteF' (by rw [ht, eqS]; rfl) ⟨acc, a1, ?_, s7⟩
          rw [eN]
          exact a2
        · have hN : N e = true := by show (!decide _) = true; rw [decide_eq_false ht]; rfl
          rw [hN, if_pos rfl] at eN
          refine iteT' (by rw [neS ht]; rfl) ⟨_, rfl, acc, a1, Nat.lt_of_le_of_lt (show _ ≤ 100 by omega) (by decide), acc ++ [.ref dt], upd_same, ?_, Same.updN s7 hD2⟩
          rw [eN]
          refine dpAll_noL (fun a ys h => SqT.updL a1 h) (noL_digs _) ?_
          rw [List.map_append]
          exact dpAll_app a2 (.cons hed7 .nil)
      · rintro H7 ⟨acc, a1, a2, s7⟩
        rw [lxk, List.take_length] at a2
        refine ⟨by show 0 ≤ sizeLine; decide, fun q hqn => ?_⟩
        have s8 := Same.new (Same.refl H7) hqn (o := .lst [])
        refine ⟨.list (((ds.take k).filter N).map digD), .list [], .lst (.inl (.inl (s8 _ _ a1))) (Same.dpAll s8 a2), .lst (.inl (.inl upd_same)) .nil, sh_digs _ (fun e he => word_ok (din e (List.mem_of_mem_take (List.mem_filter.mp he).1)).2), sh_digs [] (fun e he => by cases he), _, rfl, ?_⟩
        rw [eqv_digs_nil]
        have s58 := (s6.trans s7).trans s8
        have u1' := s58 _ _ u1
        have s48 := s5.trans s58
        have eFN : F us[j].2 = ((ds.take k).filter N).isEmpty := rfl
        rw [← eFN]
        by_cases hF : F us[j].2 = true
        · rw [if_pos hF] at eF
          refine iteT' hF ⟨_, rfl, vz u, u1', Nat.lt_of_le_of_lt (show _ ≤ 100 by rw [vz_len]; omega) (by decide), u ++ [us[j]], ?_, ?_, ?_, Same.updN s48 hD⟩
          · rw [upd_same, vz_app]
            rfl
          · intro p hp
            rcases List.mem_append.mp hp with h | h
            · exact u2 p h
            · rw [List.mem_singleton.mp h]
              exact hmem
          · rw [eF, cz_app, u3]
            rfl
        · rw [if_neg hF, List.append_nil] at eF
          exact iteF' (Bool.eq_false_iff.mpr hF) ⟨u, u1', u2, by rw [eF]; exact u3, s48⟩
    · rintro H5 ⟨u, u1, u2, u3, s5⟩
      have eu : cz u = leftA r ps (ds.take k) := by
        rw [u3, leftA_one, vz_len, ← cz_len us, List.take_length]
      have lu : u.length = (leftA r ps (ds.take k)).length := by rw [← eu, cz_len]
      have hll := leftA_len r ps (ds.take k)
      have s45 := s4.trans s5
      have h5 := s5 _ _ h4
      -- the count
      refine ⟨_, rfl, .inl ⟨rfl, _, .inl (.inl h5)⟩, ?_⟩
      refine ⟨_, rfl, D, _, rfl, .inl (.inl (.inl u1)), nilArgs ⟨cn, _, _, rfl, rfl, h5, Nat.lt_of_le_of_lt (show _ ≤ 100 by rw [cnts_len]; omega) (by decide), ?_⟩⟩
      have s6 : Same H (upd H5 cn (.lst (cnts r ps ds k ++ [V.int ((vz u).length : Nat)]))) := Same.updN s45 hcn
      have h6 : (upd H5 cn (.lst (cnts r ps ds k ++ [V.int ((vz u).length : Nat)]))) cn = some (.lst (cnts r ps ds (k + 1))) := by
        rw [upd_same, cnts_succ, vz_len, lu]
      have u6 : (upd H5 cn (.lst (cnts r ps ds k ++ [V.int ((vz u).length : Nat)]))) D = some (.lst (vz u)) := by rw [upd_ne hDcn]; exact u1
      have ca6 : CA (upd H5 cn (.lst (cnts r ps ds k ++ [V.int ((vz u).length : Nat)]))) u := CA.updL (fun p hp => g.sa.same s45 p (u2 p hp)) h5
      generalize upd H5 cn (.lst (cnts r ps ds k ++ [V.int ((vz u).length : Nat)])) = H6 at s6 h6 u6 ca6 ⊢
      -- left_after
      refine ⟨_, rfl, _, rfl, _, rfl, _, rfl, noPart ⟨_, rfl, _, rfl, dg, xs, rfl, .inl (.inl (s6 _ _ hxs)), fun S hS => ?_⟩⟩
      rw [Int.zero_add, cutV_take xs k hkx]
      have s7 := Same.new (Same.refl H6) hS (o := .lst (xs.take k))
      have s67 := s6.trans s7
      refine ⟨xi, sp, rr, S, rows, ps, r, ds.take k, rfl, lb _ S (xs.take k) (ds.take k) s67 upd_same (by rw [List.map_take]; exact dpAll_take k (Same.dpAll s67 hxd)) (fun e he => List.mem_of_mem_take he) (by rw [List.length_take]; omega), fun D2 H9 s9 hd => ?_⟩
      have s69 := s7.trans s9
      refine ⟨_, rfl, _, _, .list ((leftA r ps (ds.take k)).map cdp), rfl, hd, ?_, okD_cells (by omega), fun H10 s10 => ⟨true, rfl, iteF' rfl ?_⟩⟩
      · rw [← eu]
        exact .lst (.inl (.inl (s69 _ _ u6))) (ca6.same s69).dp
      · exact ⟨s6.trans (s69.trans s10), s10 _ _ (s69 _ _ h6), _, _, rfl⟩
  · rintro σ H4 ⟨s4, h4, v10, v15, rfl⟩
    have en : ((xs.length : Nat) + 1 : Int).toNat = ds.length + 1 := by omega
    rw [en] at h4
    have lcn := cnts_len r ps ds (ds.length + 1)
    refine ⟨_, rfl, cn, _, rfl, .inl (.inl (.inl h4)), 1, _, rfl, by rw [lcn]; omega, fun D hD => ?_⟩
    rw [lcn]
    refine lc_range (lo := 1) (n := (((ds.length + 1 : Nat) : Int) - 1).toNat) (fun i H5 => H5 D = some (.lst ((wrs r ps ds i).map V.int)) ∧ Same H4 H5) ⟨upd_same, Same.new (Same.refl H4) hD⟩ ?_ ?_
    · rintro i H5 hi ⟨h5, s5⟩
      have hid : i < ds.length := by omega
      have hat : atI (cnts r ps ds (ds.length + 1)) (1 + (i : Int)) = some (V.int ((leftA r ps (ds.take (i + 1))).length : Nat)) := by
        rw [show (1 + (i : Int)) = (((i + 1 : Nat)) : Int) by omega]
        refine atI_nat ?_
        unfold cnts
        rw [List.getElem?_map, List.getElem?_range (by omega)]
        rfl
      refine ⟨rfl, ?_⟩
      refine ⟨_, rfl, _, rfl, cn, _, _, _, rfl, rfl, .inl (.inl (s5 _ _ h4)), hat, rfl, _, rfl, ?_⟩
      have e : decide (V.int ((leftA r ps (ds.take (i + 1))).length : Nat) = V.int 0) = (leftA r ps (ds.take (i + 1))).isEmpty := by
        rw [Bool.eq_iff_iff, decide_eq_true_eq, List.isEmpty_iff, ← List.length_eq_zero_iff]
        exact ⟨fun h => Int.ofNat.inj (V.int.inj h), fun h => by rw [h]; rfl⟩
      show (if decide (V.int ((leftA r ps (ds.take (i + 1))).length : Nat) = V.int 0) = true then _ else _)
      rw [e]
      have ew : wrs r ps ds (i + 1) = wrs r ps ds i ++ (if (leftA r ps (ds.take (i + 1))).isEmpty = true then [((i : Nat) : Int)] else []) := by
        unfold wrs
        rw [List.range_succ, List.filter_append, List.map_append, List.filter_cons]
        split <;> rfl
      have lw : (wrs r ps ds i).length ≤ i := by
        unfold wrs
        rw [List.length_map]
        exact Nat.le_trans (List.length_filter_le ..) (by rw [List.length_range]; exact Nat.le_refl _)
      by_cases hz : (leftA r ps (ds.take (i + 1))).isEmpty = true
      · rw [if_pos hz] at ew
        refine iteT' hz ⟨_, rfl, _, _, rfl, rfl, _, h5, Nat.lt_of_le_of_lt (show _ ≤ 100 by rw [List.length_map]; omega) (by decide), ?_, Same.updN s5 hD⟩
        rw [upd_same, ew, List.map_append]
        show some (HO.lst (_ ++ [V.int (1 + (i : Int) - 1)])) = _
        rw [show (1 + (i : Int) - 1) = ((i : Nat) : Int) by omega]
        rfl
      · rw [if_neg hz, List.append_nil] at ew
        exact iteF' (Bool.eq_false_iff.mpr hz) ⟨by rw [ew]; exact h5, s5⟩
    · rintro H5 ⟨h5, s5⟩
      have en2 : (((ds.length + 1 : Nat) : Int) - 1).toNat = ds.length := by omega
      rw [en2] at h5
      have s45 := s4.trans s5
      refine ⟨_, rfl, _, rfl, _, rfl, _, rfl, xi, sp, rr, dg, rows, ps, r, ds, rfl, lb _ dg xs ds s45 (s45 _ _ hxs) (Same.dpAll s45 hxd) (fun e he => he) (Nat.le_refl _), fun H6 s6 => ?_⟩
      refine ⟨_, rfl, by show 0 ≤ sizeLine; decide, fun q hq => ?_⟩
      have s7 := Same.new (Same.refl H6) hq (o := .lst [])
      have s57 := s6.trans s7
      have h7 := s57 _ _ h5
      refine ⟨.list ((wrs r ps ds ds.length).map PyData.int), .list [], .lst (.inl (.inl h7)) (dpAll_ints _), .lst (.inl (.inl upd_same)) .nil, shaped_ints _, shaped_nil, _, rfl, ?_⟩
      rw [eqv_ints_nil]
      have hh := wrong_head r ps ds
      have s47 := s45.trans s57
      generalize upd H6 q (.lst []) = H7 at s47 h7 ⊢
      cases ew : (List.range ds.length).filter fun i => (leftA r ps (ds.take (i + 1))).isEmpty with
      | nil =>
        rw [ew] at hh
        have e2 : wrs r ps ds ds.length = [] := by unfold wrs; rw [ew]; rfl
        rw [e2, ← hh]
        exact iteF' rfl ⟨_, _, .none, rfl, .non, .non, rfl, fun H8 s8 => ⟨true, rfl, iteF' rfl (kn _ _ _ _ _ _ _ _ _ _ _ _ _ _ _ _ _ _ (g.B.same (s47.trans s8)))⟩⟩
      | cons i0 rest =>
        rw [ew] at hh
        have e2 : wrs r ps ds ds.length = ((i0 : Nat) : Int) :: rest.map fun i => ((i : Nat) : Int) := by unfold wrs; rw [ew]; rfl
        rw [e2] at h7
        rw [e2, ← hh]
        exact iteT' rfl ⟨_, rfl, D, _, 0, _, rfl, rfl, .inl (.inl h7), at0, _, _, .int ((i0 : Nat) : Int), rfl, .int _, .int _, rfl, fun H8 s8 => ⟨true, rfl, iteF' rfl (kn _ _ _ _ _ _ _ _ _ _ _ _ _ _ _ _ _ _ (g.B.same (s47.trans s8)))⟩⟩
end
end Om

namespace Om
open PySem PySem.Spec PyProof.Rows L2 LamX
def tl4 : List Stmt := lawB.drop 4
theorem pe_imp {X : Cx} {e : Expr} {t u : TE} (he : PE X e t) (h : ∀ σ H Q, u σ H Q → t σ H Q) : PE X e u := ⟨fun pins s σ H Q I q => he.run pins s σ H Q I (h σ H Q q)⟩
/-- the one or the other of two cells, as a number says -/
def tOther : TE := fun σ H Q => ∃ b l o2 pl : Addr, σ[1]? = some (some (.ref b)) ∧ σ[12]? = some (some (.ref o2)) ∧ σ[9]? = some (some (.ref pl)) ∧ Bx H b l ∧ ∀ (a : Addr) (H' : Hp), (a = o2 ∨ a = pl) → Bx H' b l → Kp b l H H' → Q (.ref a) H'
theorem pickC {t : TC} {n : Int} (h0 : 0 ≤ n) (h1 : n < t.length) : ∃ q ∈ t, atI (vz t) n = some (.ref q.1) := by
  obtain ⟨v, hv, hm⟩ := atI_of (xs := vz t) h0 (by rw [vz_len]; exact h1)
  obtain ⟨q, hq, rfl⟩ := List.mem_map.mp hm
  exact ⟨q, hq, hv⟩
section
variable {P : Program} {w : World} {K : PySem.W.Frag} {mg : Str → Option Value} {base : Heap} {CI C0 fN : Addr}
theorem law_tail4 {f : Addr} {cdv : Value} (PP : Parts P w K mg base CI C0 fN) (grange : mg "range" = none) (glen : mg "len" = none)
    {A : Around} {outer : List Env} {s : Shared} {H0 : Hp} {E : XK} (hr : Room 8 (A.deeper (envOfC "law" (defScope sLaw) s.heap.objs.size f cdv))) :
    ∃ t, PSs (cxOf CX0 P w K mg base nLaw "law" (defScope sLaw) f cdv A outer s H0 E).nox tl4 t ∧
      ∀ (Dn : Ends) (b l rr xi ce sp pl dg : Addr) (rows : List (List Nat)) (r : Rl) (tc us : TC) (pc : Cell) (H : Hp) (v0 v2 v3 v10 v11 v12 v13 v14 v15 v16 v17 v18 : Option V),
        GG K CI H b l rr xi ce sp pl rows r tc us pc → DG K H dg rows r [] → dg ≠ b → dg ≠ l → dg ≠ ce →
        (∀ H' v2 v3 v4 v5 v6 v7 v8 v9 v10 v11 v12 v13 v14 v15 v16 v17 v18, Bx H' b l → Dn.nx [v0, some (.ref b), v2, v3, v4, v5, v6, v7, v8, v9, v10, v11, v12, v13, v14, v15, v16, v17, v18] H') →
        t Dn [v0, some (.ref b), v2, v3, some (.ref rr), some (.ref xi), some (.ref ce), some (.ref sp), some (.ref dg), some (.ref pl), v10, v11, v12, v13, v14, v15, v16, v17, v18] H := by
  obtain ⟨t5, q5, r5⟩ := law_tail5 (f := f) (cdv := cdv) (H0 := H0) (E := E) (s := s) (A := A) (outer := outer) PP grange glen hr
  have nd := scLaw.nd
  have hr1 : Room 1 _ := hr.mono (by decide)
  have hr3 : Room 3 _ := hr.mono (by decide)
  have hr4 : Room 4 _ := hr.mono (by decide)
  refine ⟨_, pss_cons (ps_for PassesOwn.never rfl (pi_range1 rfl grange (pa_cons (pe_cal PP.nxt hr1 pass0 (pa_cons (pv 1) (pa_cons pe_int pa_nil))) pa_nil)) (pg_name (i := 10) nd rfl (.inr rfl))
      (pss_cons (ps_par (i := 11) (j := 12) rfl nd rfl rfl (by decide) rfl rfl (pa_cons (pe_ix ix_list (pv 6) (pe_cal PP.nxt hr1 pass0 (pa_cons (pv 1) (pa_cons (pe_callB call_len_seq (by rfl) glen PySem.boot_len (pa_cons (pv 6) pa_nil)) pa_nil))) (fun _ _ => rfl)) (pa_cons (pe_ix ix_list (pv 6) (pe_cal PP.nxt hr1 pass0 (pa_cons (pv 1) (pa_cons (pe_callB call_len_seq (by rfl) glen PySem.boot_len (pa_cons (pv 6) pa_nil)) pa_nil))) (fun _ _ => rfl)) pa_nil)) rfl)
      (pss_cons (ps_set (i := 13) nd rfl (.inl rfl) (pe_cal PP.hnl hr1 pass0 (pa_cons (pv 4) (pa_cons (pv 11) (pa_cons (pe_imp (u := tOther) (pe_ifExp (pt_cmpR op_eq (pe_cal PP.nxt hr1 pass0 (pa_cons (pv 1) (pa_cons pe_int pa_nil))) pe_int (nomark _)) (pv 12) (pv 9)) ?imp) pa_nil)))))
      (pss_cons (ps_if (pt_not (pt_val (pe_cal PP.alk hr4 pass0 (pa_cons (pe_cal PP.hnt hr3 pass0 (pa_cons (pv 4) (pa_cons (pv 11) (pa_cons (pv 9) pa_nil)))) (pa_cons (pe_cal PP.hnl hr1 pass0 (pa_cons (pv 4) (pa_cons (pv 11) (pa_cons (pv 9) pa_nil)))) pa_nil))))) pss_no pss_nil)
      (pss_one (ps_expr (pe_bm PySem.F.plainAttrs_list PySem.F.slot_list_append PySem.F.type_list_append mt_append (pv 8) (pa_cons (pe_tup (pa_cons (pv 11) (pa_cons (pv 13) pa_nil))) pa_nil)))))))) q5, ?_⟩
  case imp =>
    intro σ H Q h
    obtain ⟨b, l, o2, pl, h1, h12, h9, B, k⟩ := h
    refine ⟨_, h1, b, l, 5, rfl, B, by decide, by decide, fun n H' a1 a2 B' K' => ⟨rfl, _, rfl, ?_⟩⟩
    exact ite2 (fun _ => ⟨_, h12, k o2 H' (.inl rfl) B' K'⟩) (fun _ => ⟨_, h9, k pl H' (.inr rfl) B' K'⟩)
  intro Dn b l rr xi ce sp pl dg rows r tc us pc H v0 v2 v3 v10 v11 v12 v13 v14 v15 v16 v17 v18 g d nb nl nce kn
  have ltc : tc.length = (cellsOf rows).length := by rw [← g.ct, cz_len]
  have hpos : 0 < tc.length := by rw [ltc]; exact List.length_pos_iff.mpr g.cne
  have hmax : tc.length ≤ 1000 := by
    have h1 := cellsTo_len (rows := rows) (w := 12) (fun r hr => (g.vd.wid r hr).2) rows.length (Nat.le_refl _)
    have h2 := g.vd.hgt
    rw [ltc]
    show (cellsTo rows rows.length).length ≤ _
    omega
  have inC : ∀ q ∈ tc, q.2 ∈ cellsOf rows := fun q hq => by
    rw [← g.ct]
    exact List.mem_map_of_mem hq
  refine ⟨_, rfl, b, l, 5, rfl, g.B, by decide, by decide, fun n H1 a1 a2 B1 K1 => ?_⟩
  refine ⟨n, rfl, by omega, by omega, ?_⟩
  refine for_range (lo := 0) (n := n.toNat) (fun i σ H' => GG K CI H' b l rr xi ce sp pl rows r tc us pc ∧ ∃ ds, DG K H' dg rows r ds ∧ ds.length ≤ i ∧ ∃ v10 v11 v12 v13, σ = [v0, some (.ref b), v2, v3, some (.ref rr), some (.ref xi), some (.ref ce), some (.ref sp), some (.ref dg), some (.ref pl), v10, v11, v12, v13, v14, v15, v16, v17, v18])
    ⟨g.kp B1 K1, [], d.kp g.B K1 nb nl, Nat.le_refl _, _, _, _, _, rfl⟩ ?_ ?_
  · rintro i σ H2 hi ⟨g2, ds, d2, hds, v10, v11, v12, v13, rfl⟩
    -- two cells
    refine ⟨_, rfl, _, rfl, _, rfl, ce, _, rfl, .inl (.inl (.inl g2.C)), b, l, _, rfl, g2.B, by rw [vz_len]; omega, by rw [vz_len]; omega, fun n1 H3 b1 b2 B3 K3 => ?_⟩
    have g3 := g2.kp B3 K3
    have d3 := d2.kp g2.B K3 nb nl
    rw [vz_len] at b2
    obtain ⟨q1, hq1, e1⟩ := pickC b1 b2
    refine ⟨ce, _, n1, _, rfl, rfl, .inl (.inl g3.C), e1, ?_⟩
    refine ⟨_, rfl, _, rfl, _, rfl, ce, _, rfl, .inl (.inl (.inl g3.C)), b, l, _, rfl, g3.B, by rw [vz_len]; omega, by rw [vz_len]; omega, fun n2 H4 c1 c2 B4 K4 => ?_⟩
    have g4 := g3.kp B4 K4
    have d4 := d3.kp g3.B K4 nb nl
    rw [vz_len] at c2
    obtain ⟨q2, hq2, e2⟩ := pickC c1 c2
    refine ⟨ce, _, n2, _, rfl, rfl, .inl (.inl g4.C), e2, _, _, rfl, ?_⟩
    -- what it tells
    refine ⟨_, rfl, _, rfl, b, l, q2.1, pl, rfl, rfl, rfl, g4.B, fun oa H5 ho B5 K5 => ?_⟩
    have g5 := g4.kp B5 K5
    have d5 := d4.kp g4.B K5 nb nl
    have C1 : SqT K H5 q1.1 (cvs q1.2) := .inl (.inl (g5.ca q1 hq1))
    obtain ⟨oc, hoc⟩ : ∃ oc : Cell, SqT K H5 oa (cvs oc) := by
      rcases ho with rfl | rfl
      · exact ⟨q2.2, .inl (.inl (g5.ca q2 hq2))⟩
      · exact ⟨pc, g5.P⟩
    refine ⟨rr, q1.1, oa, r, q1.2, oc, rfl, g5.R, C1, hoc, ?_⟩
    -- hint
    refine ⟨_, rfl, _, rfl, _, rfl, rr, q1.1, pl, r, q1.2, pc, rfl, g5.R, C1, g5.P, g5.rok, fun H6 s6 => ?_⟩
    have g6 := g5.same s6
    refine ⟨_, rfl, _, rfl, _, rfl, rr, q1.1, pl, r, q1.2, pc, rfl, g6.R, Same.tup s6 C1, g6.P, ?_⟩
    refine ⟨_, _, .str (told r q1.2 pc), rfl, .str _, .str _, told_ok _ _ _, fun H7 s7 => ⟨true, rfl, iteF' rfl ?_⟩⟩
    have g7 := g6.same s7
    have d7 := (d5.same s6).same s7
    obtain ⟨⟨xs, x1, x2⟩, din⟩ := id d7
    have lx := dpAll_len x2
    rw [List.length_map] at lx
    refine ⟨_, rfl, .inl ⟨rfl, _, .inl (.inl x1)⟩, ?_⟩
    refine ⟨_, rfl, _, rfl, by show 2 ≤ sizeLine; decide, fun T hT => nilArgs ?_⟩
    have s8 := Same.new (Same.refl H7) hT (o := .tup [.ref q1.1, .str (told r q1.2 oc)])
    have x1' := s8 _ _ x1
    have hT8 : (upd H7 T (.tup [.ref q1.1, .str (told r q1.2 oc)])) T = some (.tup [.ref q1.1, .str (told r q1.2 oc)]) := upd_same
    have g8 := g7.same s8
    have x2' := Same.dpAll s8 x2
    have C8 : SqT K (upd H7 T (.tup [.ref q1.1, .str (told r q1.2 oc)])) q1.1 (cvs q1.2) := .inl (.inl (g8.ca q1 hq1))
    generalize upd H7 T (.tup [.ref q1.1, .str (told r q1.2 oc)]) = H8 at x1' hT8 g8 x2' C8 ⊢
    refine ⟨dg, xs, _, rfl, rfl, x1', Nat.lt_of_le_of_lt (show _ ≤ 100 by omega) (by decide), ?_⟩
    refine ⟨g8.updL x1' nb nl nce, ds ++ [(q1.2, told r q1.2 oc)], ⟨⟨_, upd_same, ?_⟩, ?_⟩, by rw [List.length_append, List.length_singleton]; omega, _, _, _, _, rfl⟩
    · refine dpAll_noL (fun a ys h => SqT.updL x1' h) (noL_digs _) ?_
      rw [List.map_append]
      exact dpAll_app x2' (.cons (.tup (.inl (.inl hT8)) (.cons (cell_dp C8) (.cons (.str _) .nil))) .nil)
    · intro e he
      rcases List.mem_append.mp he with h | h
      · exact din e h
      · rw [List.mem_singleton.mp h]
        exact ⟨inC q1 hq1, told_mem _ _ _⟩
  · rintro σ H2 ⟨g2, ds, d2, hds, v10, v11, v12, v13, rfl⟩
    exact r5 Dn b l rr xi ce sp pl dg rows r tc us pc ds H2 _ _ _ _ _ _ _ _ _ _ _ _ g2 d2 (by omega) kn
end
end Om

namespace Om
open PySem PySem.Spec PyProof.Rows L2 LamX
def spLaw (K : PySem.W.Frag) : Sp := fun vs H Q _ => ∃ (a : Addr) (ns : List Int), vs = [.ref a] ∧ SqL K H a (ns.map V.int) ∧ ns.length ≤ 63 ∧ ∀ H', Q (.bl true) H'
theorem sh_cellsT (cs : List (Nat × Nat)) : SeqAt.shaped (.tuple (cs.map cdp)) = true := shaped_of (by simp only [PyData.canLay0]; exact lay_cells cs) (by have := dep_cells cs; simp only [PyData.depth]; omega)
theorem eqv_cellsT_nil (cs : List Cell) : PyData.eqv (.tuple (cs.map cdp)) (.tuple []) = cs.isEmpty := by
  cases cs <;> simp [PyData.eqv, PyData.eqvAll]
section
variable {P : Program} {w : World} {K : PySem.W.Frag} {mg : Str → Option Value} {base : Heap} {CI C0 fN : Addr}
theorem ok_law {f : Addr} {fd : FuncData} (F : FnP K "law" "law" sLaw f fd) (PP : Parts P w K mg base CI C0 fN) (grange : mg "range" = none) (glen : mg "len" = none) : FnOk P w K mg base CX0 9 f fd ["_law_script"] (spLaw K) := by
  obtain ⟨fI, GI, bI⟩ := PP.mkI.ex
  have TI := PP.isl
  refine F.ok scLaw (fun vs H Q E h => ?_) (fun cdv A outer s H vs Q E hr h => ?_)
  · obtain ⟨a, ns, rfl, _⟩ := h
    rfl
  · obtain ⟨a, ns, rfl, hS, hlen, k⟩ := h
    have nd := scLaw.nd
    have hr1 : Room 1 _ := hr.mono (by decide)
    have hr2 : Room 2 _ := hr.mono (by decide)
    have hr5 : Room 5 _ := hr.mono (by decide)
    obtain ⟨t4, q4, r4⟩ := law_tail4 (f := f) (cdv := cdv) (H0 := H) (E := E) (s := s) (A := A) (outer := outer) PP grange glen hr
    refine ⟨_, PSs.nox (pss_cons (ps_set (i := 1) nd rfl (.inl rfl) (pe_cal PP.mix hr1 pass0 (pa_cons (pv 0) (pa_cons pe_int pa_nil))))
      (pss_cons (ps_for PassesOwn.never rfl (pi_range1 rfl grange (pa_cons pe_int pa_nil)) (pg_name (i := 2) nd rfl (.inl rfl))
        (pss_cons (ps_asg (pe_tup (pa_cons (pe_cal PP.row hr2 pass0 (pa_cons (pv 1) (pa_cons pe_int pa_nil))) (pa_cons (pe_cal PP.rul hr2 pass0 (pa_cons (pv 1) pa_nil)) pa_nil))) (pg_tup rfl (pgs_cons (pg_name (i := 3) nd rfl (.inl rfl)) (pgs_cons (pg_name (i := 4) nd rfl (.inr rfl)) pgs_nil))))
        (pss_cons (ps_par (i := 5) (j := 6) rfl nd rfl rfl (by decide) rfl rfl (pa_cons (pe_make TI.made GI hr5 rfl TI.gI bI .nil passE0 (pa_cons (pv 3) pa_nil)) (pa_cons (pe_cal PP.cel hr1 pass0 (pa_cons (pv 3) pa_nil)) pa_nil)) rfl)
        (pss_cons (ps_asg (pe_tup (pa_cons (pe_cal PP.som hr2 pass0 (pa_cons (pv 1) (pa_cons (pv 6) (pa_cons pe_int pa_nil)))) (pa_cons (pe_lst pa_nil) pa_nil))) (pg_tup rfl (pgs_cons (pg_name (i := 7) nd rfl (.inl rfl)) (pgs_cons (pg_name (i := 8) nd rfl (.inr rfl)) pgs_nil))))
        (pss_cons (ps_set (i := 9) nd rfl (.inl rfl) (pe_ifExp (pt_cmpR (op_neD hr.units) (pv 7) (pe_tup pa_nil) (nomark _)) (pe_ix ix_tup (pv 7) (pe_cal PP.nxt hr1 pass0 (pa_cons (pv 1) (pa_cons (pe_callB call_len_seq (by rfl) glen PySem.boot_len (pa_cons (pv 7) pa_nil)) pa_nil))) (fun _ _ => rfl)) (pe_ix ix_list (pv 6) pe_int (fun _ _ => rfl))))
        q4)))))
      (pss_one (ps_ret pe_bl)))), ?_⟩
    refine ⟨_, rfl, a, ns, 31, rfl, hS, hlen, fun b l H1 hb hl s1 B1 => ?_⟩
    refine ⟨5, rfl, by decide, by decide, ?_⟩
    refine for_range (lo := 0) (n := (5 : Int).toNat) (fun i σ H' => Bx H' b l ∧ ∃ v2 v3 v4 v5 v6 v7 v8 v9 v10 v11 v12 v13 v14 v15 v16 v17 v18, σ = [some (.ref a), some (.ref b), v2, v3, v4, v5, v6, v7, v8, v9, v10, v11, v12, v13, v14, v15, v16, v17, v18])
      ⟨B1, _, _, _, _, _, _, _, _, _, _, _, _, _, _, _, _, _, rfl⟩ ?_ ?_
    · rintro i σ H2 hi ⟨B2, v2, v3, v4, v5, v6, v7, v8, v9, v10, v11, v12, v13, v14, v15, v16, v17, v18, rfl⟩
      -- rows, rule
      refine ⟨_, rfl, b, l, 5, rfl, B2, by decide, by decide, fun pr rows H3 ok hne hR B3 K3 => ?_⟩
      refine ⟨_, rfl, b, l, rfl, B3, fun rr r H4 rok hr4 B4 K4 => ⟨by show 2 ≤ sizeLine; decide, fun tp htp => ?_⟩⟩
      refine ⟨tp, _, rfl, .inl (.inl upd_same), rfl, _, _, rfl, _, _, rfl, rfl, ?_⟩
      have s5 := Same.new (Same.refl H4) htp (o := .tup [.ref pr, .ref rr])
      have R5 := Same.tup s5 (SqT.kp B3 K4 hR)
      have U5 := Same.tup s5 hr4
      have B5 := B4.same s5
      generalize upd H4 tp (.tup [.ref pr, .ref rr]) = H5 at R5 U5 B5 ⊢
      -- the island and its cells
      refine ⟨_, rfl, nilArgs ?_⟩
      intro xi dxi hxi hdxi _
      refine mk_read (ok.to12 (by decide)) R5 hxi hdxi fun H6 s6 I6 => ?_
      have vd := ok.vd (by decide)
      refine ⟨_, rfl, pr, rows, rfl, Same.tup s6 R5, vd, fun ce tc H7 s7 hC hCA hct => ⟨_, _, rfl, ?_⟩⟩
      have s57 := s6.trans s7
      have B7 := B5.same s57
      have U7 := Same.tup s57 U5
      have I7 := I6.same s7
      have ltc : tc.length = (cellsOf rows).length := by rw [← hct, cz_len]
      have hmax : tc.length ≤ 1000 := by
        have h1 := cellsTo_len (rows := rows) (w := 12) (fun r hr => (vd.wid r hr).2) rows.length (Nat.le_refl _)
        have h2 := vd.hgt
        rw [ltc]
        show (cellsTo rows rows.length).length ≤ _
        omega
      have hpos : 0 < tc.length := by rw [ltc]; exact List.length_pos_iff.mpr hne
      have ceb : ce ≠ b ∧ ce ≠ l := by
        obtain ⟨ns', z, kc, y1, y2, _⟩ := B7.ex
        refine ⟨fun e => ?_, fun e => ?_⟩
        · rw [e, y1] at hC
          have e2 := HO.lst.inj (Option.some.inj hC)
          cases tc with
          | nil => simp at hpos
          | cons p0 tr => cases e2
        · rw [e, y2] at hC
          have e2 := HO.lst.inj (Option.some.inj hC)
          cases tc with
          | nil => simp at hpos
          | cons p0 tr =>
            cases ns' with
            | nil => cases e2
            | cons n0 nr =>
              injection e2 with e3 _
              cases e3
      -- the spots
      refine ⟨_, rfl, _, rfl, b, l, ce, tc, 8, rfl, B7, hC, hCA, hmax, by decide, fun sp us H8 hS8 hCA8 hin hul B8 K8 => ⟨by show 0 ≤ sizeLine; decide, fun dg hdg => ⟨by show 2 ≤ sizeLine; decide, fun tq htq => ?_⟩⟩⟩
      refine ⟨tq, _, rfl, .inl (.inl upd_same), rfl, _, _, rfl, _, _, rfl, rfl, ?_⟩
      have s9 := Same.new (Same.refl H8) hdg (o := .lst [])
      have s10 := Same.new (Same.refl _) htq (o := .tup [.ref sp, .ref dg])
      have hdg10 := s10 _ _ (upd_same (H := H8) (a := dg) (o := .lst []))
      have s8t := s9.trans s10
      obtain ⟨nb, nl⟩ := B8.new hdg
      have C8 := K8 _ _ hC ceb.1 ceb.2
      have nce : dg ≠ ce := fun e => by rw [e, C8] at hdg; cases hdg
      generalize upd (upd H8 dg (.lst [])) tq (.tup [.ref sp, .ref dg]) = H10 at s8t hdg10 ⊢
      clear s9 s10 htq hdg
      have gg : ∀ (pl : Addr) (pc : Cell), SqT K H10 pl (cvs pc) → pc ∈ cellsOf rows → GG K CI H10 b l rr xi ce sp pl rows r tc us pc := fun pl pc h1 h2 =>
        { B := B8.same s8t, R := Same.tup s8t (SqT.kp B7 K8 U7), rok := rok, I := (I7.kp B7 K8).same s8t, vd := vd, C := s8t _ _ C8, cb := ceb, ca := (hCA.kp B7 K8).same s8t, ct := hct, cne := hne
          S := s8t _ _ hS8, sa := hCA8.same s8t, sin := fun q hq => by rw [← hct]; exact hin q hq, sl := hul, P := h1, pin := h2 }
      have dd : DG K H10 dg rows r [] := ⟨⟨[], hdg10, .nil⟩, fun e he => by cases he⟩
      -- the place
      refine ⟨_, rfl, by show 0 ≤ sizeLine; decide, fun e he => ?_⟩
      have s11 := Same.new (Same.refl H10) he (o := .tup [])
      have S11 := s11 _ _ (s8t _ _ hS8)
      have CA11 := (hCA8.same s8t).same s11
      refine ⟨.tuple ((cz us).map cdp), .tuple [], .tup (.inl (.inl S11)) CA11.dp, .tup (.inl (.inl upd_same)) .nil, sh_cellsT _, sh_cellsT [], _, rfl, ?_⟩
      rw [eqv_cellsT_nil]
      have C11 := s11 _ _ (s8t _ _ C8)
      have CC11 := ((hCA.kp B7 K8).same s8t).same s11
      have s8e := s8t.trans s11
      generalize upd H10 e (.tup []) = H11 at s11 S11 CA11 C11 CC11 s8e ⊢
      have gg11 : ∀ (pl : Addr) (pc : Cell), SqT K H11 pl (cvs pc) → pc ∈ cellsOf rows → GG K CI H11 b l rr xi ce sp pl rows r tc us pc := fun pl pc h1 h2 =>
        { B := B8.same s8e, R := Same.tup s8e (SqT.kp B7 K8 U7), rok := rok, I := (I7.kp B7 K8).same s8e, vd := vd, C := C11, cb := ceb, ca := CC11, ct := hct, cne := hne
          S := S11, sa := CA11, sin := fun q hq => by rw [← hct]; exact hin q hq, sl := hul, P := h1, pin := h2 }
      have dd11 := dd.same s11
      cases hus : us with
      | nil =>
        refine iteF' rfl ?_
        obtain ⟨q0, tr, htc⟩ : ∃ q0 tr, tc = q0 :: tr := by
          cases htc : tc with
          | nil => rw [htc] at hpos; simp at hpos
          | cons q0 tr => exact ⟨q0, tr, rfl⟩
        have hq0 : q0 ∈ tc := by rw [htc]; exact List.mem_cons_self ..
        refine ⟨_, rfl, ce, _, 0, _, rfl, rfl, .inl (.inl C11), (by rw [htc]; exact at0), ?_⟩
        exact r4 _ b l rr xi ce sp q0.1 dg rows r tc us q0.2 H11 (some (.ref a)) (some (.int (0 + (i : Int)))) (some (.ref pr)) v10 v11 v12 v13 v14 v15 v16 v17 v18 (gg11 _ _ (.inl (.inl (CC11 q0 hq0))) (by rw [← hct]; exact List.mem_map_of_mem hq0)) dd11 nb nl nce (fun H' v2 v3 v4 v5 v6 v7 v8 v9 v10 v11 v12 v13 v14 v15 v16 v17 v18 B' => ⟨B', _, _, _, _, _, _, _, _, _, _, _, _, _, _, _, _, _, rfl⟩)
      | cons u0 ur =>
        rw [← hus]
        have hup : 0 < us.length := by rw [hus]; exact Nat.succ_pos _
        refine iteT' (by rw [hus]; rfl) ?_
        refine ⟨_, rfl, _, rfl, _, rfl, sp, _, rfl, .inr (.inl (.inl S11)), b, l, _, rfl, B8.same s8e, by rw [vz_len]; omega, by rw [vz_len]; omega, fun n H12 a1 a2 B12 K12 => ?_⟩
        rw [vz_len] at a2
        obtain ⟨q0, hq0, e0⟩ := pickC a1 a2
        have g12 := (gg11 q0.1 q0.2 (.inl (.inl (CA11 q0 hq0))) (by rw [← hct]; exact hin q0 hq0)).kp B12 K12
        have d12 := dd11.kp (B8.same s8e) K12 nb nl
        refine ⟨sp, _, n, _, rfl, rfl, .inl (.inl g12.S), e0, ?_⟩
        exact r4 _ b l rr xi ce sp q0.1 dg rows r tc us q0.2 H12 (some (.ref a)) (some (.int (0 + (i : Int)))) (some (.ref pr)) v10 v11 v12 v13 v14 v15 v16 v17 v18 g12 d12 nb nl nce (fun H' v2 v3 v4 v5 v6 v7 v8 v9 v10 v11 v12 v13 v14 v15 v16 v17 v18 B' => ⟨B', _, _, _, _, _, _, _, _, _, _, _, _, _, _, _, _, _, rfl⟩)
    · rintro σ H2 ⟨B2, v2, v3, v4, v5, v6, v7, v8, v9, v10, v11, v12, v13, v14, v15, v16, v17, v18, rfl⟩
      exact k H2
end
end Om

/-! a head that tells function objects by paths of one's own: the getters of properties -/
namespace OmH
open PySem PySem.Spec PyProof.Rows L2 He
structure DefA where
  adr : PySem.W.Frag → Addr
  name : Str
  qual : Str
  params : Arguments
  body : List Stmt
  scope : Scope
def fnWA (K : PySem.W.Frag) (a : Addr) : FnW := match K.lookup a with
  | some ⟨_, _, .func fd, _⟩ => some (fd.name, fd.qualname, fd.params, fd.body, fd.scope, fd.globals, fd.closure, fd.builtins)
  | _ => none
def DefA.val (d : DefA) : FnW := some (d.name, d.qual, d.params, .stmts d.body, d.scope, mainGlobals, [], builtinsNs)
def DefA.ok (K : PySem.W.Frag) (d : DefA) : Bool := PySem.W.keepIn K (.ref (d.adr K)) && (match K.lookup (d.adr K) with
  | some ⟨_, _, .func fd, _⟩ => PySem.W.codeIn K fd.code d.qual && (dflB K fd.defaults [] && kwdB K fd.kwdefaults [])
  | _ => false)
theorem DefA.funD {K : PySem.W.Frag} {d : DefA} (e : fnWA K (d.adr K) = d.val) (c : d.ok K = true) : ∃ fd, FunD K d.name d.qual d.params d.body d.scope [] [] (d.adr K) fd := by
  obtain ⟨kp, c2⟩ := ba c
  unfold fnWA at e
  cases q : K.lookup (d.adr K) with
  | none =>
    rw [q] at c2
    cases c2
  | some o =>
    obtain ⟨oc, od, dt, osl⟩ := o
    rw [q] at c2 e
    cases dt with
    | func fd =>
      obtain ⟨n1, n2, n3, n4, n5, n6, n7, n8, n9, n10, n11, n12, n13, n14, n15⟩ := fd
      have e2 : (some (n1, n2, n3, n4, n5, n6, n7, n15) : FnW) = some (d.name, d.qual, d.params, .stmts d.body, d.scope, mainGlobals, [], builtinsNs) := e
      simp only [Option.some.injEq, Prod.mk.injEq] at e2
      obtain ⟨h1, h2, h3, h4, h5, h6, h7, h8⟩ := e2
      subst h1 h2 h3 h4 h5 h6 h7 h8
      have c3 : (PySem.W.codeIn K n13 d.qual && (dflB K n8 [] && kwdB K n9 [])) = true := c2
      obtain ⟨k1, k2⟩ := ba c3
      obtain ⟨k3, k4⟩ := ba k2
      exact ⟨_, ⟨oc, od, n8, n9, n10, n11, n12, n13, n14, osl, rfl, q, k1, dflB_ok k3, kwdB_ok k4⟩, kp⟩
    | _ => cases c2
/-- the getter of C's property x -/
def getA (K : PySem.W.Frag) (C : Addr) (x : Str) : Addr := match PySem.W.recIn K (ma K C x) "property" with
  | some (.ref g :: _) => g
  | _ => 0
def propB (K : PySem.W.Frag) (C : Addr) (x : Str) : Bool := eqO (PySem.W.findIn K (.ref C) x) (some (some (.ref (ma K C x)))) && (eqO (PySem.W.specialIn K (.ref (ma K C x)) "__get__") (some (some (.builtin "property.__get__"))) &&
  (decide (PySem.W.takesIn K (.ref (ma K C x)) = some true) && (match PySem.W.recIn K (ma K C x) "property" with
  | some (.ref _ :: _) => true
  | _ => false)))
theorem propB_ok {K : PySem.W.Frag} {C : Addr} {x : Str} (h : propB K C x = true) : PropOf K C x (ma K C x) (getA K C x) := by
  obtain ⟨h1, h2⟩ := ba h
  obtain ⟨h2, h3⟩ := ba h2
  obtain ⟨h3, h4⟩ := ba h3
  refine ⟨eqO_ok h1, eqO_ok h2, of_decide_eq_true h3, ?_⟩
  unfold getA
  cases e : PySem.W.recIn K (ma K C x) "property" with
  | none => rw [e] at h4; cases h4
  | some vs =>
    rw [e] at h4
    cases vs with
    | nil => cases h4
    | cons v r =>
      cases v with
      | ref g => exact ⟨r, rfl⟩
      | _ => cases h4
abbrev AlY : Type := AlX × (Bool × List FnW)
def obsA (gs : List DefA) (K : PySem.W.Frag) : Bool × List FnW := (gs.all fun d => d.ok K, gs.map fun d => fnWA K (d.adr K))
def valA (gs : List DefA) : Bool × List FnW := (true, gs.map DefA.val)
def obsY (n : Nat) (fa : List Fa) (fn : List DefD) (ts : List Tab) (tf : List Defn) (gs : List DefA) (ex : PySem.W.Frag → Bool) (g : Addr → Option Obj) : AlY := (obsX n fa fn ts tf ex g, obsA gs (frT g (asD g n)))
def hookY (n : Nat) (fa : List Fa) (fn : List DefD) (ts : List Tab) (tf : List Defn) (gs : List DefA) (ex : PySem.W.Frag → Bool) : PySem.W.Hook where
  α := AlY
  obs := fun s => obsY n fa fn ts tf gs ex s.heap.get?
  val := fun w => (valX fn ts w, valA gs)
  says := fun w h => ∃ K : PySem.W.Frag, K.In h ∧ SaysX fa fn ts tf ex w h K ∧ obsA gs K = valA gs
  of := fun _ _ e => ⟨_, frT_in, saysX_of (congrArg (fun z : AlY => z.1) e), congrArg (fun z : AlY => z.2) e⟩
  keeps := fun _ _ _ ⟨K, hK, c, d⟩ k => ⟨K, PySem.W.Frag.In.keeps hK k, ⟨c.t, c.more, c.hd, c.out, fun p hp => k _ _ (c.empty p hp)⟩, d⟩
theorem obsY_eq {n : Nat} {fa : List Fa} {fn : List DefD} {ts : List Tab} {tf : List Defn} {gs : List DefA} {ex : PySem.W.Frag → Bool} {g : Addr → Option Obj} {s : Shared} (h : ∀ a, g a = s.heap.get? a) : obsY n fa fn ts tf gs ex g = (hookY n fa fn ts tf gs ex).obs s := by
  have e : g = s.heap.get? := funext h
  rw [e] <;> rfl
theorem getter {gs : List DefA} {K : PySem.W.Frag} (c : obsA gs K = valA gs) (i : Nat) {d : DefA} (h : gs[i]? = some d := by rfl) : ∃ fd, FunD K d.name d.qual d.params d.body d.scope [] [] (d.adr K) fd := by
  have c2 : (gs.all fun d => d.ok K) = true := congrArg (fun z : Bool × List FnW => z.1) c
  have e : gs.map (fun d => fnWA K (d.adr K)) = gs.map DefA.val := congrArg (fun z : Bool × List FnW => z.2) c
  have e2 : (gs.map fun d => fnWA K (d.adr K))[i]? = (gs.map DefA.val)[i]? := by rw [e]
  rw [List.getElem?_map, List.getElem?_map, h] at e2
  exact DefA.funD (Option.some.inj e2) (List.all_eq_true.mp c2 d (List.mem_of_getElem? h))
end OmH

namespace Om
open PySem PySem.Spec PyProof.Rows L2 LamX He OmH
/-! ### facts of the top by own Bools -/
def oexB (K : PySem.W.Frag) (C : Addr) : Bool := (match K.lookup C with
  | some ⟨.type t, _, .cls cd, sl⟩ => decide (t = "type") && (cd.hasDict && (!cd.hasDel && ((match cd.mro with
    | .ref c :: bm => decide (c = C) && PySem.HandSPX.refsVE bm
    | _ => false) && (match sl.toList with
    | [_, _, _, _, some (.builtin n), _] => decide (n = "ValueError.__new__")
    | _ => false))))
  | _ => false) && (eqO (PySem.W.findIn K (.ref C) "__setattr__") (some (some (.builtin "object.__setattr__"))) && (decide (PySem.W.subIn K (.ref C) (.type "BaseException") = some true) && (decide (PySem.W.typeIn K (.ref C) = some (.type "type")) && PySem.W.keepIn K (.ref C))))
theorem oexB_ok {K : PySem.W.Frag} {C : Addr} (h : oexB K C = true) : OexC K C := by
  obtain ⟨h1, h2⟩ := ba h
  obtain ⟨h2, h3⟩ := ba h2
  obtain ⟨h3, h4⟩ := ba h3
  obtain ⟨h4, h5⟩ := ba h4
  refine ⟨?_, eqO_ok h2, of_decide_eq_true h3, of_decide_eq_true h4, h5⟩
  clear h h2 h3 h4 h5
  cases e : K.lookup C with
  | none => rw [e] at h1; cases h1
  | some o =>
    rw [e] at h1
    obtain ⟨oc, od, dt, sl⟩ := o
    cases oc with
    | type t =>
      cases dt with
      | cls cd =>
        obtain ⟨a1, a2⟩ := ba h1
        obtain ⟨a2, a3⟩ := ba a2
        obtain ⟨a3, a4⟩ := ba a3
        obtain ⟨a4, a5⟩ := ba a4
        obtain ⟨nm, bs, mro, ns, qn, hd, sn, sb, ab, col, del⟩ := cd
        have e1 : t = "type" := of_decide_eq_true a1
        have e2 : hd = true := a2
        have e3 : del = false := by
          have a3 : (!del) = true := a3
          cases del with
          | true => cases a3
          | false => rfl
        clear a1 a2 a3 h1
        subst e1 e2 e3
        cases mro with
        | nil => cases a4
        | cons v bm =>
          cases v with
          | ref c =>
            obtain ⟨b1, b2⟩ := ba (show (decide (c = C) && PySem.HandSPX.refsVE bm) = true from a4)
            have e4 : c = C := of_decide_eq_true b1
            clear b1 a4
            subst e4
            obtain ⟨sl⟩ := sl
            split at a5
            · rename_i q
              have e5 := of_decide_eq_true a5
              have e6 : sl = _ := q
              subst e5 e6
              exact ⟨_, _, _, _, _, _, _, _, _, _, _, _, _, _, _, rfl, b2⟩
            · cases a5
          | _ => cases a4
      | _ => cases h1
    | _ => cases dt <;> cases h1
/-- an error class with an own __init__ -/
def errIB (K : PySem.W.Frag) (x : Str) : Bool := oexB K (ga K x) && (eqO (PySem.W.findIn K (.ref (ga K x)) "__init__") (some (some (.ref (ma K (ga K x) "__init__")))) && decide (PySem.W.typeIn K (.ref (ma K (ga K x) "__init__")) = some (.type "function")))
/-- an own special method -/
def ownB (K : PySem.W.Frag) (C : Addr) (n : Str) : Bool := eqO (PySem.W.findIn K (.ref C) n) (some (some (.ref (ma K C n)))) && (PySem.W.isFn K (.ref (ma K C n)) && PySem.W.fnIn K (ma K C n))
theorem ownB_ok {K : PySem.W.Frag} {C : Addr} {n : Str} (h : ownB K C n = true) : OwnM K C n (ma K C n) := by
  obtain ⟨h1, h2⟩ := ba h
  obtain ⟨h2, h3⟩ := ba h2
  exact ⟨eqO_ok h1, h2, h3⟩
/-- written texts, whatever their tokens -/
def strsB : List Value → List Str → Bool
  | [], [] => true
  | .str x _ :: r, y :: q => decide (x = y) && strsB r q
  | _, _ => false
theorem strsB_ok : ∀ {vs : List Value} {ws : List Str}, strsB vs ws = true → Vals (ws.map V.str) vs
  | [], [], _ => .nil
  | .str x t :: r, y :: q, h => by
    obtain ⟨h1, h2⟩ := ba h
    have e : x = y := of_decide_eq_true h1
    subst e
    exact .cons ⟨t, rfl⟩ (strsB_ok h2)
def wordB (K : PySem.W.Frag) (x : Str) (ws : List Str) : Bool := match PySem.W.nsIn K (ga K "WORDS") x with
  | some (some (.ref p)) => (match K.lookup p with
    | some ⟨.type t, _, .seq its _, _⟩ => decide (t = "tuple") && (decide (its.size ≤ sizeLine) && strsB its.toList ws)
    | _ => false)
  | _ => false
theorem wordB_ok {K : PySem.W.Frag} {x : Str} {ws : List Str} (h : wordB K x ws = true) : ∃ p, PySem.W.nsIn K (ga K "WORDS") x = some (some (.ref p)) ∧ ∀ H, SqT K H p (ws.map V.str) := by
  unfold wordB at h
  split at h
  · rename_i p e
    refine ⟨p, e, fun H => ?_⟩
    split at h
    · rename_i t od its n sl e2
      obtain ⟨h1, h2⟩ := ba h
      obtain ⟨h2, h3⟩ := ba h2
      have e3 : t = "tuple" := of_decide_eq_true h1
      subst e3
      exact .inr ⟨_, its, n, e2, rfl, rfl, of_decide_eq_true h2, strsB_ok h3⟩
    · cases h
  · cases h
def exB (K : PySem.W.Frag) : Bool := errIB K "InvalidIsland" && (ownB K (ga K "Island") "__contains__" && (wordB K "plain" (words .plain) && (wordB K "rows" (words .rows) && wordB K "near" (words (.near 0)))))
def fa : List Fa := [.free "int", .free "list", .free "len", .free "range", .free "tuple", .free "max", .free "min", .free "enumerate", .free "isinstance", .free "bool", .free "str", .free "sorted", .free "abs", .free "dict",
  .str "ALL_SIGNS" allSigns, .str "WATER" (Str.ofString "~"), .int "LARGEST" 12, .int "MOST_AWAY" 22, .glo "WORDS",
  .glo "InvalidIsland", .glo "Island", .glo "_check_rows", .glo "_first_wrong_column", .glo "_lies_within", .glo "in_range",
  .glo "require_land", .glo "hint", .glo "left_after", .glo "first_wrong", .glo "require_rule", .glo "_require_places", .glo "_told", .glo "_told_of_rows", .glo "_left_behind"]
def fa2 : List Fa := [.glo "_law_mix", .glo "_law_next", .glo "_law_alike", .glo "_law_rows", .glo "_law_cells", .glo "_law_rule", .glo "_law_hint", .glo "_law_some", .glo "law",
  .cls "Island", .mkr "Island", .noat "Island" "_rows", .noat "InvalidIsland" "row", .noat "InvalidIsland" "column"]
def dG (x : Str) (st : Stmt) : He.DefD := ⟨(x, none), x, x, defArgs st, defBody st, defScope st, [], []⟩
def dM (c x q : Str) (st : Stmt) : He.DefD := ⟨(c, some x), x, q, defArgs st, defBody st, defScope st, [], []⟩
def fnD : List He.DefD := [dG "_law_mix" (top 30), dG "_law_next" (top 31), dG "_law_alike" (top 32), dG "_law_rows" (top 33), dG "_law_cells" (top 34), dG "_law_rule" (top 35), dG "_law_hint" (top 36), dG "_law_some" (top 37), dG "law" (top 38),
  dG "in_range" (top 4), dG "_lies_within" (top 16), dG "_check_rows" (top 17), dG "_first_wrong_column" (top 18), dG "require_land" (top 15), dG "hint" (top 21), dG "left_after" (top 22), dG "first_wrong" (top 23), dG "require_rule" (top 24), dG "_require_places" (top 25),
  dG "_told" (top 26), dG "_told_of_rows" (top 27), dG "_left_behind" (top 28), dM "Island" "__init__" "Island.__init__" sIslI, dM "Island" "__contains__" "Island.__contains__" (sIslM 8), dM "InvalidIsland" "__init__" "InvalidIsland.__init__" sII]
def gsD : List OmH.DefA := []
def tsD : List He.Tab := [(fun K => ga K "WORDS", ["plain", "rows", "near"])]
def tfD : List He.Defn := []
abbrev R : PySem.W.OpenRow := PySem.W.OpenLaw.row PySem.Challenge.rw_oldmap_k31_whole_digs
abbrev hk : PySem.W.Hook := OmH.hookY 6 (fa ++ fa2) fnD tsD tfD gsD exB
def ob (s : PySem.W.SharedT) : OmH.AlY := OmH.obsY 6 (fa ++ fa2) fnD tsD tfD gsD exB (HandSHeadRun.getT s)
theorem ob_eq (s : PySem.W.SharedT) : ob s = hk.obs s.abs := OmH.obsY_eq (HandSHeadRun.getT_eq s)
def loose1 : List Str := ["_wall", "WATER", "ALL_SIGNS", "in_range", "MapError", "InvalidIsland", "UnknownCell", "InvalidRule", "InvalidDig", "MOST_AWAY", "LARGEST", "Island", "require_land", "_lies_within", "_check_rows", "_first_wrong_column"]
def loose2 : List Str := ["WORDS", "hint", "left_after", "first_wrong", "require_rule", "_require_places", "_told", "_told_of_rows", "_left_behind",
  "_law_mix", "_law_next", "_law_alike", "_law_rows", "_law_cells", "_law_rule", "_law_hint", "_law_some"]
def loose : List Str := loose1 ++ loose2
theorem run (w : World) : HandSHeadRun.RunEq R (PySem.W.view R.prog [38]) hk ob 9000 loose w := by
  refine PySem.W.byRow2 "special-get-raises" (P := fun w => HandSHeadRun.RunEq R (PySem.W.view R.prog [38]) hk ob 9000 loose w) (fun w os => ?_) (fun w os => ?_) w
  · kernel_rfl
  · kernel_rfl
end Om

namespace Om
open PySem PySem.Spec PyProof.Rows L2 LamX He OmH
theorem errIB_ok {K : PySem.W.Frag} {x : Str} (h : errIB K x = true) : OexC K (ga K x) ∧ PySem.W.findIn K (.ref (ga K x)) "__init__" = some (some (.ref (ma K (ga K x) "__init__"))) ∧ PySem.W.typeIn K (.ref (ma K (ga K x) "__init__")) = some (.type "function") := by
  obtain ⟨h1, h2⟩ := ba h
  obtain ⟨h2, h3⟩ := ba h2
  exact ⟨oexB_ok h1, eqO_ok h2, of_decide_eq_true h3⟩
theorem b1 {K : PySem.W.Frag} {x q a : Str} {st : Stmt} {f : Addr} {fd : FuncData} (F : FnP K x q st f fd) (h : ∀ (kV doc pm : Value) (an : Option Addr) (cdv ct : Value) (u : Value), bindArgs (PySem.W.fnOf x q (defArgs st) (defBody st) (defScope st) .none kV doc pm an cdv ct) ⟨[u], []⟩ = pure [(a, u)]) : Binds K fd [a] [] :=
  FunD.bindsN F fun _ _ _ _ _ _ us hl => match us, hl with | [_], _ => h ..
theorem b2 {K : PySem.W.Frag} {x q a b : Str} {st : Stmt} {f : Addr} {fd : FuncData} (F : FnP K x q st f fd) (h : ∀ (kV doc pm : Value) (an : Option Addr) (cdv ct : Value) (u v : Value), bindArgs (PySem.W.fnOf x q (defArgs st) (defBody st) (defScope st) .none kV doc pm an cdv ct) ⟨[u, v], []⟩ = pure [(a, u), (b, v)]) : Binds K fd [a, b] [] :=
  FunD.bindsN F fun _ _ _ _ _ _ us hl => match us, hl with | [_, _], _ => h ..
theorem b3 {K : PySem.W.Frag} {x q a b c : Str} {st : Stmt} {f : Addr} {fd : FuncData} (F : FnP K x q st f fd) (h : ∀ (kV doc pm : Value) (an : Option Addr) (cdv ct : Value) (u v z : Value), bindArgs (PySem.W.fnOf x q (defArgs st) (defBody st) (defScope st) .none kV doc pm an cdv ct) ⟨[u, v, z], []⟩ = pure [(a, u), (b, v), (c, z)]) : Binds K fd [a, b, c] [] :=
  FunD.bindsN F fun _ _ _ _ _ _ us hl => match us, hl with | [_, _, _], _ => h ..
theorem b4 {K : PySem.W.Frag} {x q a b c d : Str} {st : Stmt} {f : Addr} {fd : FuncData} (F : FnP K x q st f fd) (h : ∀ (kV doc pm : Value) (an : Option Addr) (cdv ct : Value) (u v z y : Value), bindArgs (PySem.W.fnOf x q (defArgs st) (defBody st) (defScope st) .none kV doc pm an cdv ct) ⟨[u, v, z, y], []⟩ = pure [(a, u), (b, v), (c, z), (d, y)]) : Binds K fd [a, b, c, d] [] :=
  FunD.bindsN F fun _ _ _ _ _ _ us hl => match us, hl with | [_, _, _, _], _ => h ..
abbrev gI (K : PySem.W.Frag) : Addr := ga K "Island"
theorem parts_at {P : Program} {w : World} {K : PySem.W.Frag} {h base : Heap} {mg : Str → Option Value} (X : K.In h) (G : h.Ns mainGlobals mg) (c : He.SaysX (fa ++ fa2) fnD tsD tfD exB w h K) : Parts P w K mg base (gI K) (ga K "InvalidIsland") (ma K (gI K) "__init__") := by
  have d := c.t.d
  obtain ⟨f0, F0⟩ := d.def_ 0 (d := dG "_law_mix" (top 30)) rfl
  have F0 : FnP K "_law_mix" "_law_mix" (top 30) _ f0 := F0
  obtain ⟨f1, F1⟩ := d.def_ 1 (d := dG "_law_next" (top 31)) rfl
  have F1 : FnP K "_law_next" "_law_next" (top 31) _ f1 := F1
  obtain ⟨f2, F2⟩ := d.def_ 2 (d := dG "_law_alike" (top 32)) rfl
  have F2 : FnP K "_law_alike" "_law_alike" (top 32) _ f2 := F2
  obtain ⟨f3, F3⟩ := d.def_ 3 (d := dG "_law_rows" (top 33)) rfl
  have F3 : FnP K "_law_rows" "_law_rows" (top 33) _ f3 := F3
  obtain ⟨f4, F4⟩ := d.def_ 4 (d := dG "_law_cells" (top 34)) rfl
  have F4 : FnP K "_law_cells" "_law_cells" (top 34) _ f4 := F4
  obtain ⟨f5, F5⟩ := d.def_ 5 (d := dG "_law_rule" (top 35)) rfl
  have F5 : FnP K "_law_rule" "_law_rule" (top 35) _ f5 := F5
  obtain ⟨f6, F6⟩ := d.def_ 6 (d := dG "_law_hint" (top 36)) rfl
  have F6 : FnP K "_law_hint" "_law_hint" (top 36) _ f6 := F6
  obtain ⟨f7, F7⟩ := d.def_ 7 (d := dG "_law_some" (top 37)) rfl
  have F7 : FnP K "_law_some" "_law_some" (top 37) _ f7 := F7
  obtain ⟨f9, F9⟩ := d.def_ 9 (d := dG "in_range" (top 4)) rfl
  have F9 : FnP K "in_range" "in_range" (top 4) _ f9 := F9
  obtain ⟨f10, F10⟩ := d.def_ 10 (d := dG "_lies_within" (top 16)) rfl
  have F10 : FnP K "_lies_within" "_lies_within" (top 16) _ f10 := F10
  obtain ⟨f11, F11⟩ := d.def_ 11 (d := dG "_check_rows" (top 17)) rfl
  have F11 : FnP K "_check_rows" "_check_rows" (top 17) _ f11 := F11
  obtain ⟨f12, F12⟩ := d.def_ 12 (d := dG "_first_wrong_column" (top 18)) rfl
  have F12 : FnP K "_first_wrong_column" "_first_wrong_column" (top 18) _ f12 := F12
  obtain ⟨f13, F13⟩ := d.def_ 13 (d := dG "require_land" (top 15)) rfl
  have F13 : FnP K "require_land" "require_land" (top 15) _ f13 := F13
  obtain ⟨f14, F14⟩ := d.def_ 14 (d := dG "hint" (top 21)) rfl
  have F14 : FnP K "hint" "hint" (top 21) _ f14 := F14
  obtain ⟨f15, F15⟩ := d.def_ 15 (d := dG "left_after" (top 22)) rfl
  have F15 : FnP K "left_after" "left_after" (top 22) _ f15 := F15
  obtain ⟨f16, F16⟩ := d.def_ 16 (d := dG "first_wrong" (top 23)) rfl
  have F16 : FnP K "first_wrong" "first_wrong" (top 23) _ f16 := F16
  obtain ⟨f17, F17⟩ := d.def_ 17 (d := dG "require_rule" (top 24)) rfl
  have F17 : FnP K "require_rule" "require_rule" (top 24) _ f17 := F17
  obtain ⟨f18, F18⟩ := d.def_ 18 (d := dG "_require_places" (top 25)) rfl
  have F18 : FnP K "_require_places" "_require_places" (top 25) _ f18 := F18
  obtain ⟨f19, F19⟩ := d.def_ 19 (d := dG "_told" (top 26)) rfl
  have F19 : FnP K "_told" "_told" (top 26) _ f19 := F19
  obtain ⟨f20, F20⟩ := d.def_ 20 (d := dG "_told_of_rows" (top 27)) rfl
  have F20 : FnP K "_told_of_rows" "_told_of_rows" (top 27) _ f20 := F20
  obtain ⟨f21, F21⟩ := d.def_ 21 (d := dG "_left_behind" (top 28)) rfl
  have F21 : FnP K "_left_behind" "_left_behind" (top 28) _ f21 := F21
  obtain ⟨f22, F22⟩ := d.def_ 22 (d := dM "Island" "__init__" "Island.__init__" sIslI) rfl
  have F22 : FnP K "__init__" "Island.__init__" sIslI _ f22 := F22
  obtain ⟨f23, F23⟩ := d.def_ 23 (d := dM "Island" "__contains__" "Island.__contains__" (sIslM 8)) rfl
  have F23 : FnP K "__contains__" "Island.__contains__" (sIslM 8) _ f23 := F23
  obtain ⟨f24, F24⟩ := d.def_ 24 (d := dM "InvalidIsland" "__init__" "InvalidIsland.__init__" sII) rfl
  have F24 : FnP K "__init__" "InvalidIsland.__init__" sII _ f24 := F24
  have fr : ∀ {x : Str}, Fa.free x ∈ fa ++ fa2 → mg x = none := fun hx => free_ok X G (d.facts hx)
  have gl : ∀ {x : Str}, Fa.glo x ∈ fa ++ fa2 → mg x = some (.ref (ga K x)) := fun hx => glo_ok X G (d.facts hx)
  have fact : ∀ {f : Fa}, f ∈ fa ++ fa2 → f.ok K = true := fun hf => d.facts hf
  have gint : mg "int" = none := fr (by simp [fa])
  have glist : mg "list" = none := fr (by simp [fa])
  have glen : mg "len" = none := fr (by simp [fa])
  have grange : mg "range" = none := fr (by simp [fa])
  have gtuple : mg "tuple" = none := fr (by simp [fa])
  have gmax : mg "max" = none := fr (by simp [fa])
  have gmin : mg "min" = none := fr (by simp [fa])
  have genum : mg "enumerate" = none := fr (by simp [fa])
  have gisi : mg "isinstance" = none := fr (by simp [fa])
  have gbool : mg "bool" = none := fr (by simp [fa])
  have gstr : mg "str" = none := fr (by simp [fa])
  have gsorted : mg "sorted" = none := fr (by simp [fa])
  have gabs : mg "abs" = none := fr (by simp [fa])
  have gdict : mg "dict" = none := fr (by simp [fa])
  have sall := str_ok X G (fact (f := .str "ALL_SIGNS" allSigns) (by simp [fa]))
  have swat := str_ok X G (fact (f := .str "WATER" (Str.ofString "~")) (by simp [fa]))
  have slarge := int_ok X G (fact (f := .int "LARGEST" 12) (by simp [fa]))
  have saway := int_ok X G (fact (f := .int "MOST_AWAY" 22) (by simp [fa]))
  obtain ⟨x1, x2⟩ := ba c.more
  obtain ⟨x2, x3⟩ := ba x2
  obtain ⟨x3, x4⟩ := ba x3
  obtain ⟨x4, x5⟩ := ba x4
  obtain ⟨oII, iII, tII⟩ := errIB_ok x1
  have nR := noat_ok (fact (f := .noat "InvalidIsland" "row") (by simp [fa, fa2]))
  have nC := noat_ok (fact (f := .noat "InvalidIsland" "column") (by simp [fa, fa2]))
  have isi : IsI K mg (ga K "InvalidIsland") (ma K (ga K "InvalidIsland") "__init__") := ⟨oII, nR, nC, iII, tII, gl (by simp [fa])⟩
  have isl : IslF K mg (gI K) (ma K (gI K) "__init__") := ⟨cls_ok (fact (f := .cls "Island") (by simp [fa, fa2])), noat_ok (fact (f := .noat "Island" "_rows") (by simp [fa, fa2])), mkr_ok (fact (f := .mkr "Island") (by simp [fa, fa2])), gl (by simp [fa])⟩
  obtain ⟨es, n, kd⟩ := c.t.tab 0 (t := (fun K => ga K "WORDS", ["plain", "rows", "near"])) rfl
  have wf : WF K w mg (ga K "WORDS") := by
    refine ⟨gl (by simp [fa]), fun r => ?_⟩
    have key : ∀ {x : Str} {ws : List Str}, wordB K x ws = true → ∃ p, KDct K w (ga K "WORDS") x (.ref p) ∧ ∀ H, SqT K H p (ws.map V.str) := fun h => by
      obtain ⟨p, e, hS⟩ := wordB_ok h
      exact ⟨p, ⟨es, n, _, kd.at_, kd.lit, e, rfl⟩, hS⟩
    cases r with
    | plain => exact key x3
    | rows => exact key x4
    | near m => exact key x5
  have kNx : Cal P w K mg base CX0 1 "_law_next" ["_law_h", "_law_limit"] spNext := ⟨_, _, ok_next F1 gint gmax glen, gl (by simp [fa, fa2]), F1.kp, b2 F1 fun _ _ _ _ _ _ _ _ => rfl⟩
  have kRg : Cal P w K mg base CX0 1 "in_range" nInR spInR := ⟨_, _, ok_inR F9 gisi gint gbool, gl (by simp [fa, fa2]), F9.kp, b3 F9 fun _ _ _ _ _ _ _ _ _ => rfl⟩
  have kLi : Cal P w K mg base CX0 2 "_lies_within" ["rows", "cell"] (spLies K) := ⟨_, _, ok_lies F10 kRg glen, gl (by simp [fa, fa2]), F10.kp, b2 F10 fun _ _ _ _ _ _ _ _ => rfl⟩
  have kFw : Cal P w K mg base CX0 1 "_first_wrong_column" ["signs", "width"] spFwc := ⟨_, _, ok_fwc F12 grange glen sall, gl (by simp [fa, fa2]), F12.kp, b2 F12 fun _ _ _ _ _ _ _ _ => rfl⟩
  have bII : Binds K f24 ["self", "row", "column"] [] := b3 F24 fun _ _ _ _ _ _ _ _ _ => rfl
  have kCk : Cal P w K mg base (L2.CX P w) 3 "_check_rows" ["rows"] (spChk K (ga K "InvalidIsland")) := ⟨_, _, ok_chk F11 isi (ok_II F24 isi) bII kFw glen gmax gmin genum slarge, gl (by simp [fa, fa2]), F11.kp, b1 F11 fun _ _ _ _ _ _ _ => rfl⟩
  have bAl : Binds K f2 ["_law_found", "_law_due"] [] := b2 F2 fun _ _ _ _ _ _ _ _ => rfl
  have gAl : mg "_law_alike" = some (.ref (ga K "_law_alike")) := gl (by simp [fa, fa2])
  have bN : Binds K f22 ["self", "rows"] [] := b2 F22 fun _ _ _ _ _ _ _ _ => rfl
  have okN : FnOk P w K mg base (L2.CX P w) 4 (ma K (gI K) "__init__") f22 ["self", "rows"] (spIsl K (gI K) (ga K "InvalidIsland")) := ok_isl F22 isl kCk gtuple
  have kLa : Cal P w K mg base CX0 4 "require_land" ["island", "cell"] (spLand K (gI K)) := ⟨_, _, ok_land F13 (ownB_ok x2) (ok_has F23 isl kLi swat) (b2 F23 fun _ _ _ _ _ _ _ _ => rfl), gl (by simp [fa, fa2]), F13.kp, b2 F13 fun _ _ _ _ _ _ _ _ => rfl⟩
  have kRr : Cal P w K mg base CX0 2 "require_rule" ["rule"] (spReqR K) := ⟨_, _, ok_reqR F17 kRg glen saway, gl (by simp [fa, fa2]), F17.kp, b1 F17 fun _ _ _ _ _ _ _ => rfl⟩
  have kPl : Cal P w K mg base CX0 5 "_require_places" ["island", "places", "rule"] (spPlaces K (gI K)) := ⟨_, _, ok_places F18 kLa kRr, gl (by simp [fa, fa2]), F18.kp, b3 F18 fun _ _ _ _ _ _ _ _ _ => rfl⟩
  have kTr : Cal P w K mg base CX0 1 "_told_of_rows" ["row", "place_row"] spToldR := ⟨_, _, ok_toldR F20, gl (by simp [fa, fa2]), F20.kp, b2 F20 fun _ _ _ _ _ _ _ _ => rfl⟩
  have kTo : Cal P w K mg base CX0 2 "_told" ["rule", "cell", "place"] (spTold K) := ⟨_, _, ok_told F19 kTr gabs, gl (by simp [fa, fa2]), F19.kp, b3 F19 fun _ _ _ _ _ _ _ _ _ => rfl⟩
  have kLb : Cal P w K mg base CX0 6 "_left_behind" n4 (spLeftB K (gI K)) := ⟨_, _, ok_leftB F21 kPl kLa kTo wf genum glist, gl (by simp [fa, fa2]), F21.kp, b4 F21 fun _ _ _ _ _ _ _ _ _ _ => rfl⟩
  exact {
    mix := ⟨_, _, ok_mix F0 gint glist, gl (by simp [fa, fa2]), F0.kp, b2 F0 fun _ _ _ _ _ _ _ _ => rfl⟩
    nxt := kNx
    row := ⟨_, _, ok_lrows F3 kNx grange gtuple, gl (by simp [fa, fa2]), F3.kp, b2 F3 fun _ _ _ _ _ _ _ _ => rfl⟩
    rul := ⟨_, _, ok_lrule F5 kNx, gl (by simp [fa, fa2]), F5.kp, b1 F5 fun _ _ _ _ _ _ _ => rfl⟩
    cel := ⟨_, _, ok_lcells F4 grange glen, gl (by simp [fa, fa2]), F4.kp, b1 F4 fun _ _ _ _ _ _ _ => rfl⟩
    som := ⟨_, _, ok_lsome F7 kNx grange glen glist gtuple gsorted, gl (by simp [fa, fa2]), F7.kp, b3 F7 fun _ _ _ _ _ _ _ _ _ => rfl⟩
    hnl := ⟨_, _, ok_hintL F6 gabs, gl (by simp [fa, fa2]), F6.kp, b3 F6 fun _ _ _ _ _ _ _ _ _ => rfl⟩
    alk := ⟨_, _, ok_alike F2 gAl F2.kp bAl gisi gint gbool gstr gtuple glist gdict glen grange 3, gAl, F2.kp, bAl⟩
    hnt := ⟨_, _, ok_hint F14 kRr kTo, gl (by simp [fa, fa2]), F14.kp, b3 F14 fun _ _ _ _ _ _ _ _ _ => rfl⟩
    lft := ⟨_, _, ok_leftA F15 kLb, gl (by simp [fa, fa2]), F15.kp, b4 F15 fun _ _ _ _ _ _ _ _ _ _ => rfl⟩
    fst := ⟨_, _, ok_firstW F16 kLb genum glen, gl (by simp [fa, fa2]), F16.kp, b4 F16 fun _ _ _ _ _ _ _ _ _ _ => rfl⟩
    isl := isl
    mkI := ⟨_, okN, bN⟩ }
theorem law_at {w : World} {K : PySem.W.Frag} {h : Heap} {mg : Str → Option Value} {f : Addr} (X : K.In h) (G : h.Ns mainGlobals mg) (hfa : mg ("law" : Str) = some (.ref f)) (c : He.SaysX (fa ++ fa2) fnD tsD tfD exB w h K) :
    LawAtS PySem.Challenge.rw_oldmap_k31_whole_digs w K CX0 9 63 "_law_script" mg f h := by
  have d := c.t.d
  have fr : ∀ {x : Str}, Fa.free x ∈ fa ++ fa2 → mg x = none := fun hx => free_ok X G (d.facts hx)
  have gl : ∀ {x : Str}, Fa.glo x ∈ fa ++ fa2 → mg x = some (.ref (ga K x)) := fun hx => glo_ok X G (d.facts hx)
  have e := hfa.symm.trans (gl (x := "law") (by simp [fa, fa2]))
  cases e
  obtain ⟨fd, F⟩ := d.def_ 8 (d := dG "law" (top 38)) rfl
  have F : FnP K "law" "law" sLaw _ fd := F
  have bL := FunD.bindsA (ps := ["_law_script"]) F fun _ _ _ _ _ _ us hl => match us, hl with | [_], _ => rfl
  refine ⟨fd, [], spLaw K, fun p hp => (by cases hp), fun p hp => (by cases hp), fun p hp => (by cases hp), fun s u => bL s [u] rfl, fun H a ns hl _ hT hS => ⟨a, ns, rfl, hS, hl, fun _ => rfl⟩, fun base KB GB TB => ?_⟩
  have PP : Parts PySem.Challenge.rw_oldmap_k31_whole_digs.prog w K mg base _ _ _ := parts_at X G c
  exact ok_law F PP (fr (by simp [fa])) (fr (by simp [fa]))
end Om
open PySem PySem.W PySem.Calls PyProof.Rows
theorem PySem.Challenge.cw_oldmap_k31_whole_digs_holds : PySem.Challenge.rw_oldmap_k31_whole_digs.Holds := by
  w_on; o_law
  refine HandSHeadRun.head_any (r := OpenLaw.row PySem.Challenge.rw_oldmap_k31_whole_digs) (q := view (OpenLaw.row PySem.Challenge.rw_oldmap_k31_whole_digs).prog [38]) (H := Om.hk) (ob := Om.ob) (M := 9000) (loose := Om.loose) (d := HandSHeadRun.topDef (OpenLaw.row PySem.Challenge.rw_oldmap_k31_whole_digs).prog 38) (kwd := []) Om.ob_eq
    (by kernel_rfl) (fun s => by kernel_rfl) Om.run (by kernel_rfl) (by kernel_rfl) (by kernel_rfl) (by rfl) (by first | assumption | decide +kernel) (by decide +kernel) ⟨rfl, rfl, rfl, rfl, rfl, by decide +kernel⟩ ?hw ?hc
  case hw => w_witness2
  case hc =>
    refine LamX.walk_ofTsE (l := PySem.Challenge.rw_oldmap_k31_whole_digs) (n := 63) (k := 9) (x := "_law_script") (CX := fun _ => L2.CX0) rfl (by decide) (by kernel_rfl) ⟨rfl, by decide, by decide⟩ ?F (fun _ _ _ _ _ z => z)
    intro w mg fa h Y G hmg0
    obtain ⟨K, KX, c, cg⟩ := Y
    have hmg : mg ("law" : PySem.Str) = some (.ref fa) := by
      have e : (HandSHeadRun.topDef (OpenLaw.row PySem.Challenge.rw_oldmap_k31_whole_digs).prog 38).name = ("law" : PySem.Str) := by kernel_rfl
      rw [← e]
      exact hmg0
    exact ⟨K, KX, Om.law_at KX G hmg c⟩
