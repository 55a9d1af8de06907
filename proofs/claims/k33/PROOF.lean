import PyProof.Rows.All
import Wide.All
import OpenK.AllK
import Wide.FinOn
import HandS.ForMost
import HandS.Defaults
import HandS.More
import HandS.TupAny
import HandS.TupMul
import HandS.Exc
import HandS.ExcInit
import HandS.ExcField
import HandS.ExcIs
import HandS.TryOnly
import HandS.WordsExc
import HandS.Lambda
import HandS.EndTab
import HandS.HeadWalk
import HandS.HeadHook4
import PySem.Challenge.RW_oldmap_k33_digs_refused
import KE.GoesMore
import KE.GoesEnum
import HandS.Property
import HandS.OwnEq
import HandS.IsInst
import HandS.Walk
import HandS.ExcOwn
import PyProof.ExcBaseAll.ValueError
import HandS.SetTxt0
import HandS.Deep
import HandS.ReplaceLit
import HandS.ReplaceList
import HandS.Sort
import HandS.SetBool
import HandS.TupSets
import KE.SortData
import HandS.ListItems
import KE.KDictCopyH
import KE.KDictKeyed
import KE.KeyNested
import KE.KDictLaw
import HandS.SortKw
import KE.DataMinMax
import KE.OsArith
import HandS.Nested
import KE.KExcIs
import PyProof.TupleOfSeq
import HandS.ExcValue
import HandS.Head0
import HandS.Head1
import HandS.Head2
set_option Elab.async false
set_option linter.all false
set_option maxRecDepth 100000
set_option maxHeartbeats 0
namespace Om
open PySem PySem.Spec PyProof.Rows L2
def top (i : Nat) : Stmt := PySem.Challenge.pw_oldmap_k33_digs_refused.main.body.getD i (.Pass ⟨0, 0, 0, 0⟩)
/-- a def of the top -/
abbrev FnP (K : PySem.W.Frag) (x qual : Str) (st : Stmt) (f : Addr) (fd : FuncData) : Prop := FunD K x qual (defArgs st) (defBody st) (defScope st) [] [] f fd
/-- a def as its callers know it -/
structure Cal (P : Program) (w : World) (K : PySem.W.Frag) (mg : Str → Option Value) (base : Heap) (CX : CXT) (k : Nat) (x : Str) (ps : List Str) (sp : Sp) : Prop where
  ex : ∃ (f : Addr) (fd : FuncData), FnOk P w K mg base CX k f fd ps sp ∧ mg x = some (.ref f) ∧ PySem.W.keepIn K (.ref f) = true ∧ Binds K fd ps []
theorem pe_cal {X : Cx} {CX : CXT} {k : Nat} {x : Str} {ps : List Str} {sp : Sp} {E : XK} {e : Expr} {es : List Expr} {t : TA} {p pos : Pos} (C : Cal X.prog X.w X.K X.mg X.base CX k x ps sp) (hr : Room k X.A) (hx : Passes CX X E) (ha : PA X (e :: es) t) (hg : Gl X x := by rfl)
    (hdb : (x == ("__debug__" : Str)) = false := by decide) (he : starEach (e :: es) X.env = (false, eval e X.env) :: starEach es X.env := by rfl) (hpl : (backTo pos (starEach es X.env)).any (·.1) = false := by rfl) :
    PE X (.Call (.Name x p) (e :: es) [] pos) (tCall sp [] E t) := by
  obtain ⟨f, fd, F, hm, hk, hb⟩ := C.ex
  exact pe_call F hr hg hm hk hb .nil hx ha (hdb := hdb) (he := he) (hpl := hpl)
/-- all but two objects stay -/
def Kp (b l : Addr) (H H' : Hp) : Prop := ∀ c o, H c = some o → c ≠ b → c ≠ l → H' c = some o
theorem Kp.refl (b l : Addr) (H : Hp) : Kp b l H H := fun _ _ h _ _ => h
theorem Kp.trans {b l : Addr} {H H1 H2 : Hp} (a : Kp b l H H1) (c : Kp b l H1 H2) : Kp b l H H2 := fun x o h n1 n2 => c x o (a x o h n1 n2) n1 n2
theorem Kp.of {b l : Addr} {H H' : Hp} (a : Same H H') : Kp b l H H' := fun x o h _ _ => a x o h
theorem Kp.upd1 {b l : Addr} {H H' : Hp} {o : HO} (a : Kp b l H H') : Kp b l H (upd H' b o) := fun x u h n1 n2 => by rw [upd_ne n1]; exact a x u h n1 n2
theorem Kp.upd2 {b l : Addr} {H H' : Hp} {o : HO} (a : Kp b l H H') : Kp b l H (upd H' l o) := fun x u h n1 n2 => by rw [upd_ne n2]; exact a x u h n1 n2
theorem Same.new {H H' : Hp} {p : Addr} {o : HO} (a : Same H H') (h : H' p = none) : Same H (upd H' p o) := fun x u e => by
  rw [upd_ne (ne_of_none (a x u e) h)]
  exact a x u e
/-- the box of numbers that a law draws from -/
structure Box (H : Hp) (b l : Addr) : Prop where
  ex : ∃ (ns : List Int) (z : Int), H b = some (.lst [.ref l, .int z]) ∧ H l = some (.lst (ns.map V.int)) ∧ ns.length ≤ 63
theorem Box.ne {H : Hp} {b l : Addr} (B : Box H b l) : b ≠ l := by
  obtain ⟨ns, z, h1, h2, _⟩ := B.ex
  refine ne_of h1 h2 fun e => ?_
  have e2 : [V.ref l, V.int z] = ns.map V.int := HO.lst.inj e
  cases ns with
  | nil => cases e2
  | cons n r =>
    injection e2 with e3 _
    cases e3
theorem Box.same {H H' : Hp} {b l : Addr} (B : Box H b l) (s : Same H H') : Box H' b l := by
  obtain ⟨ns, z, h1, h2, h3⟩ := B.ex
  exact ⟨ns, z, s _ _ h1, s _ _ h2, h3⟩
def spBegun (K : PySem.W.Frag) : Sp := fun vs H Q _ => ∃ (a : Addr) (ns : List Int), vs = [.ref a] ∧ SqL K H a (ns.map V.int) ∧ ns.length ≤ 63 ∧
  ∀ (b l : Addr) (H' : Hp), H b = none → H l = none → Same H H' → Box H' b l → Q (.ref b) H'
def spTake : Sp := fun vs H Q _ => ∃ (b l : Addr) (m : Int), vs = [.ref b, .int m] ∧ Box H b l ∧ 0 < m ∧ m ≤ 1000000 ∧
  ∀ (n : Int) (H' : Hp), 0 ≤ n → n < m → Box H' b l → Kp b l H H' → Q (.int n) H'
section
variable {P : Program} {w : World} {K : PySem.W.Frag} {mg : Str → Option Value} {base : Heap}
theorem fun_binds {x qual : Str} {st : Stmt} {f : Addr} {fd : FuncData} {ps : List Str} (F : FnP K x qual st f fd)
    (h : ∀ (kV doc pm : Value) (an : Option Addr) (cdv ct : Value) (us : List Value), us.length = ps.length → bindArgs (PySem.W.fnOf x qual (defArgs st) (defBody st) (defScope st) .none kV doc pm an cdv ct) ⟨us, []⟩ = pure (ps.zip us)) : Binds K fd ps [] := FunD.bindsN F h
end
end Om

namespace Om
open PySem PySem.Spec PyProof.Rows L2
/-! ### data -/
theorem lay_ints : ∀ ns : List Int, PyData.canLayAll0 (ns.map PyData.int) = true
  | [] => by simp [PyData.canLayAll0]
  | n :: r => by simp [PyData.canLayAll0, PyData.canLay0, lay_ints r]
theorem dep_ints : ∀ ns : List Int, PyData.depthAll (ns.map PyData.int) = 0
  | [] => by simp [PyData.depthAll]
  | n :: r => by simp [PyData.depthAll, PyData.depth, dep_ints r]
theorem shaped_of {d : PyData} (h1 : d.canLay0 = true) (h2 : d.depth ≤ 64) : SeqAt.shaped d = true := by
  show (d.canLay0 && decide (d.depth ≤ 64)) = true
  rw [h1, decide_eq_true h2]
  rfl
theorem shaped_ints (ns : List Int) : SeqAt.shaped (.list (ns.map PyData.int)) = true :=
  shaped_of (by simp only [PyData.canLay0]; exact lay_ints ns) (by simp only [PyData.depth, dep_ints]; omega)
theorem shaped_nil : SeqAt.shaped (.list []) = true := shaped_of (by simp [PyData.canLay0, PyData.canLayAll0]) (by simp [PyData.depth, PyData.depthAll])
theorem dpAll_ints {K : PySem.W.Frag} {H : Hp} : ∀ ns : List Int, DpAll K H (ns.map V.int) (ns.map PyData.int)
  | [] => .nil
  | n :: r => .cons (.int n) (dpAll_ints r)
theorem eqv_ints_nil (ns : List Int) : PyData.eqv (.list (ns.map PyData.int)) (.list []) = ns.isEmpty := by
  cases ns <;> simp [PyData.eqv, PyData.eqvAll]
theorem fmod_pos {a m : Int} (h : 0 < m) : 0 ≤ a.fmod m ∧ a.fmod m < m := by
  rw [Int.fmod_eq_emod_of_nonneg _ (Int.le_of_lt h)]
  exact ⟨Int.emod_nonneg _ (by omega), Int.emod_lt_of_pos _ h⟩
theorem at0 {x : V} {r : List V} : atI (x :: r) 0 = some x := by
  unfold atI ixN
  rw [if_pos (by omega), if_pos (by simp)]
  rfl
theorem ix0 {x : V} {r : List V} : ixN (x :: r).length 0 = some 0 := by
  unfold ixN
  rw [if_pos (by omega), if_pos (by simp)]
  rfl
/-! ### take -/
end Om

namespace Om
open PySem PySem.Spec PyProof.Rows L2
/-! ### texts as lists of codes -/
def tx (cs : List Nat) : Str := ⟨cs.toArray⟩
theorem tx_cps (cs : List Nat) : (tx cs).cps.toList = cs := by simp [tx]
theorem tx_len (cs : List Nat) : (tx cs).length = cs.length := by simp [tx, Str.length]
theorem tx_app (a b : List Nat) : tx a ++ tx b = tx (a ++ b) := by
  show Str.append (tx a) (tx b) = tx (a ++ b)
  simp [tx, Str.append]
theorem tx_inj {a b : List Nat} (h : tx a = tx b) : a = b := by
  have e : (tx a).cps.toList = (tx b).cps.toList := by rw [h]
  rw [tx_cps, tx_cps] at e
  exact e
theorem of_tx (s : Str) : tx s.cps.toList = s := by
  obtain ⟨c⟩ := s
  simp [tx]
theorem join_tx : ∀ cs : List Nat, Str.join ⟨#[]⟩ (cs.map fun c => tx [c]) = tx cs
  | [] => rfl
  | [c] => rfl
  | c :: d :: r => by
    have ih := join_tx (d :: r)
    show tx [c] ++ (⟨#[]⟩ : Str) ++ Str.join ⟨#[]⟩ ((d :: r).map fun c => tx [c]) = tx (c :: d :: r)
    rw [ih]
    have e0 : (⟨#[]⟩ : Str) = tx [] := rfl
    rw [e0, tx_app, tx_app]
    rfl
theorem empty_tx : Str.ofString "" = (⟨#[]⟩ : Str) := by decide +kernel
def okSign (c : Nat) : Prop := c = 46 ∨ c = 126 ∨ (65 ≤ c ∧ c ≤ 90)
/-- what a law draws as rows -/
structure RowsOk (m : Nat) (rows : List (List Nat)) : Prop where
  h1 : 1 ≤ rows.length
  hm : rows.length ≤ m
  w : ∃ wd, 1 ≤ wd ∧ wd ≤ m ∧ ∀ r ∈ rows, r.length = wd ∧ ∀ c ∈ r, okSign c
def vt (r : List Nat) : V := .str (tx r)
def spRows : Sp := fun vs H Q _ => ∃ (b l : Addr) (m : Nat), vs = [.ref b, .int m] ∧ Box H b l ∧ 1 ≤ m ∧ m ≤ 12 ∧
  ∀ (p : Addr) (rows : List (List Nat)) (H' : Hp), RowsOk m rows → H p = none → H' p = some (.tup (rows.map vt)) → Box H' b l → Kp b l H H' → Q (.ref p) H'
def rJoin (K : PySem.W.Frag) : V → List V → Hp → VK → Prop := fun x xs H Q => ∃ a p, ∃ ys : List Str, x = .str a ∧ xs = [.ref p] ∧ (SqL K H p (ys.map V.str) ∨ SqT K H p (ys.map V.str)) ∧
      (ys.map (·.length)).sum + ys.length * a.length ≤ 16777216 ∧ Q (.str (Txt.join a ys)) H
theorem pe_joinK {X : Cx} {o e : Expr} {to te : TE} {apos pos : Pos} (ho : PE X o to) (he : PE X e te) (hs : starEach [e] X.env = [(false, eval e X.env)] := by rfl) (hbase : attributeBase o "join" X.env (eval o X.env) = eval o X.env := by rfl) (hline : (apos.endLine == pos.line) = true := by rfl) :
    PE X (.Call (.Attribute o "join" apos) [e] [] pos) (tM1 (rJoin X.K) to te) := pe_join ho he hs hbase hline
/-- the scope of the i-th comprehension of a return's call -/
def retExpr (s : Stmt) : Expr := match s with
  | .Return (some e) _ => e
  | _ => .Constant .none 0 ⟨0, 0, 0, 0⟩
def arg0 (e : Expr) : Expr := match e with
  | .Call _ (a :: _) _ _ => a
  | _ => .Constant .none 0 ⟨0, 0, 0, 0⟩
def lcScope (e : Expr) : Scope := match e with
  | .ListComp _ _ sc _ => sc
  | _ => { kind := .function, names := [], isGenerator := false, isCoroutine := false }
def lcElt (e : Expr) : Expr := match e with
  | .ListComp e _ _ _ => e
  | _ => .Constant .none 0 ⟨0, 0, 0, 0⟩
def relab (sc : Scope) (out : Scope) : Scope := { sc with names := sc.names.map fun (n, k) => if (k == NameKind.free && out.kind == .function && out.names.lookup n == some .cell) then (n, NameKind.cell) else (n, k) }
theorem atI_of {α : Type} {xs : List α} {n : Int} (h0 : 0 ≤ n) (h1 : n < xs.length) : ∃ v, atI xs n = some v ∧ v ∈ xs := by
  have hj : n.toNat < xs.length := by omega
  refine ⟨xs[n.toNat], ?_, List.getElem_mem hj⟩
  have e : ((n.toNat : Nat) : Int) = n := by omega
  have z := atI_nat (xs := xs) (j := n.toNat) (v := xs[n.toNat]) (by simp [hj])
  rw [e] at z
  exact z
theorem tyes {σ : L2.St} {H : Hp} {f g : Hp → Prop} (h : f H) : tYes σ H fun b H3 => if b = true then f H3 else g H3 := by
  show (if true = true then f H else g H)
  rw [if_pos rfl]
  exact h
end Om

/-! enumerate(tuple) and enumerate(text) -/
namespace PySem
open Sem (wp)
open Builtin
set_option maxHeartbeats 2000000 in
theorem om_enum_new {u : Value} {ob : Obj} {Hh : Heap → Prop} (B : Begins u ob Hh) :
    Meets (Builtin.«enumerate.__new__» ⟨[.type "enumerate", u], []⟩) (fun _ R z => Hh z.heap ∧
      R (.ok (.ret (.ref (z.heap.push ob).objs.size))) { z with heap := (z.heap.push ob).push { cls := .type "enumerate", data := .fields #[.none, .bool false, .ref z.heap.objs.size, rawInt 0, .none, .none] } }) :=
  Meets.of_wp fun pr wo Ar Re st hq => by
    obtain ⟨hp0, gg, dd, tt, oo⟩ := st
    obtain ⟨hB, hq⟩ := hq
    have hs0 := sub_enumerate
    have step : ∀ {A' : Around} {E : Value → Shared → Prop} {Q : Value → Shared → Prop}, Q (.ref hp0.objs.size) ⟨hp0.push ob, gg, dd, tt, oo⟩ → wpAny (model pr wo) A' (pyIter u) Q E ⟨hp0, gg, dd, tt, oo⟩ :=
      fun q => B.iter pr wo _ _ ⟨hp0, gg, dd, tt, oo⟩ _ hB q
    wp_walk using step
    refine wpAny_stack_any fun zz => wpAny_pure ?_
    split
    · rename_i cc _ _ _ _ _
      cases (cc == Value.type "enumerate") <;> (wp_walk using step; exact ⟨_, rfl, hq⟩)
    · wp_walk using step
      exact ⟨_, rfl, hq⟩
theorem om_enum_call {prog : Program} {w : World} {A : Around} {E : Value → Shared → Prop} {s : Shared} {u : Value} {ob : Obj} {Hh : Heap → Prop} {Q : Value → Shared → Prop} (B : Begins u ob Hh) (hB : Hh s.heap)
    (hq : ∀ h', IsEnum h' (s.heap.objs.size + 1) s.heap.objs.size 0 .none → h'.get? s.heap.objs.size = some ob → (∀ b o, s.heap.get? b = some o → h'.get? b = some o) → Q (.ref (s.heap.objs.size + 1)) { s with heap := h' }) :
    wpAny (model prog w) A (call (.type "enumerate") [u]) Q E s := by
  refine callType_new F.called_enumerate (by decide) (F.typeCall_enumerate_1 _) (F.newCall_enumerate_1 _) (fun obj => F.args_object_init_2 obj _) F.entry_enumerate_new (om_enum_new B) ⟨hB, ?_⟩
  have z1 : (s.heap.push ob).objs.size = s.heap.objs.size + 1 := Heap.size_push ..
  show _ ∧ _
  rw [z1]
  have z2 : IsEnum ((s.heap.push ob).push { cls := .type "enumerate", data := .fields #[.none, .bool false, .ref s.heap.objs.size, rawInt 0, .none, .none] }) (s.heap.objs.size + 1) s.heap.objs.size 0 .none := by
    have z3 := Heap.get?_push_size (s.heap.push ob) (o := { cls := .type "enumerate", data := .fields #[.none, .bool false, .ref s.heap.objs.size, rawInt 0, .none, .none] }) rfl
    rw [z1] at z3
    exact z3
  exact ⟨⟨_, z2, rfl⟩, hq _ z2 (Heap.get?_push_of_some _ (Heap.get?_push_size _ B.free)) fun b o x => Heap.get?_push_of_some _ (Heap.get?_push_of_some _ x)⟩
end PySem
namespace Om
open PySem PySem.Spec PyProof.Rows L2
/-- the tuple's items in new pairs -/
def IteT (K : PySem.W.Frag) (a : Addr) (xs : List V) : It :=
  ⟨fun i H => SqT K H a xs ∧ i < xs.length, fun i H v H' => ∃ T x, v = .ref T ∧ H T = none ∧ H' = upd H T (.tup [.int (i : Nat), x]) ∧ xs[i]? = some x, fun i H => SqT K H a xs ∧ xs.length = i⟩
theorem turn_enumT {P : Program} {w : World} {K : PySem.W.Frag} {elts : List Expr} {kk : Nat} {tpos : Pos} {a e it : Addr} {xs : List V} (nae : a ≠ e) (nai : a ≠ it) (nei : e ≠ it) :
    Turn P w K (.Tuple elts kk tpos) (IteT K a xs) [e, it] e (fun i h => (∃ old, IsEnum h e it ((i : Nat) : Int) old) ∧ h.IsTupleIter it a i) where
  mem := by simp
  obj := fun i h ⟨⟨old, he⟩, o, ho, hc, hd⟩ b hb => by
    rcases (show b = e ∨ b = it by simpa using hb) with rfl | rfl
    · exact ⟨_, he, fun v q => nomatch q⟩
    · exact ⟨o, ho, fun v q => by rw [hd] at q; cases q⟩
  keep := fun i h h' ⟨⟨old, he⟩, hi⟩ k => ⟨⟨old, k e (by simp) _ he⟩, hi.at fun o q => k it (by simp) o q⟩
  item := by
    intro X eP ew eK hc i pins s σ H E I hf ⟨⟨old, he⟩, hit⟩ ⟨hq, hlt⟩
    subst eP ew eK
    obtain ⟨its, rv, tu, hz⟩ := I.tuple hq
    have hx : xs[i]? = some xs[i] := by simp [hlt]
    obtain ⟨u, hu, ru⟩ := rv.get hx
    have el : e < s.heap.objs.size := Heap.lt_size he
    have il : it < s.heap.objs.size := by obtain ⟨_, q, _⟩ := hit; exact Heap.lt_size q
    have hsz : i < its.toArray.size := by
      have := rv.length
      simp
      omega
    have hd0 : X.A.in1.handled = none := I.ok.hd hc
    refine wpAny_pyNext_enum_itemD (Draws.tuple hd0 it a nai its.toArray) he ⟨hit, tu⟩ hsz nei (by simp [nei, Ne.symm nae]) fun x h' tk hx2 ho hst hT hs2 hk => ?_
    obtain rfl : x = u := by
      have e1 : its.toArray[i]? = some x := hx2
      have e2 : its.toArray[i]? = some u := by simpa using hu
      rw [e1] at e2
      exact Option.some.inj e2
    refine ⟨_, rfl, wpAny_letOwnedTupleGo_enum (s := { s with heap := h', toks := tk + 1 }) ho fun h2 he2 sb => ?_⟩
    have hT2 := (sb.2 _ (Nat.ne_of_gt el)).trans hT
    have new : ObjOk X.prog X.w (upd H s.heap.objs.size (.tup [.int (i : Nat), xs[i]])) h2 s.heap.objs.size (.tup [.int (i : Nat), xs[i]]) :=
      ⟨(show 2 ≤ sizeLine by decide), [.int i tk, x], .cons ⟨_, rfl⟩ (.cons ru .nil), _, hT2, rfl, _, rfl⟩
    have I1 : Inv X pins σ (upd H s.heap.objs.size (.tup [.int (i : Nat), xs[i]])) { s with heap := h2, toks := tk + 1 } :=
      I.turnedNew (ch := [e, it]) (fun b ob hb q => (sb.2 b (by rintro rfl; simp at hb)).trans (hk b ob (by rintro rfl; simp at hb) (by rintro rfl; simp at hb) q)) hf (Nat.le_refl _) new
    have ei : ((i + 1 : Nat) : Int) = (i : Int) + 1 := by omega
    refine ⟨.ref s.heap.objs.size, _, I1, rfl, ⟨_, _, rfl, I.hok.fresh (Nat.le_refl _), rfl, hx⟩, ⟨⟨x, by rw [ei]; exact he2⟩, hst.1.at fun o q => (sb.2 it (Ne.symm nei)).trans q⟩, fun b hb => ?_⟩
    have hlt2 : b < s.heap.objs.size := by
      rcases (show b = e ∨ b = it by simpa using hb) with rfl | rfl
      · exact el
      · exact il
    rw [upd_ne (Nat.ne_of_lt hlt2)]
    exact (hf b hb).1
  done := by
    intro X eP ew eK hc i pins s σ H E I hf ⟨⟨old, he⟩, hit⟩ ⟨hq, hle⟩
    subst eP ew eK
    obtain ⟨its, rv, tu, hz⟩ := I.tuple hq
    obtain ⟨f0, f1, f2, f3, f4, f5⟩ := hf it (by simp)
    have hl := rv.length
    have hd0 : X.A.in1.handled = none := I.ok.hd hc
    obtain rfl : i = its.toArray.size := by simp; omega
    exact wpAny_pyNext_enum_endD (Draws.tuple hd0 it a nai its.toArray) he ⟨hit, tu⟩ fun h' eb => ⟨rfl, I.turned (t' := s.toks) (fun b o hb q => eb b o hb q) f0 f1 f3 f4 f5⟩
  self := fun A i s Q E ⟨⟨_, he⟩, _⟩ h => wpAny_pyIter_enum he h
def iEnumT (K : PySem.W.Frag) (ta : TA) : TI := fun σ H R => ta σ H fun vs H1 => ∃ a xs, vs = [.ref a] ∧ SqT K H1 a xs ∧ R (IteT K a xs) H1
theorem pi_enumT {X : Cx} {e : Expr} {ta : TA} {p pos tpos : Pos} {elts : List Expr} {kk : Nat} (hg : Gl X "enumerate") (hm : X.mg "enumerate" = none) (ha : PA X [e] ta) (hs : starEach [e] X.env = [(false, eval e X.env)] := by rfl) :
    PI X (.Tuple elts kk tpos) (.Call (.Name "enumerate" p) [e] [] pos) (iEnumT X.K ta) := by
  constructor
  intro pins s σ H R I h
  refine Call_ (ld_blt I hg hm boot_enumerate (PyProof.Rows.callWith_type1 (thn (ha.run pos pins s σ H _ I h) fun us s1 ⟨vs, H1, I1, r1, a, xs, ev, hq, q⟩ => ?_) hs rfl))
  subst ev
  cases r1 with
  | cons ra rr =>
    cases rr
    cases ra
    obtain ⟨its, rv, tu, hz⟩ := I1.tuple hq
    have la : a < s1.heap.objs.size := by obtain ⟨o, ho, _⟩ := tu; exact Heap.lt_size ho
    refine om_enum_call (begins_tuple a its.toArray) tu fun h' he hi hk => wpAny_pyIter_enum he ?_
    have I2 : Inv X pins σ H1 { s1 with heap := h' } := I1.kept (t' := s1.toks) hk
    refine ⟨s1.heap.objs.size + 1, [s1.heap.objs.size + 1, s1.heap.objs.size], _, _, H1, rfl, I2, turn_enumT (a := a) (xs := xs) (Nat.ne_of_lt (Nat.lt_succ_of_lt la)) (Nat.ne_of_lt la) (Nat.succ_ne_self _), ⟨⟨.none, he⟩, _, hi, rfl, rfl⟩, fun b hb => ?_, q⟩
    have hb2 : s1.heap.objs.size ≤ b := by
      rcases (show b = s1.heap.objs.size + 1 ∨ b = s1.heap.objs.size by simpa using hb) with rfl | rfl
      · omega
      · exact Nat.le_refl _
    exact I1.fpOk hb2 (I1.hok.fresh hb2)
/-- for i, x in enumerate(t): one turn from Pv i to Pv (i + 1) -/
theorem for_enumT {K : PySem.W.Frag} {a : Addr} {xs : List V} {g : TG} {tb : TS} {D : Ends} {σ : L2.St} {H : Hp} (Pv : Nat → L2.St → Hp → Prop) (h0 : Pv 0 σ H) (hl : ∀ i σ H, i ≤ xs.length → Pv i σ H → SqT K H a xs)
    (hs : ∀ i x T σ H, xs[i]? = some x → Pv i σ H → H T = none → g (.ref T) σ (upd H T (.tup [.int (i : Nat), x])) fun σ2 H2 => tb { D with nx := Pv (i + 1), ct := Pv (i + 1), bk := D.nx } σ2 H2) (hd : ∀ σ H, Pv xs.length σ H → D.nx σ H) :
    ∃ W : Nat → Nat → L2.St → Hp → Prop, (∃ m, W 0 m σ H) ∧ ∀ i m σ H, W i m σ H → ((IteT K a xs).stop i H ∧ D.nx σ H) ∨ ((IteT K a xs).go i H ∧ ∃ Nx : L2.St → Hp → Prop, (∀ σ' H', Nx σ' H' → ∃ m', m' < m ∧ W (i + 1) m' σ' H') ∧
      ∀ x H', (IteT K a xs).yld i H x H' → g x σ H' fun σ2 H2 => tb { D with nx := Nx, ct := Nx, bk := D.nx } σ2 H2) := by
  refine ⟨fun i m σ H => m = xs.length - i ∧ i ≤ xs.length ∧ Pv i σ H, ⟨xs.length, by omega, Nat.zero_le _, h0⟩, ?_⟩
  rintro i m σ H ⟨rfl, hi, p⟩
  have q := hl i σ H hi p
  by_cases hlt : i < xs.length
  · refine .inr ⟨⟨q, hlt⟩, Pv (i + 1), fun σ' H' p' => ⟨xs.length - (i + 1), by omega, rfl, hlt, p'⟩, fun x H' hy => ?_⟩
    obtain ⟨T, y, rfl, hT, rfl, hx⟩ := hy
    exact hs i y T σ H hx p hT
  · obtain rfl : i = xs.length := by omega
    exact .inl ⟨⟨q, rfl⟩, hd σ H p⟩
end Om


/-! the first wrong sign of rows: the program's way and the law's -/
namespace Om
def okB (c : Nat) : Bool := decide (c = 46 ∨ c = 126 ∨ (65 ≤ c ∧ c ≤ 90))
theorem okB_iff (c : Nat) : okB c = true ↔ okSign c := by unfold okB okSign; exact decide_eq_true_iff
/-- the first of n columns from i on that is missing or wrong -/
def fw (r : List Nat) : Nat → Nat → Option Nat
  | 0, _ => none
  | n + 1, i => if i = r.length ∨ okB (r.getD i 0) = false then some i else fw r n (i + 1)
def fwEnd (r : List Nat) (wd : Nat) : Option Nat := if wd < r.length then some wd else none
def orElse' (a b : Option Nat) : Option Nat := match a with
  | some c => some c
  | none => b
def fwc (r : List Nat) (wd : Nat) : Option Nat := orElse' (fw r wd 0) (fwEnd r wd)
def chkF (wd : Nat) : List (List Nat) → Nat → Option (Nat × Nat)
  | [], _ => none
  | r :: rs, i => if i = 12 then some (i, 0) else match fwc r wd with
    | some c => some (i, c)
    | none => chkF wd rs (i + 1)
def wdOf (r : List Nat) : Nat := max 1 (min r.length 12)
def chk : List (List Nat) → Option (Nat × Nat)
  | [] => some (0, 0)
  | r :: rs => chkF (wdOf r) (r :: rs) 0
def dc (w0 : Nat) (r : List Nat) : Nat → Nat → Option Nat
  | 0, _ => none
  | n + 1, i => if 12 ≤ i ∨ w0 ≤ i ∨ okB (r.getD i 0) = false then some i else dc w0 r n (i + 1)
def dcEnd (w0 : Nat) (r : List Nat) : Option Nat := if r.length < w0 then some r.length else none
def dcc (w0 : Nat) (r : List Nat) : Option Nat := orElse' (dc w0 r r.length 0) (dcEnd w0 r)
def dueF (w0 : Nat) : List (List Nat) → Nat → Option (Nat × Nat)
  | [], _ => none
  | r :: rs, i => if i = 12 then some (12, 0) else match dcc w0 r with
    | some c => some (i, c)
    | none => dueF w0 rs (i + 1)
def due : List (List Nat) → Option (Nat × Nat)
  | [] => some (0, 0)
  | [] :: _ => some (0, 0)
  | (c :: r) :: rs => dueF (r.length + 1) ((c :: r) :: rs) 0
theorem row_same {r : List Nat} {w0 wd : Nat} (hwd : wd = min w0 12) (hc : w0 ≤ 12 ∨ r.length = w0) :
    ∀ (m i n k : Nat), m = wd - i → i ≤ wd → i ≤ r.length → n = wd - i → k = r.length - i → orElse' (fw r n i) (fwEnd r wd) = orElse' (dc w0 r k i) (dcEnd w0 r) := by
  intro m
  induction m with
  | zero =>
    intro i n k hm hi hr hn hk
    obtain rfl : i = wd := by omega
    obtain rfl : n = 0 := by omega
    show fwEnd r i = _
    unfold fwEnd
    by_cases hl : i < r.length
    · rw [if_pos hl]
      obtain ⟨k', rfl⟩ : ∃ k', k = k' + 1 := ⟨k - 1, by omega⟩
      unfold dc
      rw [if_pos (by omega)]
      rfl
    · rw [if_neg hl]
      obtain rfl : k = 0 := by omega
      show none = dcEnd w0 r
      unfold dcEnd
      rw [if_neg (by omega)]
  | succ m ih =>
    intro i n k hm hi hr hn hk
    obtain ⟨n', rfl⟩ : ∃ n', n = n' + 1 := ⟨n - 1, by omega⟩
    by_cases he : i = r.length
    · obtain rfl : k = 0 := by omega
      unfold fw
      rw [if_pos (.inl he)]
      show some i = dcEnd w0 r
      unfold dcEnd
      rw [if_pos (by omega), he]
    · obtain ⟨k', rfl⟩ : ∃ k', k = k' + 1 := ⟨k - 1, by omega⟩
      unfold fw dc
      by_cases hb : okB (r.getD i 0) = false
      · rw [if_pos (.inr hb), if_pos (.inr (.inr hb))]
        rfl
      · rw [if_neg (by intro h; rcases h with h | h; exact he h; exact hb h), if_neg (by intro h; rcases h with h | h | h; omega; omega; exact hb h)]
        exact ih (i + 1) n' k' (by omega) (by omega) (by omega) (by omega) (by omega)
theorem fwc_dcc {r : List Nat} {w0 : Nat} (hc : w0 ≤ 12 ∨ r.length = w0) : fwc r (min w0 12) = dcc w0 r :=
  row_same (wd := min w0 12) rfl hc _ 0 _ _ rfl (Nat.zero_le _) (Nat.zero_le _) rfl rfl
theorem chkF_dueF {w0 : Nat} (h : w0 ≤ 12) : ∀ (rs : List (List Nat)) (i : Nat), chkF (min w0 12) rs i = dueF w0 rs i
  | [], _ => rfl
  | r :: rs, i => by
    unfold chkF dueF
    by_cases hi : i = 12
    · rw [if_pos hi, if_pos hi, hi]
    · rw [if_neg hi, if_neg hi, fwc_dcc (.inl h), chkF_dueF h rs (i + 1)]
theorem chk_due : ∀ rows : List (List Nat), chk rows = due rows
  | [] => rfl
  | [] :: rs => rfl
  | (c :: r) :: rs => by
    have hw : wdOf (c :: r) = min (r.length + 1) 12 := by unfold wdOf; simp only [List.length_cons]; omega
    show chkF (wdOf (c :: r)) ((c :: r) :: rs) 0 = dueF (r.length + 1) ((c :: r) :: rs) 0
    rw [hw]
    by_cases h : r.length + 1 ≤ 12
    · exact chkF_dueF h _ 0
    · unfold chkF dueF
      rw [if_neg (by decide), if_neg (by decide), fwc_dcc (r := c :: r) (w0 := r.length + 1) (.inr rfl)]
      have hs : ∃ x, dcc (r.length + 1) (c :: r) = some x := by
        rw [← fwc_dcc (r := c :: r) (w0 := r.length + 1) (.inr rfl)]
        unfold fwc fwEnd
        cases hf : fw (c :: r) (min (r.length + 1) 12) 0 with
        | some x => exact ⟨x, rfl⟩
        | none => exact ⟨_, if_pos (by simp only [List.length_cons]; omega)⟩
      obtain ⟨x, hx⟩ := hs
      rw [hx]
/-- rows that are good -/
theorem fw_none {r : List Nat} (h : ∀ c ∈ r, okSign c) : ∀ n i, i + n ≤ r.length → fw r n i = none
  | 0, _, _ => rfl
  | n + 1, i, hi => by
    unfold fw
    have h1 : okB (r.getD i 0) = true := by
      rw [okB_iff, List.getD_eq_getElem?_getD, List.getElem?_eq_getElem (by omega)]
      exact h _ (List.getElem_mem _)
    rw [if_neg (by rintro (h | h); · omega
                   · rw [h1] at h; cases h), fw_none h n (i + 1) (by omega)]
theorem chkF_none {wd : Nat} : ∀ (rs : List (List Nat)) (i : Nat), i + rs.length ≤ 12 → (∀ r ∈ rs, r.length = wd ∧ ∀ c ∈ r, okSign c) → chkF wd rs i = none
  | [], _, _, _ => rfl
  | r :: rs, i, hi, h => by
    obtain ⟨h1, h2⟩ := h r (List.mem_cons_self ..)
    unfold chkF
    have e : fwc r wd = none := by
      unfold fwc fwEnd
      rw [fw_none h2 wd 0 (by omega), if_neg (by omega)]
      rfl
    simp only [List.length_cons] at hi
    rw [if_neg (by omega), e]
    exact chkF_none rs (i + 1) (by omega) fun r hr => h r (List.mem_cons_of_mem _ hr)
theorem chk_rows {m : Nat} {rows : List (List Nat)} (h : RowsOk m rows) (hm : m ≤ 12) : chk rows = none := by
  obtain ⟨h1, h2, wd, w1, w2, hr⟩ := h
  cases rows with
  | nil => simp at h1
  | cons r rs =>
    have e := (hr r (List.mem_cons_self ..)).1
    have hw : wdOf r = wd := by unfold wdOf; omega
    show chkF (wdOf r) (r :: rs) 0 = none
    rw [hw]
    exact chkF_none _ 0 (by omega) hr
end Om


namespace Om
open PySem PySem.Spec PyProof.Rows L2
abbrev sFwc : Stmt := top 19
abbrev sChk : Stmt := top 18
abbrev sII : Stmt := inClass (top 7) 0
abbrev sIslI : Stmt := inClass (top 15) 0
def allSigns : Str := Str.ofString ".ABCDEFGHIJKLMNOPQRSTUVWXYZ~"
theorem allSigns_cps : allSigns.cps.toList = [46, 65, 66, 67, 68, 69, 70, 71, 72, 73, 74, 75, 76, 77, 78, 79, 80, 81, 82, 83, 84, 85, 86, 87, 88, 89, 90, 126] := by decide +kernel
theorem mem_allSigns (c : Nat) : decide (c ∈ allSigns.cps.toList) = okB c := by
  rw [allSigns_cps]
  unfold okB
  apply decide_eq_decide.mpr
  simp only [List.mem_cons, List.not_mem_nil, or_false]
  omega
def optV : Option Nat → V
  | some c => .int (c : Nat)
  | none => .non
def spFwc : Sp := fun vs H Q _ => ∃ (r : List Nat) (wd : Nat), vs = [.str (tx r), .int wd] ∧ r.length ≤ 1000 ∧ wd ≤ 12 ∧ Q (optV (fwc r wd)) H
theorem small_le {n : Nat} (h : n ≤ 1000) : n ≤ sizeLine := Nat.le_of_lt (small1000 h)
theorem fw_succ (r : List Nat) (n i : Nat) : fw r (n + 1) i = if i = r.length ∨ okB (r.getD i 0) = false then some i else fw r n (i + 1) := rfl
section
variable {P : Program} {w : World} {K : PySem.W.Frag} {mg : Str → Option Value} {base : Heap}
theorem scFwc : FnScope ["signs", "width", "column"] ["signs", "width"] (defScope sFwc) := ⟨rfl, rfl, rfl, by decide +kernel, rfl, by decide +kernel, by decide +kernel⟩
theorem ok_fwc {f : Addr} {fd : FuncData} (F : FnP K "_first_wrong_column" "_first_wrong_column" sFwc f fd) (grange : mg "range" = none) (glen : mg "len" = none) (gall : ∃ t, mg "ALL_SIGNS" = some (.str allSigns t)) :
    FnOk P w K mg base CX0 1 f fd ["signs", "width"] spFwc := by
  obtain ⟨t0, gall⟩ := gall
  refine F.ok scFwc (fun vs H Q E h => ?_) (fun cdv A outer s H vs Q E hr h => ?_)
  · obtain ⟨r, wd, rfl, _⟩ := h
    rfl
  · obtain ⟨r, wd, rfl, hl, hw, k⟩ := h
    have nd := scFwc.nd
    have hl2 : (tx r).length ≤ sizeLine := by rw [tx_len]; exact small_le hl
    refine ⟨_, PSs.nox (pss_cons (ps_for PassesOwn.never rfl (pi_range1 rfl grange (pa_cons (pv 1) pa_nil)) (pg_name (i := 2) nd rfl (.inl rfl))
        (pss_one (ps_if (PW.pt (pw_or (pt_cmpR op_eq (pv 2) (pe_callB call_len_str (by rfl) glen PySem.boot_len (pa_cons (pv 0) pa_nil)) (nomark _))
            (pw_or1 (pt_cmpR op_notIn_sign (pe_ix ix_str (pv 0) (pv 2) (fun _ _ => rfl)) (pe_glob (v := .str allSigns) rfl gall ⟨_, rfl⟩) rfl)))) (pss_one (ps_ret (pv 2))) pss_nil)))
      (pss_cons (ps_if (pt_cmpR op_gt (pe_callB call_len_str (by rfl) glen PySem.boot_len (pa_cons (pv 0) pa_nil)) (pv 1) (nomark _)) (pss_one (ps_ret (pv 1))) pss_nil)
      (pss_one (ps_ret pe_non)))), ?_⟩
    refine ⟨_, rfl, _, rfl, by omega, by omega, for_range (lo := 0) (n := (wd : Int).toNat) (fun i σ H' => H' = H ∧ (∃ v, σ = [some (.str (tx r)), some (.int wd), v]) ∧ fw r wd 0 = fw r (wd - i) i ∧ i ≤ r.length) ⟨rfl, ⟨none, rfl⟩, rfl, Nat.zero_le _⟩ ?_ ?_⟩
    · rintro i σ H' hi ⟨rfl, ⟨v, rfl⟩, hf, hir⟩
      have hi' : i < wd := by omega
      obtain ⟨n, hn⟩ : ∃ n, wd - i = n + 1 := ⟨wd - i - 1, by omega⟩
      have hn2 : n = wd - (i + 1) := by omega
      rw [hn, fw_succ] at hf
      refine ⟨_, rfl, _, rfl, _, rfl, hl2, rfl, _, rfl, ?_⟩
      have e1 : decide (V.int (0 + (i : Int)) = V.int ((tx r).length : Nat)) = decide (i = r.length) := by
        rw [tx_len]
        apply decide_eq_decide.mpr
        constructor
        · intro h; injection h with h; omega
        · intro h; subst h; rw [Int.zero_add]
      have ret : (i = r.length ∨ okB (r.getD i 0) = false) → Q (.int (0 + (i : Int))) H' := fun h => by
        rw [if_pos h] at hf
        have e2 : fwc r wd = some i := by
          unfold fwc
          rw [hf]
          rfl
        rw [e2] at k
        rw [Int.zero_add]
        exact k
      show (if decide (V.int (0 + (i : Int)) = V.int ((tx r).length : Nat)) = true then _ else _)
      rw [e1]
      refine ite2 (fun hz => ?_) (fun hz => ?_)
      · refine iteT ⟨_, rfl, ?_⟩
        exact ret (.inl (of_decide_eq_true hz))
      · have hne : i ≠ r.length := fun e => hz (decide_eq_true e)
        have hlt : i < r.length := by omega
        · refine ⟨_, rfl, _, rfl, _, _, r[i], rfl, rfl, hl2, ?_, _, _, rfl, rfl, _, rfl, ?_⟩
          · rw [tx_cps, Int.zero_add]
            exact atI_nat (by simp [hlt])
          · rw [mem_allSigns]
            have e3 : r.getD i 0 = r[i] := by rw [List.getD_eq_getElem?_getD, List.getElem?_eq_getElem hlt]; rfl
            rw [e3] at ret hf
            cases hb : okB r[i] with
            | false =>
              refine iteT ⟨_, rfl, ?_⟩
              exact ret (.inr hb)
            | true =>
              refine iteF ?_
              refine ⟨rfl, ⟨_, rfl⟩, ?_, hlt⟩
              rw [hf, if_neg (by rintro (h | h); · exact hne h
                                 · rw [hb] at h; cases h), hn2]
    · rintro σ H' ⟨rfl, ⟨v, rfl⟩, hf, hir⟩
      have e0 : (wd : Int).toNat = wd := by omega
      rw [e0, Nat.sub_self] at hf
      have hf : fw r wd 0 = none := hf
      refine ⟨_, rfl, _, rfl, hl2, _, rfl, _, _, rfl, rfl, _, rfl, ?_⟩
      have e2 : fwc r wd = fwEnd r wd := by
        unfold fwc
        rw [hf]
        rfl
      rw [e2] at k
      rw [tx_len]
      refine ite2 (fun hz => ?_) (fun hz => ?_)
      · have hz' : (wd : Int) < (r.length : Nat) := of_decide_eq_true hz
        refine ⟨_, rfl, ?_⟩
        unfold fwEnd at k
        rw [if_pos (by omega)] at k
        exact k
      · have hz' : ¬ (wd : Int) < (r.length : Nat) := fun h => hz (decide_eq_true h)
        unfold fwEnd at k
        rw [if_neg (by omega)] at k
        exact k
end
end Om


namespace Om
open PySem PySem.Spec PyProof.Rows L2
/-- what the top says of InvalidIsland, at C, its __init__ at fI -/
structure IsI (K : PySem.W.Frag) (mg : Str → Option Value) (C fI : Addr) : Prop where
  oex : OexC K C
  noR : PySem.W.findIn K (.ref C) "row" = some none
  noC : PySem.W.findIn K (.ref C) "column" = some none
  iC : PySem.W.findIn K (.ref C) "__init__" = some (some (.ref fI))
  tI : PySem.W.typeIn K (.ref fI) = some (.type "function")
  gC : mg "InvalidIsland" = some (.ref C)
def xdII (x y : V) : List (Str × V) := [(("column" : Str), y), (("row" : Str), x)]
def spII (C : Addr) : Sp := fun vs H Q _ => ∃ (a : Addr) (x y : V), vs = [.ref a, x, y] ∧ H a = some (exo a C none) ∧
  ∀ dx, H dx = none → dx ≠ a → Q .non (upd (upd (upd H dx (exd dx [(("row" : Str), x)])) a (exo a C (some dx))) dx (exd dx (xdII x y)))
theorem mkII {C : Addr} {H1 : Hp} {W : XK} {x y : V} (k : ∀ d H', H1 d = none → Same H1 H' → H' d = some (.xd (xdII x y)) → W (.ref C) (some d) H') :
    [x, y].length ≤ 1000 ∧ ∀ a, H1 a = none → spII C (.ref a :: ([x, y] ++ [])) (upd H1 a (exo a C none)) (fun v H2 => v = .non ∧ ∃ (d : Addr) (fs : List (Str × V)), H2 a = some (exo a C (some d)) ∧ H2 d = some (exd d fs) ∧ H1 d = none ∧ W (.ref C) (some d) (upd (del H2 a) d (.xd fs))) (fun _ _ _ => False) := by
  refine ⟨by simp, fun a ha => ⟨a, x, y, rfl, upd_same, fun dx h1 h2 => ⟨rfl, dx, _, ?_, upd_same, ?_, ?_⟩⟩⟩
  · rw [upd_ne (Ne.symm h2), upd_same]
  · rw [upd_ne h2] at h1; exact h1
  · rw [upd_ne h2] at h1
    refine k dx _ h1 (fun c o hc => ?_) upd_same
    have n1 : c ≠ dx := ne_of_none hc h1
    have n2 : c ≠ a := ne_of_none hc ha
    rw [upd_ne n1, del_ne n2, upd_ne n1, upd_ne n2, upd_ne n1, upd_ne n2]
    exact hc
theorem Same.tup {K : PySem.W.Frag} {H H' : Hp} {a : Addr} {xs : List V} (e : Same H H') (h : SqT K H a xs) : SqT K H' a xs := by
  rcases h with (h | ⟨o, h⟩) | h
  · exact .inl (.inl (e _ _ h))
  · exact .inl (.inr ⟨o, e _ _ h⟩)
  · exact .inr h
theorem chkF_cons (wd : Nat) (r : List Nat) (rs : List (List Nat)) (i : Nat) : chkF wd (r :: rs) i = if i = 12 then some (i, 0) else match fwc r wd with
    | some c => some (i, c)
    | none => chkF wd rs (i + 1) := rfl
def spChk (K : PySem.W.Frag) (C : Addr) : Sp := fun vs H Q E => ∃ (a : Addr) (rows : List (List Nat)), vs = [.ref a] ∧ SqT K H a (rows.map vt) ∧ rows.length ≤ 1000 ∧ (∀ r ∈ rows, r.length ≤ 1000) ∧
  (chk rows = none → ∀ H', Same H H' → Q .non H') ∧ ∀ r c, chk rows = some (r, c) → ∀ d H', H d = none → Same H H' → H' d = some (.xd (xdII (.int (r : Nat)) (.int (c : Nat)))) → E (.ref C) (some d) H'
section
variable {P : Program} {w : World} {K : PySem.W.Frag} {mg : Str → Option Value} {base : Heap} {C fI : Addr}
theorem scII : FnScope ["self", "row", "column"] ["self", "row", "column"] (defScope sII) := ⟨rfl, rfl, rfl, by decide +kernel, rfl, by decide +kernel, by decide +kernel⟩
theorem ok_II {fd : FuncData} (F : FnP K "__init__" "InvalidIsland.__init__" sII fI fd) (T : IsI K mg C fI) : FnOk P w K mg base CX0 1 fI fd ["self", "row", "column"] (spII C) := by
  refine F.ok scII (fun vs H Q E h => ?_) (fun cdv A outer s H vs Q E hr h => ?_)
  · obtain ⟨a, x, y, rfl, _⟩ := h
    rfl
  · obtain ⟨a, x, y, rfl, ha, k⟩ := h
    refine ⟨_, PSs.nox (pss_cons (ps_ost (pv 0) (pv 1)) (pss_one (ps_ost (pv 0) (pv 2)))), ?_⟩
    refine ⟨_, rfl, _, rfl, a, C, rfl, T.oex, T.noR, .inl ⟨ha, fun dx h1 h2 => ?_⟩⟩
    exact ⟨_, rfl, _, rfl, a, C, rfl, T.oex, T.noC, .inr ⟨dx, _, upd_same, (by rw [upd_ne h2]; exact upd_same), by simp, k dx h1 h2⟩⟩
abbrev nChk : List Str := ["rows", "width", "row", "signs", "column"]
theorem scChk : FnScope nChk ["rows"] (defScope sChk) := ⟨rfl, rfl, rfl, by decide +kernel, rfl, by decide +kernel, by decide +kernel⟩
theorem ok_chk {f : Addr} {fd fdI : FuncData} (F : FnP K "_check_rows" "_check_rows" sChk f fd) (T : IsI K mg C fI) (FI : FnOk P w K mg base CX0 1 fI fdI ["self", "row", "column"] (spII C)) (bI : Binds K fdI ["self", "row", "column"] [])
    (G : Cal P w K mg base CX0 1 "_first_wrong_column" ["signs", "width"] spFwc) (glen : mg "len" = none) (gmax : mg "max" = none) (gmin : mg "min" = none) (genum : mg "enumerate" = none) (glg : ∃ t, mg "LARGEST" = some (.int 12 t)) :
    FnOk P w K mg base (L2.CX P w) 3 f fd ["rows"] (spChk K C) := by
  obtain ⟨t0, glg⟩ := glg
  refine F.ok scChk (fun vs H Q E h => ?_) (fun cdv A outer s H vs Q E hr h => ?_)
  · obtain ⟨a, rows, rfl, _⟩ := h
    rfl
  · obtain ⟨a, rows, rfl, hS, hl, hrl, kN, kS⟩ := h
    have nd := scChk.nd
    have hr1 : Room 1 _ := hr.mono (by decide)
    refine ⟨_, pss_cons (ps_if (pt_cmpR op_eq (pe_callB call_len_seq (by rfl) glen PySem.boot_len (pa_cons (pv 0) pa_nil)) pe_int (nomark _))
          (pss_one (ps_raise rfl (takes_of rfl rfl rfl rfl) (pmk_oex T.oex T.iC T.tI FI hr bI .nil pass0 rfl T.gC (pa_cons pe_int (pa_cons pe_int pa_nil))))) pss_nil)
      (pss_cons (ps_set (i := 1) nd rfl (.inl rfl) (pe_callB (call_max2 rfl) (by rfl) gmax (by decide +kernel) (pa_cons pe_int (pa_cons
          (pe_callB (call_min2 rfl) (by rfl) gmin (by decide +kernel) (pa_cons (pe_callB call_len_str (by rfl) glen PySem.boot_len (pa_cons (pe_ix ix_tup (pv 0) pe_int (fun _ _ => rfl)) pa_nil)) (pa_cons (pe_glob (v := .int 12) rfl glg ⟨_, rfl⟩) pa_nil))) pa_nil))))
      (pss_one (ps_for (passes_of rfl) rfl (pi_enumT rfl genum (pa_cons (pv 0) pa_nil)) (pg_tup rfl (pgs_cons (pg_name (i := 2) nd rfl (.inl rfl)) (pgs_cons (pg_name (i := 3) nd rfl (.inl rfl)) pgs_nil)))
        (pss_cons (ps_if (pt_cmpR op_eq (pv 2) (pe_glob (v := .int 12) rfl glg ⟨_, rfl⟩) (nomark _))
            (pss_one (ps_raise rfl (takes_of rfl rfl rfl rfl) (pmk_oex T.oex T.iC T.tI FI hr bI .nil pass0 rfl T.gC (pa_cons (pv 2) (pa_cons pe_int pa_nil))))) pss_nil)
        (pss_cons (ps_set (i := 4) nd rfl (.inl rfl) (pe_cal G hr1 pass0 (pa_cons (pv 3) (pa_cons (pv 1) pa_nil))))
        (pss_one (ps_if (pt_cmpR op_notN (pv 4) pe_non (nomark _))
            (pss_one (ps_raise rfl (takes_of rfl rfl rfl rfl) (pmk_oex T.oex T.iC T.tI FI hr bI .nil pass0 rfl T.gC (pa_cons (pv 2) (pa_cons (pv 4) pa_nil))))) pss_nil))))))), ?_⟩
    refine ⟨_, rfl, a, _, rfl, .inr hS, rfl, _, rfl, ?_⟩
    cases rows with
    | nil =>
      refine iteT ?_
      exact mkII (W := E) fun d H' h1 h2 h3 => kS 0 0 rfl d H' h1 h2 h3
    | cons r0 rs =>
      have hne : ¬ decide (V.int (((r0 :: rs).map vt).length : Nat) = V.int 0) = true := fun h => by
        have h := of_decide_eq_true h
        injection h with h
        simp only [List.length_map, List.length_cons] at h
        omega
      rw [if_neg hne]
      have hr0 : (tx r0).length ≤ sizeLine := by rw [tx_len]; exact small_le (hrl r0 (List.mem_cons_self ..))
      refine ⟨_, rfl, a, _, 0, _, rfl, rfl, hS, at0, _, rfl, hr0, _, _, rfl, _, _, rfl, ?_⟩
      have ew : (if (if (12 : Int) < ((tx r0).length : Nat) then (12 : Int) else ((tx r0).length : Nat)) > 1 then (if (12 : Int) < ((tx r0).length : Nat) then (12 : Int) else ((tx r0).length : Nat)) else 1) = ((wdOf r0 : Nat) : Int) := by
        rw [tx_len]
        unfold wdOf
        split <;> split <;> omega
      rw [ew]
      have hwd : wdOf r0 ≤ 12 := by unfold wdOf; omega
      refine ⟨_, rfl, a, _, rfl, hS, for_enumT (K := K) (a := a) (xs := (r0 :: rs).map vt) (fun i σ H' => Same H H' ∧ (∃ v2 v3 v4, σ = [some (.ref a), some (.int (wdOf r0 : Nat)), v2, v3, v4]) ∧ chk (r0 :: rs) = chkF (wdOf r0) ((r0 :: rs).drop i) i)
        ⟨Same.refl H, ⟨_, _, _, rfl⟩, rfl⟩ (fun i σ H' _ p => Same.tup p.1 hS) ?_ ?_⟩
      · rintro i x T1 σ H1 hx ⟨sm, ⟨v2, v3, v4, rfl⟩, hc⟩ hT1
        rw [List.getElem?_map] at hx
        cases hri : (r0 :: rs)[i]? with
        | none => rw [hri] at hx; cases hx
        | some r =>
          rw [hri] at hx
          obtain rfl : vt r = x := Option.some.inj hx
          have hlt : i < (r0 :: rs).length := (List.getElem?_eq_some_iff.mp hri).1
          have hre : (r0 :: rs)[i] = r := (List.getElem?_eq_some_iff.mp hri).2
          have hmem : r ∈ r0 :: rs := hre ▸ List.getElem_mem hlt
          rw [List.drop_eq_getElem_cons hlt, hre, chkF_cons] at hc
          have sm1 : Same H (upd H1 T1 (.tup [.int (i : Nat), vt r])) := Same.new sm hT1
          refine ⟨T1, _, rfl, .inl (.inl upd_same), rfl, _, _, rfl, _, _, rfl, rfl, ?_⟩
          refine ⟨_, rfl, rfl, _, rfl, ?_⟩
          refine ite2 (fun hz => ?_) (fun hz => ?_)
          · have hz := of_decide_eq_true hz
            injection hz with hz
            have hi : i = 12 := by omega
            rw [if_pos hi] at hc
            refine ⟨_, rfl, ?_⟩
            exact mkII (W := E) fun d H' h1 h2 h3 => kS i 0 hc d H' (Same.free sm1 h1) (sm1.trans h2) h3
          · have hi : i ≠ 12 := fun h => hz (decide_eq_true (by rw [h]; rfl))
            rw [if_neg hi] at hc
            refine ⟨_, rfl, _, rfl, r, wdOf r0, rfl, hrl r hmem, hwd, ?_⟩
            refine ⟨_, rfl, rfl, _, rfl, ?_⟩
            cases hf : fwc r (wdOf r0) with
            | none =>
              rw [hf] at hc
              refine iteF ?_
              exact ⟨sm1, ⟨_, _, _, rfl⟩, hc⟩
            | some c =>
              rw [hf] at hc
              refine iteT ⟨_, rfl, _, rfl, ?_⟩
              exact mkII (W := E) fun d H' h1 h2 h3 => kS i c hc d H' (Same.free sm1 h1) (sm1.trans h2) h3
      · rintro σ H1 ⟨sm, ⟨v2, v3, v4, rfl⟩, hc⟩
        have e0 : (r0 :: rs).drop ((r0 :: rs).map vt).length = [] := by simp
        rw [e0] at hc
        exact kN hc H1 sm
end
end Om


namespace Om
open PySem PySem.Spec PyProof.Rows L2 LamX
theorem iteT' {b : Bool} {A B : Prop} (h : b = true) (a : A) : if b = true then A else B := by
  rw [h, if_pos rfl]
  exact a
theorem iteF' {b : Bool} {A B : Prop} (h : b = false) (a : B) : if b = true then A else B := by
  rw [h, if_neg Bool.false_ne_true]
  exact a
end Om

namespace Om
open PySem PySem.Spec PyProof.Rows L2 LamX
/-! ### a text of some signs, several times -/
theorem foldl_rep (cs : List Nat) : ∀ (n : Nat) (acc : List Nat), (List.replicate n cs.toArray).foldl (· ++ ·) acc.toArray = (acc ++ (List.replicate n cs).flatten).toArray
  | 0, acc => by simp
  | n + 1, acc => by
    rw [List.replicate_succ, List.foldl_cons]
    have e : acc.toArray ++ cs.toArray = (acc ++ cs).toArray := by simp
    rw [e, foldl_rep cs n (acc ++ cs), List.replicate_succ, List.flatten_cons, List.append_assoc]
def rMulS : R2 := fun x y H Q => ∃ (cs : List Nat) (k : Int), x = .str (tx cs) ∧ y = .int k ∧ cs ≠ [] ∧ cs.length ≤ 1000 ∧ 2 ≤ k ∧ k ≤ 1000 ∧ Q (.str (tx (List.replicate k.toNat cs).flatten)) H
theorem op_mulS {X : Cx} : OpR X (binaryOp .Mult) rMulS := by
  rintro pins s σ H x y v u Q I rx ry ⟨cs, k, rfl, rfl, hne, hl, h2, h3, q⟩
  obtain ⟨t, rfl⟩ := rx
  obtain ⟨t', rfl⟩ := ry
  have hk : (List.replicate k.toNat cs).flatten.length ≤ 1000000 := by
    rw [PyProof.Rows.lm_len_rep_flat]
    have a1 : k.toNat * cs.length ≤ 1000 * 1000 := Nat.mul_le_mul (by omega) hl
    omega
  have hm : (tx cs).length * k.toNat ≤ 1000000 := by
    rw [tx_len]
    have a1 : cs.length * k.toNat ≤ 1000 * 1000 := Nat.mul_le_mul hl (by omega)
    omega
  have n1 : ¬ k < 1 := by omega
  have n2 : (k == 1 || (tx cs).length == 0) = false := by
    rw [tx_len, Bool.or_eq_false_iff]
    refine ⟨by simpa using (show ¬ k = 1 by omega), ?_⟩
    cases cs with
    | nil => exact absurd rfl hne
    | cons a r => rfl
  refine PySem.P.mul_str ?_ (fun _ _ => ?_) (fun _ _ => ?_) ?_
  · rw [decide_eq_false (show ¬ k < -(2 ^ 63 : Int) by omega), decide_eq_false (show ¬ k ≥ 2 ^ 63 by omega)]
    rfl
  · have e1 : (1000 : Int) ≤ (2 ^ 63 - 1) / k := by
      rw [Int.le_ediv_iff_mul_le (by omega)]
      have : 1000 * k ≤ 1000 * 1000 := Int.mul_le_mul_of_nonneg_left h3 (by omega)
      omega
    rw [tx_len]
    omega
  · refine decide_eq_false (show ¬ (tx cs).length * k.toNat > sizeLine from Nat.not_lt.mpr (Nat.le_trans hm (by decide)))
  · rw [if_neg n1, if_neg (by rw [n2]; exact Bool.false_ne_true)]
    have e2 : (⟨(List.replicate k.toNat (tx cs).cps).foldl (· ++ ·) #[]⟩ : Str) = tx (List.replicate k.toNat cs).flatten := by
      have := foldl_rep cs k.toNat []
      unfold tx
      rw [← List.nil_append (List.replicate k.toNat cs).flatten, ← this]
    rw [e2]
    exact ⟨by rw [tx_len]; exact Nat.le_trans hk (by decide), .str (tx (List.replicate k.toNat cs).flatten), H, I.tok _, ⟨_, rfl⟩, q⟩
/-! ### the island is made -/
/-- what the top says of Island, at CI -/
structure IslF (K : PySem.W.Frag) (mg : Str → Option Value) (CI fN : Addr) : Prop where
  cl : Cls K CI
  nR : NoAttr K CI "_rows"
  made : Mk K CI fN
  gI : mg "Island" = some (.ref CI)
def islFs (a : Addr) : List (Str × V) := putF "_rows" (.ref a) []
def spIsl (K : PySem.W.Frag) (CI C0 : Addr) : Sp := fun vs H Q E => ∃ (p dx a : Addr) (rows : List (List Nat)), vs = [.ref p, .ref a] ∧ H p = some (.ins CI dx []) ∧ SqT K H a (rows.map vt) ∧ rows.length ≤ 1000 ∧ (∀ r ∈ rows, r.length ≤ 1000) ∧
  (chk rows = none → ∀ H', (∀ b o, H b = some o → b ≠ p → H' b = some o) → H' p = some (.ins CI dx (islFs a)) → Q .non H') ∧
  ∀ r c, chk rows = some (r, c) → ∀ d H', H d = none → Same H H' → H' d = some (.xd (xdII (.int (r : Nat)) (.int (c : Nat)))) → E (.ref C0) (some d) H'
section
variable {P : Program} {w : World} {K : PySem.W.Frag} {mg : Str → Option Value} {base : Heap} {CI C0 fN : Addr}
theorem scIsl : FnScope ["self", "rows"] ["self", "rows"] (defScope sIslI) := ⟨rfl, rfl, rfl, by decide +kernel, rfl, by decide +kernel, by decide +kernel⟩
theorem ok_isl {fd : FuncData} (F : FnP K "__init__" "Island.__init__" sIslI fN fd) (T : IslF K mg CI fN) (G : Cal P w K mg base (L2.CX P w) 3 "_check_rows" ["rows"] (spChk K C0)) (gtuple : mg "tuple" = none) :
    FnOk P w K mg base (L2.CX P w) 4 fN fd ["self", "rows"] (spIsl K CI C0) := by
  refine F.ok scIsl (fun vs H Q E h => ?_) (fun cdv A outer s H vs Q E hr h => ?_)
  · obtain ⟨p, dx, a, rows, rfl, _⟩ := h
    rfl
  · obtain ⟨p, dx, a, rows, rfl, hp, hS, hl, hrl, kN, kS⟩ := h
    refine ⟨_, pss_cons (ps_expr (pe_cal G hr (E := E) (passes_call (W := fun cls d _ H => E cls d H) (takes_of rfl rfl rfl rfl) fun _ _ _ _ h => h) (pa_cons (pv 1) pa_nil)))
      (pss_one (ps_fld (pv 0) (pe_callTy call_tuple_of (by rfl) gtuple (by decide +kernel) (pa_cons (pv 1) pa_nil)) rfl)), ?_⟩
    refine ⟨_, rfl, a, rows, rfl, hS, hl, hrl, fun e H1 s1 => ?_, fun r c e d H' h1 h2 h3 => kS r c e d H' h1 h2 h3⟩
    refine ⟨_, rfl, a, _, rfl, .inr ⟨Same.tup s1 hS, ?_⟩⟩
    refine ⟨_, rfl, p, CI, dx, [], rfl, s1 _ _ hp, T.cl, T.nR, by decide, ?_⟩
    exact kN e _ (fun b o hb n => by rw [upd_ne n]; exact s1 _ _ hb) upd_same
end
end Om


namespace Om
open PySem PySem.Spec PyProof.Rows L2 LamX
def ansII (r c : Nat) : List V := [.str "InvalidIsland", .int (r : Nat), .int (c : Nat)]
def Lo (rows : List (List Nat)) : Prop := ∀ r ∈ rows, ∀ c ∈ r, c < 1000
/-! ### what stays from step to step of a law -/
/-- all but tables and the box stay -/
def Lv (b l : Addr) (H H' : Hp) : Prop := ∀ c o, H c = some o → (∀ ps, o ≠ .tbl ps) → c ≠ b → c ≠ l → H' c = some o
theorem Lv.refl (b l : Addr) (H : Hp) : Lv b l H H := fun _ _ h _ _ _ => h
theorem Lv.trans {b l : Addr} {H H1 H2 : Hp} (u : Lv b l H H1) (v : Lv b l H1 H2) : Lv b l H H2 := fun c o h n n1 n2 => v c o (u c o h n n1 n2) n n1 n2
theorem Kp.lv {b l : Addr} {H H' : Hp} (k : Kp b l H H') : Lv b l H H' := fun c o h _ n1 n2 => k c o h n1 n2
theorem lv_ext {b l : Addr} {H H' : Hp} (k : ExtN H H') : Lv b l H H' := fun c o h n _ _ => k c o h n
theorem lv_same {b l : Addr} {H H' : Hp} (k : Same H H') : Lv b l H H' := fun c o h _ _ _ => k c o h
theorem Lv.tup {K : PySem.W.Frag} {b l a : Addr} {H H' : Hp} {xs : List V} (v : Lv b l H H') (B : Box H b l) (h : SqT K H a xs) : SqT K H' a xs := by
  obtain ⟨ns, z, h1, h2, _⟩ := B.ex
  rcases h with (h | ⟨o, h⟩) | h
  · exact .inl (.inl (v _ _ h (fun ps e => by cases e) (ne_of h h1 fun e => by cases e) (ne_of h h2 fun e => by cases e)))
  · exact .inl (.inr ⟨o, v _ _ h (fun ps e => by cases e) (ne_of h h1 fun e => by cases e) (ne_of h h2 fun e => by cases e)⟩)
  · exact .inr h
theorem Box.ext {b l : Addr} {H H' : Hp} (B : Box H b l) (k : ExtN H H') : Box H' b l := by
  obtain ⟨ns, z, h1, h2, h3⟩ := B.ex
  exact ⟨ns, z, k _ _ h1 (fun ps e => by cases e), k _ _ h2 (fun ps e => by cases e), h3⟩
theorem tabs_kp {T : List (Addr × Str)} {b l : Addr} {H H' : Hp} (t : Tabs T H) (B : Box H b l) (k : Kp b l H H') : Tabs T H' := fun p hp => by
  obtain ⟨ns, z, h1, h2, _⟩ := B.ex
  obtain ⟨ps, q1, q2, q3⟩ := t p hp
  refine ⟨ps, k _ _ q1 (ne_of q1 h1 fun e => by cases e) (ne_of q1 h2 fun e => by cases e), q2, fun pos cv hc => ?_⟩
  obtain ⟨c, e1, e2⟩ := q3 pos cv hc
  exact ⟨c, e1, k _ _ e2 (ne_of e2 h1 fun e => by unfold CodeO at e; cases e) (ne_of e2 h2 fun e => by unfold CodeO at e; cases e)⟩
/-! ### tuples cut and put together -/
theorem catA_read {K : PySem.W.Frag} {a b : Addr} {xs ys : List V} {H : Hp} {Q : VK} (hx : SqT K H a xs) (hy : SqT K H b ys) (hl : xs.length + ys.length ≤ sizeLine) (k : ∀ p H', Same H H' → SqT K H' p (xs ++ ys) → Q (.ref p) H') : rCatA K (.ref a) (.ref b) H Q :=
  ⟨a, b, xs, ys, rfl, rfl, hx, hy, hl, fun e => k b H (Same.refl H) (by rw [e]; exact hy), fun _ e => k a H (Same.refl H) (by rw [e, List.append_nil]; exact hx), fun _ _ p hp => k p _ (Same.new (Same.refl H) hp) (.inl (.inl upd_same))⟩
theorem slA_read {K : PySem.W.Frag} {a : Addr} {xs : List V} {lo hi : Option Int} {H : Hp} {Q : VK} (hx : SqT K H a xs) (k : ∀ p H', Same H H' → SqT K H' p (cutV xs lo hi) → Q (.ref p) H') : rSlA K (.ref a) lo hi H Q := by
  refine ⟨a, xs, rfl, hx, fun ⟨e1, e2⟩ => k a H (Same.refl H) ?_, fun _ p hp => k p _ (Same.new (Same.refl H) hp) (.inl (.inl upd_same))⟩
  unfold cutV
  rw [e1, e2, List.drop_zero, Nat.sub_zero, List.take_length]
  exact hx
/-! ### rows with some bound -/
structure Good (rows : List (List Nat)) : Prop where
  len : rows.length ≤ 900
  row : ∀ r ∈ rows, r.length ≤ 1000 ∧ ∀ c ∈ r, c < 1000
theorem Good.lens {rows : List (List Nat)} (g : Good rows) : ∀ r ∈ rows, r.length ≤ 1000 := fun r h => (g.row r h).1
theorem Good.lo {rows : List (List Nat)} (g : Good rows) : Lo rows := fun r h => (g.row r h).2
theorem Good.le {rows : List (List Nat)} (g : Good rows) : rows.length ≤ 1000 := Nat.le_trans g.len (by decide)
theorem RowsOk.good {m : Nat} {rows : List (List Nat)} (h : RowsOk m rows) (hm : m ≤ 12) : Good rows := by
  obtain ⟨h1, h2, wd, w1, w2, hr⟩ := h
  refine ⟨by omega, fun r hr' => ⟨by have := (hr r hr').1; omega, fun c hc => ?_⟩⟩
  rcases (hr r hr').2 c hc with e | e | e <;> omega
theorem cutV_rows (rows : List (List Nat)) (lo hi : Option Int) : ∃ rs : List (List Nat), cutV (rows.map vt) lo hi = rs.map vt ∧ rs.length ≤ rows.length ∧ ∀ r ∈ rs, r ∈ rows := by
  refine ⟨(rows.drop (HT.sIx (rows.map vt).length 0 lo)).take (HT.sIx (rows.map vt).length (rows.map vt).length hi - HT.sIx (rows.map vt).length 0 lo), ?_, ?_, fun r h => List.mem_of_mem_drop (List.mem_of_mem_take h)⟩
  · unfold cutV
    rw [List.map_take, List.map_drop]
  · rw [List.length_take, List.length_drop]
    omega
theorem cutS_tx (r : List Nat) (lo hi : Option Int) : ∃ q : List Nat, cutS (tx r) lo hi = tx q ∧ q.length ≤ r.length ∧ ∀ c ∈ q, c ∈ r := by
  refine ⟨_, rfl, ?_, fun c h => ?_⟩
  · rw [List.length_take, List.length_drop, tx_cps]
    omega
  · have := List.mem_of_mem_drop (List.mem_of_mem_take h)
    rwa [tx_cps] at this
/-! ### the answers of _law_error and of _law_due -/
end Om

namespace Om
open PySem PySem.Spec PyProof.Rows L2 LamX
/-! ### own __getitem__, __contains__, __len__, __eq__ -/
/-- the class at C finds the name as the def at f -/
structure OwnM (K : PySem.W.Frag) (C : Addr) (n : Str) (f : Addr) : Prop where
  at_ : PySem.W.findIn K (.ref C) n = some (some (.ref f))
  fn : PySem.W.isFn K (.ref f) = true
  isF : PySem.W.fnIn K f = true
section
variable {X : Cx} {CX : CXT} {k : Nat} {C f : Addr} {fd : FuncData} {ps : List Str} {sp : Sp} {E : XK}
theorem run_fnS {A : Around} {pins : List (Addr × Obj)} {σ : L2.St} {H : Hp} {s : Shared} {Q : VK} {us : List Value} {vs : List V} (F : FnOk X.prog X.w X.K X.mg X.base CX k f fd ps sp) (sb : Sub X k A) (hb : Binds X.K fd ps []) (hx : Passes CX X E) (I : Inv X pins σ H s)
    (r : Vals vs us) (h : sp vs H Q E) : wpAny (model X.prog X.w) A (call (.ref f) us) (EP X pins σ Q) X.xe s := by
  have e0 : Env0 X.prog X.w X.K X.mg X.base A X.stack s H := by
    have e := I.env0
    exact ⟨by rw [sb.fr]; exact e.frames, e.mod, e.bs, e.bsz, e.funs, e.frf, e.hok, e.bare⟩
  have hl : us.length = ps.length := by rw [← r.length]; exact F.len _ _ _ _ h
  refine wpAny_call (codeAny_mono (F.run A X.stack s H ⟨us, []⟩ us vs Q E sb.room e0 (by
    have := hb s us I.kIn (by simpa using hl)
    simpa using this) r h) fun r s' hq => ?_)
  cases r with
  | error e => exact hx pins σ H s e s' I hq
  | ok fl =>
    cases fl with
    | ret w =>
      obtain ⟨v, H', I', rz, q⟩ := I.after hq
      exact ⟨v, H', I', rz, q⟩
    | next => exact False.elim hq
    | brk => exact False.elim hq
    | cont => exact False.elim hq
def rIxOwn (C : Addr) (sp : Sp) (E : XK) : R2 := fun x y H Q => ∃ a dx fs, x = .ref a ∧ H a = some (.ins C dx fs) ∧ sp [x, y] H Q E
theorem pe_ixOwn {a b : Expr} {ta tb : TE} {pos : Pos} (M : OwnM X.K C "__getitem__" f) (F : FnOk X.prog X.w X.K X.mg X.base CX k f fd ps sp) (hr : Room (k + 1) X.A) (hb : Binds X.K fd ps []) (hx : Passes CX X E) (ha : PE X a ta) (hi : PE X b tb)
    (hsl : ∀ v u, subscripted b true v u = runValue (.builtin "lifetime.subscript" ⟨[v, u], []⟩) := by intro v u; rfl) : PE X (.Subscript a b pos) (tOp (rIxOwn C sp E) ta tb) := by
  refine ⟨fun pins s σ H Q I h => ?_⟩
  refine Subscript_ (binT ha hi I h fun v u s2 x y H2 I2 rx ry q => ?_)
  obtain ⟨p, dx, fs, rfl, hp, q⟩ := q
  cases rx
  obtain ⟨mA, J, _⟩ := ins_get I2.hok hp
  obtain ⟨od, J, _⟩ := J.look
  obtain ⟨m, hF⟩ := I2.fr
  exact PySem.W.sub_K hF I2.ok.mod.kin J M.at_ M.isF M.fn (run_fnS F ⟨hr.in1, rfl⟩ hb hx I2 (.cons (show RelV (V.ref p) (Value.ref p) from rfl) (.cons ry .nil)) q) (hsl _ _)
def rInOwn (C : Addr) (sp : Sp) (E : XK) : R2 := fun x y H Q => ∃ a dx fs, y = .ref a ∧ H a = some (.ins C dx fs) ∧ sp [y, x] H (fun v H' => ∃ b, v = .bl b ∧ Q (.bl b) H') E
theorem op_inOwn (M : OwnM X.K C "__contains__" f) (F : FnOk X.prog X.w X.K X.mg X.base CX k f fd ps sp) (hr : Room k X.A) (hb : Binds X.K fd ps []) (hx : Passes CX X E) : OpR X (compareOp .In) (rInOwn C sp E) := by
  intro pins s σ H x y v u Q I rx ry h
  obtain ⟨p, dx, fs, rfl, hp, q⟩ := h
  cases ry
  obtain ⟨mA, J, _⟩ := ins_get I.hok hp
  obtain ⟨od, J, _⟩ := J.look
  obtain ⟨m, hF⟩ := I.fr
  refine PySem.W.in_K hF I.ok.mod.kin J M.at_ M.fn (wpAny_mono (run_fnS F ⟨hr, rfl⟩ hb hx I (.cons (show RelV (V.ref p) (Value.ref p) from rfl) (.cons rx .nil)) q) (fun r s' z => ?_) fun _ _ z => z)
  obtain ⟨z, H', I', rz, b, ez, q⟩ := z
  subst ez
  cases rz
  exact wpAny_truthy_bool ⟨.bl b, H', I', rfl, q⟩
def rNotInOwn (C : Addr) (sp : Sp) (E : XK) : R2 := fun x y H Q => ∃ a dx fs, y = .ref a ∧ H a = some (.ins C dx fs) ∧ sp [y, x] H (fun v H' => ∃ b, v = .bl b ∧ Q (.bl (!b)) H') E
theorem op_notInOwn (M : OwnM X.K C "__contains__" f) (F : FnOk X.prog X.w X.K X.mg X.base CX k f fd ps sp) (hr : Room k X.A) (hb : Binds X.K fd ps []) (hx : Passes CX X E) : OpR X (compareOp .NotIn) (rNotInOwn C sp E) := by
  intro pins s σ H x y v u Q I rx ry h
  obtain ⟨p, dx, fs, rfl, hp, q⟩ := h
  cases ry
  obtain ⟨mA, J, _⟩ := ins_get I.hok hp
  obtain ⟨od, J, _⟩ := J.look
  obtain ⟨m, hF⟩ := I.fr
  refine PySem.W.notIn_K hF I.ok.mod.kin J M.at_ M.fn (wpAny_mono (run_fnS F ⟨hr, rfl⟩ hb hx I (.cons (show RelV (V.ref p) (Value.ref p) from rfl) (.cons rx .nil)) q) (fun r s' z => ?_) fun _ _ z => z)
  obtain ⟨z, H', I', rz, b, ez, q⟩ := z
  subst ez
  cases rz
  exact wpAny_truthy_bool ⟨.bl (!b), H', I', rfl, q⟩
/-- both sides instances of C -/
def rEqOwn (C : Addr) (sp : Sp) (E : XK) : R2 := fun x y H Q => ∃ a dx fs b dy gs, x = .ref a ∧ H a = some (.ins C dx fs) ∧ y = .ref b ∧ H b = some (.ins C dy gs) ∧ sp [x, y] H (fun v H' => ∃ b, v = .bl b ∧ Q (.bl b) H') E
theorem op_eqOwn (M : OwnM X.K C "__eq__" f) (F : FnOk X.prog X.w X.K X.mg X.base CX k f fd ps sp) (hr : Room k X.A) (hb : Binds X.K fd ps []) (hx : Passes CX X E) : OpR X (compareOp .Eq) (rEqOwn C sp E) := by
  intro pins s σ H x y v u Q I rx ry h
  obtain ⟨p, dx, fs, q', dy, gs, rfl, hp, rfl, hq, q⟩ := h
  cases rx
  cases ry
  obtain ⟨mA, J, _⟩ := ins_get I.hok hp
  obtain ⟨od, J, _⟩ := J.look
  obtain ⟨mB, J', _⟩ := ins_get I.hok hq
  obtain ⟨od', J', _⟩ := J'.look
  obtain ⟨m, hF⟩ := I.fr
  show wpAny (model X.prog X.w) X.A (richCompare .Eq _ _) _ _ _
  refine PySem.W.cmp_K (op := .Eq) (tb := .ref C) hr.units0 hF I.ok.mod.kin J J'.type (by simp [PySem.W.notFirst]) M.at_ M.fn (wpAny_mono (run_fnS F ⟨hr, rfl⟩ hb hx I (.cons (show RelV (V.ref p) (Value.ref p) from rfl) (.cons (show RelV (V.ref q') (Value.ref q') from rfl) .nil)) q) (fun r s' z => ?_) fun _ _ z => z)
  obtain ⟨z, H', I', rz, b, ez, q⟩ := z
  subst ez
  cases rz
  exact ⟨.bl b, H', I', rfl, q⟩
/-- len(o) -/
def rLenOwn (C : Addr) (sp : Sp) (E : XK) : List V → Hp → VK → Prop := fun xs H Q => ∃ a dx fs, xs = [.ref a] ∧ H a = some (.ins C dx fs) ∧ sp xs H (fun v H' => ∃ n : Int, v = .int n ∧ 0 ≤ n ∧ n < 2 ^ 63 ∧ Q (.int n) H') E
theorem call_lenOwn (M : OwnM X.K C "__len__" f) (F : FnOk X.prog X.w X.K X.mg X.base CX k f fd ps sp) (hr : Room (k + 1) X.A) (hb : Binds X.K fd ps []) (hx : Passes CX X E) : CallR X (.builtin "len") (rLenOwn C sp E) := by
  intro pins s σ H xs us Q I r h
  obtain ⟨p, dx, fs, rfl, hp, q⟩ := h
  cases r with
  | cons r1 r2 =>
    cases r2
    cases r1
    obtain ⟨mA, J, _⟩ := ins_get I.hok hp
    obtain ⟨od, J, _⟩ := J.look
    obtain ⟨m, hF⟩ := I.fr
    refine PySem.W.len_K hF I.ok.mod.kin J M.at_ M.fn (wpAny_mono (run_fnS F ⟨hr.in1, rfl⟩ hb hx I (.cons (show RelV (V.ref p) (Value.ref p) from rfl) .nil) q) (fun r s' z => ?_) fun _ _ z => z)
    obtain ⟨z, H', I', rz, n, ez, n0, n1, q⟩ := z
    subst ez
    obtain ⟨t, rfl⟩ := rz
    exact ⟨⟨n0, n1⟩, .int n, H', I'.tok (s'.toks + 1), ⟨_, rfl⟩, q⟩
end
end Om


namespace Om
open PySem PySem.Spec PyProof.Rows L2
/-! ### enumerate(text) -/
def IteS (x : Str) : It :=
  ⟨fun i _ => i < x.cps.size, fun i H v H' => ∃ T c, v = .ref T ∧ H T = none ∧ H' = upd H T (.tup [.int (i : Nat), .str ⟨#[c]⟩]) ∧ x.cps[i]? = some c, fun i _ => x.cps.size = i⟩
theorem turn_enumS {P : Program} {w : World} {K : PySem.W.Frag} {elts : List Expr} {kk : Nat} {tpos : Pos} {e it : Addr} {x : Str} {t : Tok} (nei : e ≠ it) :
    Turn P w K (.Tuple elts kk tpos) (IteS x) [e, it] e (fun i h => (∃ old, IsEnum h e it ((i : Nat) : Int) old) ∧ h.IsStrIter it (strIterType x) x t i) where
  mem := by simp
  obj := fun i h ⟨⟨old, he⟩, o, ho, hc, hd⟩ b hb => by
    rcases (show b = e ∨ b = it by simpa using hb) with rfl | rfl
    · exact ⟨_, he, fun v q => nomatch q⟩
    · exact ⟨o, ho, fun v q => by rw [hd] at q; cases q⟩
  keep := fun i h h' ⟨⟨old, he⟩, hi⟩ k => ⟨⟨old, k e (by simp) _ he⟩, let ⟨o, q, r⟩ := hi; ⟨o, k it (by simp) o q, r⟩⟩
  item := by
    intro X eP ew eK hc i pins s σ H E I hf ⟨⟨old, he⟩, hit⟩ hlt
    subst eP ew eK
    have el : e < s.heap.objs.size := Heap.lt_size he
    have il : it < s.heap.objs.size := by obtain ⟨_, q, _⟩ := hit; exact Heap.lt_size q
    have hd0 : X.A.in1.handled = none := I.ok.hd hc
    refine wpAny_pyNext_enum_itemD (Draws.text hd0 it x t) he hit hlt nei (by simp [nei]) fun v h' tk hx2 ho hst hT hs2 hk => ?_
    obtain ⟨c, u, hxc, rfl⟩ := hx2
    refine ⟨_, rfl, wpAny_letOwnedTupleGo_enum (s := { s with heap := h', toks := tk + 1 }) ho fun h2 he2 sb => ?_⟩
    have hT2 := (sb.2 _ (Nat.ne_of_gt el)).trans hT
    have new : ObjOk X.prog X.w (upd H s.heap.objs.size (.tup [.int (i : Nat), .str ⟨#[c]⟩])) h2 s.heap.objs.size (.tup [.int (i : Nat), .str ⟨#[c]⟩]) :=
      ⟨(show 2 ≤ sizeLine by decide), [.int i tk, .str ⟨#[c]⟩ u], .cons ⟨_, rfl⟩ (.cons ⟨_, rfl⟩ .nil), _, hT2, rfl, _, rfl⟩
    have I1 : Inv X pins σ (upd H s.heap.objs.size (.tup [.int (i : Nat), .str ⟨#[c]⟩])) { s with heap := h2, toks := tk + 1 } :=
      I.turnedNew (ch := [e, it]) (fun b ob hb q => (sb.2 b (by rintro rfl; simp at hb)).trans (hk b ob (by rintro rfl; simp at hb) (by rintro rfl; simp at hb) q)) hf (Nat.le_refl _) new
    have ei : ((i + 1 : Nat) : Int) = (i : Int) + 1 := by omega
    refine ⟨.ref s.heap.objs.size, _, I1, rfl, ⟨_, c, rfl, I.hok.fresh (Nat.le_refl _), rfl, hxc⟩, ⟨⟨.str ⟨#[c]⟩ u, by rw [ei]; exact he2⟩, let ⟨o, q, r⟩ := hst; ⟨o, (sb.2 it (Ne.symm nei)).trans q, r⟩⟩, fun b hb => ?_⟩
    have hlt2 : b < s.heap.objs.size := by
      rcases (show b = e ∨ b = it by simpa using hb) with rfl | rfl
      · exact el
      · exact il
    rw [upd_ne (Nat.ne_of_lt hlt2)]
    exact (hf b hb).1
  done := by
    intro X eP ew eK hc i pins s σ H E I hf ⟨⟨old, he⟩, hit⟩ hle
    subst eP ew eK
    obtain ⟨f0, f1, f2, f3, f4, f5⟩ := hf it (by simp)
    have hd0 : X.A.in1.handled = none := I.ok.hd hc
    obtain rfl : i = x.cps.size := Eq.symm hle
    exact wpAny_pyNext_enum_endD (Draws.text hd0 it x t) he hit fun h' eb => ⟨rfl, I.turned (t' := s.toks) (fun b o hb q => eb b o hb q) f0 f1 f3 f4 f5⟩
  self := fun A i s Q E ⟨⟨_, he⟩, _⟩ h => wpAny_pyIter_enum he h
def iEnumS (ta : TA) : TI := fun σ H R => ta σ H fun vs H1 => ∃ x, vs = [.str x] ∧ R (IteS x) H1
theorem pi_enumS {X : Cx} {e : Expr} {ta : TA} {p pos tpos : Pos} {elts : List Expr} {kk : Nat} (hg : Gl X "enumerate") (hm : X.mg "enumerate" = none) (ha : PA X [e] ta) (hs : starEach [e] X.env = [(false, eval e X.env)] := by rfl) :
    PI X (.Tuple elts kk tpos) (.Call (.Name "enumerate" p) [e] [] pos) (iEnumS ta) := by
  constructor
  intro pins s σ H R I h
  refine Call_ (ld_blt I hg hm boot_enumerate (PyProof.Rows.callWith_type1 (thn (ha.run pos pins s σ H _ I h) fun us s1 ⟨vs, H1, I1, r1, x, ev, q⟩ => ?_) hs rfl))
  subst ev
  cases r1 with
  | cons ra rr =>
    cases rr
    obtain ⟨t, rfl⟩ := ra
    refine om_enum_call (begins_text x t) trivial fun h' he hi hk => wpAny_pyIter_enum he ?_
    have I2 : Inv X pins σ H1 { s1 with heap := h' } := I1.kept (t' := s1.toks) hk
    refine ⟨s1.heap.objs.size + 1, [s1.heap.objs.size + 1, s1.heap.objs.size], _, _, H1, rfl, I2, turn_enumS (x := x) (t := t) (Nat.succ_ne_self _), ⟨⟨.none, he⟩, _, hi, rfl, rfl⟩, fun b hb => ?_, q⟩
    have hb2 : s1.heap.objs.size ≤ b := by
      rcases (show b = s1.heap.objs.size + 1 ∨ b = s1.heap.objs.size by simpa using hb) with rfl | rfl
      · omega
      · exact Nat.le_refl _
    exact I1.fpOk hb2 (I1.hok.fresh hb2)
end Om


namespace Om
open PySem PySem.Spec PyProof.Rows L2
/-! ### walks of enumerate; a comprehension of two for over walks -/
def YEnum (xs : Nat → Option V) : Nat → Hp → V → Hp → Prop := fun i H v H' => ∃ T x, v = .ref T ∧ H T = none ∧ H' = upd H T (.tup [.int (i : Nat), x]) ∧ xs i = some x
theorem walk_enumT {K : PySem.W.Frag} {a : Addr} {xs : List V} : Walk (IteT K a xs) xs.length (fun H => SqT K H a xs) (YEnum fun i => xs[i]?) :=
  ⟨fun i _ hi q => ⟨q, hi⟩, fun _ q => ⟨q, rfl⟩, fun _ _ _ _ _ _ y => y⟩
theorem walk_enumS {x : Str} : Walk (IteS x) x.cps.size (fun _ => True) (YEnum fun i => x.cps[i]?.map fun c => .str ⟨#[c]⟩) :=
  ⟨fun i _ hi _ => hi, fun _ _ => rfl, fun i H v H' _ _ y => by
    obtain ⟨T, c, e1, e2, e3, e4⟩ := y
    exact ⟨T, _, e1, e2, e3, by show (x.cps[i]?).map _ = _; rw [e4]; rfl⟩⟩
section
variable {J : It} {n : Nat} {G : Hp → Prop} {Y : Nat → Hp → V → Hp → Prop}
/-- the inner walk of a comprehension of two for: Pv by the inner turn -/
theorem in_it (w : Walk J n G Y) {g : TG} {tt : TT} {te : TE} {vs : List Nat} {σ : L2.St} {H : Hp} {D : Addr} {Nx : Hp → Prop} (Pv : Nat → Hp → Prop) (h0 : Pv 0 H) (hG : ∀ i H, i ≤ n → Pv i H → G H)
    (hs : ∀ i x H H', i < n → Pv i H → Y i H x H' → g x (wipe σ vs) H' fun σ2 H2 => wipe σ2 vs = wipe σ vs ∧ tt σ2 H2 fun b H3 =>
      if b = true then te σ2 H3 fun y H4 => ∃ acc, H4 D = some (.lst acc) ∧ acc.length < sizeLine ∧ Pv (i + 1) (upd H4 D (.lst (acc ++ [y]))) else Pv (i + 1) H3) (hd : ∀ H, Pv n H → Nx H) :
    ∃ W1 : Nat → Nat → Hp → Prop, (∃ m, W1 0 m H) ∧ ∀ j k H, W1 j k H →
      (J.stop j H ∧ Nx H) ∨ (J.go j H ∧ ∃ Nx1 : Hp → Prop, (∀ H', Nx1 H' → ∃ k', k' < k ∧ W1 (j + 1) k' H') ∧ ∀ x H', J.yld j H x H' → g x (wipe σ vs) H' fun σ3 H5 => wipe σ3 vs = wipe σ vs ∧ tt σ3 H5 fun b H6 =>
        if b = true then te σ3 H6 fun y H7 => ∃ acc, H7 D = some (.lst acc) ∧ acc.length < sizeLine ∧ Nx1 (upd H7 D (.lst (acc ++ [y]))) else Nx1 H6) := by
  refine ⟨fun i m H => m = n - i ∧ i ≤ n ∧ Pv i H, ⟨n, by simp, Nat.zero_le _, h0⟩, ?_⟩
  rintro i m H ⟨rfl, hi, p⟩
  have q := hG i H hi p
  by_cases hlt : i < n
  · exact .inr ⟨w.goes i H hlt q, Pv (i + 1), fun H' p' => ⟨n - (i + 1), by omega, rfl, hlt, p'⟩, fun x H' y => hs i x H H' hlt p (w.yields i H x H' hlt q y)⟩
  · have e : i = n := by omega
    subst e
    exact .inl ⟨w.stops H q, hd H p⟩
/-- the outer walk: what a turn's inner part does is told by B, from Pv i to Pv (i + 1) -/
theorem out_it (w : Walk J n G Y) {H1 : Hp} {D : Addr} {Qd : Hp → Prop} {B : (Hp → Prop) → V → Hp → Prop} (Pv : Nat → Hp → Prop) (h0 : Pv 0 (upd H1 D (.lst []))) (hG : ∀ i H, i ≤ n → Pv i H → G H)
    (hs : ∀ i x H H', i < n → Pv i H → Y i H x H' → B (Pv (i + 1)) x H') (hd : ∀ H, Pv n H → Qd H) :
    ∃ W : Nat → Nat → Hp → Prop, (∃ m, W 0 m (upd H1 D (.lst []))) ∧ ∀ i m H, W i m H →
      (J.stop i H ∧ Qd H) ∨ (J.go i H ∧ ∃ Nx : Hp → Prop, (∀ H', Nx H' → ∃ m', m' < m ∧ W (i + 1) m' H') ∧ ∀ x H', J.yld i H x H' → B Nx x H') := by
  refine ⟨fun i m H => m = n - i ∧ i ≤ n ∧ Pv i H, ⟨n, by simp, Nat.zero_le _, h0⟩, ?_⟩
  rintro i m H ⟨rfl, hi, p⟩
  have q := hG i H hi p
  by_cases hlt : i < n
  · exact .inr ⟨w.goes i H hlt q, Pv (i + 1), fun H' p' => ⟨n - (i + 1), by omega, rfl, hlt, p'⟩, fun x H' y => hs i x H H' hlt p (w.yields i H x H' hlt q y)⟩
  · have e : i = n := by omega
    subst e
    exact .inl ⟨w.stops H q, hd H p⟩
end
end Om


namespace Om
open PySem PySem.Spec PyProof.Rows L2
abbrev sInR : Stmt := top 4
abbrev sLies : Stmt := top 17
def inR (v lo hi : Int) : Bool := decide (lo ≤ v) && decide (v ≤ hi)
def insd (rows : List (List Nat)) (i j : Int) : Bool := inR i 0 ((rows.length : Int) - 1) && inR j 0 (((rows.headD []).length : Int) - 1)
def spInR : Sp := fun vs H Q _ => ∃ v lo hi : Int, vs = [.int v, .int lo, .int hi] ∧ Q (.bl (inR v lo hi)) H
/-- rows of an island as they are kept -/
structure Shp (rows : List (List Nat)) : Prop where
  len : rows.length ≤ 1000
  row : ∀ r ∈ rows, r.length ≤ 1000
  ne : rows ≠ []
def spLies (K : PySem.W.Frag) : Sp := fun vs H Q _ => ∃ (p c : Addr) (rows : List (List Nat)) (i j : Int), vs = [.ref p, .ref c] ∧ SqT K H p (rows.map vt) ∧ Shp rows ∧ SqT K H c [.int i, .int j] ∧ Q (.bl (insd rows i j)) H
section
variable {P : Program} {w : World} {K : PySem.W.Frag} {mg : Str → Option Value} {base : Heap}
abbrev nInR : List Str := ["value", "least", "most"]
theorem scInR : FnScope nInR nInR (defScope sInR) := ⟨rfl, rfl, rfl, by decide +kernel, rfl, by decide +kernel, by decide +kernel⟩
theorem ok_inR {f : Addr} {fd : FuncData} (F : FnP K "in_range" "in_range" sInR f fd) (gisi : mg "isinstance" = none) (gint : mg "int" = none) (gbool : mg "bool" = none) : FnOk P w K mg base CX0 1 f fd nInR spInR := by
  refine F.ok scInR (fun vs H Q E h => ?_) (fun cdv A outer s H vs Q E hr h => ?_)
  · obtain ⟨v, lo, hi, rfl, _⟩ := h
    rfl
  · obtain ⟨v, lo, hi, rfl, k⟩ := h
    refine ⟨_, PSs.nox (pss_one (ps_ret (pe_and (pe_callB call_isi (by rfl) gisi (by decide +kernel) (pa_cons (pv 0) (pa_cons (pe_bltn (v := .ty "int") (by rfl) gint boot_int rfl) pa_nil)))
      (pe_and (pe_not (pe_callB call_isi (by rfl) gisi (by decide +kernel) (pa_cons (pv 0) (pa_cons (pe_bltn (v := .ty "bool") (by rfl) gbool (by decide +kernel) rfl) pa_nil))))
        (pe_one (pe_chain op_le op_le (pv 1) (pv 0) (pv 2))))))), ?_⟩
    refine ⟨_, rfl, _, _, _, _, _, rfl, .ty "int", .base (.int _), kit_ty (a := "int") (b := "int") (r := true) (by decide +kernel), ?_⟩
    refine ⟨true, rfl, iteT ?_⟩
    refine ⟨_, rfl, _, _, _, _, _, rfl, .ty "bool", .base (.int _), kit_ty (a := "int") (b := "bool") (r := false) (by decide +kernel), false, rfl, true, rfl, iteT ?_⟩
    refine ⟨_, rfl, _, rfl, _, _, rfl, rfl, _, rfl, ?_⟩
    unfold inR at k
    cases e : decide (lo ≤ v) with
    | true =>
      rw [e, Bool.true_and] at k
      exact iteT ⟨_, rfl, _, _, rfl, rfl, k⟩
    | false =>
      rw [e, Bool.false_and] at k
      exact iteF k
theorem scLies : FnScope ["rows", "cell", "row", "column"] ["rows", "cell"] (defScope sLies) := ⟨rfl, rfl, rfl, by decide +kernel, rfl, by decide +kernel, by decide +kernel⟩
theorem ok_lies {f : Addr} {fd : FuncData} (F : FnP K "_lies_within" "_lies_within" sLies f fd) (G : Cal P w K mg base CX0 1 "in_range" nInR spInR) (glen : mg "len" = none) : FnOk P w K mg base CX0 2 f fd ["rows", "cell"] (spLies K) := by
  refine F.ok scLies (fun vs H Q E h => ?_) (fun cdv A outer s H vs Q E hr h => ?_)
  · obtain ⟨p, c, rows, i, j, rfl, _⟩ := h
    rfl
  · obtain ⟨p, c, rows, i, j, rfl, hS, sh, hC, k⟩ := h
    have nd := scLies.nd
    have hr1 : Room 1 _ := hr.mono (by decide)
    refine ⟨_, PSs.nox (pss_cons (ps_asg (pv 1) (pg_tup rfl (pgs_cons (pg_name (i := 2) nd rfl (.inl rfl)) (pgs_cons (pg_name (i := 3) nd rfl (.inl rfl)) pgs_nil))))
      (pss_one (ps_ret (pe_and (pe_cal G hr1 pass0 (pa_cons (pv 2) (pa_cons pe_int (pa_cons (pe_op op_sub (pe_callB call_len_seq (by rfl) glen PySem.boot_len (pa_cons (pv 0) pa_nil)) pe_int) pa_nil))))
        (pe_one (pe_cal G hr1 pass0 (pa_cons (pv 3) (pa_cons pe_int (pa_cons (pe_op op_sub (pe_callB call_len_str (by rfl) glen PySem.boot_len (pa_cons (pe_ix ix_tup (pv 0) pe_int (fun _ _ => rfl)) pa_nil)) pe_int) pa_nil))))))))), ?_⟩
    obtain ⟨r0, rs, rfl⟩ : ∃ r0 rs, rows = r0 :: rs := by
      cases rows with
      | nil => exact absurd rfl sh.ne
      | cons r0 rs => exact ⟨r0, rs, rfl⟩
    have hr0 : (tx r0).length ≤ sizeLine := by rw [tx_len]; exact small_le (sh.row r0 (List.mem_cons_self ..))
    refine ⟨_, rfl, c, _, rfl, hC, rfl, _, _, rfl, _, _, rfl, rfl, ?_⟩
    refine ⟨_, rfl, _, rfl, p, _, rfl, .inr hS, _, _, rfl, rfl, i, 0, _, rfl, ?_⟩
    refine ⟨_, rfl, ?_⟩
    have k2 : Q (.bl (inR i 0 ((((r0 :: rs).map vt).length : Nat) - 1) && inR j 0 (((tx r0).length : Nat) - 1))) H := by
      rw [tx_len, List.length_map]; exact k
    cases e : inR i 0 ((((r0 :: rs).map vt).length : Nat) - 1) with
    | false =>
      rw [e, Bool.false_and] at k2
      exact iteF k2
    | true =>
      rw [e, Bool.true_and] at k2
      refine iteT ?_
      exact ⟨_, rfl, _, rfl, p, _, 0, _, rfl, rfl, hS, at0, _, rfl, hr0, _, _, rfl, rfl, j, 0, _, rfl, k2⟩
end
end Om


namespace Om
open PySem PySem.Spec PyProof.Rows L2
/-! ### rows as data -/
def dt (r : List Nat) : PyData := .str (tx r)
theorem dpAll_rows {K : PySem.W.Frag} {H : Hp} : ∀ rows : List (List Nat), DpAll K H (rows.map vt) (rows.map dt)
  | [] => .nil
  | r :: rs => .cons (.str _) (dpAll_rows rs)
theorem strOk_tx {r : List Nat} (h : ∀ c ∈ r, c < 1000) : PyData.strOk (tx r) = true := by
  unfold PyData.strOk
  rw [Array.all_eq_true']
  intro c hc
  have hc' : c ∈ r := by
    have : c ∈ (tx r).cps.toList := by simpa using hc
    rwa [tx_cps] at this
  have := h c hc'
  exact decide_eq_true (by omega)
theorem lay_rows : ∀ {rows : List (List Nat)}, Lo rows → PyData.canLayAll0 (rows.map dt) = true
  | [], _ => by simp [PyData.canLayAll0]
  | r :: rs, h => by
    have h1 : PyData.strOk (tx r) = true := strOk_tx (h r (List.mem_cons_self ..))
    simp only [List.map_cons, PyData.canLayAll0, dt, PyData.canLay0, h1, lay_rows (rows := rs) fun r hr => h r (List.mem_cons_of_mem _ hr), Bool.and_self]
theorem dep_rows : ∀ rows : List (List Nat), PyData.depthAll (rows.map dt) = 0
  | [] => by simp [PyData.depthAll]
  | r :: rs => by simp [PyData.depthAll, PyData.depth, dt, dep_rows rs]
theorem shaped_rows {rows : List (List Nat)} (h : Lo rows) : SeqAt.shaped (.tuple (rows.map dt)) = true :=
  shaped_of (by simp only [PyData.canLay0]; exact lay_rows h) (by simp only [PyData.depth, dep_rows]; omega)
theorem eqv_str (a b : List Nat) : PyData.eqv (.str (tx a)) (.str (tx b)) = decide (a = b) := by
  rw [Bool.eq_iff_iff, decide_eq_true_iff]
  constructor
  · intro h
    have h2 : tx a = tx b := by simpa [PyData.eqv] using h
    exact tx_inj h2
  · rintro rfl
    simp [PyData.eqv]
theorem eqvAll_rows : ∀ a b : List (List Nat), PyData.eqvAll (a.map dt) (b.map dt) = decide (a = b)
  | [], [] => by simp [PyData.eqvAll]
  | [], _ :: _ => by simp [PyData.eqvAll]
  | _ :: _, [] => by simp [PyData.eqvAll]
  | r :: rs, q :: qs => by
    have e1 : PyData.eqvAll ((r :: rs).map dt) ((q :: qs).map dt) = (PyData.eqv (dt r) (dt q) && PyData.eqvAll (rs.map dt) (qs.map dt)) := by simp [PyData.eqvAll]
    rw [e1, eqvAll_rows rs qs, dt, dt, eqv_str, Bool.eq_iff_iff]
    simp
theorem eqv_rows (a b : List (List Nat)) : PyData.eqv (.tuple (a.map dt)) (.tuple (b.map dt)) = decide (a = b) := by
  have e1 : PyData.eqv (.tuple (a.map dt)) (.tuple (b.map dt)) = PyData.eqvAll (a.map dt) (b.map dt) := by simp [PyData.eqv]
  rw [e1, eqvAll_rows]
end Om


namespace Om
open PySem PySem.Spec PyProof.Rows L2
/-! ### an island's methods -/
abbrev sIslM (i : Nat) : Stmt := inClass (top 15) i
/-- an island at a: its rows -/
def Isl (K : PySem.W.Frag) (CI : Addr) (H : Hp) (a : Addr) (rows : List (List Nat)) : Prop := ∃ dx p, H a = some (.ins CI dx (islFs p)) ∧ SqT K H p (rows.map vt)
structure Good2 (rows : List (List Nat)) : Prop extends Shp rows where
  rect : ∀ r ∈ rows, r.length = (rows.headD []).length
  lo : Lo rows
def sgAt (rows : List (List Nat)) (i j : Int) : Nat := (rows.getD i.toNat []).getD j.toNat 0
theorem Isl.same {K : PySem.W.Frag} {CI a : Addr} {H H' : Hp} {rows : List (List Nat)} (h : Isl K CI H a rows) (s : Same H H') : Isl K CI H' a rows := by
  obtain ⟨dx, p, h1, h2⟩ := h
  exact ⟨dx, p, s _ _ h1, Same.tup s h2⟩
theorem islFs_at (p : Addr) : (islFs p).lookup ("_rows" : Str) = some (.ref p) := rfl
theorem insd_at {rows : List (List Nat)} {i j : Int} (g : Good2 rows) (h : insd rows i j = true) : ∃ r c, rows[i.toNat]? = some r ∧ r[j.toNat]? = some c ∧ sgAt rows i j = c ∧ r ∈ rows ∧ 0 ≤ i ∧ 0 ≤ j := by
  unfold insd inR at h
  simp only [Bool.and_eq_true, decide_eq_true_eq] at h
  obtain ⟨⟨h1, h2⟩, h3, h4⟩ := h
  have hi : i.toNat < rows.length := by omega
  have hm : rows[i.toNat] ∈ rows := List.getElem_mem hi
  have hl := g.rect _ hm
  have hj : j.toNat < (rows[i.toNat]).length := by omega
  refine ⟨rows[i.toNat], (rows[i.toNat])[j.toNat], by simp [hi], by simp [hj], ?_, hm, h1, h3⟩
  unfold sgAt
  have e1 : rows.getD i.toNat [] = rows[i.toNat] := by rw [List.getD_eq_getElem?_getD, List.getElem?_eq_getElem hi, Option.getD_some]
  rw [e1, List.getD_eq_getElem?_getD, List.getElem?_eq_getElem hj, Option.getD_some]
/-- an own error class made with a text -/
structure ErrU (K : PySem.W.Frag) (mg : Str → Option Value) (x : Str) (C : Addr) : Prop where
  q : PySem.W.excIn K C [.type "ValueError", .type "Exception", .type "BaseException", .type "object"] "ValueError.__new__" = true
  kp : PySem.W.keepIn K (.ref C) = true
  r1 : PySem.W.subIn K (.ref C) (.type "BaseException") = some true
  r2 : PySem.W.typeIn K (.ref C) = some (.type "type")
  g : mg x = some (.ref C)
def spGet (K : PySem.W.Frag) (CI CU : Addr) : Sp := fun vs H Q E => ∃ (a c : Addr) (rows : List (List Nat)) (i j : Int), vs = [.ref a, .ref c] ∧ Isl K CI H a rows ∧ Good2 rows ∧ SqT K H c [.int i, .int j] ∧
  (insd rows i j = true → Q (vt [sgAt rows i j]) H) ∧ (insd rows i j = false → E (.ref CU) none H)
def hasC (rows : List (List Nat)) (i j : Int) : Bool := insd rows i j && !decide (sgAt rows i j = 126)
def spHas (K : PySem.W.Frag) (CI : Addr) : Sp := fun vs H Q _ => ∃ (a c : Addr) (rows : List (List Nat)) (i j : Int), vs = [.ref a, .ref c] ∧ Isl K CI H a rows ∧ Good2 rows ∧ SqT K H c [.int i, .int j] ∧ Q (.bl (hasC rows i j)) H
def spIEq (K : PySem.W.Frag) (CI : Addr) : Sp := fun vs H Q _ => ∃ (a b : Addr) (r1 r2 : List (List Nat)), vs = [.ref a, .ref b] ∧ Isl K CI H a r1 ∧ Isl K CI H b r2 ∧ Lo r1 ∧ Lo r2 ∧ Q (.bl (decide (r1 = r2))) H
def spIRows (K : PySem.W.Frag) (CI : Addr) : Sp := fun vs H Q _ => ∃ (a dx p : Addr), vs = [.ref a] ∧ H a = some (.ins CI dx (islFs p)) ∧ Q (.ref p) H
def spIHgt (K : PySem.W.Frag) (CI : Addr) : Sp := fun vs H Q _ => ∃ (a : Addr) (rows : List (List Nat)), vs = [.ref a] ∧ Isl K CI H a rows ∧ Q (.int (rows.length : Nat)) H
def spIWid (K : PySem.W.Frag) (CI : Addr) : Sp := fun vs H Q _ => ∃ (a : Addr) (rows : List (List Nat)), vs = [.ref a] ∧ Isl K CI H a rows ∧ Shp rows ∧ Q (.int ((rows.headD []).length : Nat)) H
/-- what isinstance asks of the class -/
structure InsF (K : PySem.W.Frag) (C : Addr) : Prop where
  ha : PySem.W.findIn K (.ref C) "__class__" = some (some (.builtin "object.__class__"))
  hn : PySem.W.specialIn K (.builtin "object.__class__") "__get__" = some (some (.builtin "getset_descriptor.__get__"))
  ht : PySem.W.takesIn K (.builtin "object.__class__") = some true
  hm : PySem.W.mroIn K C (.type "object") = some true
theorem kit_self {K : PySem.W.Frag} {C : Addr} : PySem.W.kitOne K (.ref C) (.ref C) = some true := by
  unfold PySem.W.kitOne
  rw [if_pos (by simp)]
section
variable {P : Program} {w : World} {K : PySem.W.Frag} {mg : Str → Option Value} {base : Heap} {CI CU fN : Addr}
abbrev nGet : List Str := ["self", "cell", "row", "column"]
theorem scGet : FnScope nGet ["self", "cell"] (defScope (sIslM 7)) := ⟨rfl, rfl, rfl, by decide +kernel, rfl, by decide +kernel, by decide +kernel⟩
theorem ok_get {f : Addr} {fd : FuncData} (F : FnP K "__getitem__" "Island.__getitem__" (sIslM 7) f fd) (T : IslF K mg CI fN) (U : ErrU K mg "UnknownCell" CU) (G : Cal P w K mg base CX0 2 "_lies_within" ["rows", "cell"] (spLies K)) : FnOk P w K mg base (L2.CX P w) 3 f fd ["self", "cell"] (spGet K CI CU) := by
  refine F.ok scGet (fun vs H Q E h => ?_) (fun cdv A outer s H vs Q E hr h => ?_)
  · obtain ⟨a, c, rows, i, j, rfl, _⟩ := h
    rfl
  · obtain ⟨a, c, rows, i, j, rfl, hI, g, hC, k1, k2⟩ := h
    have nd := scGet.nd
    have hr2 : Room 2 _ := hr.mono (by decide)
    refine ⟨_, pss_cons (ps_if (pt_not (pt_val (pe_cal G hr2 pass0 (pa_cons (pe_fld (pv 0) rfl) (pa_cons (pv 1) pa_nil)))))
        (pss_one (ps_raise rfl (takes_of rfl rfl rfl rfl) (pmk_own PySem.F.excBase_ValueError U.q U.g U.kp (raises_own U.r1 U.r2) rfl))) pss_nil)
      (pss_cons (ps_asg (pv 1) (pg_tup rfl (pgs_cons (pg_name (i := 2) nd rfl (.inl rfl)) (pgs_cons (pg_name (i := 3) nd rfl (.inl rfl)) pgs_nil))))
      (pss_one (ps_ret (pe_ix ix_str (pe_ix ix_tup (pe_fld (pv 0) rfl) (pv 2) (fun _ _ => rfl)) (pv 3) (fun _ _ => rfl))))), ?_⟩
    obtain ⟨dx, p, hp, hS⟩ := hI
    refine ⟨_, rfl, a, CI, dx, _, .ref p, rfl, hp, T.cl, T.nR, rfl, ?_⟩
    refine ⟨_, rfl, p, c, rows, i, j, rfl, hS, g.toShp, hC, _, rfl, ?_⟩
    cases e : insd rows i j with
    | false => exact iteT (k2 e)
    | true =>
      refine iteF ?_
      obtain ⟨r, ch, h1, h2, h3, hm, hi, hj⟩ := insd_at g e
      refine ⟨_, rfl, c, _, rfl, hC, rfl, _, _, rfl, _, _, rfl, rfl, ?_⟩
      refine ⟨_, rfl, a, CI, dx, _, .ref p, rfl, hp, T.cl, T.nR, rfl, ?_⟩
      have ei : atI (rows.map vt) i = some (vt r) := by
        have z := atI_nat (xs := rows.map vt) (j := i.toNat) (v := vt r) (by rw [List.getElem?_map, h1]; rfl)
        rwa [Int.toNat_of_nonneg hi] at z
      have ej : atI (tx r).cps.toList j = some ch := by
        have z := atI_nat (xs := (tx r).cps.toList) (j := j.toNat) (v := ch) (by rw [tx_cps]; exact h2)
        rwa [Int.toNat_of_nonneg hj] at z
      refine ⟨_, rfl, p, _, i, _, rfl, rfl, hS, ei, _, rfl, _, j, ch, rfl, rfl, (by rw [tx_len]; exact small_le (g.row r hm)), ej, ?_⟩
      have k := k1 e
      rw [h3] at k
      exact k
theorem scHas : FnScope ["self", "cell"] ["self", "cell"] (defScope (sIslM 8)) := ⟨rfl, rfl, rfl, by decide +kernel, rfl, by decide +kernel, by decide +kernel⟩
theorem ok_has {f : Addr} {fd : FuncData} (F : FnP K "__contains__" "Island.__contains__" (sIslM 8) f fd) (T : IslF K mg CI fN) (G : Cal P w K mg base CX0 2 "_lies_within" ["rows", "cell"] (spLies K)) (gw : ∃ t, mg "WATER" = some (.str (Str.ofString "~") t)) :
    FnOk P w K mg base CX0 3 f fd ["self", "cell"] (spHas K CI) := by
  obtain ⟨t0, gw⟩ := gw
  refine F.ok scHas (fun vs H Q E h => ?_) (fun cdv A outer s H vs Q E hr h => ?_)
  · obtain ⟨a, c, rows, i, j, rfl, _⟩ := h
    rfl
  · obtain ⟨a, c, rows, i, j, rfl, hI, g, hC, k⟩ := h
    have nd := scHas.nd
    have hr2 : Room 2 _ := hr.mono (by decide)
    refine ⟨_, PSs.nox (pss_one (ps_ret (pe_and (pe_cal G hr2 pass0 (pa_cons (pe_fld (pv 0) rfl) (pa_cons (pv 1) pa_nil)))
      (pe_one (pe_cmpR op_ne (pe_ix ix_str (pe_ix ix_tup (pe_fld (pv 0) rfl) (pe_ix ix_tup (pv 1) pe_int (fun _ _ => rfl)) (fun _ _ => rfl)) (pe_ix ix_tup (pv 1) pe_int (fun _ _ => rfl)) (fun _ _ => rfl))
        (pe_glob (v := .str (Str.ofString "~")) rfl gw ⟨_, rfl⟩) (nomark _)))))), ?_⟩
    obtain ⟨dx, p, hp, hS⟩ := hI
    refine ⟨_, rfl, a, CI, dx, _, .ref p, rfl, hp, T.cl, T.nR, rfl, ?_⟩
    refine ⟨_, rfl, p, c, rows, i, j, rfl, hS, g.toShp, hC, _, rfl, ?_⟩
    unfold hasC at k
    cases e : insd rows i j with
    | false =>
      rw [e, Bool.false_and] at k
      exact iteF k
    | true =>
      rw [e, Bool.true_and] at k
      refine iteT ?_
      obtain ⟨r, ch, h1, h2, h3, hm, hi, hj⟩ := insd_at g e
      have ei : atI (rows.map vt) i = some (vt r) := by
        have z := atI_nat (xs := rows.map vt) (j := i.toNat) (v := vt r) (by rw [List.getElem?_map, h1]; rfl)
        rwa [Int.toNat_of_nonneg hi] at z
      have ej : atI (tx r).cps.toList j = some ch := by
        have z := atI_nat (xs := (tx r).cps.toList) (j := j.toNat) (v := ch) (by rw [tx_cps]; exact h2)
        rwa [Int.toNat_of_nonneg hj] at z
      refine ⟨_, rfl, a, CI, dx, _, .ref p, rfl, hp, T.cl, T.nR, rfl, ?_⟩
      refine ⟨_, rfl, c, _, 0, _, rfl, rfl, hC, rfl, p, _, i, _, rfl, rfl, hS, ei, ?_⟩
      refine ⟨_, rfl, c, _, 1, _, rfl, rfl, hC, rfl, _, j, ch, rfl, rfl, (by rw [tx_len]; exact small_le (g.row r hm)), ej, ?_⟩
      rw [h3] at k
      have e2 : (decide (V.str ⟨#[ch]⟩ = V.str (Str.ofString "~"))) = decide (ch = 126) := by
        have z : Str.ofString "~" = (⟨#[126]⟩ : Str) := by decide +kernel
        rw [z]
        apply decide_eq_decide.mpr
        simp
      refine ⟨rfl, ?_⟩
      show Q (.bl (!decide (V.str ⟨#[ch]⟩ = V.str (Str.ofString "~")))) H
      rw [e2]
      exact k
theorem scIEq : FnScope ["self", "other"] ["self", "other"] (defScope (sIslM 10)) := ⟨rfl, rfl, rfl, by decide +kernel, rfl, by decide +kernel, by decide +kernel⟩
theorem ok_ieq {f : Addr} {fd : FuncData} (F : FnP K "__eq__" "Island.__eq__" (sIslM 10) f fd) (T : IslF K mg CI fN) (N : InsF K CI) (gisi : mg "isinstance" = none) : FnOk P w K mg base CX0 1 f fd ["self", "other"] (spIEq K CI) := by
  refine F.ok scIEq (fun vs H Q E h => ?_) (fun cdv A outer s H vs Q E hr h => ?_)
  · obtain ⟨a, b, r1, r2, rfl, _⟩ := h
    rfl
  · obtain ⟨a, b, r1, r2, rfl, ⟨dx, p, hp, hS⟩, ⟨dy, q, hq, hS2⟩, l1, l2, k⟩ := h
    refine ⟨_, PSs.nox (pss_one (ps_ret (pe_and (pe_callB call_isi (by rfl) gisi (by decide +kernel) (pa_cons (pv 1) (pa_cons (pe_glob (v := .ref CI) rfl T.gI rfl) pa_nil)))
      (pe_one (pe_cmpR (op_eqD hr.units) (pe_fld (pv 0) rfl) (pe_fld (pv 1) rfl) (nomark _)))))), ?_⟩
    refine ⟨_, rfl, _, _, _, _, _, rfl, .own CI, .base (.ins hq T.cl N.ha N.hn N.ht N.hm), kit_self, true, rfl, iteT ?_⟩
    refine ⟨_, rfl, a, CI, dx, _, .ref p, rfl, hp, T.cl, T.nR, rfl, ?_⟩
    refine ⟨_, rfl, b, CI, dy, _, .ref q, rfl, hq, T.cl, T.nR, rfl, ?_⟩
    refine ⟨_, _, .tup hS (dpAll_rows r1), .tup hS2 (dpAll_rows r2), shaped_rows l1, shaped_rows l2, ?_⟩
    rw [eqv_rows]
    exact k
theorem scI1 (i : Nat) (h : i = 1 ∨ i = 2 ∨ i = 3) : FnScope ["self"] ["self"] (defScope (sIslM i)) := by
  rcases h with rfl | rfl | rfl <;> exact ⟨rfl, rfl, rfl, by decide +kernel, rfl, by decide +kernel, by decide +kernel⟩
theorem ok_irows {f : Addr} {fd : FuncData} (F : FnP K "rows" "Island.rows" (sIslM 1) f fd) (T : IslF K mg CI fN) : FnOk P w K mg base CX0 1 f fd ["self"] (spIRows K CI) := by
  refine F.ok (scI1 1 (.inl rfl)) (fun vs H Q E h => ?_) (fun cdv A outer s H vs Q E hr h => ?_)
  · obtain ⟨a, dx, p, rfl, _⟩ := h
    rfl
  · obtain ⟨a, dx, p, rfl, hp, k⟩ := h
    exact ⟨_, PSs.nox (pss_one (ps_ret (pe_fld (pv 0) rfl))), _, rfl, a, CI, dx, _, .ref p, rfl, hp, T.cl, T.nR, rfl, k⟩
theorem ok_iwid {f : Addr} {fd : FuncData} (F : FnP K "width" "Island.width" (sIslM 3) f fd) (T : IslF K mg CI fN) (glen : mg "len" = none) : FnOk P w K mg base CX0 1 f fd ["self"] (spIWid K CI) := by
  refine F.ok (scI1 3 (.inr (.inr rfl))) (fun vs H Q E h => ?_) (fun cdv A outer s H vs Q E hr h => ?_)
  · obtain ⟨a, rows, rfl, _⟩ := h
    rfl
  · obtain ⟨a, rows, rfl, ⟨dx, p, hp, hS⟩, sh, k⟩ := h
    obtain ⟨r0, rs, rfl⟩ : ∃ r0 rs, rows = r0 :: rs := by
      cases rows with
      | nil => exact absurd rfl sh.ne
      | cons r0 rs => exact ⟨r0, rs, rfl⟩
    have hr0 : (tx r0).length ≤ sizeLine := by rw [tx_len]; exact small_le (sh.row r0 (List.mem_cons_self ..))
    refine ⟨_, PSs.nox (pss_one (ps_ret (pe_callB call_len_str (by rfl) glen PySem.boot_len (pa_cons (pe_ix ix_tup (pe_fld (pv 0) rfl) pe_int (fun _ _ => rfl)) pa_nil)))), ?_⟩
    refine ⟨_, rfl, a, CI, dx, _, .ref p, rfl, hp, T.cl, T.nR, rfl, p, _, 0, _, rfl, rfl, hS, at0, _, rfl, hr0, ?_⟩
    rw [tx_len]
    exact k
end
end Om


namespace Om
open PySem PySem.Spec PyProof.Rows L2
/-! ### Dp stays -/
theorem Same.lst {K : PySem.W.Frag} {H H' : Hp} {a : Addr} {xs : List V} (e : Same H H') (h : SqL K H a xs) : SqL K H' a xs := by
  rcases h with (h | ⟨o, h⟩) | h
  · exact .inl (.inl (e _ _ h))
  · exact .inl (.inr ⟨o, e _ _ h⟩)
  · exact .inr h
theorem dp_mono {K : PySem.W.Frag} {H H' : Hp} (hS : ∀ a xs, SqT K H a xs → SqT K H' a xs) (hL : ∀ a xs, SqL K H a xs → SqL K H' a xs) {v : V} {d : PyData} (h : Dp K H v d) : Dp K H' v d :=
  Dp.rec (motive_1 := fun v d _ => Dp K H' v d) (motive_2 := fun vs ds _ => DpAll K H' vs ds) .non .bl .int .str (fun s _ ih => .lst (hL _ _ s) ih) (fun s _ ih => .tup (hS _ _ s) ih) .nil (fun _ _ i1 i2 => .cons i1 i2) h
theorem dpAll_mono {K : PySem.W.Frag} {H H' : Hp} (hS : ∀ a xs, SqT K H a xs → SqT K H' a xs) (hL : ∀ a xs, SqL K H a xs → SqL K H' a xs) {vs : List V} {ds : List PyData} (h : DpAll K H vs ds) : DpAll K H' vs ds :=
  DpAll.rec (motive_1 := fun v d _ => Dp K H' v d) (motive_2 := fun vs ds _ => DpAll K H' vs ds) .non .bl .int .str (fun s _ ih => .lst (hL _ _ s) ih) (fun s _ ih => .tup (hS _ _ s) ih) .nil (fun _ _ i1 i2 => .cons i1 i2) h
theorem Same.dp {K : PySem.W.Frag} {H H' : Hp} {v : V} {d : PyData} (e : Same H H') (h : Dp K H v d) : Dp K H' v d := dp_mono (fun _ _ => Same.tup e) (fun _ _ => Same.lst e) h
theorem Same.dpAll {K : PySem.W.Frag} {H H' : Hp} {v : List V} {d : List PyData} (e : Same H H') (h : DpAll K H v d) : DpAll K H' v d := dpAll_mono (fun _ _ => Same.tup e) (fun _ _ => Same.lst e) h
theorem dpAll_app {K : PySem.W.Frag} {H : Hp} : ∀ {a : List V} {da : List PyData} {b : List V} {db : List PyData}, DpAll K H a da → DpAll K H b db → DpAll K H (a ++ b) (da ++ db)
  | [], [], _, _, .nil, h => h
  | _ :: _, _ :: _, _, _, .cons x y, h => .cons x (dpAll_app y h)
theorem dpAll_len {K : PySem.W.Frag} {H : Hp} : ∀ {a : List V} {da : List PyData}, DpAll K H a da → a.length = da.length
  | [], [], .nil => rfl
  | _ :: _, _ :: _, .cons _ y => by rw [List.length_cons, List.length_cons, dpAll_len y]
/-! ### pairs of numbers in a list that grows at D -/
def cdp (c : Nat × Nat) : PyData := .tuple [.int (c.1 : Nat), .int (c.2 : Nat)]
theorem SqT.other {K : PySem.W.Frag} {H : Hp} {a D : Addr} {xs acc : List V} {o : HO} (h : SqT K H a xs) (hD : H D = some (.lst acc)) : SqT K (upd H D o) a xs := by
  rcases h with (h | ⟨ob, h⟩) | h
  · have n : a ≠ D := fun e => by rw [e, hD] at h; cases h
    exact .inl (.inl (by rw [upd_ne n]; exact h))
  · have n : a ≠ D := fun e => by rw [e, hD] at h; cases h
    exact .inl (.inr ⟨ob, by rw [upd_ne n]; exact h⟩)
  · exact .inr h
theorem pairs_other {K : PySem.W.Frag} {H : Hp} {D : Addr} {acc : List V} {o : HO} (hD : H D = some (.lst acc)) : ∀ {xs : List V} {cs : List (Nat × Nat)}, DpAll K H xs (cs.map cdp) → DpAll K (upd H D o) xs (cs.map cdp)
  | [], [], .nil => .nil
  | _ :: _, _ :: _, .cons h t => by
    refine .cons ?_ (pairs_other hD t)
    unfold cdp at h ⊢
    cases h with
    | tup s al =>
      refine .tup (SqT.other s hD) ?_
      cases al with
      | cons h1 t1 =>
        cases h1
        cases t1 with
        | cons h2 t2 =>
          cases h2
          cases t2
          exact .cons (.int _) (.cons (.int _) .nil)
/-! ### the cells of land -/
def rowCells (r : List Nat) (i n : Nat) : List (Nat × Nat) := ((List.range n).filter fun j => !decide (r.getD j 0 = 126)).map fun j => (i, j)
def cellsTo (rows : List (List Nat)) (n : Nat) : List (Nat × Nat) := (List.range n).flatMap fun i => rowCells (rows.getD i []) i (rows.getD i []).length
def cellsOf (rows : List (List Nat)) : List (Nat × Nat) := cellsTo rows rows.length
theorem rowCells_succ (r : List Nat) (i n : Nat) : rowCells r i (n + 1) = if r.getD n 0 = 126 then rowCells r i n else rowCells r i n ++ [(i, n)] := by
  unfold rowCells
  rw [List.range_succ, List.filter_append, List.map_append]
  by_cases h : r.getD n 0 = 126
  · rw [if_pos h]
    simp only [List.filter_cons, h, decide_true, Bool.not_true, Bool.false_eq_true, if_false, List.filter_nil, List.map_nil, List.append_nil]
  · rw [if_neg h]
    have e : (!decide (r.getD n 0 = 126)) = true := by rw [decide_eq_false h]; rfl
    simp only [List.filter_cons, e, if_true, List.filter_nil, List.map_cons, List.map_nil]
theorem cellsTo_succ (rows : List (List Nat)) (n : Nat) : cellsTo rows (n + 1) = cellsTo rows n ++ rowCells (rows.getD n []) n (rows.getD n []).length := by
  unfold cellsTo
  rw [List.range_succ, List.flatMap_append]
  simp
theorem rowCells_len (r : List Nat) (i n : Nat) : (rowCells r i n).length ≤ n := by
  unfold rowCells
  rw [List.length_map]
  exact Nat.le_trans (List.length_filter_le ..) (by rw [List.length_range]; exact Nat.le_refl _)
theorem cellsTo_len {rows : List (List Nat)} {w : Nat} (hw : ∀ r ∈ rows, r.length ≤ w) : ∀ n, n ≤ rows.length → (cellsTo rows n).length ≤ n * w
  | 0, _ => by simp [cellsTo]
  | n + 1, h => by
    rw [cellsTo_succ, List.length_append]
    have h1 := cellsTo_len hw n (by omega)
    have hm : rows.getD n [] ∈ rows := by
      rw [List.getD_eq_getElem?_getD, List.getElem?_eq_getElem (by omega), Option.getD_some]
      exact List.getElem_mem _
    have h2 := rowCells_len (rows.getD n []) n (rows.getD n []).length
    have h3 := hw _ hm
    rw [Nat.succ_mul]
    omega
theorem getD_at {rows : List (List Nat)} {i : Nat} {r : List Nat} (h : rows[i]? = some r) : rows.getD i [] = r := by
  rw [List.getD_eq_getElem?_getD, h, Option.getD_some]
/-- an island as it may be -/
structure Vd (rows : List (List Nat)) : Prop extends Good2 rows where
  hgt : rows.length ≤ 12
  wid : ∀ r ∈ rows, 1 ≤ r.length ∧ r.length ≤ 12
theorem RowsOk.vd {m : Nat} {rows : List (List Nat)} (h : RowsOk m rows) (hm : m ≤ 12) : Vd rows := by
  obtain ⟨h1, h2, wd, w1, w2, hr⟩ := h
  have g := RowsOk.good ⟨h1, h2, wd, w1, w2, hr⟩ hm
  refine ⟨⟨⟨g.le, g.lens, fun e => by rw [e] at h1; simp at h1⟩, fun r hr' => ?_, g.lo⟩, by omega, fun r hr' => by have := (hr r hr').1; omega⟩
  cases rows with
  | nil => cases hr'
  | cons r0 rs =>
    have e1 := (hr r hr').1
    have e2 := (hr r0 (List.mem_cons_self ..)).1
    show r.length = r0.length
    omega
def spICells (K : PySem.W.Frag) (CI : Addr) : Sp := fun vs H Q _ => ∃ (a : Addr) (rows : List (List Nat)), vs = [.ref a] ∧ Isl K CI H a rows ∧ Vd rows ∧ ∀ v H', Same H H' → Dp K H' v (.list ((cellsOf rows).map cdp)) → Q v H'
end Om


namespace Om
open PySem PySem.Spec PyProof.Rows L2
/-! ### _law_alike of two readings of the same data -/
/-- none, bools, ints, texts, tuples and lists of such, some deep -/
def okD : Nat → PyData → Bool
  | 0, _ => false
  | _ + 1, .none => true
  | _ + 1, .bool _ => true
  | _ + 1, .int _ => true
  | _ + 1, .str x => PyData.strOk x
  | n + 1, .list ds => decide (ds.length ≤ 10000) && ds.all (okD n)
  | n + 1, .tuple ds => decide (ds.length ≤ 10000) && ds.all (okD n)
  | _ + 1, .dict _ => false
theorem dpAll_at {K : PySem.W.Frag} {H : Hp} : ∀ {xs : List V} {ds : List PyData}, DpAll K H xs ds → ∀ {i : Nat} {e : PyData}, ds[i]? = some e → ∃ v, xs[i]? = some v ∧ Dp K H v e
  | [], [], .nil, i, e, h => by simp at h
  | v :: _, d :: _, .cons h1 t, 0, e, h => by
    have h : some d = some e := h
    cases h
    exact ⟨v, rfl, h1⟩
  | v :: _, d :: _, .cons h1 t, i + 1, e, h => by
    obtain ⟨u, h2, h3⟩ := dpAll_at t (i := i) (e := e) h
    exact ⟨u, h2, h3⟩
def tyD : PyData → String
  | .none => "NoneType"
  | .bool _ => "bool"
  | .int _ => "int"
  | .str _ => "str"
  | .list _ => "list"
  | .tuple _ => "tuple"
  | .dict _ => "dict"
theorem sqL_ty {K : PySem.W.Frag} {H : Hp} {a : Addr} {xs : List V} (h : SqL K H a xs) : TyX K H (.ref a) (.type "list") := by
  rcases h with (h | ⟨o, h⟩) | h
  · exact .base (.lst h)
  · exact .base (.frz h)
  · obtain ⟨o, its, n, e1, e2, _⟩ := h
    exact .kList e1 e2
theorem sqT_ty {K : PySem.W.Frag} {H : Hp} {a : Addr} {xs : List V} (h : SqT K H a xs) : TyX K H (.ref a) (.type "tuple") := by
  rcases h with (h | ⟨o, h⟩) | h
  · exact .base (.tup h)
  · exact .fTuple h
  · obtain ⟨o, its, n, e1, e2, _⟩ := h
    exact .kTuple e1 e2
theorem dp_ty {K : PySem.W.Frag} {H : Hp} {v : V} {d : PyData} (h : Dp K H v d) : TyX K H v (.type (tyD d)) := by
  cases h with
  | non => exact .base .non
  | bl b => exact .base (.bl b)
  | int i => exact .base (.int i)
  | str x => exact .base (.str x)
  | lst s _ => exact sqL_ty s
  | tup s _ => exact sqT_ty s
end Om

namespace Om
open PySem PySem.Spec PyProof.Rows L2 LamX
/-! ### the heap of numbers that a law draws from -/
structure Bx (H : Hp) (b l : Addr) : Prop where
  ex : ∃ (ns : List Int) (z k : Int), H b = some (.lst [.int z, .ref l, .int k]) ∧ H l = some (.lst (ns.map V.int)) ∧ ns.length ≤ 63
theorem Bx.ne {H : Hp} {b l : Addr} (B : Bx H b l) : b ≠ l := by
  obtain ⟨ns, z, k, h1, h2, _⟩ := B.ex
  refine ne_of h1 h2 fun e => ?_
  have e2 : [V.int z, V.ref l, V.int k] = ns.map V.int := HO.lst.inj e
  cases ns with
  | nil => cases e2
  | cons n r =>
    cases r with
    | nil => cases e2
    | cons m q =>
      injection e2 with _ e3
      injection e3 with e4 _
      cases e4
theorem Bx.same {H H' : Hp} {b l : Addr} (B : Bx H b l) (s : Same H H') : Bx H' b l := by
  obtain ⟨ns, z, k, h1, h2, h3⟩ := B.ex
  exact ⟨ns, z, k, s _ _ h1, s _ _ h2, h3⟩
theorem Bx.new {H : Hp} {b l D : Addr} (B : Bx H b l) (hD : H D = none) : D ≠ b ∧ D ≠ l := by
  obtain ⟨_, _, _, x1, x2, _⟩ := B.ex
  exact ⟨(fun e => by rw [← e, hD] at x1; cases x1), (fun e => by rw [← e, hD] at x2; cases x2)⟩
def spMix (K : PySem.W.Frag) : Sp := fun vs H Q _ => ∃ (a : Addr) (ns : List Int) (sd : Int), vs = [.ref a, .int sd] ∧ SqL K H a (ns.map V.int) ∧ ns.length ≤ 63 ∧
  ∀ (b l : Addr) (H' : Hp), H b = none → H l = none → Same H H' → Bx H' b l → Q (.ref b) H'
def spNext : Sp := fun vs H Q _ => ∃ (b l : Addr) (m : Int), vs = [.ref b, .int m] ∧ Bx H b l ∧ 0 < m ∧ m ≤ 1000000 ∧
  ∀ (n : Int) (H' : Hp), 0 ≤ n → n < m → Bx H' b l → Kp b l H H' → Q (.int n) H'
abbrev sMix : Stmt := top 36
abbrev sNext : Stmt := top 37
section
variable {P : Program} {w : World} {K : PySem.W.Frag} {mg : Str → Option Value} {base : Heap}
abbrev nMix : List Str := ["_law_script", "_law_seed", "_law_state", "_law_cell"]
theorem scMix : FnScope nMix ["_law_script", "_law_seed"] (defScope sMix) := ⟨rfl, rfl, rfl, by decide +kernel, rfl, by decide +kernel, by decide +kernel⟩
theorem ok_mix {f : Addr} {fd : FuncData} (F : FnP K "_law_mix" "_law_mix" sMix f fd) (gint : mg "int" = none) (glist : mg "list" = none) : FnOk P w K mg base CX0 1 f fd ["_law_script", "_law_seed"] (spMix K) := by
  refine F.ok scMix (fun vs H Q E h => ?_) (fun cdv A outer s H vs Q E hr h => ?_)
  · obtain ⟨a, ns, sd, rfl, _⟩ := h
    rfl
  · obtain ⟨a, ns, sd, rfl, hS, hlen, k⟩ := h
    have nd := scMix.nd
    refine ⟨_, PSs.nox (pss_cons (ps_set (i := 2) nd rfl (.inl rfl) (pv 1))
      (pss_cons (ps_for PassesOwn.never rfl (pi_list (pv 0)) (pg_name (i := 3) nd rfl (.inl rfl))
        (pss_one (ps_set (i := 2) nd rfl (.inl rfl) (pe_op op_modN (pe_callTy call_int1 (by rfl) gint boot_int (pa_cons (pe_op op_add (pe_op op_add (pe_op op_mul (pv 2) pe_int) (pe_op op_modN (pe_callTy call_int1 (by rfl) gint boot_int (pa_cons (pv 3) pa_nil)) pe_int)) pe_int) pa_nil)) pe_int))))
      (pss_one (ps_ret (pe_lst (pa_cons (pv 2) (pa_cons (pe_callTy call_list_of (by rfl) glist (by decide +kernel) (pa_cons (pv 0) pa_nil)) (pa_cons pe_int pa_nil)))))))), ?_⟩
    refine ⟨_, rfl, _, rfl, a, rfl, ⟨_, hS⟩, for_list (K := K) (a := a) (xs := ns.map V.int) (fun i σ H2 => ∃ (z : Int) (v : Option V), σ = [some (.ref a), some (.int sd), some (.int z), v] ∧ H2 = H)
      ⟨sd, none, rfl, rfl⟩ (fun i σ H2 _ ⟨_, _, _, e⟩ => by rw [e]; exact hS) ?_ ?_⟩
    · rintro i y σ H2 hi ⟨z, v, rfl, rfl⟩
      obtain ⟨n, rfl⟩ : ∃ n, y = V.int n := by
        rw [List.getElem?_map] at hi
        cases e : ns[i]? with
        | none => rw [e] at hi; cases hi
        | some n => rw [e] at hi; exact ⟨n, (Option.some.inj hi).symm⟩
      refine ⟨_, rfl, _, _, rfl, rfl, .inr ⟨by decide, by decide⟩, _, rfl, .inl ⟨_, rfl, _, _, rfl, rfl, (by show (2147483629 : Int) ≠ 0; decide), _, _, rfl, rfl, _, _, rfl, rfl, .inl ⟨_, rfl, _, _, rfl, rfl, (by show (2147483647 : Int) ≠ 0; decide), ?_⟩⟩⟩
      exact ⟨_, _, rfl, rfl⟩
    · rintro σ H2 ⟨z, v, rfl, rfl⟩
      refine ⟨_, rfl, _, rfl, a, _, rfl, .inl hS, fun l hl => ?_⟩
      refine ⟨by show 3 ≤ sizeLine; decide, fun p hp => ?_⟩
      have npl : p ≠ l := fun e => by rw [e, upd_same] at hp; cases hp
      have hp0 : H2 p = none := by rw [upd_ne npl] at hp; exact hp
      refine k p l _ hp0 hl (Same.new (Same.new (Same.refl _) hl) hp) ⟨ns, _, _, upd_same, ?_, hlen⟩
      rw [upd_ne npl.symm, upd_same]
abbrev nNext : List Str := ["_law_h", "_law_limit", "_law_cell"]
theorem scNext : FnScope nNext ["_law_h", "_law_limit"] (defScope sNext) := ⟨rfl, rfl, rfl, by decide +kernel, rfl, by decide +kernel, by decide +kernel⟩
theorem ok_next {f : Addr} {fd : FuncData} (F : FnP K "_law_next" "_law_next" sNext f fd) (gint : mg "int" = none) (gmax : mg "max" = none) (glen : mg "len" = none) : FnOk P w K mg base CX0 1 f fd ["_law_h", "_law_limit"] spNext := by
  refine F.ok scNext (fun vs H Q E h => ?_) (fun cdv A outer s H vs Q E hr h => ?_)
  · obtain ⟨b, l, m, rfl, _⟩ := h
    rfl
  · obtain ⟨b, l, m, rfl, B, hm0, hm1, k⟩ := h
    have nd := scNext.nd
    have nbl := B.ne
    obtain ⟨ns, z, kc, hb, hl, hlen⟩ := id B.ex
    refine ⟨_, PSs.nox (pss_cons (ps_set (i := 2) nd rfl (.inl rfl) (pe_ix ix_list (pe_op op_cat (pe_ix ix_list (pv 0) pe_int (fun _ _ => rfl)) (pe_lst (pa_cons pe_int pa_nil))) (pe_op op_mod (pe_callTy call_int1 (by rfl) gint boot_int (pa_cons (pe_ix ix_list (pv 0) pe_int (fun _ _ => rfl)) pa_nil)) (pe_callB (call_max2 rfl) (by rfl) gmax (by decide +kernel) (pa_cons pe_int (pa_cons (pe_callB call_len_seq (by rfl) glen PySem.boot_len (pa_cons (pe_ix ix_list (pv 0) pe_int (fun _ _ => rfl)) pa_nil)) pa_nil)))) (fun _ _ => rfl)))
      (pss_cons (ps_if (pt_cmpR op_ge (pv 2) (pe_op op_pow pe_int pe_int) (nomark _))
          (pss_cons (ps_asg (pe_op op_fdivN (pv 2) (pv 1)) (pg_sub (pe_ix ix_list (pv 0) pe_int (fun _ _ => rfl)) (pe_op op_mod (pe_callTy call_int1 (by rfl) gint boot_int (pa_cons (pe_ix ix_list (pv 0) pe_int (fun _ _ => rfl)) pa_nil)) (pe_callB call_len_seq (by rfl) glen PySem.boot_len (pa_cons (pe_ix ix_list (pv 0) pe_int (fun _ _ => rfl)) pa_nil))) set_list))
          (pss_one (ps_ret (pe_op op_modN (pe_callTy call_int1 (by rfl) gint boot_int (pa_cons (pv 2) pa_nil)) (pv 1))))) pss_nil)
      (pss_cons (ps_asg (pe_op op_modN (pe_callTy call_int1 (by rfl) gint boot_int (pa_cons (pe_op op_add (pe_op op_add (pe_op op_mul (pe_ix ix_list (pv 0) pe_int (fun _ _ => rfl)) pe_int) (pe_op op_mul (pv 2) pe_int)) pe_int) pa_nil)) pe_int) (pg_sub (pv 0) pe_int set_list))
      (pss_cons (ps_asg (pe_op op_add (pe_ix ix_list (pv 0) pe_int (fun _ _ => rfl)) pe_int) (pg_sub (pv 0) pe_int set_list))
      (pss_one (ps_ret (pe_op op_modN (pe_callTy call_int1 (by rfl) gint boot_int (pa_cons (pe_op op_fdivN (pe_ix ix_list (pv 0) pe_int (fun _ _ => rfl)) pe_int) pa_nil)) (pv 1)))))))), ?_⟩
    refine ⟨_, rfl, b, _, 1, _, rfl, rfl, .inl (.inl hb), rfl, by show 1 ≤ sizeLine; decide, fun e1 he1 => ?_⟩
    have s1 := Same.new (Same.refl H) he1 (o := .lst [.int 0])
    refine ⟨l, e1, _, _, rfl, rfl, s1 _ _ hl, upd_same, Nat.le_trans (show _ ≤ 64 by rw [List.length_map]; exact Nat.succ_le_succ hlen) (by decide), fun e2 he2 => ?_⟩
    have s2 := Same.new (Same.refl _) he2 (o := .lst (ns.map V.int ++ [.int 0]))
    have s12 := s1.trans s2
    have hb2 := s12 _ _ hb
    have hl2 := s12 _ _ hl
    have hc2 : (upd (upd H e1 (.lst [.int 0])) e2 (.lst (ns.map V.int ++ [.int 0]))) e2 = some (.lst ((ns ++ [0]).map V.int)) := by
      rw [upd_same, List.map_append]
      rfl
    have K2 : Kp b l H _ := Kp.of s12
    generalize upd (upd H e1 (.lst [.int 0])) e2 (.lst (ns.map V.int ++ [.int 0])) = H2 at hb2 hl2 hc2 K2 ⊢
    clear s1 s2 s12
    have hD : ∃ D : Int, (if ((ns.map V.int).length : Int) > 1 then ((ns.map V.int).length : Int) else 1) = D ∧ 0 < D ∧ D ≤ (ns.length : Int) + 1 ∧ (ns ≠ [] → D = (ns.length : Int)) := by
      rw [List.length_map]
      refine ⟨_, rfl, ?_, ?_, ?_⟩
      · split <;> omega
      · split <;> omega
      · intro hne
        have : 1 ≤ ns.length := List.length_pos_iff.mpr hne
        split <;> omega
    obtain ⟨D, eD, D0, D1, D2⟩ := hD
    obtain ⟨v, hv1, hv2⟩ := atI_of (xs := (ns ++ [0]).map V.int) (n := kc % D) (Int.emod_nonneg _ (by omega)) (by
      have := Int.emod_lt_of_pos kc D0
      rw [List.length_map, List.length_append, List.length_singleton]
      omega)
    obtain ⟨cv, hcv, rfl⟩ := List.mem_map.mp hv2
    refine ⟨_, rfl, b, _, 2, _, rfl, rfl, .inl (.inl hb2), rfl, .inl ⟨_, rfl, _, rfl, b, _, 1, _, rfl, rfl, .inl (.inl hb2), rfl, l, _, rfl, .inl (.inl (.inl hl2)), _, _, rfl, ?_⟩⟩
    rw [eD]
    refine ⟨_, _, rfl, rfl, D0, e2, _, _, _, rfl, rfl, .inl (.inl hc2), hv1, ?_⟩
    refine ⟨_, rfl, _, _, rfl, rfl, ?_, _, _, rfl, rfl, _, rfl, ?_⟩
    · exact ⟨by decide, by decide⟩
    refine ite2 (fun hz => ?_) (fun hz => ?_)
    · have hge : (10 ^ 18 : Int) ≤ cv := of_decide_eq_true hz
      have hne : ns ≠ [] := fun e => by
        subst e
        simp at hcv
        omega
      have eD2 := D2 hne
      have l1 : 1 ≤ ns.length := List.length_pos_iff.mpr hne
      have i0 := Int.emod_nonneg kc (b := (ns.length : Int)) (by omega)
      have i1 := Int.emod_lt_of_pos kc (b := (ns.length : Int)) (by omega)
      have hix : ixN (ns.map V.int).length (kc % (ns.length : Int)) = some (kc % (ns.length : Int)).toNat := by
        unfold ixN
        rw [if_pos i0, if_pos (by rw [List.length_map]; exact i1)]
      refine ⟨_, rfl, _, rfl, _, _, rfl, rfl, ⟨(by show m ≠ 0; omega), (by show m.natAbs < 1073741824; omega)⟩, ?_⟩
      refine ⟨_, rfl, b, _, 1, _, rfl, rfl, .inl (.inl hb2), rfl, _, rfl, b, _, 2, _, rfl, rfl, .inl (.inl hb2), rfl, .inl ⟨_, rfl, _, rfl, b, _, 1, _, rfl, rfl, .inl (.inl hb2), rfl, l, _, rfl, .inl (.inl (.inl hl2)), ?_⟩⟩
      rw [List.length_map]
      refine ⟨_, _, rfl, rfl, (by show (0 : Int) < (ns.length : Int); omega), l, _, _, _, rfl, rfl, hl2, hix, ?_⟩
      refine ⟨_, rfl, .inl ⟨_, rfl, _, rfl, _, _, rfl, rfl, (by show m ≠ 0; omega), ?_⟩⟩
      refine k _ _ (fmod_pos hm0).1 (fmod_pos hm0).2 ⟨⟨ns.set (kc % (ns.length : Int)).toNat (cv.fdiv m), z, kc, ?_, ?_, ?_⟩⟩ (Kp.upd2 K2)
      · rw [upd_ne nbl]
        exact hb2
      · rw [upd_same, List.map_set]
      · rw [List.length_set]
        exact hlen
    · refine ⟨_, rfl, b, _, 0, _, rfl, rfl, .inl (.inl hb2), rfl, _, _, rfl, rfl, .inr ⟨by decide, by decide⟩, _, rfl, _, _, rfl, rfl, .inr ⟨by decide, by decide⟩, _, _, rfl, rfl, _, _, rfl, rfl, .inl ⟨_, rfl, _, _, rfl, rfl, (by show (2147483647 : Int) ≠ 0; decide), ?_⟩⟩
      refine ⟨_, rfl, b, _, 0, 0, rfl, rfl, hb2, rfl, ?_⟩
      refine ⟨_, rfl, b, _, 2, _, rfl, rfl, .inl (.inl upd_same), rfl, _, _, rfl, rfl, _, rfl, b, _, 2, 2, rfl, rfl, upd_same, rfl, ?_⟩
      refine ⟨_, rfl, b, _, 0, _, rfl, rfl, .inl (.inl upd_same), rfl, _, _, rfl, rfl, ⟨by decide, by decide⟩, .inl ⟨_, rfl, _, rfl, _, _, rfl, rfl, (by show m ≠ 0; omega), ?_⟩⟩
      refine k _ _ (fmod_pos hm0).1 (fmod_pos hm0).2 ⟨⟨ns, _, _, upd_same, ?_, hlen⟩⟩ (Kp.upd1 (Kp.upd1 K2))
      rw [upd_ne nbl.symm, upd_ne nbl.symm]
      exact hl2
end
end Om

namespace Om
open PySem PySem.Spec PyProof.Rows L2 LamX
/-! ### data without lists stay when the numbers are drawn -/
mutual
def noL : PyData → Bool
  | .list _ => false
  | .tuple ds => noLs ds
  | .dict _ => false
  | .none => true
  | .bool _ => true
  | .int _ => true
  | .str _ => true
def noLs : List PyData → Bool
  | [] => true
  | d :: r => noL d && noLs r
end
theorem SqT.kp {K : PySem.W.Frag} {H H' : Hp} {b l a : Addr} {xs : List V} (B : Bx H b l) (k : Kp b l H H') (h : SqT K H a xs) : SqT K H' a xs := by
  obtain ⟨ns, z, _, h1, h2, _⟩ := B.ex
  rcases h with (h | ⟨o, h⟩) | h
  · exact .inl (.inl (k _ _ h (ne_of h h1 fun e => by cases e) (ne_of h h2 fun e => by cases e)))
  · exact .inl (.inr ⟨o, k _ _ h (ne_of h h1 fun e => by cases e) (ne_of h h2 fun e => by cases e)⟩)
  · exact .inr h
theorem dp_noL {K : PySem.W.Frag} {H H' : Hp} {v : V} {d : PyData} (hS : ∀ a xs, SqT K H a xs → SqT K H' a xs) (hn : noL d = true) (h : Dp K H v d) : Dp K H' v d :=
  Dp.rec (motive_1 := fun v d _ => noL d = true → Dp K H' v d) (motive_2 := fun vs ds _ => noLs ds = true → DpAll K H' vs ds) (fun _ => .non) (fun b _ => .bl b) (fun i _ => .int i) (fun x _ => .str x)
    (fun _ _ _ hn => by simp [noL] at hn) (fun s _ ih hn => .tup (hS _ _ s) (ih (by simpa [noL] using hn))) (fun _ => .nil) (fun _ _ i1 i2 hn => by
      rw [noLs, Bool.and_eq_true] at hn
      exact .cons (i1 hn.1) (i2 hn.2)) h hn
theorem dpAll_noL {K : PySem.W.Frag} {H H' : Hp} : ∀ {vs : List V} {ds : List PyData} (hS : ∀ a xs, SqT K H a xs → SqT K H' a xs) (hn : noLs ds = true) (h : DpAll K H vs ds), DpAll K H' vs ds
  | [], [], _, _, .nil => .nil
  | _ :: _, _ :: _, hS, hn, .cons h t => by
    rw [noLs, Bool.and_eq_true] at hn
    exact .cons (dp_noL hS hn.1 h) (dpAll_noL hS hn.2 t)
theorem SqT.updL {K : PySem.W.Frag} {H : Hp} {D a : Addr} {xs ys zs : List V} (hD : H D = some (.lst ys)) (h : SqT K H a xs) : SqT K (upd H D (.lst zs)) a xs := by
  rcases h with (h | ⟨o, h⟩) | h
  · exact .inl (.inl (by rw [upd_ne (ne_of h hD fun e => by cases e)]; exact h))
  · exact .inl (.inr ⟨o, by rw [upd_ne (ne_of h hD fun e => by cases e)]; exact h⟩)
  · exact .inr h
theorem Bx.updL {H : Hp} {b l D : Addr} {ys : List V} (B : Bx H b l) (nb : D ≠ b) (nl : D ≠ l) : Bx (upd H D (.lst ys)) b l := by
  obtain ⟨u1, u2, u3, u4, u5, u6⟩ := B.ex
  exact ⟨u1, u2, u3, by rw [upd_ne nb.symm]; exact u4, by rw [upd_ne nl.symm]; exact u5, u6⟩
theorem Kp.updL {H H0 : Hp} {b l D : Addr} {ys : List V} (k : Kp b l H0 H) (hD : H0 D = none) : Kp b l H0 (upd H D (.lst ys)) := by
  intro x o hx n1 n2
  rw [upd_ne (ne_of_none hx hD)]
  exact k x o hx n1 n2
theorem Kp.ins {b l a C dx : Addr} {H H' : Hp} {fs : List (Str × V)} (k : Kp b l H H') (B : Bx H b l) (h : H a = some (.ins C dx fs)) : H' a = some (.ins C dx fs) := by
  obtain ⟨ns, z, _, h1, h2, _⟩ := id B.ex
  exact k _ _ h (ne_of h h1 fun e => by cases e) (ne_of h h2 fun e => by cases e)
theorem Isl.kp {K : PySem.W.Frag} {H H' : Hp} {CI a b l : Addr} {rows : List (List Nat)} (B : Bx H b l) (k : Kp b l H H') (h : Isl K CI H a rows) : Isl K CI H' a rows := by
  obtain ⟨dx, p, hp, hS⟩ := h
  exact ⟨dx, p, k.ins B hp, SqT.kp B k hS⟩
theorem noL_cells : ∀ cs : List (Nat × Nat), noLs (cs.map cdp) = true
  | [] => rfl
  | c :: r => by
    have ih := noL_cells r
    simp only [List.map_cons, noLs, cdp, noL, ih, Bool.and_self]
/-! ### _law_alike of two readings of the same data -/
theorem ixsK {X : Cx} {K : PySem.W.Frag} (hK : X.K = K) : IxR X (rIx K) := by
  subst hK
  exact ix_seq
theorem pss_no {X : Cx} {st : List Stmt} : PSs X st (fun _ _ _ => False) := ⟨fun _ _ _ _ _ _ h => False.elim h⟩
abbrev sAlike : Stmt := top 38
def spAlike (K : PySem.W.Frag) (n : Nat) : Sp := fun vs H Q _ => ∃ (x y : V) (d : PyData), vs = [x, y] ∧ Dp K H x d ∧ Dp K H y d ∧ okD n d = true ∧ ∀ H', Same H H' → Q (.bl true) H'
abbrev nAlike : List Str := ["_law_found", "_law_due", "_law_k"]
theorem scAlike : FnScope nAlike ["_law_found", "_law_due"] (defScope sAlike) := ⟨rfl, rfl, rfl, by decide +kernel, rfl, by decide +kernel, by decide +kernel⟩
def asgExpr (s : Stmt) : Expr := match s with
  | .Assign _ e _ => e
  | _ => .Constant .none 0 ⟨0, 0, 0, 0⟩
def noS : Stmt := .Pass ⟨0, 0, 0, 0⟩
def inIf (s : Stmt) (i : Nat) : Stmt := match s with
  | .If _ b _ _ => b.getD i noS
  | _ => noS
def inFor (s : Stmt) (i : Nat) : Stmt := match s with
  | .For _ _ b _ _ => b.getD i noS
  | _ => noS
def cmpL (e : Expr) : Expr := match e with
  | .Compare a _ _ _ => a
  | _ => .Constant .none 0 ⟨0, 0, 0, 0⟩
def alLc : Expr := cmpL (retExpr (inIf ((defBody sAlike).getD 1 noS) 2))
theorem blkAl : BlkOk nAlike (defScope sAlike) (lcScope alLc) [("_law_k", 2)] := blkOk_by (by decide +kernel)
theorem kit2 {K : PySem.W.Frag} {a : String} {r1 r2 : Bool} (h1 : kitB a "tuple" = some r1) (h2 : kitB a "list" = some r2) : PySem.W.kitAny K (.type a) [.type "tuple", .type "list"] = some (r1 || r2) := by
  have k1 : PySem.W.kitOne K (.type a) (.type "tuple") = some r1 := kit_ty h1
  have k2 : PySem.W.kitOne K (.type a) (.type "list") = some r2 := kit_ty h2
  refine kitAny_cons k1 (fun e => ?_) (fun e => by rw [e]; rfl)
  subst e
  refine kitAny_cons k2 (fun e => by rw [e]; exact kitAny_nil) (fun e => by rw [e]; rfl)
section
variable {P : Program} {w : World} {K : PySem.W.Frag} {mg : Str → Option Value} {base : Heap}
theorem ok_alike {f : Addr} {fd : FuncData} (F : FnP K "_law_alike" "_law_alike" sAlike f fd) (hg : mg "_law_alike" = some (.ref f)) (hk : PySem.W.keepIn K (.ref f) = true) (hb : Binds K fd ["_law_found", "_law_due"] [])
    (gisi : mg "isinstance" = none) (gint : mg "int" = none) (gbool : mg "bool" = none) (gstr : mg "str" = none) (gtuple : mg "tuple" = none) (glist : mg "list" = none) (gdict : mg "dict" = none) (glen : mg "len" = none) (grange : mg "range" = none) :
    ∀ n, FnOk P w K mg base CX0 (n + 1) f fd ["_law_found", "_law_due"] (spAlike K n) := by
  intro n
  induction n with
  | zero =>
    refine F.ok scAlike (fun vs H Q E h => ?_) (fun cdv A outer s H vs Q E hr h => ?_)
    · obtain ⟨x, y, d, _, _, _, h, _⟩ := h
      cases h
    · obtain ⟨x, y, d, _, _, _, h, _⟩ := h
      cases h
  | succ n ih =>
    have G : Cal P w K mg base CX0 (n + 1) "_law_alike" ["_law_found", "_law_due"] (spAlike K n) := ⟨_, _, ih, hg, hk, hb⟩
    refine F.ok scAlike (fun vs H Q E h => ?_) (fun cdv A outer s H vs Q E hr h => ?_)
    · obtain ⟨x, y, d, rfl, _⟩ := h
      rfl
    · obtain ⟨x, y, d, rfl, hx, hy, ok, k⟩ := h
      have nd := scAlike.nd
      refine ⟨_, PSs.nox (pss_cons (ps_if (pt_val (pe_callB call_isi (by rfl) gisi (by decide +kernel) (pa_cons (pv 1) (pa_cons (pe_bltn (v := .ty "dict") (by rfl) gdict (by decide +kernel) rfl) pa_nil)))) pss_no pss_nil)
        (pss_cons (ps_if (pt_val (pe_callB call_isiT (by rfl) gisi (by decide +kernel) (pa_cons (pv 1) (pa_cons (pe_tup (pa_cons (pe_bltn (v := .ty "tuple") (by rfl) gtuple (by decide +kernel) rfl) (pa_cons (pe_bltn (v := .ty "list") (by rfl) glist (by decide +kernel) rfl) pa_nil))) pa_nil))))
            (pss_cons (ps_if (PW.pt (pw_or (pt_not (pt_val (pe_callB call_isiT (by rfl) gisi (by decide +kernel) (pa_cons (pv 0) (pa_cons (pe_tup (pa_cons (pe_bltn (v := .ty "tuple") (by rfl) gtuple (by decide +kernel) rfl) (pa_cons (pe_bltn (v := .ty "list") (by rfl) glist (by decide +kernel) rfl) pa_nil))) pa_nil)))))
                  (pw_or1 (pt_cmpR op_ne (pe_callB call_isi (by rfl) gisi (by decide +kernel) (pa_cons (pv 0) (pa_cons (pe_bltn (v := .ty "list") (by rfl) glist (by decide +kernel) rfl) pa_nil))) (pe_callB call_isi (by rfl) gisi (by decide +kernel) (pa_cons (pv 1) (pa_cons (pe_bltn (v := .ty "list") (by rfl) glist (by decide +kernel) rfl) pa_nil))) (nomark _))))) (pss_one (ps_ret pe_bl)) pss_nil)
            (pss_cons (ps_if (pt_cmpR op_ne (pe_callB call_len_seq (by rfl) glen PySem.boot_len (pa_cons (pv 0) pa_nil)) (pe_callB call_len_seq (by rfl) glen PySem.boot_len (pa_cons (pv 1) pa_nil)) (nomark _)) (pss_one (ps_ret pe_bl)) pss_nil)
            (pss_one (ps_ret (pe_cmpR (op_eqD hr.units) (pe_lc (own := [("_law_k", 2)]) (g := gName 2) rfl nd (pi_range1 rfl grange (pa_cons (pe_callB call_len_seq (by rfl) glen PySem.boot_len (pa_cons (pv 1) pa_nil)) pa_nil)) blkAl (fun _ _ _ _ _ => pg_name (i := 2) nd rfl (.inl rfl))
                (fun _ _ _ _ _ => pts_one (pt_not (pt_val (pe_cal G hr pass0 (pa_cons (pe_ix (ixsK (K := K) rfl) (pv 0) (pv 2) (fun _ _ => rfl)) (pa_cons (pe_ix (ixsK (K := K) rfl) (pv 1) (pv 2) (fun _ _ => rfl)) pa_nil)))))) (fun _ _ _ _ _ => pv 2)) (pe_lst pa_nil) (nomark _)))))) pss_nil)
        (pss_cons (ps_if (PW.pt (pw_or (pt_cmpR op_isN (pv 1) pe_non (nomark _)) (pw_or1 (pt_val (pe_callB call_isi (by rfl) gisi (by decide +kernel) (pa_cons (pv 1) (pa_cons (pe_bltn (v := .ty "str") (by rfl) gstr (by decide +kernel) rfl) pa_nil)))))))
            (pss_one (ps_ret (pe_and (pe_cmpR (op_eqD hr.units) (pv 0) (pv 1) (nomark _)) (pe_one (pe_cmpR op_eq (pe_callB call_isi (by rfl) gisi (by decide +kernel) (pa_cons (pv 0) (pa_cons (pe_bltn (v := .ty "str") (by rfl) gstr (by decide +kernel) rfl) pa_nil)))
              (pe_callB call_isi (by rfl) gisi (by decide +kernel) (pa_cons (pv 1) (pa_cons (pe_bltn (v := .ty "str") (by rfl) gstr (by decide +kernel) rfl) pa_nil))) (nomark _)))))) pss_nil)
        (pss_one (ps_ret (pe_and (pe_callB call_isi (by rfl) gisi (by decide +kernel) (pa_cons (pv 0) (pa_cons (pe_bltn (v := .ty "int") (by rfl) gint boot_int rfl) pa_nil)))
          (pe_and (pe_cmpR op_eq (pe_callB call_isi (by rfl) gisi (by decide +kernel) (pa_cons (pv 0) (pa_cons (pe_bltn (v := .ty "bool") (by rfl) gbool (by decide +kernel) rfl) pa_nil))) (pe_callB call_isi (by rfl) gisi (by decide +kernel) (pa_cons (pv 1) (pa_cons (pe_bltn (v := .ty "bool") (by rfl) gbool (by decide +kernel) rfl) pa_nil))) (nomark _))
            (pe_one (pe_cmpR (op_eqD hr.units) (pv 0) (pv 1) (nomark _)))))))))), ?_⟩
      have kt : ∀ {a b : String} {r : Bool}, kitB a b = some r → PySem.W.kitOne K (.type a) (.type b) = some r := fun h => kit_ty h
      have pr : Paired ClsV [V.ty "tuple", V.ty "list"] [.type "tuple", .type "list"] := .cons (.ty _) (.cons (.ty _) .nil)
      have tup_new : ∀ {H : Hp} {T : Addr}, H T = none → Same H (upd H T (.tup [.ty "tuple", .ty "list"])) := fun h => Same.new (Same.refl _) h
      -- the items one by one
      have items : ∀ (xs ys : List V) (ds : List PyData), DpAll K H xs ds → DpAll K H ys ds → ds.all (okD n) = true →
          ∀ i, i < ys.length → ∃ v u, xs[i]? = some v ∧ ys[i]? = some u ∧ ∃ e, Dp K H v e ∧ Dp K H u e ∧ okD n e = true := fun xs ys ds h1 h2 h3 i hi => by
        have hl := dpAll_len h2
        have hi2 : i < ds.length := by omega
        have he : ds[i]? = some ds[i] := by simp [hi2]
        obtain ⟨v, a1, a2⟩ := dpAll_at h1 he
        obtain ⟨u, b1, b2⟩ := dpAll_at h2 he
        exact ⟨v, u, a1, b1, _, a2, b2, List.all_eq_true.mp h3 _ (List.getElem_mem hi2)⟩
      cases d with
      | none =>
        cases hx
        cases hy
        refine ⟨_, rfl, _, _, _, _, _, rfl, .ty "dict", dp_ty .non, kt (a := "NoneType") (r := false) (by decide +kernel), false, rfl, iteF ?_⟩
        refine ⟨_, rfl, by show 2 ≤ sizeLine; decide, fun T hT => ⟨_, T, _, _, _, _, rfl, upd_same, pr, dp_ty .non, kit2 (a := "NoneType") (r1 := false) (r2 := false) (by decide +kernel) (by decide +kernel), false, rfl, iteF ?_⟩⟩
        have s1 := tup_new hT
        refine ⟨_, rfl, rfl, _, rfl, iteT' (decide_eq_true rfl) (iteT' rfl ?_)⟩
        refine ⟨_, rfl, _, rfl, .none, .none, .non, .non, rfl, rfl, true, rfl, iteT ?_⟩
        refine ⟨_, rfl, _, _, _, _, _, rfl, .ty "str", dp_ty .non, kt (a := "NoneType") (r := false) (by decide +kernel), _, rfl, _, _, _, _, _, rfl, .ty "str", dp_ty .non, kt (a := "NoneType") (r := false) (by decide +kernel), rfl, ?_⟩
        rw [decide_eq_true (rfl : V.bl false = V.bl false)]
        exact k _ s1
      | dict kvs => cases ok
      | bool b =>
        cases hx
        cases hy
        refine ⟨_, rfl, _, _, _, _, _, rfl, .ty "dict", dp_ty (.bl b), kt (a := "bool") (r := false) (by decide +kernel), false, rfl, iteF ?_⟩
        refine ⟨_, rfl, by show 2 ≤ sizeLine; decide, fun T hT => ⟨_, T, _, _, _, _, rfl, upd_same, pr, dp_ty (.bl b), kit2 (a := "bool") (r1 := false) (r2 := false) (by decide +kernel) (by decide +kernel), false, rfl, iteF ?_⟩⟩
        have s1 := tup_new hT
        refine ⟨_, rfl, rfl, _, rfl, iteF' (decide_eq_false (fun e => by cases e)) ?_⟩
        refine ⟨_, rfl, _, _, _, _, _, rfl, .ty "str", dp_ty (.bl b), kt (a := "bool") (r := false) (by decide +kernel), false, rfl, iteF' rfl ?_⟩
        refine ⟨_, rfl, _, _, _, _, _, rfl, .ty "int", dp_ty (.bl b), kt (a := "bool") (r := true) (by decide +kernel), true, rfl, iteT ?_⟩
        refine ⟨_, rfl, _, _, _, _, _, rfl, .ty "bool", dp_ty (.bl b), kt (a := "bool") (r := true) (by decide +kernel), _, rfl, _, _, _, _, _, rfl, .ty "bool", dp_ty (.bl b), kt (a := "bool") (r := true) (by decide +kernel), rfl, _, rfl, iteT' (decide_eq_true rfl) ?_⟩
        refine ⟨_, rfl, _, rfl, _, _, .bl b, .bl b, rfl, rfl, ?_⟩
        rw [PySem.SeqAt.eqv_refl (.bool b) rfl]
        exact k _ s1
      | int i =>
        cases hx
        cases hy
        refine ⟨_, rfl, _, _, _, _, _, rfl, .ty "dict", dp_ty (.int i), kt (a := "int") (r := false) (by decide +kernel), false, rfl, iteF ?_⟩
        refine ⟨_, rfl, by show 2 ≤ sizeLine; decide, fun T hT => ⟨_, T, _, _, _, _, rfl, upd_same, pr, dp_ty (.int i), kit2 (a := "int") (r1 := false) (r2 := false) (by decide +kernel) (by decide +kernel), false, rfl, iteF ?_⟩⟩
        have s1 := tup_new hT
        refine ⟨_, rfl, rfl, _, rfl, iteF' (decide_eq_false (fun e => by cases e)) ?_⟩
        refine ⟨_, rfl, _, _, _, _, _, rfl, .ty "str", dp_ty (.int i), kt (a := "int") (r := false) (by decide +kernel), false, rfl, iteF' rfl ?_⟩
        refine ⟨_, rfl, _, _, _, _, _, rfl, .ty "int", dp_ty (.int i), kt (a := "int") (r := true) (by decide +kernel), true, rfl, iteT ?_⟩
        refine ⟨_, rfl, _, _, _, _, _, rfl, .ty "bool", dp_ty (.int i), kt (a := "int") (r := false) (by decide +kernel), _, rfl, _, _, _, _, _, rfl, .ty "bool", dp_ty (.int i), kt (a := "int") (r := false) (by decide +kernel), rfl, _, rfl, iteT' (decide_eq_true rfl) ?_⟩
        refine ⟨_, rfl, _, rfl, _, _, .int i, .int i, rfl, rfl, ?_⟩
        rw [PySem.SeqAt.eqv_refl (.int i) rfl]
        exact k _ s1
      | str z =>
        cases hx
        cases hy
        have hz : PyData.strOk z = true := ok
        have lay : PyData.canLay0 (.str z) = true := by simp only [PyData.canLay0]; exact hz
        have sh : SeqAt.shaped (.str z) = true := shaped_of lay (by simp [PyData.depth])
        refine ⟨_, rfl, _, _, _, _, _, rfl, .ty "dict", dp_ty (.str z), kt (a := "str") (r := false) (by decide +kernel), false, rfl, iteF ?_⟩
        refine ⟨_, rfl, by show 2 ≤ sizeLine; decide, fun T hT => ⟨_, T, _, _, _, _, rfl, upd_same, pr, dp_ty (.str z), kit2 (a := "str") (r1 := false) (r2 := false) (by decide +kernel) (by decide +kernel), false, rfl, iteF ?_⟩⟩
        have s1 := tup_new hT
        refine ⟨_, rfl, rfl, _, rfl, iteF' (decide_eq_false (fun e => by cases e)) ?_⟩
        refine ⟨_, rfl, _, _, _, _, _, rfl, .ty "str", dp_ty (.str z), kt (a := "str") (r := true) (by decide +kernel), true, rfl, iteT' rfl ?_⟩
        refine ⟨_, rfl, _, rfl, _, _, .str z, .str z, sh, sh, ?_⟩
        rw [PySem.SeqAt.eqv_refl (.str z) lay]
        refine ⟨true, rfl, iteT ?_⟩
        refine ⟨_, rfl, _, _, _, _, _, rfl, .ty "str", dp_ty (.str z), kt (a := "str") (r := true) (by decide +kernel), _, rfl, _, _, _, _, _, rfl, .ty "str", dp_ty (.str z), kt (a := "str") (r := true) (by decide +kernel), rfl, ?_⟩
        rw [decide_eq_true (rfl : V.bl true = V.bl true)]
        exact k _ s1
      | list ds =>
        cases hx with
        | lst sx ax =>
          rename_i a xs
          cases hy with
          | lst sy ay =>
            rename_i b ys
            have ok2 : (decide (ds.length ≤ 10000) && ds.all (okD n)) = true := ok
            obtain ⟨o1, o2⟩ := Bool.and_eq_true_iff.mp ok2
            have it := items xs ys ds ax ay o2
            have lx : xs.length = ys.length := by rw [dpAll_len ax, dpAll_len ay]
            have lb1 : ys.length ≤ 10000 := by
              rw [dpAll_len ay]
              exact of_decide_eq_true o1
            refine ⟨_, rfl, _, _, _, _, _, rfl, .ty "dict", sqL_ty sy, kt (a := "list") (r := false) (by decide +kernel), false, rfl, iteF ?_⟩
            refine ⟨_, rfl, by show 2 ≤ sizeLine; decide, fun T hT => ?_⟩
            have s1 := tup_new hT
            refine ⟨_, T, _, _, _, _, rfl, upd_same, pr, sqL_ty (Same.lst s1 sy), kit2 (a := "list") (r1 := false) (r2 := true) (by decide +kernel) (by decide +kernel), true, rfl, iteT ?_⟩
            generalize upd H T (.tup [.ty "tuple", .ty "list"]) = H1 at s1 ⊢
            refine ⟨_, rfl, by show 2 ≤ sizeLine; decide, fun T2 hT2 => ?_⟩
            have s2 := tup_new hT2
            have s12 := s1.trans s2
            refine ⟨_, T2, _, _, _, _, rfl, upd_same, pr, sqL_ty (Same.lst s12 sx), kit2 (a := "list") (r1 := false) (r2 := true) (by decide +kernel) (by decide +kernel), true, rfl, iteF' rfl ?_⟩
            generalize upd H1 T2 (.tup [.ty "tuple", .ty "list"]) = H2 at s12 ⊢
            have ll := kt (a := "list") (b := "list") (r := true) (by decide +kernel)
            refine ⟨_, rfl, _, _, _, _, _, rfl, .ty "list", sqL_ty (Same.lst s12 sx), ll, _, rfl, _, _, _, _, _, rfl, .ty "list", sqL_ty (Same.lst s12 sy), ll, rfl, _, rfl, iteF' (by rw [decide_eq_true rfl]; rfl) ?_⟩
            refine ⟨_, rfl, a, xs, rfl, .inl (Same.lst s12 sx), _, rfl, b, ys, rfl, .inl (Same.lst s12 sy), rfl, _, rfl, iteF' (by rw [lx, decide_eq_true rfl]; rfl) ?_⟩
            refine ⟨_, rfl, b, ys, rfl, .inl (Same.lst s12 sy), _, rfl, by omega, by omega, fun D hD => ?_⟩
            refine lc_range (lo := 0) (n := ((ys.length : Nat) : Int).toNat) (fun i H' => H' D = some (.lst []) ∧ Same H2 H') ⟨upd_same, Same.new (Same.refl _) hD⟩ ?_ ?_
            · rintro i H3 hi ⟨g1, g2⟩
              have s3 := s12.trans g2
              obtain ⟨v, u, h1, h2, e, d1, d2, d3⟩ := it i (by omega)
              have e1 : atI xs (0 + ((i : Nat) : Int)) = some v := by rw [Int.zero_add]; exact atI_nat h1
              have e2 : atI ys (0 + ((i : Nat) : Int)) = some u := by rw [Int.zero_add]; exact atI_nat h2
              refine ⟨rfl, ?_⟩
              refine ⟨_, rfl, _, rfl, .inl ⟨a, xs, _, v, rfl, rfl, Same.lst s3 sx, e1, _, rfl, _, rfl, .inl ⟨b, ys, _, u, rfl, rfl, Same.lst s3 sy, e2, ?_⟩⟩⟩
              exact ⟨v, u, e, rfl, Same.dp s3 d1, Same.dp s3 d2, d3, fun H4 s4 => ⟨true, rfl, iteF' rfl ⟨s4 _ _ g1, g2.trans s4⟩⟩⟩
            · rintro H3 ⟨g1, g2⟩
              refine ⟨by show 0 ≤ sizeLine; decide, fun e0 he0 => ?_⟩
              have s4 := Same.new (Same.refl H3) he0 (o := .lst [])
              refine ⟨.list [], .list [], .lst (.inl (.inl (s4 _ _ g1))) .nil, .lst (.inl (.inl upd_same)) .nil, shaped_nil, shaped_nil, ?_⟩
              rw [PySem.SeqAt.eqv_refl (.list []) (by simp [PyData.canLay0, PyData.canLayAll0])]
              exact k _ ((s12.trans g2).trans s4)
      | tuple ds =>
        cases hx with
        | tup sx ax =>
          rename_i a xs
          cases hy with
          | tup sy ay =>
            rename_i b ys
            have ok2 : (decide (ds.length ≤ 10000) && ds.all (okD n)) = true := ok
            obtain ⟨o1, o2⟩ := Bool.and_eq_true_iff.mp ok2
            have it := items xs ys ds ax ay o2
            have lx : xs.length = ys.length := by rw [dpAll_len ax, dpAll_len ay]
            have lb1 : ys.length ≤ 10000 := by
              rw [dpAll_len ay]
              exact of_decide_eq_true o1
            refine ⟨_, rfl, _, _, _, _, _, rfl, .ty "dict", sqT_ty sy, kt (a := "tuple") (r := false) (by decide +kernel), false, rfl, iteF ?_⟩
            refine ⟨_, rfl, by show 2 ≤ sizeLine; decide, fun T hT => ?_⟩
            have s1 := tup_new hT
            refine ⟨_, T, _, _, _, _, rfl, upd_same, pr, sqT_ty (Same.tup s1 sy), kit2 (a := "tuple") (r1 := true) (r2 := false) (by decide +kernel) (by decide +kernel), true, rfl, iteT ?_⟩
            generalize upd H T (.tup [.ty "tuple", .ty "list"]) = H1 at s1 ⊢
            refine ⟨_, rfl, by show 2 ≤ sizeLine; decide, fun T2 hT2 => ?_⟩
            have s2 := tup_new hT2
            have s12 := s1.trans s2
            refine ⟨_, T2, _, _, _, _, rfl, upd_same, pr, sqT_ty (Same.tup s12 sx), kit2 (a := "tuple") (r1 := true) (r2 := false) (by decide +kernel) (by decide +kernel), true, rfl, iteF' rfl ?_⟩
            generalize upd H1 T2 (.tup [.ty "tuple", .ty "list"]) = H2 at s12 ⊢
            have ll := kt (a := "tuple") (b := "list") (r := false) (by decide +kernel)
            refine ⟨_, rfl, _, _, _, _, _, rfl, .ty "list", sqT_ty (Same.tup s12 sx), ll, _, rfl, _, _, _, _, _, rfl, .ty "list", sqT_ty (Same.tup s12 sy), ll, rfl, _, rfl, iteF' (by rw [decide_eq_true rfl]; rfl) ?_⟩
            refine ⟨_, rfl, a, xs, rfl, .inr (Same.tup s12 sx), _, rfl, b, ys, rfl, .inr (Same.tup s12 sy), rfl, _, rfl, iteF' (by rw [lx, decide_eq_true rfl]; rfl) ?_⟩
            refine ⟨_, rfl, b, ys, rfl, .inr (Same.tup s12 sy), _, rfl, by omega, by omega, fun D hD => ?_⟩
            refine lc_range (lo := 0) (n := ((ys.length : Nat) : Int).toNat) (fun i H' => H' D = some (.lst []) ∧ Same H2 H') ⟨upd_same, Same.new (Same.refl _) hD⟩ ?_ ?_
            · rintro i H3 hi ⟨g1, g2⟩
              have s3 := s12.trans g2
              obtain ⟨v, u, h1, h2, e, d1, d2, d3⟩ := it i (by omega)
              have e1 : atI xs (0 + ((i : Nat) : Int)) = some v := by rw [Int.zero_add]; exact atI_nat h1
              have e2 : atI ys (0 + ((i : Nat) : Int)) = some u := by rw [Int.zero_add]; exact atI_nat h2
              refine ⟨rfl, ?_⟩
              refine ⟨_, rfl, _, rfl, .inr (.inl ⟨a, xs, _, v, rfl, rfl, Same.tup s3 sx, e1, _, rfl, _, rfl, .inr (.inl ⟨b, ys, _, u, rfl, rfl, Same.tup s3 sy, e2, ?_⟩)⟩)⟩
              exact ⟨v, u, e, rfl, Same.dp s3 d1, Same.dp s3 d2, d3, fun H4 s4 => ⟨true, rfl, iteF' rfl ⟨s4 _ _ g1, g2.trans s4⟩⟩⟩
            · rintro H3 ⟨g1, g2⟩
              refine ⟨by show 0 ≤ sizeLine; decide, fun e0 he0 => ?_⟩
              have s4 := Same.new (Same.refl H3) he0 (o := .lst [])
              refine ⟨.list [], .list [], .lst (.inl (.inl (s4 _ _ g1))) .nil, .lst (.inl (.inl upd_same)) .nil, shaped_nil, shaped_nil, ?_⟩
              rw [PySem.SeqAt.eqv_refl (.list []) (by simp [PyData.canLay0, PyData.canLayAll0])]
              exact k _ ((s12.trans g2).trans s4)
end
end Om

namespace Om
open PySem PySem.Spec PyProof.Rows L2 LamX
/-! ### signs at places -/
def sg2 (rows : List (List Nat)) (i j : Nat) : Nat := (rows.getD i []).getD j 0
structure Rect (rows : List (List Nat)) (h w : Nat) : Prop where
  len : rows.length = h
  row : ∀ r ∈ rows, r.length = w
theorem rect_getD {rows : List (List Nat)} {h w : Nat} (R : Rect rows h w) {i : Nat} (hi : i < h) : rows.getD i [] ∈ rows ∧ (rows.getD i []).length = w := by
  have hi2 : i < rows.length := by rw [R.len]; exact hi
  have e : rows.getD i [] = rows[i] := by rw [List.getD_eq_getElem?_getD, List.getElem?_eq_getElem hi2, Option.getD_some]
  rw [e]
  exact ⟨List.getElem_mem hi2, R.row _ (List.getElem_mem hi2)⟩
/-! ### cells -/
theorem cells_mem (rows : List (List Nat)) (a b : Nat) : (a, b) ∈ cellsOf rows ↔ a < rows.length ∧ b < (rows.getD a []).length ∧ sg2 rows a b ≠ 126 := by
  unfold cellsOf cellsTo rowCells sg2
  simp only [List.mem_flatMap, List.mem_range, List.mem_map, List.mem_filter, Bool.not_eq_true', decide_eq_false_iff_not, Prod.mk.injEq]
  constructor
  · rintro ⟨i, hi, j, ⟨hj1, hj2⟩, rfl, rfl⟩
    exact ⟨hi, hj1, hj2⟩
  · rintro ⟨h1, h2, h3⟩
    exact ⟨a, h1, b, ⟨h2, h3⟩, rfl, rfl⟩
theorem eqv_cell (c : Nat × Nat) (i j : Int) : PyData.eqv (cdp c) (.tuple [.int i, .int j]) = (decide (((c.1 : Nat) : Int) = i) && decide (((c.2 : Nat) : Int) = j)) := by
  simp only [cdp, PyData.eqv, PyData.eqvAll, Bool.and_true]
  rfl
theorem cells_any {rows : List (List Nat)} (g : Good2 rows) (i j : Int) : (((cellsOf rows).map cdp).any fun z => PyData.eqv z (.tuple [.int i, .int j])) = hasC rows i j := by
  rw [Bool.eq_iff_iff, List.any_map, List.any_eq_true]
  constructor
  · rintro ⟨⟨a, b⟩, hm, h⟩
    have h : PyData.eqv (cdp (a, b)) (.tuple [.int i, .int j]) = true := h
    rw [eqv_cell, Bool.and_eq_true, decide_eq_true_eq, decide_eq_true_eq] at h
    obtain ⟨rfl, rfl⟩ := h
    obtain ⟨h1, h2, h3⟩ := (cells_mem rows a b).mp hm
    have hl := g.rect _ (rect_getD (h := rows.length) (w := (rows.headD []).length) ⟨rfl, g.rect⟩ h1).1
    unfold hasC insd inR sgAt
    simp only [Int.toNat_natCast, Bool.and_eq_true, decide_eq_true_eq, Bool.not_eq_true', decide_eq_false_iff_not]
    exact ⟨by omega, h3⟩
  · intro h
    unfold hasC insd inR sgAt at h
    simp only [Bool.and_eq_true, decide_eq_true_eq, Bool.not_eq_true', decide_eq_false_iff_not] at h
    obtain ⟨⟨⟨h1, h2⟩, h3, h4⟩, h5⟩ := h
    have hl := g.rect _ (rect_getD (h := rows.length) (w := (rows.headD []).length) ⟨rfl, g.rect⟩ (i := i.toNat) (by omega)).1
    refine ⟨(i.toNat, j.toNat), (cells_mem rows _ _).mpr ⟨by omega, by omega, h5⟩, ?_⟩
    show PyData.eqv (cdp (i.toNat, j.toNat)) (.tuple [.int i, .int j]) = true
    rw [eqv_cell, Bool.and_eq_true, decide_eq_true_eq, decide_eq_true_eq]
    exact ⟨by show ((i.toNat : Nat) : Int) = i; omega, by show ((j.toNat : Nat) : Int) = j; omega⟩
theorem lay_cells (cs : List (Nat × Nat)) : PyData.canLayAll0 (cs.map cdp) = true := by
  induction cs with
  | nil => simp [PyData.canLayAll0]
  | cons c r ih => simp only [List.map_cons, PyData.canLayAll0, cdp, PyData.canLay0, ih, Bool.and_self]
theorem dep_cells (cs : List (Nat × Nat)) : PyData.depthAll (cs.map cdp) ≤ 1 := by
  induction cs with
  | nil => simp [PyData.depthAll]
  | cons c r ih => simp [PyData.depthAll, cdp, PyData.depth]; omega
theorem sh_cells (cs : List (Nat × Nat)) : SeqAt.shaped (.list (cs.map cdp)) = true := shaped_of (by simp only [PyData.canLay0]; exact lay_cells cs) (by have := dep_cells cs; simp only [PyData.depth]; omega)
theorem sh_pair (i j : Int) : SeqAt.shaped (.tuple [.int i, .int j]) = true := shaped_of (by simp [PyData.canLay0, PyData.canLayAll0]) (by simp [PyData.depth, PyData.depthAll])
theorem eqv_pair (i j : Int) : PyData.eqv (.tuple [.int i, .int j]) (.tuple [.int i, .int j]) = true := PySem.SeqAt.eqv_refl _ (by simp [PyData.canLay0, PyData.canLayAll0])
/-! ### rules, what digs tell -/
inductive Rl where
  | plain
  | rows
  | near (m : Nat)
def Rl.vs : Rl → List V
  | .plain => [.str "plain"]
  | .rows => [.str "rows"]
  | .near m => [.str "near", .int (m : Nat)]
def Rl.ds : Rl → List PyData
  | .plain => [.str "plain"]
  | .rows => [.str "rows"]
  | .near m => [.str "near", .int (m : Nat)]
def Rl.d (r : Rl) : PyData := .tuple r.ds
def iabs (i : Int) : Int := if i < 0 then -i else i
abbrev Cell := Nat × Nat
def cvs (c : Cell) : List V := [.int (c.1 : Nat), .int (c.2 : Nat)]
def away (c p : Cell) : Int := iabs ((c.1 : Int) - (p.1 : Int)) + iabs ((c.2 : Int) - (p.2 : Int))
def toldR (a b : Nat) : Str := if b = a then "level" else if b < a then "north" else "south"
def told (r : Rl) (c p : Cell) : Str := if c = p then "found" else match r with
  | .plain => "empty"
  | .rows => toldR c.1 p.1
  | .near m => if away c p ≤ (m : Int) then "near" else "far"
theorem cell_dp {K : PySem.W.Frag} {H : Hp} {a : Addr} {c : Cell} (h : SqT K H a (cvs c)) : Dp K H (.ref a) (cdp c) := .tup h (.cons (.int _) (.cons (.int _) .nil))
theorem cell_at {K : PySem.W.Frag} {H : Hp} {v : V} {c : Cell} (h : Dp K H v (cdp c)) : ∃ a, v = .ref a ∧ SqT K H a (cvs c) := by
  unfold cdp at h
  cases h with
  | tup s t =>
    cases t with
    | cons h1 t =>
      cases h1
      cases t with
      | cons h2 t =>
        cases h2
        cases t
        exact ⟨_, rfl, s⟩
theorem eqv_cells (c p : Cell) : PyData.eqv (cdp c) (cdp p) = decide (c = p) := by
  have z := eqv_cell c (p.1 : Nat) (p.2 : Nat)
  show PyData.eqv (cdp c) (.tuple [.int (p.1 : Nat), .int (p.2 : Nat)]) = _
  rw [z, Bool.eq_iff_iff]
  simp only [Bool.and_eq_true, decide_eq_true_eq, Int.natCast_inj]
  constructor
  · rintro ⟨h1, h2⟩
    exact Prod.ext h1 h2
  · rintro rfl
    exact ⟨rfl, rfl⟩
theorem sh_cell (c : Cell) : SeqAt.shaped (cdp c) = true := sh_pair _ _
/-- which words a rule knows -/
def words : Rl → List Str
  | .plain => ["found", "empty"]
  | .rows => ["found", "north", "south", "level"]
  | .near _ => ["found", "near", "far"]
theorem told_mem (r : Rl) (c p : Cell) : told r c p ∈ words r := by
  unfold told
  split
  · cases r <;> simp [words]
  · cases r with
    | plain => simp [words]
    | rows =>
      show toldR _ _ ∈ _
      unfold toldR
      split
      · simp [words]
      · split <;> simp [words]
    | near m =>
      show (if _ then _ else _ : Str) ∈ _
      split <;> simp [words]
/-! ### x in (a written tuple of data) -/
def rInT (K : PySem.W.Frag) : R2 := fun x y H Q => ∃ d ds, Dp K H x d ∧ Dp K H y (.tuple ds) ∧ SeqAt.shaped d = true ∧ SeqAt.shaped (.tuple ds) = true ∧ Q (.bl (ds.any fun z => PyData.eqv z d)) H
theorem op_inT {X : Cx} (hu : X.A.units + 65 < cLine) : OpR X (compareOp .In) (rInT X.K) := by
  intro pins s σ H x y v u Q I rx ry h
  obtain ⟨d, ds, hd, he, sd, se, q⟩ := h
  obtain ⟨as, r1⟩ := Dp.reads I d x v hd rx
  obtain ⟨bs, r2⟩ := Dp.reads I (.tuple ds) y u he ry
  exact SeqAt.in_tuple_reads r2 r1 (SeqAt.canLay_of_shaped se) (SeqAt.canLay_of_shaped sd) (room_in_shaped sd hu) ⟨.bl _, H, I, rfl, q⟩
end Om

namespace Om
open PySem PySem.Spec PyProof.Rows L2 LamX
abbrev sTold : Stmt := top 30
abbrev sToldR : Stmt := top 31
abbrev sReqR : Stmt := top 28
abbrev sHint : Stmt := top 23
def spTold (K : PySem.W.Frag) : Sp := fun vs H Q _ => ∃ (ra ca pa : Addr) (r : Rl) (c p : Cell), vs = [.ref ra, .ref ca, .ref pa] ∧ SqT K H ra r.vs ∧ SqT K H ca (cvs c) ∧ SqT K H pa (cvs p) ∧ Q (.str (told r c p)) H
def spToldR : Sp := fun vs H Q _ => ∃ a b : Nat, vs = [.int (a : Nat), .int (b : Nat)] ∧ Q (.str (toldR a b)) H
def Rl.Ok : Rl → Prop
  | .near m => 1 ≤ m ∧ m ≤ 22
  | _ => True
def spReqR (K : PySem.W.Frag) : Sp := fun vs H Q _ => ∃ (ra : Addr) (r : Rl), vs = [.ref ra] ∧ SqT K H ra r.vs ∧ r.Ok ∧ ∀ H', Same H H' → Q .non H'
def spHint (K : PySem.W.Frag) : Sp := fun vs H Q _ => ∃ (ra ca pa : Addr) (r : Rl) (c p : Cell), vs = [.ref ra, .ref ca, .ref pa] ∧ SqT K H ra r.vs ∧ SqT K H ca (cvs c) ∧ SqT K H pa (cvs p) ∧ r.Ok ∧ ∀ H', Same H H' → Q (.str (told r c p)) H'
theorem room65 {k : Nat} {A : Around} (r : Room k A) : A.units + 65 < cLine := by have := r.un; omega
theorem rl_dp {K : PySem.W.Frag} {H : Hp} {a : Addr} {r : Rl} (h : SqT K H a r.vs) : Dp K H (.ref a) r.d := by
  refine .tup h ?_
  cases r with
  | plain => exact .cons (.str _) .nil
  | rows => exact .cons (.str _) .nil
  | near m => exact .cons (.str _) (.cons (.int _) .nil)
theorem neS {a b : Str} (h : a ≠ b) : decide (V.str a = V.str b) = false := decide_eq_false fun e => h (V.str.inj e)
theorem eqS (a : Str) : decide (V.str a = V.str a) = true := decide_eq_true rfl
theorem npr : (Str.ofString "plain" : Str) ≠ Str.ofString "rows" := by decide +kernel
theorem npn : (Str.ofString "plain" : Str) ≠ Str.ofString "near" := by decide +kernel
theorem nrn : (Str.ofString "rows" : Str) ≠ Str.ofString "near" := by decide +kernel
theorem nnr : (Str.ofString "near" : Str) ≠ Str.ofString "rows" := by decide +kernel
theorem intEq (a b : Nat) : decide (V.int ((a : Nat) : Int) = V.int ((b : Nat) : Int)) = decide (a = b) := decide_eq_decide.mpr ⟨fun e => Int.ofNat.inj (V.int.inj e), fun e => by rw [e]⟩
section
variable {P : Program} {w : World} {K : PySem.W.Frag} {mg : Str → Option Value} {base : Heap}
abbrev nHintL : List Str := ["_law_rule_here", "_law_cell", "_law_place", "_law_paces"]
theorem scToldR : FnScope ["row", "place_row"] ["row", "place_row"] (defScope sToldR) := ⟨rfl, rfl, rfl, by decide +kernel, rfl, by decide +kernel, by decide +kernel⟩
theorem ok_toldR {f : Addr} {fd : FuncData} (F : FnP K "_told_of_rows" "_told_of_rows" sToldR f fd) : FnOk P w K mg base CX0 1 f fd ["row", "place_row"] spToldR := by
  refine F.ok scToldR (fun vs H Q E h => ?_) (fun cdv A outer s H vs Q E hr h => ?_)
  · obtain ⟨a, b, rfl, _⟩ := h
    rfl
  · obtain ⟨a, b, rfl, k⟩ := h
    refine ⟨_, PSs.nox (pss_cons (ps_if (pt_cmpR op_eq (pv 1) (pv 0) (nomark _)) (pss_one (ps_ret pe_str)) pss_nil) (pss_one (ps_ret (pe_ifExp (pt_cmpR op_lt (pv 1) (pv 0) (nomark _)) pe_str pe_str)))), ?_⟩
    refine ⟨_, rfl, _, rfl, rfl, _, rfl, ?_⟩
    rw [intEq]
    unfold toldR at k
    by_cases e1 : b = a
    · rw [if_pos e1] at k
      exact iteT' (decide_eq_true e1) k
    · rw [if_neg e1] at k
      refine iteF' (decide_eq_false e1) ?_
      refine ⟨_, rfl, _, rfl, _, _, rfl, rfl, _, rfl, ?_⟩
      by_cases e2 : b < a
      · rw [if_pos e2] at k
        exact iteT' (decide_eq_true (by omega)) k
      · rw [if_neg e2] at k
        exact iteF' (decide_eq_false (by omega)) k
abbrev nTold : List Str := ["rule", "cell", "place", "away"]
theorem scTold : FnScope nTold ["rule", "cell", "place"] (defScope sTold) := ⟨rfl, rfl, rfl, by decide +kernel, rfl, by decide +kernel, by decide +kernel⟩
theorem ok_told {f : Addr} {fd : FuncData} (F : FnP K "_told" "_told" sTold f fd) (TR : Cal P w K mg base CX0 1 "_told_of_rows" ["row", "place_row"] spToldR) (gabs : mg "abs" = none) : FnOk P w K mg base CX0 2 f fd ["rule", "cell", "place"] (spTold K) := by
  refine F.ok scTold (fun vs H Q E h => ?_) (fun cdv A outer s H vs Q E hr h => ?_)
  · obtain ⟨ra, ca, pa, r, c, p, rfl, _⟩ := h
    rfl
  · obtain ⟨ra, ca, pa, r, c, p, rfl, hR, hC, hP, k⟩ := h
    have nd := scTold.nd
    refine ⟨_, PSs.nox (pss_cons (ps_if (pt_cmpR (op_eqD hr.units) (pv 1) (pv 2) (nomark _)) (pss_one (ps_ret pe_str)) pss_nil)
      (pss_cons (ps_if (pt_cmpR op_eq (pe_ix ix_tup (pv 0) pe_int (fun _ _ => rfl)) pe_str (nomark _)) (pss_one (ps_ret (pe_cal TR hr pass0 (pa_cons (pe_ix ix_tup (pv 1) pe_int (fun _ _ => rfl)) (pa_cons (pe_ix ix_tup (pv 2) pe_int (fun _ _ => rfl)) pa_nil))))) pss_nil)
      (pss_cons (ps_if (pt_cmpR op_eq (pe_ix ix_tup (pv 0) pe_int (fun _ _ => rfl)) pe_str (nomark _)) (pss_cons (ps_set (i := 3) nd rfl (.inl rfl) (pe_op op_add (pe_callB call_abs (by rfl) gabs (by decide +kernel) (pa_cons (pe_op op_sub (pe_ix ix_tup (pv 1) pe_int (fun _ _ => rfl)) (pe_ix ix_tup (pv 2) pe_int (fun _ _ => rfl))) pa_nil)) (pe_callB call_abs (by rfl) gabs (by decide +kernel) (pa_cons (pe_op op_sub (pe_ix ix_tup (pv 1) pe_int (fun _ _ => rfl)) (pe_ix ix_tup (pv 2) pe_int (fun _ _ => rfl))) pa_nil))))
          (pss_one (ps_ret (pe_ifExp (pt_cmpR op_le (pv 3) (pe_ix ix_tup (pv 0) pe_int (fun _ _ => rfl)) (nomark _)) pe_str pe_str)))) pss_nil)
      (pss_one (ps_ret pe_str))))), ?_⟩
    refine ⟨_, rfl, _, rfl, _, _, cell_dp hC, cell_dp hP, sh_cell _, sh_cell _, _, rfl, ?_⟩
    rw [eqv_cells]
    unfold told at k
    by_cases hcp : c = p
    · rw [if_pos hcp] at k
      exact iteT' (decide_eq_true hcp) k
    · rw [if_neg hcp] at k
      refine iteF' (decide_eq_false hcp) ?_
      cases r with
      | plain =>
        refine ⟨_, rfl, ra, _, 0, _, rfl, rfl, hR, at0, rfl, _, rfl, iteF' (neS npr) ?_⟩
        refine ⟨_, rfl, ra, _, 0, _, rfl, rfl, hR, at0, rfl, _, rfl, iteF' (neS npn) ?_⟩
        exact k
      | rows =>
        refine ⟨_, rfl, ra, _, 0, _, rfl, rfl, hR, at0, rfl, _, rfl, iteT' (eqS _) ?_⟩
        exact ⟨_, rfl, ca, _, 0, _, rfl, rfl, hC, at0, _, rfl, pa, _, 0, _, rfl, rfl, hP, at0, c.1, p.1, rfl, k⟩
      | near m =>
        refine ⟨_, rfl, ra, _, 0, _, rfl, rfl, hR, at0, rfl, _, rfl, iteF' (neS nnr) ?_⟩
        refine ⟨_, rfl, ra, _, 0, _, rfl, rfl, hR, at0, rfl, _, rfl, iteT' (eqS _) ?_⟩
        refine ⟨_, rfl, ca, _, 0, _, rfl, rfl, hC, at0, _, rfl, pa, _, 0, _, rfl, rfl, hP, at0, _, _, rfl, rfl, _, rfl, _, rfl, ca, _, 1, _, rfl, rfl, hC, rfl, _, rfl, pa, _, 1, _, rfl, rfl, hP, rfl, _, _, rfl, rfl, _, rfl, _, _, rfl, rfl, ?_⟩
        refine ⟨_, rfl, _, rfl, ra, _, 1, _, rfl, rfl, hR, rfl, _, _, rfl, rfl, _, rfl, ?_⟩
        have k : Q (.str (if away c p ≤ (m : Int) then "near" else "far")) H := k
        by_cases e : away c p ≤ (m : Int)
        · rw [if_pos e] at k
          exact iteT' (decide_eq_true e) k
        · rw [if_neg e] at k
          exact iteF' (decide_eq_false e) k
theorem scReqR : FnScope ["rule"] ["rule"] (defScope sReqR) := ⟨rfl, rfl, rfl, by decide +kernel, rfl, by decide +kernel, by decide +kernel⟩
theorem eqvP : PyData.eqv (.tuple [.str "plain"]) (.tuple [.str "plain"]) = true := by decide +kernel
theorem eqvRP : PyData.eqv (.tuple [.str "plain"]) (.tuple [.str "rows"]) = false := by decide +kernel
theorem eqvR : PyData.eqv (.tuple [.str "rows"]) (.tuple [.str "rows"]) = true := by decide +kernel
theorem ok_reqR {f : Addr} {fd : FuncData} (F : FnP K "require_rule" "require_rule" sReqR f fd) (G : Cal P w K mg base CX0 1 "in_range" nInR spInR) (glen : mg "len" = none) (gaw : ∃ t, mg "MOST_AWAY" = some (.int 22 t)) : FnOk P w K mg base CX0 2 f fd ["rule"] (spReqR K) := by
  obtain ⟨taw, gaw⟩ := gaw
  refine F.ok scReqR (fun vs H Q E h => ?_) (fun cdv A outer s H vs Q E hr h => ?_)
  · obtain ⟨ra, r, rfl, _⟩ := h
    rfl
  · obtain ⟨ra, r, rfl, hR, hok, k⟩ := h
    refine ⟨_, PSs.nox (pss_cons (ps_if (pt_cmpR (op_inT (room65 hr)) (pv 0) (pe_tup (pa_cons (pe_tup (pa_cons pe_str pa_nil)) (pa_cons (pe_tup (pa_cons pe_str pa_nil)) pa_nil))) (by with_unfolding_all rfl)) (pss_one ps_retN) pss_nil)
      (pss_one (ps_if (PW.pt (pw_or (pt_cmpR op_ne (pe_callB call_len_seq (by rfl) glen PySem.boot_len (pa_cons (pv 0) pa_nil)) pe_int (nomark _)) (pw_or (pt_cmpR op_ne (pe_ix ix_tup (pv 0) pe_int (fun _ _ => rfl)) pe_str (nomark _)) (pw_or1 (pt_not (pt_val (pe_cal G hr pass0 (pa_cons (pe_ix ix_tup (pv 0) pe_int (fun _ _ => rfl)) (pa_cons pe_int (pa_cons (pe_glob (v := .int 22) rfl gaw ⟨_, rfl⟩) pa_nil))))))))))
        pss_no pss_nil))), ?_⟩
    refine ⟨_, rfl, by show 1 ≤ sizeLine; decide, fun a1 h1 => ⟨by show 1 ≤ sizeLine; decide, fun a2 h2 => ⟨by show 2 ≤ sizeLine; decide, fun a3 h3 => ?_⟩⟩⟩
    have s1 := Same.new (Same.refl H) h1 (o := .tup [.str (Str.ofString "plain")])
    have s2 := Same.new (Same.refl _) h2 (o := .tup [.str (Str.ofString "rows")])
    have s3 := Same.new (Same.refl _) h3 (o := .tup [.ref a1, .ref a2])
    have s13 := (s1.trans s2).trans s3
    have hR3 := Same.tup s13 hR
    have shr : SeqAt.shaped r.d = true := by cases r <;> first | decide +kernel | exact shaped_of (by simp only [Rl.d, Rl.ds, PyData.canLay0, PyData.canLayAll0, Bool.and_true]; decide +kernel) (by simp [Rl.d, Rl.ds, PyData.depth, PyData.depthAll])
    refine ⟨r.d, [.tuple [.str "plain"], .tuple [.str "rows"]], rl_dp hR3, .tup (.inl (.inl upd_same)) (.cons (.tup (.inl (.inl (s3 _ _ (s2 _ _ upd_same)))) (.cons (.str _) .nil)) (.cons (.tup (.inl (.inl (s3 _ _ upd_same))) (.cons (.str _) .nil)) .nil)), shr, by decide +kernel, _, rfl, ?_⟩
    cases r with
    | plain =>
      refine iteT' ?_ (k _ s13)
      simp only [List.any_cons, Rl.d, Rl.ds, eqvP, Bool.true_or]
    | rows =>
      refine iteT' ?_ (k _ s13)
      simp only [List.any_cons, List.any_nil, Rl.d, Rl.ds, eqvR, Bool.true_or, Bool.or_true]
    | near m =>
      refine iteF' ?_ ?_
      · simp only [List.any_cons, List.any_nil, Rl.d, Rl.ds, Bool.or_false]
        rfl
      refine ⟨_, rfl, ra, _, rfl, .inr hR3, rfl, _, rfl, iteF' rfl ?_⟩
      refine ⟨_, rfl, ra, _, 0, _, rfl, rfl, hR3, at0, rfl, _, rfl, iteF' (by rw [eqS]; rfl) ?_⟩
      obtain ⟨m1, m2⟩ := hok
      refine ⟨_, rfl, ra, _, 1, _, rfl, rfl, hR3, rfl, _, _, _, rfl, true, ?_, iteF' rfl (k _ s13)⟩
      show V.bl (inR _ _ _) = _
      unfold inR
      rw [decide_eq_true (by omega), decide_eq_true (by omega)]
      rfl
theorem scHint : FnScope ["rule", "cell", "place"] ["rule", "cell", "place"] (defScope sHint) := ⟨rfl, rfl, rfl, by decide +kernel, rfl, by decide +kernel, by decide +kernel⟩
theorem ok_hint {f : Addr} {fd : FuncData} (F : FnP K "hint" "hint" sHint f fd) (RR : Cal P w K mg base CX0 2 "require_rule" ["rule"] (spReqR K)) (TO : Cal P w K mg base CX0 2 "_told" ["rule", "cell", "place"] (spTold K)) : FnOk P w K mg base CX0 3 f fd ["rule", "cell", "place"] (spHint K) := by
  refine F.ok scHint (fun vs H Q E h => ?_) (fun cdv A outer s H vs Q E hr h => ?_)
  · obtain ⟨ra, ca, pa, r, c, p, rfl, _⟩ := h
    rfl
  · obtain ⟨ra, ca, pa, r, c, p, rfl, hR, hC, hP, hok, k⟩ := h
    refine ⟨_, PSs.nox (pss_cons (ps_expr (pe_cal RR hr pass0 (pa_cons (pv 0) pa_nil))) (pss_one (ps_ret (pe_cal TO hr pass0 (pa_cons (pv 0) (pa_cons (pv 1) (pa_cons (pv 2) pa_nil))))))), ?_⟩
    refine ⟨_, rfl, ra, r, rfl, hR, hok, fun H1 s1 => ?_⟩
    exact ⟨_, rfl, _, rfl, _, rfl, ra, ca, pa, r, c, p, rfl, Same.tup s1 hR, Same.tup s1 hC, Same.tup s1 hP, k _ s1⟩
end
end Om

namespace Om
open PySem PySem.Spec PyProof.Rows L2 LamX
abbrev sLand : Stmt := top 16
abbrev sPlaces : Stmt := top 29
abbrev sLeftB : Stmt := top 32
abbrev sLeftA : Stmt := top 24
abbrev sFirstW : Stmt := top 25
abbrev Dig := Cell × Str
def digD (d : Dig) : PyData := .tuple [cdp d.1, .str d.2]
theorem dig_at {K : PySem.W.Frag} {H : Hp} {v : V} {d : Dig} (h : Dp K H v (digD d)) : ∃ t ca, v = .ref t ∧ SqT K H t [.ref ca, .str d.2] ∧ SqT K H ca (cvs d.1) := by
  unfold digD at h
  cases h with
  | tup s t =>
    cases t with
    | cons h1 t =>
      obtain ⟨ca, rfl, hC⟩ := cell_at h1
      cases t with
      | cons h2 t =>
        cases h2
        cases t
        exact ⟨_, ca, rfl, s, hC⟩
theorem has_of {rows : List (List Nat)} (g : Good2 rows) {c : Cell} (h : c ∈ cellsOf rows) : hasC rows (c.1 : Nat) (c.2 : Nat) = true := by
  rw [← cells_any g, List.any_eq_true]
  refine ⟨cdp c, List.mem_map_of_mem h, ?_⟩
  have z := eqv_cells c c
  rw [decide_eq_true rfl] at z
  exact z
def spLand (K : PySem.W.Frag) (CI : Addr) : Sp := fun vs H Q _ => ∃ (a ca : Addr) (rows : List (List Nat)) (c : Cell), vs = [.ref a, .ref ca] ∧ Isl K CI H a rows ∧ Good2 rows ∧ SqT K H ca (cvs c) ∧ c ∈ cellsOf rows ∧ Q .non H
def spPlaces (K : PySem.W.Frag) (CI : Addr) : Sp := fun vs H Q _ => ∃ (a pa ra : Addr) (rows : List (List Nat)) (ps : List Cell) (r : Rl), vs = [.ref a, .ref pa, .ref ra] ∧ Isl K CI H a rows ∧ Good2 rows ∧ Dp K H (.ref pa) (.tuple (ps.map cdp)) ∧ (∀ c ∈ ps, c ∈ cellsOf rows) ∧ SqT K H ra r.vs ∧ r.Ok ∧ ∀ H', Same H H' → Q .non H'
def leftA (r : Rl) (ps : List Cell) (ds : List Dig) : List Cell := ds.foldl (fun l d => l.filter fun p => decide (told r d.1 p = d.2)) ps
theorem leftA_snoc (r : Rl) (ps : List Cell) (ds : List Dig) (d : Dig) : leftA r ps (ds ++ [d]) = (leftA r ps ds).filter fun p => decide (told r d.1 p = d.2) := by
  unfold leftA
  rw [List.foldl_append]
  rfl
/-- a list of lists of cells at L -/
structure LL (K : PySem.W.Frag) (H : Hp) (L : Addr) (ls : List (List Cell)) : Prop where
  ex : ∃ as : List Addr, H L = some (.lst (as.map V.ref)) ∧ as.length = ls.length ∧ ∀ (i : Nat) (l : List Cell), ls[i]? = some l → ∃ a xs, as[i]? = some a ∧ a ≠ L ∧ H a = some (.lst xs) ∧ DpAll K H xs (l.map cdp)
theorem LL.same {K : PySem.W.Frag} {H H' : Hp} {L : Addr} {ls : List (List Cell)} (h : LL K H L ls) (s : Same H H') : LL K H' L ls := by
  obtain ⟨as, h1, h2, h3⟩ := h.ex
  refine ⟨as, s _ _ h1, h2, fun i l hl => ?_⟩
  obtain ⟨a, xs, e1, e2, e3, e4⟩ := h3 i l hl
  exact ⟨a, xs, e1, e2, s _ _ e3, Same.dpAll s e4⟩
theorem LL.push {K : PySem.W.Frag} {H : Hp} {L D : Addr} {ls : List (List Cell)} {as : List Addr} {l : List Cell} {ys : List V} (h1 : H L = some (.lst (as.map V.ref))) (h2 : as.length = ls.length)
    (h3 : ∀ (i : Nat) (l : List Cell), ls[i]? = some l → ∃ a xs, as[i]? = some a ∧ a ≠ L ∧ H a = some (.lst xs) ∧ DpAll K H xs (l.map cdp)) (hD : H D = some (.lst ys)) (hne : D ≠ L) (hy : DpAll K H ys (l.map cdp)) :
    LL K (upd H L (.lst (as.map V.ref ++ [.ref D]))) L (ls ++ [l]) := by
  refine ⟨as ++ [D], by rw [upd_same, List.map_append]; rfl, by rw [List.length_append, List.length_append, h2]; rfl, fun i m hm => ?_⟩
  by_cases hi : i < ls.length
  · rw [List.getElem?_append_left hi] at hm
    obtain ⟨a, xs, e1, e2, e3, e4⟩ := h3 i m hm
    exact ⟨a, xs, by rw [List.getElem?_append_left (by omega)]; exact e1, e2, by rw [upd_ne e2]; exact e3, pairs_other h1 e4⟩
  · have hi2 : i = ls.length := by
      have := (List.getElem?_eq_some_iff.mp hm).1
      rw [List.length_append, List.length_singleton] at this
      omega
    subst hi2
    rw [List.getElem?_append_right (Nat.le_refl _), Nat.sub_self] at hm
    obtain rfl : l = m := Option.some.inj hm
    exact ⟨D, ys, by rw [List.getElem?_append_right (by omega), h2, Nat.sub_self]; rfl, hne, by rw [upd_ne hne]; exact hD, pairs_other h1 hy⟩
def leftsOf (r : Rl) (ps : List Cell) (ds : List Dig) (n : Nat) : List (List Cell) := (List.range (n + 1)).map fun i => leftA r ps (ds.take i)
theorem leftsOf_succ (r : Rl) (ps : List Cell) (ds : List Dig) (n : Nat) : leftsOf r ps ds (n + 1) = leftsOf r ps ds n ++ [leftA r ps (ds.take (n + 1))] := by
  unfold leftsOf
  rw [List.range_succ, List.map_append]
  rfl
theorem leftsOf_len (r : Rl) (ps : List Cell) (ds : List Dig) (n : Nat) : (leftsOf r ps ds n).length = n + 1 := by unfold leftsOf; rw [List.length_map, List.length_range]
theorem leftsOf_at (r : Rl) (ps : List Cell) (ds : List Dig) {n i : Nat} (h : i ≤ n) : (leftsOf r ps ds n)[i]? = some (leftA r ps (ds.take i)) := by
  unfold leftsOf
  rw [List.getElem?_map, List.getElem?_range (by omega)]
  rfl
theorem leftA_len (r : Rl) (ps : List Cell) : ∀ ds : List Dig, (leftA r ps ds).length ≤ ps.length := by
  intro ds
  unfold leftA
  induction ds generalizing ps with
  | nil => exact Nat.le_refl _
  | cons d ds ih => exact Nat.le_trans (ih _) (List.length_filter_le ..)
structure LB (K : PySem.W.Frag) (CI : Addr) (H : Hp) (a pa ra da : Addr) (rows : List (List Nat)) (ps : List Cell) (r : Rl) (ds : List Dig) : Prop where
  I : Isl K CI H a rows
  g : Good2 rows
  P : Dp K H (.ref pa) (.tuple (ps.map cdp))
  pin : ∀ c ∈ ps, c ∈ cellsOf rows
  R : SqT K H ra r.vs
  rok : r.Ok
  D : Dp K H (.ref da) (.list (ds.map digD))
  din : ∀ d ∈ ds, d.1 ∈ cellsOf rows ∧ d.2 ∈ words r
  pl : ps.length ≤ 1000
  dl : ds.length ≤ 1000
theorem LB.same {K : PySem.W.Frag} {CI : Addr} {H H' : Hp} {a pa ra da : Addr} {rows : List (List Nat)} {ps : List Cell} {r : Rl} {ds : List Dig} (h : LB K CI H a pa ra da rows ps r ds) (s : Same H H') : LB K CI H' a pa ra da rows ps r ds :=
  ⟨h.I.same s, h.g, Same.dp s h.P, h.pin, Same.tup s h.R, h.rok, Same.dp s h.D, h.din, h.pl, h.dl⟩
def spLeftB (K : PySem.W.Frag) (CI : Addr) : Sp := fun vs H Q _ => ∃ (a pa ra da : Addr) (rows : List (List Nat)) (ps : List Cell) (r : Rl) (ds : List Dig), vs = [.ref a, .ref pa, .ref ra, .ref da] ∧ LB K CI H a pa ra da rows ps r ds ∧
  ∀ L H', Same H H' → LL K H' L (leftsOf r ps ds ds.length) → Q (.ref L) H'
def spLeftA (K : PySem.W.Frag) (CI : Addr) : Sp := fun vs H Q _ => ∃ (a pa ra da : Addr) (rows : List (List Nat)) (ps : List Cell) (r : Rl) (ds : List Dig), vs = [.ref a, .ref pa, .ref ra, .ref da] ∧ LB K CI H a pa ra da rows ps r ds ∧
  ∀ D H', Same H H' → Dp K H' (.ref D) (.list ((leftA r ps ds).map cdp)) → Q (.ref D) H'
/-- the first dig behind which nothing is left -/
def firstW (r : Rl) (ps : List Cell) (ds : List Dig) : Option Nat := (List.range ds.length).find? fun i => (leftA r ps (ds.take (i + 1))).isEmpty
def optI : Option Nat → V
  | none => .non
  | some i => .int (i : Nat)
def spFirstW (K : PySem.W.Frag) (CI : Addr) : Sp := fun vs H Q _ => ∃ (a pa ra da : Addr) (rows : List (List Nat)) (ps : List Cell) (r : Rl) (ds : List Dig), vs = [.ref a, .ref pa, .ref ra, .ref da] ∧ LB K CI H a pa ra da rows ps r ds ∧
  ∀ H', Same H H' → Q (optI (firstW r ps ds)) H'
/-- the module's table of words -/
def Rl.word : Rl → Str
  | .plain => "plain"
  | .rows => "rows"
  | .near _ => "near"
structure WF (K : PySem.W.Frag) (w : World) (mg : Str → Option Value) (wd : Addr) : Prop where
  g : mg "WORDS" = some (.ref wd)
  at_ : ∀ r : Rl, ∃ p, KDct K w wd r.word (.ref p) ∧ ∀ H, SqT K H p ((words r).map V.str)
theorem inV_strs (x : Str) (ws : List Str) : inV (.str x) (ws.map V.str) = decide (x ∈ ws) := by
  unfold inV
  induction ws with
  | nil => rfl
  | cons y r ih =>
    rw [List.map_cons, List.any_cons, ih]
    show ((y == x) || decide (x ∈ r)) = _
    rw [Bool.eq_iff_iff]
    simp only [Bool.or_eq_true, beq_iff_eq, decide_eq_true_eq, List.mem_cons]
    exact ⟨fun h => h.imp Eq.symm id, fun h => h.imp Eq.symm id⟩
theorem flat_strs (ws : List Str) : (ws.map V.str).all flatV = true := by
  rw [List.all_map]
  exact List.all_eq_true.mpr fun _ _ => rfl
theorem walk_enumL {K : PySem.W.Frag} {a : Addr} {xs : List V} : Walk (Ite K a) xs.length (fun H => SqL K H a xs) (YEnum fun i => xs[i]?) where
  goes := fun i H hi q => ⟨xs, xs[i], q, List.getElem?_eq_getElem _⟩
  stops := fun H q => ⟨xs, q, Nat.le_refl _⟩
  yields := fun i H v H' _ q y => by
    obtain ⟨T, x, h1, h2, h3, h4⟩ := y
    exact ⟨T, x, h1, h2, h3, h4 xs q⟩
theorem ixlK {X : Cx} {K : PySem.W.Frag} (hK : X.K = K) : IxR X (rIxL K) := by
  subst hK
  exact ix_list
section
variable {P : Program} {w : World} {K : PySem.W.Frag} {mg : Str → Option Value} {base : Heap} {CI : Addr}
theorem scLand : FnScope ["island", "cell"] ["island", "cell"] (defScope sLand) := ⟨rfl, rfl, rfl, by decide +kernel, rfl, by decide +kernel, by decide +kernel⟩
theorem ok_land {f gC : Addr} {fd fdC : FuncData} (F : FnP K "require_land" "require_land" sLand f fd) (mC : OwnM K CI "__contains__" gC) (GC : FnOk P w K mg base CX0 3 gC fdC ["self", "cell"] (spHas K CI)) (bC : Binds K fdC ["self", "cell"] []) : FnOk P w K mg base CX0 4 f fd ["island", "cell"] (spLand K CI) := by
  refine F.ok scLand (fun vs H Q E h => ?_) (fun cdv A outer s H vs Q E hr h => ?_)
  · obtain ⟨a, ca, rows, c, rfl, _⟩ := h
    rfl
  · obtain ⟨a, ca, rows, c, rfl, hI, g, hC, hin, k⟩ := h
    refine ⟨_, PSs.nox (pss_one (ps_if (pt_cmpR (op_notInOwn mC GC hr bC pass0) (pv 1) (pv 0) (by with_unfolding_all rfl)) pss_no pss_nil)), ?_⟩
    obtain ⟨dx, p, hp, _⟩ := id hI
    refine ⟨_, rfl, _, rfl, a, dx, _, rfl, hp, a, ca, rows, _, _, rfl, hI, g, hC, _, rfl, _, rfl, ?_⟩
    rw [has_of g hin]
    exact iteF' rfl k
abbrev nPl : List Str := ["island", "places", "rule", "place"]
theorem scPl : FnScope nPl ["island", "places", "rule"] (defScope sPlaces) := ⟨rfl, rfl, rfl, by decide +kernel, rfl, by decide +kernel, by decide +kernel⟩
theorem ok_places {f : Addr} {fd : FuncData} (F : FnP K "_require_places" "_require_places" sPlaces f fd) (LD : Cal P w K mg base CX0 4 "require_land" ["island", "cell"] (spLand K CI)) (RR : Cal P w K mg base CX0 2 "require_rule" ["rule"] (spReqR K)) : FnOk P w K mg base CX0 5 f fd ["island", "places", "rule"] (spPlaces K CI) := by
  refine F.ok scPl (fun vs H Q E h => ?_) (fun cdv A outer s H vs Q E hr h => ?_)
  · obtain ⟨a, pa, ra, rows, ps, r, rfl, _⟩ := h
    rfl
  · obtain ⟨a, pa, ra, rows, ps, r, rfl, hI, g, hP, pin, hR, hok, k⟩ := h
    have nd := scPl.nd
    have hr2 : Room 2 _ := hr.mono (by decide)
    refine ⟨_, PSs.nox (pss_cons (ps_for PassesOwn.never rfl (pi_tup (pv 1)) (pg_name (i := 3) nd rfl (.inl rfl)) (pss_one (ps_expr (pe_cal LD hr pass0 (pa_cons (pv 0) (pa_cons (pv 3) pa_nil)))))) (pss_one (ps_expr (pe_cal RR hr2 pass0 (pa_cons (pv 2) pa_nil))))), ?_⟩
    cases hP with
    | tup hS hA =>
      rename_i xs
      refine ⟨_, rfl, pa, rfl, ⟨_, hS⟩, for_tup (K := K) (a := pa) (xs := xs) (fun i σ H' => H' = H ∧ ∃ v, σ = [some (.ref a), some (.ref pa), some (.ref ra), v]) ⟨rfl, _, rfl⟩ (fun i σ H' _ p => by rw [p.1]; exact hS) ?_ ?_⟩
      · rintro i x σ H' hx ⟨rfl, v, rfl⟩
        have hl := dpAll_len hA
        rw [List.length_map] at hl
        have hi : i < ps.length := by
          have := (List.getElem?_eq_some_iff.mp hx).1
          omega
        obtain ⟨u, hu, hd⟩ := dpAll_at hA (i := i) (e := cdp ps[i]) (by rw [List.getElem?_map, List.getElem?_eq_getElem hi]; rfl)
        rw [hx] at hu
        cases hu
        obtain ⟨ca, rfl, hC⟩ := cell_at hd
        exact ⟨_, rfl, _, rfl, a, ca, rows, ps[i], rfl, hI, g, hC, pin _ (List.getElem_mem hi), rfl, _, rfl⟩
      · rintro σ H' ⟨rfl, v, rfl⟩
        exact ⟨_, rfl, ra, r, rfl, hR, hok, fun H2 s2 => k H2 s2⟩
end
end Om

namespace Om
open PySem PySem.Spec PyProof.Rows L2 LamX
theorem nilArgs {σ : L2.St} {H : Hp} {Q : List V → Hp → Prop} (h : Q [] H) : tNil σ H Q := h
theorem noPart {σ : L2.St} {H : Hp} {Q : Option Int → Hp → Prop} (h : Q none H) : tNoPart σ H Q := h
theorem notIn_K' {X : Cx} {K : PySem.W.Frag} (hK : X.K = K) : OpR X (compareOp .NotIn) (rIn K true) := by
  subst hK
  exact op_notIn_seq
theorem Same.updN {H H' : Hp} {D : Addr} {o : HO} (s : Same H H') (h : H D = none) : Same H (upd H' D o) := by
  intro b q hb
  rw [upd_ne (ne_of_none hb h)]
  exact s _ _ hb
theorem Same.none {H H' : Hp} {a : Addr} (s : Same H H') (h : H' a = none) : H a = none := by
  cases e : H a with
  | none => rfl
  | some o => rw [s _ _ e] at h; cases h
theorem pdp_at {K : PySem.W.Frag} {H : Hp} {xs : List V} {α : Type} {f : α → PyData} {l : List α} (hA : DpAll K H xs (l.map f)) {i : Nat} {x : V} (hx : xs[i]? = some x) : ∃ d, l[i]? = some d ∧ Dp K H x (f d) := by
  have hl := dpAll_len hA
  rw [List.length_map] at hl
  have hi : i < l.length := by
    have := (List.getElem?_eq_some_iff.mp hx).1
    omega
  obtain ⟨u, hu, hd⟩ := dpAll_at hA (i := i) (e := f l[i]) (by rw [List.getElem?_map, List.getElem?_eq_getElem hi]; rfl)
  rw [hx] at hu
  cases hu
  exact ⟨_, List.getElem?_eq_getElem hi, hd⟩
theorem Rl.at0 (r : Rl) : atI r.vs 0 = some (.str r.word) := by cases r <;> rfl
section
variable {P : Program} {w : World} {K : PySem.W.Frag} {mg : Str → Option Value} {base : Heap} {CI : Addr}
abbrev nLB : List Str := ["island", "places", "rule", "digs", "cell", "_", "index", "word", "left", "place"]
theorem scLB : FnScope nLB ["island", "places", "rule", "digs"] (defScope sLeftB) := ⟨rfl, rfl, rfl, by decide +kernel, rfl, by decide +kernel, by decide +kernel⟩
def callArg (s : Stmt) : Expr := match s with
  | .Expr (.Call _ [e] _ _) _ => e
  | _ => .Constant .none 0 ⟨0, 0, 0, 0⟩
def lbLc : Expr := callArg (inFor ((defBody sLeftB).getD 4 noS) 0)
theorem blkLB : BlkOk nLB (defScope sLeftB) (lcScope lbLc) [("place", 9)] := blkOk_by (by decide +kernel)
theorem ok_leftB {f wd : Addr} {fd : FuncData} (F : FnP K "_left_behind" "_left_behind" sLeftB f fd) (PL : Cal P w K mg base CX0 5 "_require_places" ["island", "places", "rule"] (spPlaces K CI)) (LD : Cal P w K mg base CX0 4 "require_land" ["island", "cell"] (spLand K CI)) (TO : Cal P w K mg base CX0 2 "_told" ["rule", "cell", "place"] (spTold K))
    (W : WF K w mg wd) (genum : mg "enumerate" = none) (glist : mg "list" = none) : FnOk P w K mg base CX0 6 f fd ["island", "places", "rule", "digs"] (spLeftB K CI) := by
  refine F.ok scLB (fun vs H Q E h => ?_) (fun cdv A outer s H vs Q E hr h => ?_)
  · obtain ⟨a, pa, ra, da, rows, ps, r, ds, rfl, _⟩ := h
    rfl
  · obtain ⟨a, pa, ra, da, rows, ps, r, ds, rfl, B, k⟩ := h
    have nd := scLB.nd
    have hr5 : Room 5 _ := hr.mono (by decide)
    have hr4 : Room 4 _ := hr.mono (by decide)
    have hr2 : Room 2 _ := hr.mono (by decide)
    refine ⟨_, PSs.nox (pss_cons (ps_expr (pe_cal PL hr5 pass0 (pa_cons (pv 0) (pa_cons (pv 1) (pa_cons (pv 2) pa_nil)))))
      (pss_cons (ps_for PassesOwn.never rfl (pi_list (pv 3)) (pg_tup rfl (pgs_cons (pg_name (i := 4) nd rfl (.inr rfl)) (pgs_cons (pg_name (i := 5) nd rfl (.inl rfl)) pgs_nil))) (pss_one (ps_expr (pe_cal LD hr4 pass0 (pa_cons (pv 0) (pa_cons (pv 4) pa_nil))))))
      (pss_cons (ps_for PassesOwn.never rfl (pi_enum rfl genum (pa_cons (pv 3) pa_nil)) (pg_tup rfl (pgs_cons (pg_name (i := 6) nd rfl (.inl rfl)) (pgs_cons (pg_tup rfl (pgs_cons (pg_name (i := 5) nd rfl (.inl rfl)) (pgs_cons (pg_name (i := 7) nd rfl (.inr rfl)) pgs_nil))) pgs_nil)))
        (pss_one (ps_if (pt_cmpR (notIn_K' (K := K) rfl) (pv 7) (pe_ix ix_kdict (pe_glob (v := .ref wd) rfl W.g rfl) (pe_ix ix_tup (pv 2) pe_int (fun _ _ => rfl)) (fun _ _ => rfl)) (by with_unfolding_all rfl)) pss_no pss_nil)))
      (pss_cons (ps_set (i := 8) nd rfl (.inl rfl) (pe_lst (pa_cons (pe_callTy call_list_of (by rfl) glist (by decide +kernel) (pa_cons (pv 1) pa_nil)) pa_nil)))
      (pss_cons (ps_for PassesOwn.never rfl (pi_list (pv 3)) (pg_tup rfl (pgs_cons (pg_name (i := 4) nd rfl (.inr rfl)) (pgs_cons (pg_name (i := 7) nd rfl (.inr rfl)) pgs_nil)))
        (pss_one (ps_expr (pe_bm PySem.F.plainAttrs_list PySem.F.slot_list_append PySem.F.type_list_append mt_append (pv 8) (pa_cons
          (pe_lc (own := [("place", 9)]) (g := gName 9) rfl nd (pi_list (pe_ix ix_list (pv 8) (pe_un un_neg pe_int) (fun _ _ => rfl))) blkLB (fun _ _ _ _ _ => pg_name (i := 9) nd rfl (.inl rfl))
            (fun _ _ _ _ _ => pts_one (pt_cmpR op_eq (pe_cal TO hr2 pass0 (pa_cons (pv 2) (pa_cons (pv 4) (pa_cons (pv 9) pa_nil)))) (pv 7) (nomark _))) (fun _ _ _ _ _ => pv 9)) pa_nil)))))
      (pss_one (ps_ret (pv 8)))))))), ?_⟩
    refine ⟨_, rfl, _, rfl, _, rfl, a, pa, ra, rows, ps, r, rfl, B.I, B.g, B.P, B.pin, B.R, B.rok, fun H1 s1 => ?_⟩
    have B1 := B.same s1
    have hD := B1.D
    cases hD with
    | lst hS hA =>
    rename_i xs
    have lds := dpAll_len hA
    rw [List.length_map] at lds
    have dig : ∀ {i : Nat} {x : V}, xs[i]? = some x → ∃ d t ca, ds[i]? = some d ∧ x = .ref t ∧ SqT K H1 t [.ref ca, .str d.2] ∧ SqT K H1 ca (cvs d.1) := fun {i x} hx => by
      obtain ⟨d, hd, hp⟩ := pdp_at hA hx
      obtain ⟨t, ca, e1, e2, e3⟩ := dig_at hp
      exact ⟨d, t, ca, hd, e1, e2, e3⟩
    -- each dig's cell is land
    refine ⟨_, rfl, da, rfl, ⟨_, hS⟩, for_list (K := K) (a := da) (xs := xs) (fun i σ H' => H' = H1 ∧ ∃ v4 v5, σ = [some (.ref a), some (.ref pa), some (.ref ra), some (.ref da), v4, v5, none, none, none, none])
      ⟨rfl, _, _, rfl⟩ (fun i σ H' _ q => by rw [q.1]; exact hS) ?_ ?_⟩
    · rintro i x σ H' hx ⟨rfl, v4, v5, rfl⟩
      obtain ⟨d, t, ca, hd, rfl, hT, hC⟩ := dig hx
      refine ⟨t, _, rfl, hT, rfl, _, _, rfl, _, _, rfl, rfl, ?_⟩
      exact ⟨_, rfl, _, rfl, a, ca, rows, d.1, rfl, B1.I, B1.g, hC, (B1.din _ (List.mem_of_getElem? hd)).1, rfl, _, _, rfl⟩
    rintro σ H' ⟨rfl, v4, v5, rfl⟩
    -- each dig's word is known
    refine ⟨_, rfl, da, xs, rfl, hS, for_it (walk_enumL (K := K) (a := da) (xs := xs)) (fun i σ H2 => Same H' H2 ∧ ∃ v5 v6 v7, σ = [some (.ref a), some (.ref pa), some (.ref ra), some (.ref da), v4, v5, v6, v7, none, none])
      ⟨Same.refl _, _, _, _, rfl⟩ (fun i σ H2 _ q => Same.lst q.1 hS) ?_ ?_⟩
    · rintro i x σ H2 H3 hi ⟨s2, v5, v6, v7, rfl⟩ ⟨T, y, rfl, hT, rfl, hy⟩
      have s3 := Same.new (Same.refl H2) hT (o := .tup [.int (i : Nat), y])
      have s23 := s2.trans s3
      obtain ⟨d, t, ca, hd, rfl, hT2, hC⟩ := dig hy
      obtain ⟨p, hk, hp⟩ := W.at_ r
      refine ⟨T, _, rfl, .inl (.inl upd_same), rfl, _, _, rfl, _, _, rfl, ⟨t, _, rfl, Same.tup s23 hT2, rfl, _, _, rfl, _, _, rfl, rfl, rfl, ?_⟩⟩
      refine ⟨_, rfl, _, rfl, ra, _, 0, _, rfl, rfl, Same.tup s23 B1.R, r.at0, wd, r.word, .ref p, rfl, rfl, hk, p, _, rfl, .inr (hp _), rfl, flat_strs _, ?_⟩
      refine ⟨_, rfl, iteF' ?_ ⟨s23, _, _, _, rfl⟩⟩
      rw [if_pos rfl, inV_strs, decide_eq_true (B1.din _ (List.mem_of_getElem? hd)).2]
      rfl
    rintro σ H2 ⟨s2, v5, v6, v7, rfl⟩
    -- the places, and the places behind each dig
    have hP := B1.P
    cases hP with
    | tup pS pA =>
    rename_i pvs
    refine ⟨_, rfl, pa, pvs, rfl, .inr (Same.tup s2 pS), fun l0 hl0 => ⟨by show 1 ≤ sizeLine; decide, fun L hL => ?_⟩⟩
    have hn0 : L ≠ l0 := fun e => by rw [e, upd_same] at hL; cases hL
    have hL2 : H2 L = none := by rwa [upd_ne hn0] at hL
    have s0 : Same H2 (upd (upd H2 l0 (.lst pvs)) L (.lst [.ref l0])) := (Same.new (Same.refl H2) hl0).trans (Same.new (Same.refl _) hL)
    have ll0 : LL K (upd (upd H2 l0 (.lst pvs)) L (.lst [.ref l0])) L (leftsOf r ps ds 0) := by
      refine ⟨[l0], upd_same, rfl, fun i l hl => ?_⟩
      have hi : i = 0 := by
        have := (List.getElem?_eq_some_iff.mp hl).1
        rw [leftsOf_len] at this
        omega
      subst hi
      obtain rfl : ps = l := Option.some.inj hl
      exact ⟨l0, pvs, rfl, hn0.symm, by rw [upd_ne hn0.symm, upd_same], Same.dpAll s0 (Same.dpAll s2 pA)⟩
    generalize upd (upd H2 l0 (.lst pvs)) L (.lst [.ref l0]) = H3 at s0 ll0 ⊢
    have s03 := s2.trans s0
    clear hl0 hL
    refine ⟨_, rfl, da, rfl, ⟨_, Same.lst s03 hS⟩, for_list (K := K) (a := da) (xs := xs) (fun i σ H4 => Same H2 H4 ∧ LL K H4 L (leftsOf r ps ds i) ∧ ∃ v4 v7, σ = [some (.ref a), some (.ref pa), some (.ref ra), some (.ref da), v4, v5, v6, v7, some (.ref L), none])
      ⟨s0, ll0, _, _, rfl⟩ (fun i σ H4 _ q => Same.lst (s2.trans q.1) hS) ?_ ?_⟩
    · rintro i x σ H4 hx ⟨s4, ll, v4, v7, rfl⟩
      have s24 := s2.trans s4
      have hil : i < ds.length := by
        have := (List.getElem?_eq_some_iff.mp hx).1
        omega
      obtain ⟨d, t, ca, hd, rfl, hT, hC⟩ := dig hx
      have etk : ds.take (i + 1) = ds.take i ++ [d] := by rw [List.take_succ, hd]; rfl
      obtain ⟨as, e1, e2, e3⟩ := id ll.ex
      rw [leftsOf_len] at e2
      obtain ⟨la, ys, f1, f2, f3, f4⟩ := e3 i _ (leftsOf_at r ps ds (Nat.le_refl i))
      have hlast : atI (as.map V.ref) (-1) = some (V.ref la) := by
        have : as = as.take i ++ [la] := by
          have := List.take_succ (l := as) (i := i)
          rw [f1] at this
          rw [List.take_of_length_le (l := as) (i := i + 1) (by omega)] at this
          exact this
        rw [this, List.map_append]
        exact atI_last _ _
      refine ⟨t, _, rfl, Same.tup s24 hT, rfl, _, _, rfl, _, _, rfl, rfl, ?_⟩
      refine ⟨_, rfl, .inl ⟨rfl, _, .inl (.inl e1)⟩, ?_⟩
      refine ⟨_, rfl, ⟨1, rfl, L, _, -1, _, rfl, rfl, .inl (.inl e1), hlast, la, rfl, ⟨ys, .inl (.inl f3)⟩, fun D hD => ?_⟩⟩
      let fl (n : Nat) : List Cell := ((leftA r ps (ds.take i)).take n).filter fun p => decide (told r d.1 p = d.2)
      have lys := dpAll_len f4
      rw [List.length_map] at lys
      have hll := leftA_len r ps (ds.take i)
      have hpl := B.pl
      have hdl := B.dl
      refine lc_list (K := K) (a := la) (xs := ys) (fun j H5 => ∃ acc, H5 D = some (.lst acc) ∧ DpAll K H5 acc ((fl j).map cdp) ∧ Same H4 H5) ⟨[], upd_same, .nil, Same.new (Same.refl H4) hD⟩
        (fun j H5 _ q => by obtain ⟨_, _, _, q⟩ := q; exact .inl (.inl (q _ _ f3))) ?_ ?_
      · rintro j y H5 hy ⟨acc, g1, g2, g3⟩
        obtain ⟨p, hp, hpd⟩ := pdp_at f4 hy
        obtain ⟨pc, rfl, hpc⟩ := cell_at hpd
        have s25 := s24.trans g3
        have ef : fl (j + 1) = fl j ++ (if told r d.1 p = d.2 then [p] else []) := by
          show (List.take (j + 1) _).filter _ = (List.take j _).filter _ ++ _
          rw [List.take_succ, hp, List.filter_append]
          by_cases e : told r d.1 p = d.2
          · rw [if_pos e]; simp only [Option.toList_some, List.filter_cons, e, decide_true, if_true, List.filter_nil]
          · rw [if_neg e]; simp only [Option.toList_some, List.filter_cons, e, decide_false, Bool.false_eq_true, if_false, List.filter_nil]
        have la2 := dpAll_len g2
        rw [List.length_map] at la2
        have lfl : (fl j).length ≤ 1000 := by
          have := List.length_filter_le (fun p => decide (told r d.1 p = d.2)) ((leftA r ps (ds.take i)).take j)
          have h2 : ((leftA r ps (ds.take i)).take j).length ≤ (leftA r ps (ds.take i)).length := by rw [List.length_take]; omega
          show (List.filter _ _).length ≤ _
          omega
        refine ⟨rfl, ?_⟩
        refine ⟨_, rfl, _, rfl, _, rfl, ra, ca, pc, r, d.1, p, rfl, Same.tup s25 B1.R, Same.tup s25 hC, Same.tup g3 hpc, _, rfl, rfl, _, rfl, ?_⟩
        by_cases e : told r d.1 p = d.2
        · rw [if_pos e] at ef
          refine iteT' (by rw [e]; exact eqS _) ⟨_, rfl, acc, g1, Nat.lt_of_le_of_lt (show _ ≤ 1000 by omega) (by decide), acc ++ [.ref pc], upd_same, ?_, Same.updN g3 hD⟩
          rw [ef]
          refine pairs_other g1 ?_
          rw [List.map_append]
          exact dpAll_app g2 (.cons (cell_dp (Same.tup g3 hpc)) .nil)
        · rw [if_neg e, List.append_nil] at ef
          refine iteF' (neS e) ⟨acc, g1, ?_, g3⟩
          rw [ef]
          exact g2
      · rintro H5 ⟨acc, g1, g2, g3⟩
        have efl : fl ys.length = leftA r ps (ds.take (i + 1)) := by
          rw [etk, leftA_snoc]
          show (List.take _ _).filter _ = _
          rw [lys, List.take_length]
        rw [efl] at g2
        have hDL : D ≠ L := fun e => by rw [e, e1] at hD; cases hD
        refine nilArgs ⟨L, _, _, rfl, rfl, g3 _ _ e1, Nat.lt_of_le_of_lt (show _ ≤ 1001 by rw [List.length_map]; omega) (by decide), ?_⟩
        refine ⟨Same.updN (s4.trans g3) hL2, ?_, _, _, rfl⟩
        rw [leftsOf_succ]
        exact LL.push (g3 _ _ e1) (by rw [leftsOf_len]; exact e2) (fun n l hl => by
          obtain ⟨a1, a2, a3, a4, a5, a6⟩ := e3 n l hl
          exact ⟨a1, a2, a3, a4, g3 _ _ a5, Same.dpAll g3 a6⟩) g1 hDL g2
    · rintro σ H4 ⟨s4, ll, v4, v7, rfl⟩
      rw [lds] at ll
      exact ⟨_, rfl, k L H4 (s1.trans (s2.trans s4)) ll⟩
end
end Om

namespace Om
open PySem PySem.Spec PyProof.Rows L2 LamX
theorem cutV_tail (xs : List V) (h : 1 ≤ xs.length) : cutV xs (some 1) none = xs.drop 1 := by
  unfold cutV
  have e1 : HT.sIx xs.length 0 (some 1) = 1 := by
    have := HT.sIx_nat xs.length 0 1
    rw [Nat.min_eq_left h] at this
    exact this
  have e2 : HT.sIx xs.length xs.length none = xs.length := rfl
  rw [e1, e2]
  exact List.take_of_length_le (by rw [List.length_drop]; omega)
theorem firstW_some {r : Rl} {ps : List Cell} {ds : List Dig} {i : Nat} (h1 : i < ds.length) (h2 : (leftA r ps (ds.take (i + 1))).isEmpty = true) (h3 : ∀ j < i, (leftA r ps (ds.take (j + 1))).isEmpty = false) : firstW r ps ds = some i := by
  unfold firstW
  rw [List.find?_range_eq_some]
  refine ⟨h2, List.mem_range.mpr h1, fun j hj => ?_⟩
  rw [h3 j hj]
  rfl
theorem firstW_none {r : Rl} {ps : List Cell} {ds : List Dig} (h3 : ∀ j < ds.length, (leftA r ps (ds.take (j + 1))).isEmpty = false) : firstW r ps ds = none := by
  unfold firstW
  rw [List.find?_eq_none]
  intro j hj
  rw [h3 j (List.mem_range.mp hj)]
  exact Bool.false_ne_true
section
variable {P : Program} {w : World} {K : PySem.W.Frag} {mg : Str → Option Value} {base : Heap} {CI : Addr}
abbrev n4 : List Str := ["island", "places", "rule", "digs"]
theorem scLA : FnScope n4 n4 (defScope sLeftA) := ⟨rfl, rfl, rfl, by decide +kernel, rfl, by decide +kernel, by decide +kernel⟩
theorem ok_leftA {f : Addr} {fd : FuncData} (F : FnP K "left_after" "left_after" sLeftA f fd) (LB : Cal P w K mg base CX0 6 "_left_behind" n4 (spLeftB K CI)) : FnOk P w K mg base CX0 7 f fd n4 (spLeftA K CI) := by
  refine F.ok scLA (fun vs H Q E h => ?_) (fun cdv A outer s H vs Q E hr h => ?_)
  · obtain ⟨a, pa, ra, da, rows, ps, r, ds, rfl, _⟩ := h
    rfl
  · obtain ⟨a, pa, ra, da, rows, ps, r, ds, rfl, B, k⟩ := h
    refine ⟨_, PSs.nox (pss_one (ps_ret (pe_ix ix_list (pe_cal LB hr pass0 (pa_cons (pv 0) (pa_cons (pv 1) (pa_cons (pv 2) (pa_cons (pv 3) pa_nil))))) (pe_un un_neg pe_int) (fun _ _ => rfl)))), ?_⟩
    refine ⟨_, rfl, _, rfl, _, rfl, _, rfl, a, pa, ra, da, rows, ps, r, ds, rfl, B, fun L H1 s1 ll => ?_⟩
    obtain ⟨as, e1, e2, e3⟩ := ll.ex
    rw [leftsOf_len] at e2
    obtain ⟨la, ys, f1, f2, f3, f4⟩ := e3 _ _ (leftsOf_at r ps ds (Nat.le_refl ds.length))
    rw [List.take_length] at f4
    have hlast : atI (as.map V.ref) (-1) = some (V.ref la) := by
      have : as = as.take ds.length ++ [la] := by
        have := List.take_succ (l := as) (i := ds.length)
        rw [f1] at this
        rw [List.take_of_length_le (l := as) (i := ds.length + 1) (by omega)] at this
        exact this
      rw [this, List.map_append]
      exact atI_last _ _
    exact ⟨1, rfl, L, _, -1, _, rfl, rfl, .inl (.inl e1), hlast, k la H1 s1 (.lst (.inl (.inl f3)) f4)⟩
abbrev nFW : List Str := ["island", "places", "rule", "digs", "index", "left"]
theorem scFW : FnScope nFW n4 (defScope sFirstW) := ⟨rfl, rfl, rfl, by decide +kernel, rfl, by decide +kernel, by decide +kernel⟩
theorem ok_firstW {f : Addr} {fd : FuncData} (F : FnP K "first_wrong" "first_wrong" sFirstW f fd) (LB : Cal P w K mg base CX0 6 "_left_behind" n4 (spLeftB K CI)) (genum : mg "enumerate" = none) (glen : mg "len" = none) : FnOk P w K mg base CX0 7 f fd n4 (spFirstW K CI) := by
  refine F.ok scFW (fun vs H Q E h => ?_) (fun cdv A outer s H vs Q E hr h => ?_)
  · obtain ⟨a, pa, ra, da, rows, ps, r, ds, rfl, _⟩ := h
    rfl
  · obtain ⟨a, pa, ra, da, rows, ps, r, ds, rfl, B, k⟩ := h
    have nd := scFW.nd
    refine ⟨_, PSs.nox (pss_cons (ps_for PassesOwn.never rfl (pi_enum rfl genum (pa_cons (pe_slice sl_list (pe_cal LB hr pass0 (pa_cons (pv 0) (pa_cons (pv 1) (pa_cons (pv 2) (pa_cons (pv 3) pa_nil))))) (po_some pe_int) po_none) pa_nil)) (pg_tup rfl (pgs_cons (pg_name (i := 4) nd rfl (.inl rfl)) (pgs_cons (pg_name (i := 5) nd rfl (.inl rfl)) pgs_nil)))
        (pss_one (ps_if (pt_cmpR op_eq (pe_callB call_len_seq (by rfl) glen PySem.boot_len (pa_cons (pv 5) pa_nil)) pe_int (nomark _)) (pss_one (ps_ret (pv 4))) pss_nil)))
      (pss_one (ps_ret pe_non))), ?_⟩
    refine ⟨_, rfl, _, rfl, _, rfl, _, rfl, a, pa, ra, da, rows, ps, r, ds, rfl, B, fun L H1 s1 ll => ?_⟩
    obtain ⟨as, e1, e2, e3⟩ := ll.ex
    rw [leftsOf_len] at e2
    refine ⟨1, rfl, noPart ?_⟩
    refine ⟨L, _, rfl, .inl (.inl e1), fun S hS => ?_⟩
    rw [cutV_tail _ (by rw [List.length_map]; omega)]
    have s2 := Same.new (Same.refl H1) hS (o := .lst ((as.map V.ref).drop 1))
    have hS2 : (upd H1 S (.lst ((as.map V.ref).drop 1))) S = some (.lst ((as.map V.ref).drop 1)) := upd_same
    generalize upd H1 S (.lst ((as.map V.ref).drop 1)) = H2 at s2 hS2 ⊢
    have ln : ((as.map V.ref).drop 1).length = ds.length := by rw [List.length_drop, List.length_map]; omega
    refine nilArgs ⟨S, _, rfl, .inl (.inl hS2), for_it (walk_enumL (K := K) (a := S) (xs := (as.map V.ref).drop 1)) (fun i σ H3 => Same H2 H3 ∧ (∀ j < i, (leftA r ps (ds.take (j + 1))).isEmpty = false) ∧ ∃ v4 v5, σ = [some (.ref a), some (.ref pa), some (.ref ra), some (.ref da), v4, v5])
      ⟨Same.refl _, fun _ h => absurd h (Nat.not_lt_zero _), _, _, rfl⟩ (fun i σ H3 _ q => .inl (.inl (q.1 _ _ hS2))) ?_ ?_⟩
    · rintro i x σ H3 H4 hi ⟨s3, hne, v4, v5, rfl⟩ ⟨T, y, rfl, hT, rfl, hy⟩
      rw [ln] at hi
      have s4 := Same.new (Same.refl H3) hT (o := .tup [.int (i : Nat), y])
      obtain ⟨la, ys, f1, f2, f3, f4⟩ := e3 _ _ (leftsOf_at r ps ds (show i + 1 ≤ ds.length by omega))
      have hy2 : y = .ref la := by
        have hy : ((as.map V.ref).drop 1)[i]? = some y := hy
        rw [List.getElem?_drop, Nat.add_comm, List.getElem?_map, f1] at hy
        exact (Option.some.inj hy).symm
      subst hy2
      have lys := dpAll_len f4
      rw [List.length_map] at lys
      refine ⟨T, _, rfl, .inl (.inl upd_same), rfl, _, _, rfl, _, _, rfl, rfl, ?_⟩
      refine ⟨_, rfl, la, ys, rfl, .inl (.inl (.inl (s4 _ _ (s3 _ _ (s2 _ _ f3))))), rfl, _, rfl, ?_⟩
      have e : decide (V.int (ys.length : Nat) = V.int 0) = (leftA r ps (ds.take (i + 1))).isEmpty := by
        rw [lys, Bool.eq_iff_iff, decide_eq_true_eq, List.isEmpty_iff, ← List.length_eq_zero_iff]
        exact ⟨fun h => Int.ofNat.inj (V.int.inj h), fun h => by rw [h]; rfl⟩
      show (if decide (V.int (ys.length : Nat) = V.int 0) = true then _ else _)
      rw [e]
      refine ite2 (fun hz => ?_) (fun hz => ?_)
      · refine ⟨_, rfl, ?_⟩
        have kk := k _ (s1.trans (s2.trans (s3.trans s4)))
        rw [firstW_some hi hz hne] at kk
        exact kk
      · refine ⟨s3.trans s4, fun j hj => ?_, _, _, rfl⟩
        by_cases hji : j < i
        · exact hne j hji
        · obtain rfl : j = i := by omega
          exact Bool.eq_false_iff.mpr hz
    · rintro σ H3 ⟨s3, hne, v4, v5, rfl⟩
      rw [ln] at hne
      have kk := k _ (s1.trans (s2.trans s3))
      rw [firstW_none hne] at kk
      exact kk
end
end Om

namespace Om
open PySem PySem.Spec PyProof.Rows L2 LamX
/-! ### ''.join(..).replace(y, z) -/
section
variable {X : Cx} {e : Expr} {te : TE} {a y z : Str} {i j k : Nat} {cp c0 c1 apos pos apos1 pos1 : Pos}
theorem pe_joinRepl (he : PE X e te) (hyz : (y == z) = false) (hs1 : starEach [e] X.env = [(false, eval e X.env)] := by rfl)
    (hst : starEach [.Constant (.str y) j c0, .Constant (.str z) k c1] X.env = [(false, eval (.Constant (.str y) j c0) X.env), (false, eval (.Constant (.str z) k c1) X.env)] := by rfl)
    (hb1 : attributeBase (.Constant (.str a) i cp) "join" X.env (eval (.Constant (.str a) i cp) X.env) = eval (.Constant (.str a) i cp) X.env := by rfl) (hl1 : (apos1.endLine == pos1.line) = true := by rfl)
    (hb2 : attributeBase (.Call (.Attribute (.Constant (.str a) i cp) "join" apos1) [e] [] pos1) "replace" X.env (eval (.Call (.Attribute (.Constant (.str a) i cp) "join" apos1) [e] [] pos1) X.env) = eval (.Call (.Attribute (.Constant (.str a) i cp) "join" apos1) [e] [] pos1) X.env := by rfl) (hl2 : (apos.endLine == pos.line) = true := by rfl) :
    PE X (.Call (.Attribute (.Call (.Attribute (.Constant (.str a) i cp) "join" apos1) [e] [] pos1) "replace" apos) [.Constant (.str y) j c0, .Constant (.str z) k c1] [] pos)
      (fun σ H Q => te σ H fun v H1 => rJoin X.K (.str a) [v] H1 fun v2 H2 => ∃ x, v2 = .str x ∧ x.length + (x.length + 1) * z.length ≤ 16777216 ∧ Q (.str (Txt.replace x y z)) H2) := by
  refine ⟨fun pins s σ H Q I h => ?_⟩
  refine PySem.Call_method2 hb2 hst hl2 (wpAny_mono (Q := fun v s1 => 1 ≤ s1.toks ∧ EP X pins σ (fun v2 H2 => ∃ x, v2 = .str x ∧ x.length + (x.length + 1) * z.length ≤ 16777216 ∧ Q (.str (Txt.replace x y z)) H2) v s1) ?_ (fun v s1 q => ?_) fun _ _ z => z)
  · refine PySem.Call_method1 hb1 hs1 hl1 (Calls.Constant_str ?_)
    refine ⟨"str", _, F.plainAttrs_str, F.slot_str_join, F.type_str_join, typeIs_str _ _ _, (fun _ e => nomatch e), ?_⟩
    refine wpAny_mono (wpAny_toks_of (n := 1) (Q := EP X pins σ (fun v2 H2 => ∃ x, v2 = .str x ∧ x.length + (x.length + 1) * z.length ≤ 16777216 ∧ Q (.str (Txt.replace x y z)) H2)) (E := X.xe) (Nat.le_add_left 1 s.toks) ?_) (fun _ _ z => z) (fun _ _ z => z.2)
    refine Calls.callWith_builtin rfl (Calls.evalArgs_plain (Calls.spliced_cons ?_))
    exact thn (he.run pins _ σ H _ (I.tok _) h) fun u s2 ⟨yv, H2, I2, r2, q2⟩ => Calls.spliced_nil (mt_join pins s2 σ H2 (.str a) [yv] _ [u] _ I2 ⟨_, rfl⟩ (.cons r2 .nil) q2)
  · obtain ⟨hk, v', H1, I1, r1, x, e1, hb, q⟩ := q
    subst e1
    obtain ⟨tk, e2⟩ := r1
    subst e2
    refine ⟨"str", _, F.plainAttrs_str, F.slot_str_replace, F.type_str_replace, typeIs_str _ _ _, (fun _ e => nomatch e), Calls.callWith_builtin rfl (Calls.evalArgs_plain (Calls.spliced_cons ?_))⟩
    refine Calls.Constant_str (Calls.spliced_cons (Calls.Constant_str (Calls.spliced_nil ?_)))
    exact PySem.SC.replace (by show s1.toks ≠ 0; omega) (by show s1.toks + 1 ≠ 0; omega) (by show s1.toks ≠ s1.toks + 1; omega) hyz hb fun t' k => ⟨.str (Txt.replace x y z), H1, I1.tok k, ⟨t', rfl⟩, q⟩
end
theorem replL_drop1 (l : List Nat) : PySem.StrLaws.replL [126] [] l = l.filter fun c => !decide (c = 126) := by
  induction l with
  | nil => exact PySem.StrLaws.replL_nil
  | cons c r ih =>
    by_cases h : c = 126
    · subst h
      rw [PySem.StrLaws.replL_hit (by simp) (by simp)]
      simp only [List.nil_append, List.length_cons, List.length_nil, List.drop_succ_cons, List.drop_zero, ih]
      simp
    · rw [PySem.StrLaws.replL_miss (by simp; exact h), ih]
      simp [h]
theorem join_rows : ∀ rows : List (List Nat), Str.join ⟨#[]⟩ (rows.map tx) = tx rows.flatten
  | [] => rfl
  | [r] => by show tx r = tx ([r].flatten); simp
  | r :: d :: q => by
    have ih := join_rows (d :: q)
    show tx r ++ (⟨#[]⟩ : Str) ++ Str.join ⟨#[]⟩ ((d :: q).map tx) = tx (r :: d :: q).flatten
    rw [ih]
    have e0 : (⟨#[]⟩ : Str) = tx [] := rfl
    rw [e0, tx_app, tx_app, List.append_nil]
    rfl
theorem sum_tx (rows : List (List Nat)) : ((rows.map tx).map (·.length)).sum = rows.flatten.length := by
  induction rows with
  | nil => rfl
  | cons a r ih => simp only [List.map_cons, List.sum_cons, ih, tx_len, List.flatten_cons, List.length_append]
theorem wavy : Str.ofString "~" = tx [126] := by decide +kernel
theorem repl_rows (cs : List Nat) : Txt.replace (tx cs) (Str.ofString "~") (⟨#[]⟩ : Str) = tx (cs.filter fun c => !decide (c = 126)) := by
  have e := PySem.StrLaws.replace_list (x := tx cs) (y := Str.ofString "~") (z := (⟨#[]⟩ : Str)) (by decide +kernel)
  rw [tx_cps, wavy, tx_cps, show (⟨#[]⟩ : Str).cps.toList = [] from rfl, replL_drop1] at e
  rw [wavy, ← of_tx (Txt.replace _ _ _), e]
/-! ### a text of some signs, some times -/
def rMulS1 : R2 := fun x y H Q => ∃ (cs : List Nat) (k : Int), x = .str (tx cs) ∧ y = .int k ∧ cs ≠ [] ∧ cs.length ≤ 1000 ∧ 1 ≤ k ∧ k ≤ 1000 ∧ Q (.str (tx (List.replicate k.toNat cs).flatten)) H
theorem op_mulS1 {X : Cx} : OpR X (binaryOp .Mult) rMulS1 := by
  rintro pins s σ H x y v u Q I rx ry ⟨cs, k, rfl, rfl, hne, hl, h2, h3, q⟩
  by_cases hk2 : 2 ≤ k
  · exact op_mulS pins s σ H _ _ v u Q I rx ry ⟨cs, k, rfl, rfl, hne, hl, hk2, h3, q⟩
  · obtain rfl : k = 1 := by omega
    have eq1 : (List.replicate (1 : Int).toNat cs).flatten = cs := by
      show (List.replicate 1 cs).flatten = cs
      simp
    rw [eq1] at q
    obtain ⟨t, rfl⟩ := rx
    obtain ⟨t', rfl⟩ := ry
    have hm : (tx cs).length * (1 : Int).toNat ≤ 1000000 := by
      rw [tx_len]
      show cs.length * 1 ≤ _
      omega
    refine PySem.P.mul_str ?_ (fun _ _ => ?_) (fun _ _ => ?_) ?_
    · rfl
    · rw [tx_len]
      omega
    · refine decide_eq_false (show ¬ (tx cs).length * (1 : Int).toNat > sizeLine from Nat.not_lt.mpr (Nat.le_trans hm (by decide)))
    · rw [if_neg (by omega), if_pos (by rfl)]
      exact ⟨.str (tx cs), H, I, ⟨_, rfl⟩, q⟩
end Om

namespace Om
open PySem PySem.Spec PyProof.Rows L2 LamX
abbrev sLRows : Stmt := top 39
def spLRows (K : PySem.W.Frag) : Sp := fun vs H Q _ => ∃ (b l : Addr) (m : Nat), vs = [.ref b, .int (m : Nat)] ∧ Bx H b l ∧ 1 ≤ m ∧ m ≤ 12 ∧
  ∀ (p : Addr) (rows : List (List Nat)) (H' : Hp), RowsOk m rows → cellsOf rows ≠ [] → SqT K H' p (rows.map vt) → Bx H' b l → Kp b l H H' → Q (.ref p) H'
def eightC : List Nat := [46, 46, 46, 126, 46, 65, 66, 84]
theorem eight_eq : [V.str (Str.ofString "."), V.str (Str.ofString "."), V.str (Str.ofString "."), V.str (Str.ofString "~"), V.str (Str.ofString "."), V.str (Str.ofString "A"), V.str (Str.ofString "B"), V.str (Str.ofString "T")] = eightC.map fun c => vt [c] := by
  rw [show Str.ofString "." = tx [46] from by decide +kernel, show Str.ofString "~" = tx [126] from by decide +kernel, show Str.ofString "A" = tx [65] from by decide +kernel, show Str.ofString "B" = tx [66] from by decide +kernel, show Str.ofString "T" = tx [84] from by decide +kernel]
  rfl
theorem eight_ok : ∀ c ∈ eightC, okSign c := by
  intro c hc
  unfold eightC at hc
  simp only [List.mem_cons, List.not_mem_nil, or_false] at hc
  unfold okSign
  omega
theorem cells_ne {rows : List (List Nat)} {r : List Nat} {c : Nat} (h1 : r ∈ rows) (h2 : c ∈ r) (h3 : c ≠ 126) : cellsOf rows ≠ [] := by
  obtain ⟨i, hi, rfl⟩ := List.mem_iff_getElem.mp h1
  obtain ⟨j, hj, rfl⟩ := List.mem_iff_getElem.mp h2
  have e : rows.getD i [] = rows[i] := by rw [List.getD_eq_getElem?_getD, List.getElem?_eq_getElem hi, Option.getD_some]
  have e2 : rows[i].getD j 0 = rows[i][j] := by rw [List.getD_eq_getElem?_getD, List.getElem?_eq_getElem hj, Option.getD_some]
  have : (i, j) ∈ cellsOf rows := (cells_mem rows i j).mpr ⟨hi, by rw [e]; exact hj, by unfold sg2; rw [e, e2]; exact h3⟩
  exact List.ne_nil_of_mem this
section
variable {P : Program} {w : World} {K : PySem.W.Frag} {mg : Str → Option Value} {base : Heap}
abbrev nLR : List Str := ["_law_h", "_law_most", "_law_high", "_law_wide", "_law_found", "_law_row", "_law_column"]
theorem scLR : FnScope nLR ["_law_h", "_law_most"] (defScope sLRows) := ⟨rfl, rfl, rfl, by decide +kernel, rfl, by decide +kernel, by decide +kernel⟩
def callArg0 (e : Expr) : Expr := match e with
  | .Call _ [e] _ _ => e
  | _ => .Constant .none 0 ⟨0, 0, 0, 0⟩
def lrLc : Expr := callArg0 (callArg (inFor ((defBody sLRows).getD 2 noS) 0))
theorem blkLR : BlkOk nLR (defScope sLRows) (lcScope lrLc) [("_law_column", 6)] := blkOk_by (by decide +kernel)
theorem ok_lrows {f : Addr} {fd : FuncData} (F : FnP K "_law_rows" "_law_rows" sLRows f fd) (NX : Cal P w K mg base CX0 1 "_law_next" ["_law_h", "_law_limit"] spNext) (grange : mg "range" = none) (gtuple : mg "tuple" = none) :
    FnOk P w K mg base CX0 2 f fd ["_law_h", "_law_most"] (spLRows K) := by
  refine F.ok scLR (fun vs H Q E h => ?_) (fun cdv A outer s H vs Q E hr h => ?_)
  · obtain ⟨b, l, m, rfl, _⟩ := h
    rfl
  · obtain ⟨b, l, m, rfl, B, hm0, hm1, k⟩ := h
    have nd := scLR.nd
    refine ⟨_, PSs.nox (pss_cons (ps_par (i := 2) (j := 3) rfl nd rfl rfl (by decide) rfl rfl (pa_cons (pe_op op_add pe_int (pe_cal NX hr pass0 (pa_cons (pv 0) (pa_cons (pv 1) pa_nil)))) (pa_cons (pe_op op_add pe_int (pe_cal NX hr pass0 (pa_cons (pv 0) (pa_cons (pv 1) pa_nil)))) pa_nil)) rfl)
      (pss_cons (ps_set (i := 4) nd rfl (.inl rfl) (pe_lst pa_nil))
      (pss_cons (ps_for PassesOwn.never rfl (pi_range1 rfl grange (pa_cons (pv 2) pa_nil)) (pg_name (i := 5) nd rfl (.inl rfl)) (pss_one (ps_expr (pe_bm PySem.F.plainAttrs_list PySem.F.slot_list_append PySem.F.type_list_append mt_append (pv 4) (pa_cons
          (pe_joinK pe_str (pe_lc (own := [("_law_column", 6)]) (g := gName 6) rfl nd (pi_range1 rfl grange (pa_cons (pv 3) pa_nil)) blkLR (fun _ _ _ _ _ => pg_name (i := 6) nd rfl (.inl rfl)) (fun _ _ _ _ _ => pts_nil) (fun _ _ _ _ _ =>
            pe_ix (ixlK (K := K) rfl) (pe_lst (pa_cons pe_str (pa_cons pe_str (pa_cons pe_str (pa_cons pe_str (pa_cons pe_str (pa_cons pe_str (pa_cons pe_str (pa_cons pe_str pa_nil))))))))) (pe_cal NX hr pass0 (pa_cons (pv 0) (pa_cons pe_int pa_nil))) (fun _ _ => rfl)))) pa_nil)))))
      (pss_one (ps_ret (pe_ifExp (pt_cmpR op_ne (pe_joinRepl (pv 4) (by decide +kernel)) pe_str (nomark _)) (pe_callTy call_tuple_of (by rfl) gtuple (by decide +kernel) (pa_cons (pv 4) pa_nil))
        (pe_op op_catA (pe_tup (pa_cons (pe_op op_mulS1 pe_str (pv 3)) pa_nil)) (pe_callTy call_tuple_of (by rfl) gtuple (by decide +kernel) (pa_cons (pe_slice sl_list (pv 4) (po_some pe_int) po_none) pa_nil))))))))), ?_⟩
    refine ⟨_, rfl, _, rfl, b, l, _, rfl, B, by omega, by omega, fun n1 H1 a1 a2 B1 K1 => ⟨_, _, rfl, rfl, ?_⟩⟩
    refine ⟨_, rfl, _, rfl, b, l, _, rfl, B1, by omega, by omega, fun n2 H3 b1 b2 B3 K2 => ⟨_, _, rfl, rfl, _, _, rfl, ?_⟩⟩
    have K3 := K1.trans K2
    refine ⟨by show 0 ≤ sizeLine; decide, fun Fo hFo => ?_⟩
    obtain ⟨Fb, Fl⟩ := B3.new hFo
    have s4 := Same.new (Same.refl H3) hFo (o := .lst [])
    have hF0 : H Fo = none := by
      cases hh : H Fo with
      | none => rfl
      | some o =>
        have := K3 _ _ hh Fb Fl
        rw [hFo] at this
        cases this
    -- the rows
    have hwd : (1 + n2).toNat ≤ m := by omega
    refine ⟨_, rfl, _, rfl, by omega, by omega, for_range (lo := 0) (n := (1 + n1).toNat) (fun j σ H' => (∃ v5, σ = [some (.ref b), some (.int (m : Nat)), some (.int (1 + n1)), some (.int (1 + n2)), some (.ref Fo), v5, none]) ∧ ∃ rows : List (List Nat), rows.length = j ∧ (∀ r ∈ rows, r.length = (1 + n2).toNat ∧ ∀ c ∈ r, okSign c) ∧ H' Fo = some (.lst (rows.map vt)) ∧ Bx H' b l ∧ Kp b l H H')
      ⟨⟨_, rfl⟩, [], rfl, by simp, upd_same, B3.same s4, K3.trans (Kp.of s4)⟩ ?_ ?_⟩
    · rintro j σ H' hj ⟨⟨v5, rfl⟩, rows, e1, e2, e3, B5, K5⟩
      refine ⟨_, rfl, .inl ⟨rfl, _, .inl (.inl e3)⟩, ?_⟩
      refine ⟨⟨_, rfl⟩, _, rfl, _, rfl, by omega, by omega, fun D2 hD2 => lc_range (lo := 0) (n := (1 + n2).toNat) (fun i H6 => ∃ cs : List Nat, cs.length = i ∧ (∀ c ∈ cs, okSign c) ∧ H6 D2 = some (.lst (cs.map fun c => vt [c])) ∧ Bx H6 b l ∧ Kp b l H' H6)
        ⟨[], rfl, by simp, upd_same, B5.same (Same.new (Same.refl _) hD2), Kp.of (Same.new (Same.refl _) hD2)⟩ ?_ ?_⟩
      · rintro i H6 hi ⟨cs, f1, f2, f3, B6, K6⟩
        obtain ⟨nb2, nl2⟩ := B5.new hD2
        refine ⟨rfl, tyes ?_⟩
        refine ⟨by show 8 ≤ sizeLine; decide, fun q hq => ?_⟩
        obtain ⟨qb, ql⟩ := B6.new hq
        rw [eight_eq]
        have s7 := Same.new (Same.refl H6) hq (o := .lst (eightC.map fun c => vt [c]))
        refine ⟨_, rfl, b, l, 8, rfl, B6.same s7, by decide, by decide, fun n H7 g1 g2 B7 K7 => ?_⟩
        obtain ⟨v, hv, hm⟩ := atI_of (xs := eightC.map fun c => vt [c]) g1 (by show n < ((8 : Nat) : Int); omega)
        obtain ⟨c, hc, rfl⟩ := List.mem_map.mp hm
        refine ⟨q, _, n, _, rfl, rfl, .inl (.inl (K7 q _ upd_same qb ql)), hv, ?_⟩
        have f4 := K7 D2 _ (s7 _ _ f3) nb2 nl2
        refine ⟨_, f4, ?_, cs ++ [c], by simp [f1], ?_, ?_, B7.updL nb2 nl2, ?_⟩
        · rw [List.length_map, f1]
          exact Nat.lt_of_lt_of_le hi (Nat.le_trans hwd (Nat.le_trans hm1 (by decide)))
        · intro c' hc'
          rcases List.mem_append.mp hc' with h | h
          · exact f2 c' h
          · rw [List.mem_singleton.mp h]; exact eight_ok c hc
        · rw [upd_same, List.map_append]; rfl
        · exact Kp.updL ((K6.trans (Kp.of s7)).trans K7) hD2
      · rintro H6 ⟨cs, f1, f2, f3, B6, K6⟩
        refine ⟨_, D2, cs.map fun c => tx [c], rfl, rfl, .inl (.inl (.inl (by rw [f3, List.map_map]; rfl))), ?_, ?_⟩
        · rw [empty_tx]
          have e5 : ∀ l : List Nat, ((l.map fun c => tx [c]).map (·.length)).sum = l.length := by
            intro l
            induction l with
            | nil => rfl
            | cons a r ih => simp only [List.map_cons, List.sum_cons, ih, tx_len, List.length_cons, List.length_nil]; omega
          rw [e5]
          show cs.length + _ * 0 ≤ _
          omega
        · rw [empty_tx, TL.join_eq, join_tx]
          have f4 := K6 Fo _ e3 Fb Fl
          refine nilArgs ⟨Fo, _, _, rfl, rfl, f4, ?_, ?_⟩
          · rw [List.length_map, e1]
            exact Nat.lt_of_lt_of_le hj (Nat.le_trans (show (1 + n1).toNat ≤ 12 by omega) (by decide))
          · refine ⟨⟨_, rfl⟩, rows ++ [cs], by simp [e1], ?_, ?_, B6.updL Fb Fl, Kp.updL (K5.trans K6) hF0⟩
            · intro r hr'
              rcases List.mem_append.mp hr' with h | h
              · exact e2 r h
              · rw [List.mem_singleton.mp h]; exact ⟨f1, f2⟩
            · rw [upd_same, List.map_append]; rfl
    · rintro σ H' ⟨⟨v5, rfl⟩, rows, e1, e2, e3, B5, K5⟩
      have hne : rows ≠ [] := fun e => by rw [e] at e1; simp at e1; omega
      have lsum : ∀ rs : List (List Nat), (∀ r ∈ rs, r.length ≤ 12) → rs.flatten.length ≤ rs.length * 12 := by
        intro rs
        induction rs with
        | nil => intro _; exact Nat.zero_le _
        | cons a r ih =>
          intro h
          have h1 := h a (List.mem_cons_self ..)
          have h2 := ih fun x hx => h x (List.mem_cons_of_mem _ hx)
          rw [List.flatten_cons, List.length_append, List.length_cons]
          omega
      have hfl : rows.flatten.length ≤ 144 := by
        have := lsum rows fun r hr' => by have := (e2 r hr').1; omega
        omega
      refine ⟨_, rfl, _, Fo, rows.map tx, rfl, rfl, .inl (.inl (.inl (by rw [e3, List.map_map]; rfl))), ?_, ?_⟩
      · rw [sum_tx, empty_tx]
        show rows.flatten.length + _ * 0 ≤ _
        omega
      rw [empty_tx, TL.join_eq, join_rows]
      refine ⟨_, rfl, ?_, ?_⟩
      · rw [tx_len]
        show rows.flatten.length + (rows.flatten.length + 1) * 0 ≤ _
        omega
      rw [repl_rows]
      refine ⟨rfl, _, rfl, ?_⟩
      by_cases hz : (rows.flatten.filter fun c => !decide (c = 126)) = []
      · refine iteF' ?_ ?_
        · rw [hz]
          decide +kernel
        refine ⟨_, rfl, [46], _, (by rw [show Str.ofString "." = tx [46] from by decide +kernel]), rfl, by simp, by decide, by omega, by omega, by show 1 ≤ sizeLine; decide, fun t1 ht1 => ?_⟩
        have ew : (List.replicate (1 + n2).toNat [46]).flatten = List.replicate (1 + n2).toNat 46 := by
          induction (1 + n2).toNat with
          | zero => rfl
          | succ n ih => rw [List.replicate_succ, List.flatten_cons, ih, List.replicate_succ]; rfl
        rw [ew]
        have s6 := Same.new (Same.refl H') ht1 (o := .tup [vt (List.replicate (1 + n2).toNat 46)])
        refine ⟨_, rfl, 1, rfl, noPart ⟨Fo, _, rfl, .inl (.inl (s6 _ _ e3)), fun S hS => nilArgs ?_⟩⟩
        rw [cutV_tail _ (by rw [List.length_map]; omega)]
        refine ⟨S, _, rfl, .inl ⟨.inl (.inl upd_same), fun t2 ht2 => ?_⟩⟩
        have s7 := Same.new (Same.refl _) hS (o := .lst ((rows.map vt).drop 1))
        have s8 := Same.new (Same.refl _) ht2 (o := .tup ((rows.map vt).drop 1))
        refine catA_read (xs := [vt (List.replicate (1 + n2).toNat 46)]) (ys := (rows.map vt).drop 1) (.inl (.inl (s8 _ _ (s7 _ _ upd_same)))) (.inl (.inl upd_same)) (Nat.le_trans (show _ ≤ 100 by rw [List.length_drop, List.length_map]; simp; omega) (by decide)) fun p2 H2' s9 hp2 => ?_
        have sall := ((s6.trans s7).trans s8).trans s9
        refine k p2 (List.replicate (1 + n2).toNat 46 :: rows.drop 1) H2' ⟨by simp, by simp; omega, (1 + n2).toNat, by omega, by omega, ?_⟩ ?_ ?_ (B5.same sall) (K5.trans (Kp.of sall))
        · intro r hr'
          rcases List.mem_cons.mp hr' with h | h
          · subst h
            exact ⟨List.length_replicate, fun c hc => by rw [List.eq_of_mem_replicate hc]; exact .inl rfl⟩
          · exact e2 r (List.mem_of_mem_drop h)
        · refine cells_ne (List.mem_cons_self ..) (c := 46) ?_ (by decide)
          rw [List.mem_replicate]
          exact ⟨by omega, rfl⟩
        · rw [List.map_cons, List.map_drop]
          exact hp2
      · obtain ⟨c, hc⟩ := List.exists_mem_of_ne_nil _ hz
        rw [List.mem_filter, List.mem_flatten] at hc
        obtain ⟨⟨r, hr1, hr2⟩, hc3⟩ := hc
        refine iteT' ?_ ?_
        · have e : decide (V.str (tx (rows.flatten.filter fun c => !decide (c = 126))) = V.str (⟨#[]⟩ : Str)) = false := neS fun e => hz (tx_inj (e.trans (show (⟨#[]⟩ : Str) = tx [] from rfl)))
          show (!decide (V.str (tx (rows.flatten.filter fun c => !decide (c = 126))) = V.str (⟨#[]⟩ : Str))) = true
          rw [e]
          rfl
        refine ⟨_, rfl, Fo, _, rfl, .inl ⟨.inl (.inl e3), fun t ht => ?_⟩⟩
        have s6 := Same.new (Same.refl H') ht (o := .tup (rows.map vt))
        exact k t rows _ ⟨by omega, by omega, (1 + n2).toNat, by omega, by omega, e2⟩ (cells_ne hr1 hr2 (by simpa using hc3)) (.inl (.inl upd_same)) (B5.same s6) (K5.trans (Kp.of s6))
end
end Om

namespace Om
open PySem PySem.Spec PyProof.Rows L2 LamX
theorem ixtK {X : Cx} {K : PySem.W.Frag} (hK : X.K = K) : IxR X (rIxT K) := by
  subst hK
  exact ix_tup
/-! ### cells that stand in the heap -/
abbrev TC := List (Addr × Cell)
def CA (H : Hp) (t : TC) : Prop := ∀ p ∈ t, H p.1 = some (.tup (cvs p.2))
def vz (t : TC) : List V := t.map fun p => V.ref p.1
def cz (t : TC) : List Cell := t.map fun p => p.2
theorem CA.nil {H : Hp} : CA H [] := fun p hp => by cases hp
theorem CA.same {H H' : Hp} {t : TC} (h : CA H t) (s : Same H H') : CA H' t := fun p hp => s _ _ (h p hp)
theorem CA.updL {H : Hp} {D : Addr} {ys zs : List V} {t : TC} (h : CA H t) (hD : H D = some (.lst ys)) : CA (upd H D (.lst zs)) t := fun p hp => by
  rw [upd_ne (ne_of (h p hp) hD fun e => by cases e)]
  exact h p hp
theorem CA.kp {H H' : Hp} {b l : Addr} {t : TC} (h : CA H t) (B : Bx H b l) (k : Kp b l H H') : CA H' t := fun p hp => by
  obtain ⟨ns, z, _, h1, h2, _⟩ := B.ex
  exact k _ _ (h p hp) (ne_of (h p hp) h1 fun e => by cases e) (ne_of (h p hp) h2 fun e => by cases e)
theorem CA.app {H : Hp} {t u : TC} (h1 : CA H t) (h2 : CA H u) : CA H (t ++ u) := fun p hp => (List.mem_append.mp hp).elim (h1 p) (h2 p)
theorem CA.one {H : Hp} {a : Addr} {c : Cell} (h : H a = some (.tup (cvs c))) : CA H [(a, c)] := fun p hp => by
  rw [List.mem_singleton] at hp
  subst hp
  exact h
theorem CA.dp {K : PySem.W.Frag} {H : Hp} : ∀ {t : TC}, CA H t → DpAll K H (vz t) ((cz t).map cdp)
  | [], _ => .nil
  | p :: t, h => .cons (cell_dp (.inl (.inl (h p (List.mem_cons_self ..))))) (CA.dp fun q hq => h q (List.mem_cons_of_mem _ hq))
theorem vz_len (t : TC) : (vz t).length = t.length := List.length_map ..
theorem cz_len (t : TC) : (cz t).length = t.length := List.length_map ..
theorem vz_app (t u : TC) : vz (t ++ u) = vz t ++ vz u := List.map_append
theorem cz_app (t u : TC) : cz (t ++ u) = cz t ++ cz u := List.map_append
theorem vz_of {xs : List V} {t : TC} (h : ∀ x ∈ xs, x ∈ vz t) : ∃ u : TC, xs = vz u ∧ ∀ p ∈ u, p ∈ t := by
  induction xs with
  | nil => exact ⟨[], rfl, fun p hp => by cases hp⟩
  | cons x r ih =>
    obtain ⟨u, e, hu⟩ := ih fun y hy => h y (List.mem_cons_of_mem _ hy)
    obtain ⟨p, hp, rfl⟩ := List.mem_map.mp (h x (List.mem_cons_self ..))
    refine ⟨p :: u, by rw [e]; rfl, fun q hq => ?_⟩
    rcases List.mem_cons.mp hq with rfl | hq
    · exact hp
    · exact hu q hq
abbrev sLCells : Stmt := top 40
abbrev sLRule : Stmt := top 41
abbrev sLSome : Stmt := top 42
def spLCells (K : PySem.W.Frag) : Sp := fun vs H Q _ => ∃ (a : Addr) (rows : List (List Nat)), vs = [.ref a] ∧ SqT K H a (rows.map vt) ∧ Vd rows ∧ ∀ v t H', Same H H' → H' v = some (.lst (vz t)) → CA H' t → cz t = cellsOf rows → Q (.ref v) H'
def spLRule (K : PySem.W.Frag) : Sp := fun vs H Q _ => ∃ b l : Addr, vs = [.ref b] ∧ Bx H b l ∧ ∀ (a : Addr) (r : Rl) (H' : Hp), r.Ok → SqT K H' a r.vs → Bx H' b l → Kp b l H H' → Q (.ref a) H'
def spLSome : Sp := fun vs H Q _ => ∃ (b l ca : Addr) (t : TC) (m : Nat), vs = [.ref b, .ref ca, .int (m : Nat)] ∧ Bx H b l ∧ H ca = some (.lst (vz t)) ∧ CA H t ∧ t.length ≤ 1000 ∧ m ≤ 100 ∧
  ∀ (p : Addr) (u : TC) (H' : Hp), H' p = some (.tup (vz u)) → CA H' u → (∀ q ∈ u, q.2 ∈ cz t) → u.length ≤ m → Bx H' b l → Kp b l H H' → Q (.ref p) H'
section
variable {P : Program} {w : World} {K : PySem.W.Frag} {mg : Str → Option Value} {base : Heap}
abbrev nLC : List Str := ["_law_rows_here", "_law_found", "_law_row", "_law_column"]
theorem scLC : FnScope nLC ["_law_rows_here"] (defScope sLCells) := ⟨rfl, rfl, rfl, by decide +kernel, rfl, by decide +kernel, by decide +kernel⟩
def binR (e : Expr) : Expr := match e with
  | .BinOp _ _ e _ => e
  | _ => .Constant .none 0 ⟨0, 0, 0, 0⟩
def lcLc : Expr := binR (asgExpr (inFor ((defBody sLCells).getD 1 noS) 0))
theorem blkLC : BlkOk nLC (defScope sLCells) (lcScope lcLc) [("_law_column", 3)] := blkOk_by (by decide +kernel)
theorem ok_lcells {f : Addr} {fd : FuncData} (F : FnP K "_law_cells" "_law_cells" sLCells f fd) (grange : mg "range" = none) (glen : mg "len" = none) : FnOk P w K mg base CX0 1 f fd ["_law_rows_here"] (spLCells K) := by
  refine F.ok scLC (fun vs H Q E h => ?_) (fun cdv A outer s H vs Q E hr h => ?_)
  · obtain ⟨a, rows, rfl, _⟩ := h
    rfl
  · obtain ⟨a, rows, rfl, hS, g, k⟩ := h
    have nd := scLC.nd
    refine ⟨_, PSs.nox (pss_cons (ps_set (i := 1) nd rfl (.inl rfl) (pe_lst pa_nil))
      (pss_cons (ps_for PassesOwn.never rfl (pi_range1 rfl grange (pa_cons (pe_callB call_len_seq (by rfl) glen PySem.boot_len (pa_cons (pv 0) pa_nil)) pa_nil)) (pg_name (i := 2) nd rfl (.inr rfl)) (pss_one (ps_set (i := 1) nd rfl (.inl rfl) (pe_op op_cat (pv 1)
          (pe_lc (own := [("_law_column", 3)]) (g := gName 3) rfl nd (pi_range1 rfl grange (pa_cons (pe_callB call_len_str (by rfl) glen PySem.boot_len (pa_cons (pe_ix ix_tup (pv 0) pe_int (fun _ _ => rfl)) pa_nil)) pa_nil)) blkLC (fun _ _ _ _ _ => pg_name (i := 3) nd rfl (.inl rfl)) (fun _ _ _ _ _ => pts_one (pt_cmpR op_ne (pe_ix ix_str (pe_ix (ixtK (K := K) rfl) (pv 0) (pv 2) (fun _ _ => rfl)) (pv 3) (fun _ _ => rfl)) pe_str (nomark _)))
            (fun _ _ _ _ _ => pe_tup (pa_cons (pv 2) (pa_cons (pv 3) pa_nil))))))))
      (pss_one (ps_ret (pv 1))))), ?_⟩
    have hne := g.ne
    have hh := g.hgt
    have at00 : atI (rows.map vt) 0 = some (vt (rows.headD [])) := by
      cases rows with
      | nil => exact absurd rfl hne
      | cons r0 rs => exact at0
    have hr0 : (tx (rows.headD [])).length ≤ sizeLine := by
      rw [tx_len]
      cases rows with
      | nil => exact absurd rfl hne
      | cons r0 rs => exact small_le (by have := (g.wid r0 (List.mem_cons_self ..)).2; show r0.length ≤ _; omega)
    refine ⟨by show 0 ≤ sizeLine; decide, fun f0 hf0 => ?_⟩
    have s1 := Same.new (Same.refl H) hf0 (o := .lst [])
    refine ⟨_, rfl, a, _, rfl, .inr (Same.tup s1 hS), _, rfl, by omega, by rw [List.length_map]; omega, ?_⟩
    rw [List.length_map]
    refine for_range (lo := 0) (n := ((rows.length : Nat) : Int).toNat) (fun i σ H' => ∃ fo t v2, σ = [some (.ref a), some (.ref fo), v2, none] ∧ H' fo = some (.lst (vz t)) ∧ CA H' t ∧ cz t = cellsTo rows i ∧ Same H H')
      ⟨f0, [], _, rfl, upd_same, CA.nil, rfl, s1⟩ ?_ ?_
    · rintro i σ H8 hi' ⟨fo, t, v2, rfl, ha1, ha2, ha4, ha3⟩
      have hir : i < rows.length := by omega
      have hri : rows[i]? = some rows[i] := List.getElem?_eq_getElem hir
      have hmr : rows[i] ∈ rows := List.getElem_mem hir
      have hwr := g.rect _ hmr
      have eri : rows.getD i [] = rows[i] := by rw [List.getD_eq_getElem?_getD, hri, Option.getD_some]
      have R8 := Same.tup ha3 hS
      have ei : atI (rows.map vt) (0 + (i : Int)) = some (vt rows[i]) := by
        rw [Int.zero_add]
        exact atI_nat (by rw [List.getElem?_map, hri]; rfl)
      have hw12 := (g.wid _ hmr).2
      have hlr : (tx rows[i]).length ≤ sizeLine := by rw [tx_len]; exact small_le (by omega)
      have lc := cellsTo_len (rows := rows) (w := 12) (fun r hr => (g.wid r hr).2) i (by omega)
      have lt : t.length = (cellsTo rows i).length := by rw [← ha4, cz_len]
      refine ⟨_, rfl, _, rfl, a, _, 0, _, rfl, rfl, R8, at00, _, rfl, hr0, _, rfl, by omega, by rw [tx_len]; omega, fun D hD => ?_⟩
      rw [tx_len]
      refine lc_range (lo := 0) (n := (((rows.headD []).length : Nat) : Int).toNat) (fun j H' => ∃ u, H' D = some (.lst (vz u)) ∧ CA H' u ∧ cz u = rowCells rows[i] i j ∧ Same H8 H')
        ⟨[], upd_same, CA.nil, rfl, Same.new (Same.refl _) hD⟩ ?_ ?_
      · rintro j H9 hj ⟨u, g1, g2, g4, g3⟩
        have hjr : j < (rows[i]).length := by omega
        obtain ⟨ch, hch⟩ : ∃ ch, (rows[i])[j]? = some ch := ⟨_, List.getElem?_eq_getElem hjr⟩
        have ech : (rows[i]).getD j 0 = ch := by rw [List.getD_eq_getElem?_getD, hch, Option.getD_some]
        have ej : atI (tx rows[i]).cps.toList (0 + (j : Int)) = some ch := by
          rw [Int.zero_add]
          exact atI_nat (by rw [tx_cps]; exact hch)
        have es := rowCells_succ rows[i] i j
        rw [ech] at es
        have l3 := rowCells_len rows[i] i j
        have lu : u.length = (rowCells rows[i] i j).length := by rw [← g4, cz_len]
        refine ⟨rfl, ?_⟩
        refine ⟨_, rfl, _, rfl, a, _, _, _, rfl, rfl, Same.tup g3 R8, ei, _, rfl, _, _, _, rfl, rfl, hlr, ej, rfl, _, rfl, ?_⟩
        have e2 : decide (V.str ⟨#[ch]⟩ = V.str (Str.ofString "~")) = decide (ch = 126) := by
          rw [show Str.ofString "~" = (⟨#[126]⟩ : Str) from by decide +kernel]
          apply decide_eq_decide.mpr
          simp
        rw [e2]
        by_cases h : ch = 126
        · rw [if_pos h] at es
          refine iteF' (by rw [decide_eq_true h]; rfl) ?_
          exact ⟨u, g1, g2, by rw [es]; exact g4, g3⟩
        · rw [if_neg h] at es
          refine iteT' (by rw [decide_eq_false h]; rfl) ?_
          refine ⟨_, rfl, _, rfl, by show 2 ≤ sizeLine; decide, fun q hq => ?_⟩
          have su := Same.new (Same.refl H9) hq (o := .tup [.int (0 + (i : Int)), .int (0 + (j : Int))])
          have g1' := su _ _ g1
          refine ⟨vz u, g1', Nat.lt_of_le_of_lt (show _ ≤ 100 by rw [vz_len]; omega) (by decide), u ++ [(q, (i, j))], ?_, ?_, ?_, ?_⟩
          · rw [upd_same, vz_app]
            rfl
          · refine CA.updL (CA.app (g2.same su) (CA.one ?_)) g1'
            rw [upd_same, Int.zero_add, Int.zero_add]
            rfl
          · rw [es, cz_app, g4]
            rfl
          · exact Same.updN (g3.trans su) hD
      · rintro H9 ⟨u, g1, g2, g4, g3⟩
        have ejn : (((rows.headD []).length : Nat) : Int).toNat = (rows[i]).length := by omega
        rw [ejn] at g4
        have l3 := rowCells_len rows[i] i (rows[i]).length
        have lu : u.length = (rowCells rows[i] i (rows[i]).length).length := by rw [← g4, cz_len]
        refine ⟨fo, D, vz t, vz u, rfl, rfl, g3 _ _ ha1, g1, Nat.le_trans (show _ ≤ 1000 by rw [vz_len, vz_len]; omega) (by decide), fun p hp => ?_⟩
        have s9 := Same.new (Same.refl H9) hp (o := .lst (vz t ++ vz u))
        refine ⟨p, t ++ u, _, rfl, by rw [upd_same, vz_app], CA.app ((ha2.same g3).same s9) (g2.same s9), ?_, (ha3.trans g3).trans s9⟩
        rw [cz_app, ha4, g4, cellsTo_succ, eri]
    · rintro σ H8 ⟨fo, t, v2, rfl, ha1, ha2, ha4, ha3⟩
      exact ⟨_, rfl, k fo t H8 ha3 ha1 ha2 ha4⟩
theorem scLRule : FnScope ["_law_h"] ["_law_h"] (defScope sLRule) := ⟨rfl, rfl, rfl, by decide +kernel, rfl, by decide +kernel, by decide +kernel⟩
theorem ok_lrule {f : Addr} {fd : FuncData} (F : FnP K "_law_rule" "_law_rule" sLRule f fd) (NX : Cal P w K mg base CX0 1 "_law_next" ["_law_h", "_law_limit"] spNext) : FnOk P w K mg base CX0 2 f fd ["_law_h"] (spLRule K) := by
  refine F.ok scLRule (fun vs H Q E h => ?_) (fun cdv A outer s H vs Q E hr h => ?_)
  · obtain ⟨b, l, rfl, _⟩ := h
    rfl
  · obtain ⟨b, l, rfl, B, k⟩ := h
    refine ⟨_, PSs.nox (pss_one (ps_ret (pe_ix ix_list (pe_lst (pa_cons (pe_tup (pa_cons pe_str pa_nil)) (pa_cons (pe_tup (pa_cons pe_str pa_nil)) (pa_cons (pe_tup (pa_cons pe_str (pa_cons (pe_op op_add pe_int (pe_cal NX hr pass0 (pa_cons (pv 0) (pa_cons pe_int pa_nil)))) pa_nil))) pa_nil)))) (pe_cal NX hr pass0 (pa_cons (pv 0) (pa_cons pe_int pa_nil))) (fun _ _ => rfl)))), ?_⟩
    refine ⟨by show 1 ≤ sizeLine; decide, fun t1 h1 => ⟨by show 1 ≤ sizeLine; decide, fun t2 h2 => ?_⟩⟩
    have s1 := Same.new (Same.refl H) h1 (o := .tup [.str (Str.ofString "plain")])
    have s2 := Same.new (Same.refl _) h2 (o := .tup [.str (Str.ofString "rows")])
    have q1 := s2 _ _ (upd_same (H := H) (a := t1) (o := .tup [.str (Str.ofString "plain")]))
    have q2 : (upd (upd H t1 (.tup [.str (Str.ofString "plain")])) t2 (.tup [.str (Str.ofString "rows")])) t2 = some (.tup [.str (Str.ofString "rows")]) := upd_same
    have s12 := s1.trans s2
    generalize upd (upd H t1 (.tup [.str (Str.ofString "plain")])) t2 (.tup [.str (Str.ofString "rows")]) = H2 at s12 q1 q2 s2 ⊢
    have B2 := B.same s12
    have n1 : t1 ≠ b ∧ t1 ≠ l := by
      obtain ⟨_, _, _, x1, x2, _⟩ := B2.ex
      exact ⟨ne_of q1 x1 (fun e => by cases e), ne_of q1 x2 (fun e => by cases e)⟩
    have n2 : t2 ≠ b ∧ t2 ≠ l := by
      obtain ⟨_, _, _, x1, x2, _⟩ := B2.ex
      exact ⟨ne_of q2 x1 (fun e => by cases e), ne_of q2 x2 (fun e => by cases e)⟩
    refine ⟨_, rfl, b, l, 3, rfl, B2, by decide, by decide, fun m H3 a1 a2 B3 K3 => ⟨_, _, rfl, rfl, by show 2 ≤ sizeLine; decide, fun t3 h3 => ⟨by show 3 ≤ sizeLine; decide, fun L hL => ?_⟩⟩⟩
    have s3 := Same.new (Same.refl H3) h3 (o := .tup [.str (Str.ofString "near"), .int (1 + m)])
    have s4 := Same.new (Same.refl _) hL (o := .lst [.ref t1, .ref t2, .ref t3])
    have r3 := s4 _ _ (upd_same (H := H3) (a := t3) (o := .tup [.str (Str.ofString "near"), .int (1 + m)]))
    have r4 : (upd (upd H3 t3 (.tup [.str (Str.ofString "near"), .int (1 + m)])) L (.lst [.ref t1, .ref t2, .ref t3])) L = some (.lst [.ref t1, .ref t2, .ref t3]) := upd_same
    have s34 := s3.trans s4
    have r1 := s34 _ _ (K3 _ _ q1 n1.1 n1.2)
    have r2 := s34 _ _ (K3 _ _ q2 n2.1 n2.2)
    have nL := (B3.same s3).new hL
    have B4 := B3.same s34
    have n3 : t3 ≠ b ∧ t3 ≠ l := by
      obtain ⟨_, _, _, x1, x2, _⟩ := B4.ex
      exact ⟨ne_of r3 x1 (fun e => by cases e), ne_of r3 x2 (fun e => by cases e)⟩
    have K4 : Kp b l H _ := ((Kp.of s12).trans K3).trans (Kp.of s34)
    generalize upd (upd H3 t3 (.tup [.str (Str.ofString "near"), .int (1 + m)])) L (.lst [.ref t1, .ref t2, .ref t3]) = H4 at B4 K4 r1 r2 r3 r4 ⊢
    refine ⟨_, rfl, b, l, 3, rfl, B4, by decide, by decide, fun n H5 b1 b2 B5 K5 => ?_⟩
    have e5 := K5 _ _ r4 nL.1 nL.2
    have fin : ∀ (t : Addr) (r : Rl), atI [V.ref t1, V.ref t2, V.ref t3] n = some (V.ref t) → r.Ok → H5 t = some (.tup r.vs) → tOp (rIxL K) (fun _ H Q => Q (.ref L) H) (fun _ H Q => Q (.int n) H) ([] : L2.St) H5 Q := fun t r e1 e2 e3 =>
      ⟨L, _, n, _, rfl, rfl, .inl (.inl e5), e1, k t r H5 e2 (.inl (.inl e3)) B5 (K4.trans K5)⟩
    have hn : n = 0 ∨ n = 1 ∨ n = 2 := by omega
    rcases hn with rfl | rfl | rfl
    · exact fin t1 .plain rfl trivial (K5 _ _ r1 n1.1 n1.2)
    · exact fin t2 .rows rfl trivial (K5 _ _ r2 n2.1 n2.2)
    · refine fin t3 (.near (1 + m).toNat) rfl (show 1 ≤ (1 + m).toNat ∧ (1 + m).toNat ≤ 22 by omega) ?_
      show H5 t3 = some (.tup [.str "near", .int (((1 + m).toNat : Nat) : Int)])
      rw [Int.toNat_of_nonneg (by omega)]
      exact K5 _ _ r3 n3.1 n3.2
end
end Om

namespace Om
open PySem PySem.Spec PyProof.Rows L2 LamX
theorem vz_erase : ∀ (t : TC) (k : Nat), (vz t).eraseIdx k = vz (t.eraseIdx k)
  | [], _ => rfl
  | _ :: _, 0 => rfl
  | a :: r, k + 1 => by
    show V.ref a.1 :: (vz r).eraseIdx k = V.ref a.1 :: vz (r.eraseIdx k)
    rw [vz_erase r k]
theorem eqv_cells_nil (cs : List Cell) : PyData.eqv (.list (cs.map cdp)) (.list []) = cs.isEmpty := by
  cases cs <;> simp [PyData.eqv, PyData.eqvAll]
section
variable {P : Program} {w : World} {K : PySem.W.Frag} {mg : Str → Option Value} {base : Heap}
abbrev nLS : List Str := ["_law_h", "_law_cells_here", "_law_most", "_law_left", "_law_found", "_law_k"]
theorem scLS : FnScope nLS ["_law_h", "_law_cells_here", "_law_most"] (defScope sLSome) := ⟨rfl, rfl, rfl, by decide +kernel, rfl, by decide +kernel, by decide +kernel⟩
theorem ok_lsome {f : Addr} {fd : FuncData} (F : FnP K "_law_some" "_law_some" sLSome f fd) (NX : Cal P w K mg base CX0 1 "_law_next" ["_law_h", "_law_limit"] spNext)
    (grange : mg "range" = none) (glen : mg "len" = none) (glist : mg "list" = none) (gtuple : mg "tuple" = none) (gsorted : mg "sorted" = none) : FnOk P w K mg base CX0 2 f fd ["_law_h", "_law_cells_here", "_law_most"] spLSome := by
  refine F.ok scLS (fun vs H Q E h => ?_) (fun cdv A outer s H vs Q E hr h => ?_)
  · obtain ⟨b, l, ca, t, m, rfl, _⟩ := h
    rfl
  · obtain ⟨b, l, ca, t, m, rfl, B, hC, hT, htl, hm, k⟩ := h
    have nd := scLS.nd
    refine ⟨_, PSs.nox (pss_cons (ps_par (i := 3) (j := 4) rfl nd rfl rfl (by decide) rfl rfl (pa_cons (pe_callTy call_list_of (by rfl) glist (by decide +kernel) (pa_cons (pv 1) pa_nil)) (pa_cons (pe_lst pa_nil) pa_nil)) rfl)
      (pss_cons (ps_for PassesOwn.never rfl (pi_range1 rfl grange (pa_cons (pe_cal NX hr pass0 (pa_cons (pv 0) (pa_cons (pe_op op_add (pv 2) pe_int) pa_nil))) pa_nil)) (pg_name (i := 5) nd rfl (.inl rfl))
        (pss_one (ps_if (pt_cmpR (op_neD hr.units) (pv 3) (pe_lst pa_nil) (nomark _))
          (pss_one (ps_expr (pe_bm PySem.F.plainAttrs_list PySem.F.slot_list_append PySem.F.type_list_append mt_append (pv 4) (pa_cons
            (pe_bm PySem.F.plainAttrs_list PySem.F.slot_list_pop PySem.F.type_list_pop mt_popAt (pv 3) (pa_cons (pe_cal NX hr pass0 (pa_cons (pv 0) (pa_cons (pe_callB call_len_seq (by rfl) glen PySem.boot_len (pa_cons (pv 3) pa_nil)) pa_nil))) pa_nil)) pa_nil)))) pss_nil)))
      (pss_one (ps_ret (pe_callTy call_tuple_of (by rfl) gtuple (by decide +kernel) (pa_cons (pe_callB cr_sortedP (by rfl) gsorted (by decide +kernel) (pa_cons (pv 4) pa_nil)) pa_nil)))))), ?_⟩
    refine ⟨_, rfl, ca, _, rfl, .inl (.inl (.inl hC)), fun Lf hLf => ⟨by show 0 ≤ sizeLine; decide, fun Fo hFo => ⟨_, _, rfl, ?_⟩⟩⟩
    have s1 := Same.new (Same.refl H) hLf (o := .lst (vz t))
    have s2 := Same.new (Same.refl _) hFo (o := .lst [])
    have s12 := s1.trans s2
    have hF0 : H Fo = none := Same.none s1 hFo
    have nLF : Lf ≠ Fo := fun e => by rw [← e, upd_same] at hFo; cases hFo
    have q1 := s2 _ _ (upd_same (H := H) (a := Lf) (o := .lst (vz t)))
    have q2 : (upd (upd H Lf (.lst (vz t))) Fo (.lst [])) Fo = some (.lst []) := upd_same
    obtain ⟨Lb, Ll⟩ := B.new hLf
    obtain ⟨Fb, Fl⟩ := B.new hF0
    generalize upd (upd H Lf (.lst (vz t))) Fo (.lst []) = H2 at s12 q1 q2 s2 ⊢
    refine ⟨_, rfl, _, rfl, _, _, rfl, rfl, b, l, _, rfl, B.same s12, by omega, by omega, fun n H3 a1 a2 B3 K3 => ?_⟩
    refine ⟨n, rfl, by omega, by omega, ?_⟩
    refine for_range (lo := 0) (n := n.toNat) (fun i σ H' => (∃ v5, σ = [some (.ref b), some (.ref ca), some (.int (m : Nat)), some (.ref Lf), some (.ref Fo), v5]) ∧ ∃ t1 t2 : TC, H' Lf = some (.lst (vz t1)) ∧ H' Fo = some (.lst (vz t2)) ∧ CA H' t1 ∧ CA H' t2 ∧ (∀ p ∈ t1, p ∈ t) ∧ (∀ p ∈ t2, p ∈ t) ∧ t1.length ≤ 1000 ∧ t2.length ≤ i ∧ Bx H' b l ∧ Kp b l H H')
      ⟨⟨_, rfl⟩, t, [], K3 _ _ q1 Lb Ll, K3 _ _ q2 Fb Fl, (hT.same s12).kp (B.same s12) K3, CA.nil, fun p hp => hp, (fun p hp => by cases hp), htl, Nat.le_refl _, B3, (Kp.of s12).trans K3⟩ ?_ ?_
    · rintro i σ H4 hi ⟨⟨v5, rfl⟩, t1, t2, e1, e2, e3, e4, e5, e6, e7, e8, B4, K4⟩
      refine ⟨_, rfl, by show 0 ≤ sizeLine; decide, fun q hq => ?_⟩
      have s5 := Same.new (Same.refl H4) hq (o := .lst [])
      refine ⟨.list ((cz t1).map cdp), .list [], .lst (.inl (.inl (s5 _ _ e1))) (e3.same s5).dp, .lst (.inl (.inl upd_same)) .nil, sh_cells _, sh_cells [], _, rfl, ?_⟩
      rw [eqv_cells_nil]
      have e1' := s5 _ _ e1
      have e2' := s5 _ _ e2
      have e3' := e3.same s5
      have e4' := e4.same s5
      have B5 := B4.same s5
      have K5 := K4.trans (Kp.of s5)
      generalize upd H4 q (.lst []) = H5 at e1' e2' e3' e4' B5 K5 ⊢
      clear s5
      cases ht : t1 with
      | nil =>
        subst ht
        exact iteF' rfl ⟨⟨_, rfl⟩, [], t2, e1', e2', e3', e4', e5, e6, e7, by omega, B5, K5⟩
      | cons p0 r0 =>
        rw [← ht]
        have h0 : 0 < t1.length := by rw [ht]; exact Nat.succ_pos _
        refine iteT' (by rw [ht]; rfl) ?_
        refine ⟨_, rfl, .inl ⟨rfl, _, .inl (.inl e2')⟩, ?_⟩
        refine ⟨_, rfl, .inl ⟨rfl, _, .inl (.inl e1')⟩, ?_⟩
        refine ⟨_, rfl, _, rfl, Lf, _, rfl, .inl (.inl (.inl e1')), b, l, _, rfl, B5, by rw [vz_len]; omega, by rw [vz_len]; omega, fun j H6 b1 b2 B6 K6 => ?_⟩
        rw [vz_len] at b2
        have hj : j.toNat < t1.length := by omega
        have hx : (vz t1)[j.toNat]? = some (V.ref (t1[j.toNat]).1) := by
          unfold vz
          rw [List.getElem?_map, List.getElem?_eq_getElem hj]
          rfl
        have hmem : t1[j.toNat] ∈ t1 := List.getElem_mem hj
        have e16 := K6 _ _ e1' Lb Ll
        have e26 := K6 _ _ e2' Fb Fl
        have e36 := e3'.kp B5 K6
        have e46 := e4'.kp B5 K6
        have K56 := K5.trans K6
        refine nilArgs ⟨Lf, _, j, j.toNat, _, rfl, rfl, e16, by omega, by omega, ?_, hx, ?_⟩
        · unfold seqIndex?
          rw [vz_len]
          have n1 : ¬ j < 0 := by omega
          simp only [if_neg n1]
          rw [if_pos]
          simp only [Bool.and_eq_true, decide_eq_true_eq]
          omega
        have e27 : (upd H6 Lf (.lst ((vz t1).eraseIdx j.toNat))) Fo = some (.lst (vz t2)) := by rw [upd_ne nLF.symm]; exact e26
        refine nilArgs ⟨Fo, _, _, rfl, rfl, e27, Nat.lt_of_le_of_lt (show _ ≤ 100 by rw [vz_len]; omega) (by decide), ?_⟩
        refine ⟨⟨_, rfl⟩, t1.eraseIdx j.toNat, t2 ++ [t1[j.toNat]], ?_, ?_, ?_, ?_, fun p hp => e5 p (List.mem_of_mem_eraseIdx hp), ?_, ?_, ?_, (B6.updL Lb Ll).updL Fb Fl, (K56.updL hLf).updL hF0⟩
        · rw [upd_ne nLF, upd_same, vz_erase]
        · rw [upd_same, vz_app]
          rfl
        · exact CA.updL (CA.updL (fun p hp => e36 p (List.mem_of_mem_eraseIdx hp)) e16) e27
        · exact CA.updL (CA.updL (CA.app e46 (CA.one (e36 _ hmem))) e16) e27
        · intro p hp
          rcases List.mem_append.mp hp with h | h
          · exact e6 p h
          · rw [List.mem_singleton.mp h]
            exact e5 _ hmem
        · have := List.length_eraseIdx_le t1 j.toNat
          omega
        · rw [List.length_append, List.length_singleton]
          omega
    · rintro σ H4 ⟨⟨v5, rfl⟩, t1, t2, e1, e2, e3, e4, e5, e6, e7, e8, B4, K4⟩
      refine ⟨_, rfl, Fo, _, rfl, .inl (.inl e2), fun x hx => ?_, fun ys p hp hpn => ?_⟩
      · obtain ⟨p, hp, rfl⟩ := List.mem_map.mp hx
        exact ⟨p.1, _, _, rfl, e4 p hp⟩
      · obtain ⟨u, rfl, hu⟩ := vz_of (t := t2) (fun x hx => hp.mem_iff.mp hx)
        have s5 := Same.new (Same.refl H4) hpn (o := .lst (vz u))
        refine nilArgs ⟨p, _, rfl, .inl ⟨.inl (.inl upd_same), fun q hq => ?_⟩⟩
        have s6 := Same.new (Same.refl _) hq (o := .tup (vz u))
        have hl := hp.length_eq
        rw [vz_len, vz_len] at hl
        refine k q u _ upd_same ((CA.same (fun x hx => e4 x (hu x hx)) s5).same s6) (fun x hx => List.mem_map_of_mem (e6 x (hu x hx))) (by omega) (B4.same (s5.trans s6)) (K4.trans (Kp.of (s5.trans s6)))
end
end Om

/-! sets of tuples of ints made by a comprehension: one clause, two clauses -/
namespace Om
open PySem PySem.Spec PyProof.Rows L2
/-! ### one tuple put in -/
section
variable {P : Program} {w : World} {A : Around} {E : Value → Shared → Prop} {s : Shared} {a : Addr} {L : List (Addr × List Int)} {es : Array (Int × Value)} {ep : Nat} {t : SetTable}
theorem setT_add {x : Addr} {k : List Int} {Q : Value → Shared → Prop} (R : SetTR P w s.heap a L es ep t) (hx : IsT P w s.heap k x) (hu : A.units + 3 < cLine) (hfew : L.length + 1 < 64)
    (hQ : ∀ h' tk L', Heap.SameBut a s.heap h' → SetT0 P w h' a L' → (k ∈ L.map (·.2) → L' = L) → (k ∉ L.map (·.2) → L'.Perm ((x, k) :: L)) → Q .none { s with heap := h', toks := tk }) :
    wpAny (model P w) A (call (.builtin "set.add") [.ref a, .ref x]) Q E s := by
  obtain ⟨o, ho, hex, hd⟩ := R.ob
  refine wpAny_call_entry F.slot_set_add ⟨o, ho, hex.1⟩ F.entry_set_add ?_ (F.args_set_add_2 _ _)
  unfold Builtin.«set.add» Builtin.Frozenset.oneOther
  simp only [List.isEmpty_nil, bind_assoc]
  unfold Builtin.Frozenset.addrOf setAdd
  refine wpAny_bind (wpAny_pure ?_)
  try dsimp only
  refine wpAny_bind (wpAny_pure ?_)
  try dsimp only
  refine wpAny_bind (wpAny_holding (wpAny_bind (wpAny_pyHash_tuple (by first | (show A.units + _ < _; omega) | omega) hx ?_)))
  refine add_at (s := { s with toks := s.toks + (k.length + 1) }) R hx (by first | (show A.units + _ < _; omega) | omega) hfew fun b h' L' es' ep' t' sb R' c1 c2 => ?_
  exact wpAny_pure ⟨_, rfl, hQ h' _ L' sb R'.t0 c1 c2⟩
end

/-! ### over the layer: what is put in -/
section
variable {X : Cx}
theorem addT_ok {pins : List (Addr × Obj)} {σ : L2.St} {H : Hp} {s : Shared} {E : Value → Shared → Prop} {D b : Addr} {k : List Int} {L : List (Addr × List Int)} {Q : Value → Shared → Prop} (I : Inv X pins σ H s) (hu : X.A.units + 3 < cLine)
    (hD : H D = some (SetTO X.prog X.w D L)) (hL : ∀ p ∈ L, SqT X.K H p.1 (p.2.map V.int)) (hb : SqT X.K H b (k.map V.int)) (hfew : L.length + 1 < 64)
    (h : ∀ s' L', (k ∈ L.map (·.2) → L' = L) → (k ∉ L.map (·.2) → L'.Perm ((b, k) :: L)) → Inv X pins σ (upd H D (SetTO X.prog X.w D L')) s' → Q .none s') :
    wpAny (model X.prog X.w) X.A (call (.builtin "set.add") [.ref D, .ref b]) Q E s := by
  have R0 : SetT0 X.prog X.w s.heap D L := (I.hok D _ hD).1
  obtain ⟨es, ep, t, R⟩ := R0.full fun p hp => I.isT (hL p hp)
  refine setT_add R (I.isT hb) hu hfew fun h' tk L' sb R' c1 c2 => ?_
  have he : ∃ u, h'.get? D = some u := by
    have ⟨_, _, _, ⟨o, ho, _⟩, _⟩ := R'.ex
    exact ⟨o, ho⟩
  exact h _ L' c1 c2 (I.write (e := D) (t' := tk) (by rw [hD]; trivial) (.inl rfl) (fun c u hc hu => (sb.2 c hc).trans hu) he (setTO_new R'))
end

/-! ### a clause's loop, whatever it does with an item -/
def clauseTurn (node : Expr) (k : Nat) (tg iter : Expr) (ifs : List Expr) (it acc : Value) (env : Env) (act : Sem PySem.Fin → Sem PySem.Fin) : Sem PySem.Fin := do
  standAt iter.pos
  match ← pyNext it with
  | none => pure (.done .next)
  | some v =>
    letOwnedTupleGo tg it v
    assign tg env v
    let mut ok := true
    for c in ifs do
      if ok then ok ← isTrue c env (eval c env)
    if ok then act (again (.compLoop node k it acc env)) else again (.compLoop node k it acc env)
/-- slots that know at least as much -/
def Knows (σ0 σ' : L2.St) : Prop := σ0.length = σ'.length ∧ ∀ (j : Nat) v, σ0[j]? = some (some v) → σ'[j]? = some (some v)
theorem thnE {α : Type} {t : Sem α} {Q Q' : α → Shared → Prop} {M : Model} {A : Around} {E E' : Value → Shared → Prop} {s : Shared} (hE : ∀ e s, ¬ E e s) (h : wpAny M A t Q E s) (hQ : ∀ a s, Q a s → Q' a s) : wpAny M A t Q' E' s := wpAny_mono h hQ fun e s z => (hE e s z).elim
theorem clause_loop {X : Cx} (hc : X.calm = true) (hxe : ∀ e s, ¬ X.xe e s) {elt : Expr} {cs : List Comprehension} {scope : Scope} {pos : Pos} {node : Expr} (en : node = .SetComp elt cs scope pos) {k : Nat} {tg iter : Expr} {ifs : List Expr} {it : Addr} {acc : Value} {act : Sem PySem.Fin → Sem PySem.Fin} {R : PySem.Result → Shared → Prop}
    (hturn : compTurn node k (.ref it) acc X.env = clauseTurn node k tg iter ifs (.ref it) acc X.env act)
    {pins : List (Addr × Obj)} {σ0 : L2.St} {fp : List Addr} {tn : Nat → Heap → Prop} {J : It} (T : Turn X.prog X.w X.K tg J fp it tn) {g : TG} {tt : TT} (pg : PG X tg g) (pt : PTs X ifs tt)
    (stat : ∀ {H' : Hp}, (∀ b ∈ fp, H' b = none) → ∀ b ∈ fp, FpOk X pins H' b)
    {Fin : Hp → Prop} {ok : L2.St → Prop} {Body : L2.St → Hp → (Hp → Prop) → Prop}
    (body : ∀ {σ2 : L2.St} {Hx : Heap} {s : Shared} {H : Hp} {Nx : Hp → Prop}, ok σ2 → Inv X (pins ++ pinsAt fp Hx) σ2 H s → Body σ2 H Nx → ∀ (kont : Sem PySem.Fin) (P : PySem.Fin → Shared → Prop) (E : Value → Shared → Prop), (∀ s', (∃ σ' H', Inv X (pins ++ pinsAt fp Hx) σ' H' s' ∧ Knows σ0 σ' ∧ Nx H') → wpAny (model X.prog X.w) X.A kont P E s') → wpAny (model X.prog X.w) X.A (act kont) P E s)
    (hok : ∀ {σ2 : L2.St}, ok σ2 → Knows σ0 σ2) {W : Nat → Nat → Hp → Prop}
    (turn : ∀ i m H, W i m H → (J.stop i H ∧ Fin H) ∨ (J.go i H ∧ ∃ Nx : Hp → Prop, (∀ H', Nx H' → ∃ m', m' < m ∧ W (i + 1) m' H') ∧ ∀ x H', J.yld i H x H' → g x σ0 H' fun σ2 H2 => ok σ2 ∧ tt σ2 H2 fun b H3 => if b = true then Body σ2 H3 Nx else Nx H3))
    (hend : ∀ H' s', Inv X pins σ0 H' s' → Fin H' → R (.ok .next) s')
    {s : Shared} {H : Hp} {m0 : Nat} (I : Inv X pins σ0 H s) (st : tn 0 s.heap) (nfp : ∀ b ∈ fp, H b = none) (w0 : W 0 m0 H) :
    codeAny (model X.prog X.w) X.A (.compLoop node k (.ref it) acc X.env) R s := by
  subst en
  refine codeAny_loop rfl (fun n s' => ∃ i H', Inv X pins σ0 H' s' ∧ tn i s'.heap ∧ (∀ b ∈ fp, H' b = none) ∧ W i n H') ?_ m0 ⟨0, H, I, st, nfp, w0⟩
  rintro n s5 ⟨i, H5, I5, st5, n5, w5⟩
  show wpAny _ X.A ((compTurn (.SetComp elt cs scope pos) k (.ref it) acc X.env).onRaise (fun x => do noteFrame x X.env; theTreesLotGoes x)) _ _ s5
  refine wpAny_noted ?_
  rw [hturn]
  unfold clauseTurn
  refine wpAny_bind (wpAny_standAt (wpAny_bind ?_))
  rcases turn i n H5 w5 with ⟨stop, qq⟩ | ⟨go, Nx, hNx, step⟩
  · refine thnF (T.done X rfl rfl rfl hc i pins s5 σ0 H5 (fun _ _ => False) I5 (stat n5) st5 stop) fun r s6 ⟨hr, I6⟩ => ?_
    subst hr
    exact wpAny_pure (hend H5 s6 I6 qq)
  · refine thnF (T.item X rfl rfl rfl hc i pins s5 σ0 H5 (fun _ _ => False) I5 (stat n5) st5 go) fun r s6 ⟨u, hr, h6⟩ => ?_
    subst hr
    dsimp only
    refine wpAny_bind (thnF h6 fun _ s7 ⟨x, H7, I7, r7, y7, st7, n7⟩ => ?_)
    have I7' := I7.pinned (stat n7) (T.obj _ _ st7)
    have fin : ∀ {σ' : L2.St} {s' : Shared} {H' : Hp}, Inv X (pins ++ pinsAt fp s7.heap) σ' H' s' → Knows σ0 σ' → Nx H' → ∃ m, m < n ∧ ∃ i H', Inv X pins σ0 H' s' ∧ tn i s'.heap ∧ (∀ b ∈ fp, H' b = none) ∧ W i m H' := fun {σ' s' H'} I' kn nx => by
      obtain ⟨m', hm, w'⟩ := hNx H' nx
      have held : ∀ b ∈ fp, ∀ o, s7.heap.get? b = some o → s'.heap.get? b = some o ∧ H' b = none := fun b hb o e =>
        ⟨(I'.pin (b, o) (List.mem_append_right _ (List.mem_append_right _ (mem_pinsAt hb e)))).1, (I'.pin (b, o) (List.mem_append_right _ (List.mem_append_right _ (mem_pinsAt hb e)))).2.1⟩
      refine ⟨m', hm, i + 1, H', I'.unpinned.weak kn.1 kn.2, T.keep _ _ _ st7 fun b hb o e => (held b hb o e).1, fun b hb => ?_, w'⟩
      obtain ⟨o, e, _⟩ := T.obj _ _ st7 b hb
      exact (held b hb o e).2
    refine wpAny_bind (thnE hxe (pg.run _ s7 σ0 H7 x u _ I7' r7 (step x H7 y7)) fun _ s8 ⟨σ8, H8, I8, k8, q8⟩ => ?_)
    refine wpAny_bind (thnE hxe (pt.run _ s8 σ8 H8 _ I8 q8) fun b s9 ⟨H9, I9, q9⟩ => ?_)
    cases b with
    | false => exact wpAny_pure ⟨rfl, fin I9 (hok k8) q9⟩
    | true => exact body k8 I9 q9 _ _ _ fun s' ⟨σ', H', I', kn, nx⟩ => wpAny_pure ⟨rfl, fin I' kn nx⟩
end Om

namespace Om
open PySem PySem.Spec PyProof.Rows L2
section
variable {X : Cx}
abbrev newSetObj (w : World) : Obj := { cls := .type "set", dict := none, data := .set #[] 0 (.fresh 0 0 (!w.params.followText "set-order")) }
/-- the block of a set comprehension is entered: D the new set, Rd what is known of it -/
theorem sc_enter {pins : List (Addr × Obj)} {s : Shared} {σ : L2.St} {H : Hp} {Q : VK} {elt tg iter : Expr} {ifs : List Expr} {rest : List Comprehension} {scope : Scope} {own : List (Str × Nat)} {pos pos' : Pos} {wi : TI} {use : Option (Value → Sem Unit)} {Qf : Value → Shared → Prop} {Rd : It → Addr → Hp → Prop}
    (hc : X.calm = true) (hN : X.N.Nodup) (I : Inv X pins σ H s) (hi : PI X tg iter wi) (ok : BlkOk X.N X.env.scope scope own) (hs : ∀ x, foldedSetIterable iter X.env x = pure x) (h : wi σ H fun J H1 => ∀ D, H1 D = none → Rd J D (upd H1 D (SetTO X.prog X.w D [])))
    (hRR : ∀ D C s' m H', Inv X pins σ H' s' → Q (.ref D) H' → s'.heap.Ns C m → FpOk X pins H' C → compPost (model X.prog X.w) X.A X.xe use Qf (.ref D) C (.ok .next) s')
    (loop : ∀ (it : Addr) (fp : List Addr) (tn : Nat → Heap → Prop) (J : It) (D C : Addr) (cl : List (Str × Addr)) (s3 s4 : Shared) (H3 : Hp), Rd J D H3 → Inv (X.blk s3 H3 scope (compEnvC scope cl C X.env) fp) [] (wipe σ (own.map (·.2))) H3 s4 → Turn X.prog X.w X.K tg J fp it tn → tn 0 s4.heap → (∀ b ∈ fp, H3 b = none) →
      (∀ {H' : Hp}, (∀ b ∈ fp, H' b = none) → ∀ b ∈ fp, FpOk (X.blk s3 H3 scope (compEnvC scope cl C X.env) fp) [] H' b) →
      (∀ H5 s6, Inv (X.blk s3 H3 scope (compEnvC scope cl C X.env) fp) [] (wipe σ (own.map (·.2))) H5 s6 → Q (.ref D) H5 → compPost (model X.prog X.w) X.A X.xe use Qf (.ref D) C (.ok .next) s6) →
      codeAny (model X.prog X.w) X.A (.compLoop (.SetComp elt (⟨tg, iter, ifs, 0⟩ :: rest) scope pos) 0 (.ref it) (.ref D) (compEnvC scope cl C X.env)) (compPost (model X.prog X.w) X.A X.xe use Qf (.ref D) C) s4) :
    wpAny (model X.prog X.w) X.A (comprehension (.SetComp elt (⟨tg, iter, ifs, 0⟩ :: rest) scope pos) scope X.env pos' (newSet (.type "set")) false (eval iter X.env) use) Qf X.xe s := by
  have cells : ∀ y ∈ scope.names, y.2 = .free → ∃ c, X.env.cells.lookup y.1 = some c := fun y hy e => (ok.free y hy e).elim (fun k => I.ok.has _ (.inl k)) fun k => I.ok.has _ (.inr k)
  refine wpAny_comprehension_free (use := use) rfl hs (closure_ok cells) ok.kind (fun y hy e => by rw [ok.uniq y hy, e])
    (thn (hi.run pins s σ H _ I h) fun xv s1 hx => thn hx fun itv s2 h2 => ?_)
  obtain ⟨it, fp, tn, J, H2, rfl, I2, T, st2, f2, q⟩ := h2
  refine PpSet.newSet_ok (newEnv_comp ?_)
  have hn2 : H2 s2.heap.objs.size = none := I2.hok.fresh (Nat.le_refl _)
  have rd := q _ hn2
  have I3 : Inv X pins σ (upd H2 s2.heap.objs.size (SetTO X.prog X.w s2.heap.objs.size [])) { s2 with heap := s2.heap.push (newSetObj X.w) } :=
    I2.laid (t' := s2.toks) (fun b o e => Heap.get?_push_of_some _ e) (Nat.le_refl _) (setTO_new (setTR_fresh (Heap.get?_push_size _ rfl)).t0)
  have below : ∀ b ∈ fp, b < s2.heap.objs.size := fun b hb => by
    obtain ⟨o, e, _⟩ := T.obj _ _ st2 b hb
    exact Heap.lt_size e
  have st3 : tn 0 (s2.heap.push (newSetObj X.w)) := T.keep _ _ _ st2 fun b _ o e => Heap.get?_push_of_some _ e
  have f3 : ∀ b ∈ fp, FpOk X pins (upd H2 s2.heap.objs.size (SetTO X.prog X.w s2.heap.objs.size [])) b ∧ b < (s2.heap.push (newSetObj X.w)).objs.size := fun b hb =>
    ⟨⟨by rw [upd_ne (Nat.ne_of_lt (below b hb))]; exact (f2 b hb).1, (f2 b hb).2⟩, by rw [Heap.size_push]; exact Nat.lt_succ_of_lt (below b hb)⟩
  generalize hS3 : ({ s2 with heap := s2.heap.push (newSetObj X.w) } : Shared) = s3 at I3
  have hh3 : s2.heap.push (newSetObj X.w) = s3.heap := by rw [← hS3]
  rw [hh3] at st3 f3
  generalize s2.heap.objs.size = D at I3 f3 rd hn2 ⊢
  generalize hH3 : upd H2 D (SetTO X.prog X.w D []) = H3 at I3 f3 rd
  have I4 := block_start I3 ok hN f3
  have st4 : tn 0 (pushCells (s3.heap.push { cls := .type "dict", data := .dict #[] }) scope.names) := T.keep _ _ _ st3 fun b _ o e => pushCells_keeps _ _ _ _ (Heap.get?_push_of_some _ e)
  have nfp : ∀ b ∈ fp, H3 b = none := fun b hb => (f3 b hb).1.1
  show codeAny _ _ (.compStart (.SetComp elt (⟨tg, iter, ifs, 0⟩ :: rest) scope pos) 0 (.ref it) (.ref D) (compEnvC scope (cellsFrom (s3.heap.objs.size + 1) scope.names (cloFrom X.env.cells scope.names [])) s3.heap.objs.size X.env)) (compPost (model X.prog X.w) X.A X.xe use Qf (.ref D) s3.heap.objs.size) { s3 with heap := pushCells (s3.heap.push { cls := .type "dict", data := .dict #[] }) scope.names }
  have L := loop it fp tn J D s3.heap.objs.size (cellsFrom (s3.heap.objs.size + 1) scope.names (cloFrom X.env.cells scope.names [])) s3 _ H3 rd I4 T st4 nfp
    (fun hn b hb => ⟨hn b hb, (I4.ok.exf b hb).1, I4.ok.exfs b hb, .inl hb, fun x c e => (I4.ok.exf b hb).2 x c e, fun p hp => absurd (show p ∈ ([] : List (Addr × Obj)) ++ [] from hp) (by simp)⟩)
    (fun H5 s6 I6 qq => by
      have I7 : Inv X pins σ H5 s6 := I3.call' (ch := fp) I6.os I6.base I6.hok I6.bare fun b hb => ⟨(f3 b hb).1.2.2.2.1, (f3 b hb).1.2.1, (f3 b hb).1.2.2.2.2.1, (f3 b hb).1.2.2.2.2.2⟩
      have nC : H5 s3.heap.objs.size = none := I6.free
      obtain ⟨m, hn, _⟩ := I6.loc
      exact hRR D s3.heap.objs.size s6 m H5 I7 qq hn (I3.fpOk (Nat.le_refl _) nC))
  exact PpSet.codeAny_compStart_set L (T.self X.A 0 _ _ _ st4 L)
end
section
variable {prog : Program} {w : World} {A : Around} {R : PySem.Result → Shared → Prop} {s : Shared} {env : Env}
/-- the second clause begins -/
theorem sc_start1 {elt : Expr} {c0 : Comprehension} {target iter : Expr} {ifs : List Expr} {scope : Scope} {pos : Pos} {it acc : Value}
    (h0 : codeAny (model prog w) A (.compLoop (.SetComp elt [c0, ⟨target, iter, ifs, 0⟩] scope pos) 1 it acc env) R s)
    (h : wpAny (model prog w) A (pyIter it) (fun it' s' => codeAny (model prog w) A (.compLoop (.SetComp elt [c0, ⟨target, iter, ifs, 0⟩] scope pos) 1 it' acc env) R s') (notedBy (model prog w) A env fun x s' => R (.error x) s') s) :
    codeAny (model prog w) A (.compStart (.SetComp elt [c0, ⟨target, iter, ifs, 0⟩] scope pos) 1 it acc env) R s := by
  refine codeAny_of_tree ?_
  show wpAny _ _ ((compStart (.SetComp elt [c0, ⟨target, iter, ifs, 0⟩] scope pos) 1 it acc env).onRaise (fun x => do noteFrame x env; standAt theWindowsPlace)) _ _ s
  refine wpAny_notedAt ?_
  unfold compStart
  refine wpAny_bind (wpAny_askSetting (wpAny_ite ?_))
  split
  · first
      | exact wpAny_bind (wpAny_pure (wpAny_pure (And.intro rfl h0)))
      | exact wpAny_pure (And.intro rfl h0)
  · refine wpAny_bind (wpAny_rule ?_)
    refine wpAny_bind (wpAny_standAt (wpAny_bind (wpAny_mono h (fun it' s' h' => wpAny_pure (And.intro rfl h')) fun _ _ x => x)))
end
section
variable {X : Cx}
/-! ### what is read -/
abbrev ownS (own : List (Str × Nat)) : List Nat := own.map fun p => p.2
/-- an item comes into the set at D -/
def tPut (K : PySem.W.Frag) (P : Program) (w : World) (D : Addr) (te : TE) : L2.St → Hp → (Hp → Prop) → Prop := fun σ H Nx => te σ H fun y H4 => ∃ (b : Addr) (k : List Int) (L : List (Addr × List Int)), y = .ref b ∧ SqT K H4 b (k.map V.int) ∧ H4 D = some (SetTO P w D L) ∧ (∀ p ∈ L, SqT K H4 p.1 (p.2.map V.int)) ∧ L.length + 1 < 64 ∧
  ∀ L', (k ∈ L.map (·.2) → L' = L) → (k ∉ L.map (·.2) → L'.Perm ((b, k) :: L)) → Nx (upd H4 D (SetTO P w D L'))
/-- a walk by turns: W holds, Fin at the end, Act of an item -/
def Wlk (J : It) (W : Nat → Nat → Hp → Prop) (Fin : Hp → Prop) (Act : V → Hp → (Hp → Prop) → Prop) : Prop := ∀ i m H, W i m H → (J.stop i H ∧ Fin H) ∨ (J.go i H ∧ ∃ Nx : Hp → Prop, (∀ H', Nx H' → ∃ m', m' < m ∧ W (i + 1) m' H') ∧ ∀ x H', J.yld i H x H' → Act x H' Nx)
/-- {elt for target in iter if ..} -/
def tSc1 (K : PySem.W.Frag) (P : Program) (w : World) (wi : TI) (g : TG) (tt : TT) (te : TE) (vs : List Nat) : TE := fun σ H Q => wi σ H fun J H1 => ∀ D, H1 D = none → ∃ W : Nat → Nat → Hp → Prop, (∃ m, W 0 m (upd H1 D (SetTO P w D []))) ∧
  Wlk J W (fun H => Q (.ref D) H) fun x H' Nx => g x (wipe σ vs) H' fun σ2 H2 => wipe σ2 vs = wipe σ vs ∧ tt σ2 H2 fun b H3 => if b = true then tPut K P w D te σ2 H3 Nx else Nx H3
/-- {elt for target in iter if .. for target1 in iter1 if ..} -/
def tSc2 (K : PySem.W.Frag) (P : Program) (w : World) (wi : TI) (g : TG) (tt : TT) (wi1 : TI) (g1 : TG) (tt1 : TT) (te : TE) (vs vs1 : List Nat) : TE := fun σ H Q => wi σ H fun J H1 => ∀ D, H1 D = none → ∃ W : Nat → Nat → Hp → Prop, (∃ m, W 0 m (upd H1 D (SetTO P w D []))) ∧
  Wlk J W (fun H => Q (.ref D) H) fun x H' Nx => g x (wipe σ vs) H' fun σ2 H2 => wipe σ2 vs = wipe σ vs ∧ tt σ2 H2 fun b H3 => if b = true then wi1 σ2 H3 fun J1 H4 => ∃ W1 : Nat → Nat → Hp → Prop, (∃ m, W1 0 m H4) ∧
      Wlk J1 W1 Nx fun x1 H5 Nx1 => g1 x1 (wipe σ2 vs1) H5 fun σ3 H6 => wipe σ3 vs1 = wipe σ2 vs1 ∧ tt1 σ3 H6 fun b1 H7 => if b1 = true then tPut K P w D te σ3 H7 Nx1 else Nx1 H7
    else Nx H3
theorem knows_wipe {σ0 σ2 : L2.St} {vs : List Nat} (h : wipe σ2 vs = σ0) : Knows σ0 σ2 := ⟨by rw [← h, wipe_length], fun j v e => by rw [← h] at e; exact (wipe_some e).1⟩
/-- the act of the innermost clause -/
theorem put_act {X : Cx} {pins : List (Addr × Obj)} {elt : Expr} {te : TE} {D : Addr} {σ : L2.St} {s : Shared} {H : Hp} {Nx : Hp → Prop} (hu : X.A.units + 3 < cLine) (hxe : ∀ e s, ¬ X.xe e s) (pe : PE X elt te) (I : Inv X pins σ H s) (h : tPut X.K X.prog X.w D te σ H Nx) :
    wpAny (model X.prog X.w) X.A (do let v ← eval elt X.env; standAt elt.pos; let _ ← call (.builtin "set.add") [.ref D, v]) (fun _ s' => ∃ H', Inv X pins σ H' s' ∧ Nx H') (fun _ _ => False) s := by
  refine wpAny_bind (thnE hxe (pe.run pins s σ H _ I h) fun z s1 ⟨y, H1, I1, r1, b, k, L, ey, hb, hD, hL, hf, nx⟩ => ?_)
  subst ey
  cases r1
  refine wpAny_bind (wpAny_standAt (wpAny_bind ?_))
  exact addT_ok I1 hu hD hL hb hf fun s' L' c1 c2 I' => wpAny_pure ⟨_, I', nx L' c1 c2⟩
abbrev BlkX (X : Cx) (scope : Scope) (J : Cx → Prop) : Prop := ∀ (s : Shared) (H : Hp) (C : Addr) (cl : List (Str × Addr)) (fp : List Addr), J (X.blk s H scope (compEnvC scope cl C X.env) fp)
theorem pe_sc1 {elt tg iter : Expr} {ifs : List Expr} {scope : Scope} {own : List (Str × Nat)} {pos : Pos} {wi : TI} {g : TG} {tt : TT} {te : TE} (hc : X.calm = true) (hu : X.A.units + 3 < cLine) (hN : X.N.Nodup) (hi : PI X tg iter wi) (ok : BlkOk X.N X.env.scope scope own)
    (hg : BlkX X scope fun Y => PG Y tg g) (ht : BlkX X scope fun Y => PTs Y ifs tt) (he : BlkX X scope fun Y => PE Y elt te) (hs : ∀ x, foldedSetIterable iter X.env x = pure x := by intro _; rfl) :
    PE X (.SetComp elt [⟨tg, iter, ifs, 0⟩] scope pos) (tSc1 X.K X.prog X.w wi g tt te (ownS own)) := by
  refine ⟨fun pins s σ H Q I h => ?_⟩
  rw [PpSet.eval_SetComp]
  refine sc_enter (Q := Q) (Rd := fun J D H0 => ∃ W : Nat → Nat → Hp → Prop, (∃ m, W 0 m H0) ∧ Wlk J W (fun H => Q (.ref D) H) fun x H' Nx => g x (wipe σ (ownS own)) H' fun σ2 H2 => wipe σ2 (ownS own) = wipe σ (ownS own) ∧ tt σ2 H2 fun b H3 => if b = true then tPut X.K X.prog X.w D te σ2 H3 Nx else Nx H3)
    hc hN I hi ok hs h (fun D C s' m H' I' q hn f => ⟨m, hn, fun h'' sb => ?_⟩) fun it fp tn J D C cl s3 s4 H3 rd I4 T st4 nfp stat back => ?_
  · obtain ⟨f0, f1, f2, f3, f4, f5⟩ := f
    exact ⟨.ref D, H', I'.turned (t' := s'.toks) (fun b o hb e => (sb.2 b hb).trans e) f0 f1 f3 f4 f5, rfl, q⟩
  · obtain ⟨W, ⟨m0, w0⟩, wlk⟩ := rd
    exact clause_loop (X := X.blk s3 H3 scope (compEnvC scope cl C X.env) fp) hc (fun _ _ h => h) rfl (iter := iter) (act := fun kont => (do let v ← eval elt (compEnvC scope cl C X.env); standAt elt.pos; let _ ← call (.builtin "set.add") [.ref D, v]) >>= fun _ => kont) rfl T (hg s3 H3 C cl fp) (ht s3 H3 C cl fp) stat (ok := fun σ2 => wipe σ2 (ownS own) = wipe σ (ownS own))
      (body := fun {σ2 Hx s H Nx} o I2 b kont P E hk => wpAny_bind (thnF (put_act (X := X.blk s3 H3 scope (compEnvC scope cl C X.env) fp) hu (fun _ _ h => h) (he s3 H3 C cl fp) I2 b) fun _ s' ⟨H', I', nx⟩ => hk s' ⟨σ2, H', I', knows_wipe o, nx⟩))
      knows_wipe wlk back I4 st4 nfp w0
theorem pe_sc2 {elt tg iter tg1 iter1 : Expr} {ifs ifs1 : List Expr} {scope : Scope} {own : List (Str × Nat)} {vs1 : List Nat} {pos : Pos} {wi wi1 : TI} {g g1 : TG} {tt tt1 : TT} {te : TE} (hc : X.calm = true) (hu : X.A.units + 3 < cLine) (hN : X.N.Nodup) (hi : PI X tg iter wi) (ok : BlkOk X.N X.env.scope scope own) (hv : ∀ i ∈ vs1, i ∈ ownS own)
    (hg : BlkX X scope fun Y => PG Y tg g) (ht : BlkX X scope fun Y => PTs Y ifs tt) (hi1 : BlkX X scope fun Y => PI Y tg1 iter1 wi1) (hg1 : BlkX X scope fun Y => PG Y tg1 g1) (ht1 : BlkX X scope fun Y => PTs Y ifs1 tt1) (he : BlkX X scope fun Y => PE Y elt te)
    (hs : ∀ x, foldedSetIterable iter X.env x = pure x := by intro _; rfl) (hs1 : ∀ env x, foldedSetIterable iter1 env x = pure x := by intro _ _; rfl) :
    PE X (.SetComp elt [⟨tg, iter, ifs, 0⟩, ⟨tg1, iter1, ifs1, 0⟩] scope pos) (tSc2 X.K X.prog X.w wi g tt wi1 g1 tt1 te (ownS own) vs1) := by
  refine ⟨fun pins s σ H Q I h => ?_⟩
  rw [PpSet.eval_SetComp]
  refine sc_enter (Q := Q) (Rd := fun J D H0 => ∃ W : Nat → Nat → Hp → Prop, (∃ m, W 0 m H0) ∧ Wlk J W (fun H => Q (.ref D) H) fun x H' Nx => g x (wipe σ (ownS own)) H' fun σ2 H2 => wipe σ2 (ownS own) = wipe σ (ownS own) ∧ tt σ2 H2 fun b H3 => if b = true then wi1 σ2 H3 fun J1 H4 => ∃ W1 : Nat → Nat → Hp → Prop, (∃ m, W1 0 m H4) ∧
      Wlk J1 W1 Nx fun x1 H5 Nx1 => g1 x1 (wipe σ2 vs1) H5 fun σ3 H6 => wipe σ3 vs1 = wipe σ2 vs1 ∧ tt1 σ3 H6 fun b1 H7 => if b1 = true then tPut X.K X.prog X.w D te σ3 H7 Nx1 else Nx1 H7
    else Nx H3)
    hc hN I hi ok hs h (fun D C s' m H' I' q hn f => ⟨m, hn, fun h'' sb => ?_⟩) fun it fp tn J D C cl s3 s4 H3 rd I4 T st4 nfp stat back => ?_
  · obtain ⟨f0, f1, f2, f3, f4, f5⟩ := f
    exact ⟨.ref D, H', I'.turned (t' := s'.toks) (fun b o hb e => (sb.2 b hb).trans e) f0 f1 f3 f4 f5, rfl, q⟩
  · obtain ⟨W, ⟨m0, w0⟩, wlk⟩ := rd
    refine clause_loop (X := X.blk s3 H3 scope (compEnvC scope cl C X.env) fp) hc (fun _ _ h => h) rfl (iter := iter)
      (act := fun kont => do
        let x ← eval iter1 (compEnvC scope cl C X.env)
        standAt iter1.pos
        let x ← foldedSetIterable iter1 (compEnvC scope cl C X.env) x
        let _ ← runOwn (.compStart (.SetComp elt [⟨tg, iter, ifs, 0⟩, ⟨tg1, iter1, ifs1, 0⟩] scope pos) 1 (← holding [x] (pyIter x)) (.ref D) (compEnvC scope cl C X.env)) (compEnvC scope cl C X.env)
        kont)
      rfl T (hg s3 H3 C cl fp) (ht s3 H3 C cl fp) stat (ok := fun σ2 => wipe σ2 (ownS own) = wipe σ (ownS own)) (body := fun {σ2 Hx s5 H5 Nx} o I2 b kont P E hk => ?_)
      knows_wipe wlk back I4 st4 nfp w0
    refine wpAny_bind (thnF ((hi1 s3 H3 C cl fp).run _ s5 σ2 H5 _ I2 b) fun xv s6 h6 => ?_)
    refine wpAny_bind (wpAny_standAt (wpAny_bind (wpAny_of_eq (hs1 _ xv) (wpAny_bind (wpAny_holding (thnF h6 fun itv s7 h7 => ?_))))))
    obtain ⟨it1, fp1, tn1, J1, H7, rfl, I7, T1, st7, f7, W1, ⟨m1, w1⟩, wlk1⟩ := h7
    refine wpAny_bind (wpAny_runOwn ?_)
    rw [Around.mark_none]
    have L : codeAny (model X.prog X.w) X.A (.compLoop (.SetComp elt [⟨tg, iter, ifs, 0⟩, ⟨tg1, iter1, ifs1, 0⟩] scope pos) 1 (.ref it1) (.ref D) (compEnvC scope cl C X.env)) (fun r s' => match r with
        | .ok _ => ∃ H', L2.Inv (X.blk s3 H3 scope (compEnvC scope cl C X.env) fp) ([] ++ pinsAt fp Hx) (wipe σ2 vs1) H' s' ∧ Nx H'
        | .error _ => False) s7 :=
      clause_loop (X := X.blk s3 H3 scope (compEnvC scope cl C X.env) fp) hc (fun _ _ h => h) rfl (iter := iter1) (act := fun kont => (do let v ← eval elt (compEnvC scope cl C X.env); standAt elt.pos; let _ ← call (.builtin "set.add") [.ref D, v]) >>= fun _ => kont) rfl T1 (hg1 s3 H3 C cl fp) (ht1 s3 H3 C cl fp) (fun hn b hb => ⟨hn b hb, (f7 b hb).2⟩) (ok := fun σ3 => wipe σ3 vs1 = wipe σ2 vs1)
        (body := fun {σ3 Hy s8 H8 Ny} o3 I8 b8 kont P E hk => wpAny_bind (thnF (put_act (X := X.blk s3 H3 scope (compEnvC scope cl C X.env) fp) hu (fun _ _ h => h) (he s3 H3 C cl fp) I8 b8) fun _ s' ⟨H', I', nx⟩ => hk s' ⟨σ3, H', I', knows_wipe o3, nx⟩))
        knows_wipe wlk1 (fun H' s' I' nx => ⟨H', I', nx⟩) (I7.weak (wipe_length _ _) fun j v e => (wipe_some e).1) st7 (fun b hb => (f7 b hb).1) w1
    have kw : Knows (wipe σ (ownS own)) (wipe σ2 vs1) := by
      refine ⟨by rw [← o, wipe_length, wipe_length], fun j v e => ?_⟩
      rw [← o] at e
      obtain ⟨e1, e2⟩ := wipe_some e
      rw [wipe_out fun z => e2 (hv j z)]
      exact e1
    refine codeAny_mono (sc_start1 L (T1.self X.A 0 _ _ _ st7 L)) fun r s' hr => ?_
    cases r with
    | error e => exact hr.elim
    | ok f =>
      obtain ⟨H', I', nx⟩ := hr
      exact hk s' ⟨wipe σ2 vs1, H', I', kw, nx⟩
end
end Om

/-! sorted of a set of tuples of ints of any lengths -/
namespace Om
open PySem PySem.Spec PyProof.Rows L2 PySem.W PySem.SeqAt
theorem perm_of_map {α β : Type} (f : α → β) : ∀ {vs ws : List β}, vs.Perm ws → ∀ L : List α, ws = L.map f → ∃ L1 : List α, L1.Perm L ∧ vs = L1.map f := by
  intro vs ws p
  induction p with
  | nil => exact fun L e => ⟨L, .refl _, e⟩
  | cons x _ ih =>
    intro L e
    cases L with
    | nil => cases e
    | cons y L =>
      injection e with e1 e2
      obtain ⟨L1, h1, h2⟩ := ih L e2
      exact ⟨y :: L1, h1.cons y, by rw [List.map_cons, ← h2, e1]⟩
  | swap x y l =>
    intro L e
    cases L with
    | nil => cases e
    | cons a L =>
      cases L with
      | nil => cases e
      | cons b L =>
        injection e with e1 e2
        injection e2 with e2 e3
        exact ⟨b :: a :: L, .swap a b L, by rw [List.map_cons, List.map_cons, ← e1, ← e2, ← e3]⟩
  | trans _ _ ih1 ih2 =>
    intro L e
    obtain ⟨L2, h3, h4⟩ := ih2 L e
    obtain ⟨L1, h1, h2⟩ := ih1 L2 h4
    exact ⟨L1, h1.trans h3, h2⟩
/-- a tuple of ints, as data -/
def itup (ns : List Int) : PyData := .tuple (ns.map .int)
theorem itup_alike (a b : List Int) : alike (itup a) (itup b) = true := by
  show alike (.tuple (a.map .int)) (.tuple (b.map .int)) = true
  rw [alike]
  exact PySem.W.alike_ints a b
theorem itup_depth (a : List Int) : (itup a).depth = 1 := by
  show (PyData.tuple (a.map .int)).depth = 1
  simp [PyData.depth, PySem.W.depth_ints]
section
variable {prog : Program} {w : World} {A : Around} {E : Value → Shared → Prop} {s : Shared}
theorem mapM_each {α β : Type} {M : Model} {f : α → Sem β} {g : α → β} : ∀ (l : List α) {Q : List β → Shared → Prop}, (∀ v ∈ l, ∀ (Q' : β → Shared → Prop), Q' (g v) s → wpAny M A (f v) Q' E s) → Q (l.map g) s → wpAny M A (l.mapM f) Q E s
  | [], _, _, h => by rw [List.mapM_nil]; exact wpAny_pure h
  | x :: l, Q, hf, h => by
    rw [List.mapM_cons]
    exact wpAny_bind (hf x (.head _) _ (wpAny_bind (mapM_each l (Q := fun bs s' => wpAny M A (pure (g x :: bs)) Q E s') (fun v hv => hf v (.tail _ hv)) (wpAny_pure h))))
/-- one tuple of ints against another, as sorting compares -/
theorem oneLt_itup {f : Bool} {x y : List Int} {a b : Value} {as bs : List Addr} {Q : Bool → Shared → Prop} (ra : Reads s.heap a (itup x) as) (rb : Reads s.heap b (itup y) bs) (hu : A.units + 1 < cLine) (hq : Q (dataLt (itup x) (itup y)) s) : wpAny (model prog w) A (oneLt' f a b) Q E s := by
  have hroom : A.units + min (itup x).depth (itup y).depth < cLine := by rw [itup_depth, itup_depth]; exact hu
  cases f with
  | false => exact oneLt_alike (fun h => nomatch h) ra rb (itup_alike x y) (fun h => nomatch h) hroom hq
  | true =>
    have hal : alikeAll (x.map PyData.int) (y.map PyData.int) = true := PySem.W.alike_ints x y
    have hq' : Q (dataLt (.tuple (x.map .int)) (.tuple (y.map .int))) s := hq
    cases ra with
    | @tuple l o vs n _ as₁ h1 h2 h3 h4 =>
      cases rb with
      | @tuple l' o' vs' n' _ bs₁ k1 k2 k3 k4 =>
        have n1 : vs.size = (x.map PyData.int).length := by simpa using ReadsAll.length _ _ _ h4
        have n2 : vs'.size = (y.map PyData.int).length := by simpa using ReadsAll.length _ _ _ k4
        rw [dataLt_tuple, ← firstLt_toks _ _ hal, ← n1, ← n2] at hq'
        obtain ⟨cls, dd, data, sl⟩ := o
        obtain ⟨cls2, dd2, data2, sl2⟩ := o'
        simp only at h2 h3 k2 k3
        subst h2 h3 k2 k3
        rw [oneLt'_eq]
        simp only [if_true]
        refine wpAny_bind (wpAny_cRoomFor (by omega) ?_)
        refine wpAny_bind (wpAny_callSpecialIfBound?_slot (T := "tuple") ⟨_, h1, rfl⟩ PySem.F.slot_tuple_lt (call_meets PySem.F.slot_tuple_lt ⟨_, h1, rfl⟩ PySem.F.entry_tuple_lt (PySem.F.args_tuple_lt_2 _ _) (tuple_ltAt l l' vs vs' n n' dd dd2 sl sl2 (pairEq (x.map .int) (y.map .int)) fun j => dataLt ((x.map PyData.int).getD j .none) ((y.map PyData.int).getD j .none)) ⟨h1, k1, fun j j1 j2 => ?_, fun j j1 j2 hj => ?_, ?_⟩))
        · have hr : A.units + min (PyData.tuple (x.map .int)).depth (PyData.tuple (y.map .int)).depth < cLine := hroom
          have := eqAt_alikeAll (x.map .int) (y.map .int) A.in1 s vs.toList vs'.toList _ _ h4 k4 hal (room_in hr) j (by simpa using j1) (by simpa using j2)
          simpa using this
        · have hr : A.units + min (PyData.tuple (x.map .int)).depth (PyData.tuple (y.map .int)).depth < cLine := hroom
          have := rcLt_alikeAll (x.map .int) (y.map .int) A.in1 s vs.toList vs'.toList _ _ h4 k4 hal (room_in hr) j (by simpa using j1) (by simpa using j2) hj
          simpa using this
        · exact wpAny_truthy_bool hq'
/-- the first item of a tuple of ints, if there is one -/
def fstI (h : Heap) (v : Value) : Option Value := match v with
  | .ref a => match h.get? a with
    | some o => match o.data with
      | .seq items _ => items[0]?
      | _ => none
    | none => none
  | _ => none
theorem first_itup {x : List Int} {a : Value} {as : List Addr} {Q : Option Value → Shared → Prop} (ra : Reads s.heap a (itup x) as) (h : Q (fstI s.heap a) s) : wpAny (model prog w) A (firstOfTuple' a) Q E s := by
  cases ra with
  | @tuple l o vs n _ as₁ h1 h2 h3 h4 =>
    have e : fstI s.heap (.ref l) = vs[0]? := by
      unfold fstI
      simp only [h1, h3]
    rw [e] at h
    rw [kas_first_eq]
    refine wpAny_bind (Looks.here (show Looks (model prog w) s.heap (typeOf (.ref l)) o.cls from (Looks.ld h1).andThen .now) ?_)
    rw [h2, if_neg (by first | decide | simp)]
    exact wpAny_bind (listItems_at h1 h3 (wpAny_pure h))
theorem fst_some {h : Heap} {x : List Int} {a : Value} {as : List Addr} (ra : Reads h a (itup x) as) : (fstI h a).isSome = !x.isEmpty := by
  cases ra with
  | @tuple l o vs n _ as₁ h1 h2 h3 h4 =>
    have e : fstI h (.ref l) = vs[0]? := by
      unfold fstI
      simp only [h1, h3]
    have n1 : vs.size = x.length := by
      have := ReadsAll.length _ _ _ h4
      simpa using this
    rw [e]
    cases x with
    | nil => rw [show vs[0]? = none from Array.getElem?_eq_none (by rw [n1]; exact Nat.zero_le _)]; rfl
    | cons y ys =>
      have hp : 0 < vs.size := by rw [n1]; exact Nat.succ_pos _
      rw [Array.getElem?_eq_getElem hp]; rfl
theorem type_itup {M : Model} {h : Heap} {x : List Int} {a : Value} {as : List Addr} (ra : Reads h a (itup x) as) : Looks M h (typeOf a) (.type "tuple") := looks_reads ra
/-- tuples of ints can be sorted, whatever their lengths are -/
theorem sorts_itups {vs : List Value} {bs : List (List Int)} (e : EachIs (fun v d => ∃ as, Reads s.heap v d as) vs (bs.map itup)) (hu : A.units + 1 < cLine) : SortsAt prog w A s (dataKind s.heap (bs.map itup)) vs := by
  have hal : AllAlike (bs.map itup) := AllAlike.of itup_alike
  by_cases hne : ∀ b ∈ bs, b ≠ []
  · refine SortsAt.data e hal (.inl fun d hd => ?_) fun d hd => ?_
    · obtain ⟨b, hb, rfl⟩ := List.mem_map.mp hd
      cases b with
      | nil => exact absurd rfl (hne _ hb)
      | cons y ys => exact ⟨_, _, rfl⟩
    · obtain ⟨b, _, rfl⟩ := List.mem_map.mp hd
      rw [itup_depth]
      exact hu
  have rd : ∀ v ∈ vs, ∃ x ∈ bs, ∃ as, Reads s.heap v (itup x) as := fun v hv => by
    obtain ⟨d, hd, as, r⟩ := e.left v hv
    obtain ⟨x, hx, rfl⟩ := List.mem_map.mp hd
    exact ⟨x, hx, as, r⟩
  have lt : ∀ f : Bool, ∀ (E : Value → Shared → Prop) (x y : Value) (a b : List (Int ⊕ List Nat)) {Q : Bool → Shared → Prop}, (dataKind s.heap (bs.map itup)).keyOf x = some a → (dataKind s.heap (bs.map itup)).keyOf y = some b → Q ((dataKind s.heap (bs.map itup)).blt a b) s → wpAny (model prog w) A (oneLt' f x y) Q E s := by
    intro f E x y a b Q ha hb hq
    obtain ⟨d, as, hd, ra, rfl⟩ := dataKind_inv ha
    obtain ⟨d', as', hd', rb, rfl⟩ := dataKind_inv hb
    obtain ⟨p, _, rfl⟩ := List.mem_map.mp hd
    obtain ⟨q, _, rfl⟩ := List.mem_map.mp hd'
    exact oneLt_itup ra rb hu hq
  have keys : ∀ v, v ∈ vs → ∃ a, (dataKind s.heap (bs.map itup)).keyOf v = some a := fun v hv => by
    obtain ⟨d, hd, as, r⟩ := e.left v hv
    exact ⟨_, dataKind_some hal hd r⟩
  have some_nil : ∃ v ∈ vs, (fstI s.heap v).isSome = false := by
    refine Classical.byContradiction fun hn => hne fun b hb e2 => hn ?_
    subst e2
    have : ∀ {vs : List Value} {bs : List (List Int)}, EachIs (fun v d => ∃ as, Reads s.heap v d as) vs (bs.map itup) → [] ∈ bs → ∃ v ∈ vs, (fstI s.heap v).isSome = false := by
      intro vs bs
      induction bs generalizing vs with
      | nil => exact fun _ hb => absurd hb (by simp)
      | cons b bs ih =>
        intro e hb
        cases e with
        | @cons v _ vs' _ h t =>
          rcases List.mem_cons.mp hb with z | z
          · subst z
            obtain ⟨as, r⟩ := h
            exact ⟨v, List.mem_cons_self, by rw [fst_some r]; rfl⟩
          · obtain ⟨u, hu, k⟩ := ih t z
            exact ⟨u, List.mem_cons_of_mem _ hu, k⟩
    exact this e hb
  obtain ⟨v0, hv0, k0⟩ := some_nil
  have hall : ¬ (((vs.map (fstI s.heap)).toArray.all fun x => x.isSome) = true) := by
    simp only [List.all_toArray, List.all_map, List.all_eq_true]
    intro h
    have := h v0 hv0
    simp only [Function.comp] at this
    rw [k0] at this
    cases this
  have first : ∀ (E : Value → Shared → Prop) {Q : List (Option Value) → Shared → Prop}, Q (vs.map (fstI s.heap)) s → wpAny (model prog w) A (vs.mapM firstOfTuple') Q E s := fun E Q h => mapM_each vs (fun v hv Q' q => by
    obtain ⟨x, _, as, r⟩ := rd v hv
    exact first_itup r q) h
  by_cases h0 : (((vs.map (fstI s.heap)).toArray[0]?).bind id).isSome = true
  · refine ⟨keys, general', fun E x y a b Q ha hb hq => lt false E x y a b ha hb hq, fun h2 E Q hq => ?_⟩
    rw [keyKind'_eq, List.mapM_toArray, map_eq_pure_bind]
    refine wpAny_bind (wpAny_bind (first E (wpAny_pure ?_)))
    rw [if_neg hall, if_pos h0]
    exact wpAny_pure hq
  · refine ⟨keys, oneType', fun E x y a b Q ha hb hq => by rw [keyLt'_oneType]; exact lt true E x y a b ha hb hq, fun h2 E Q hq => ?_⟩
    rw [keyKind'_eq, List.mapM_toArray, map_eq_pure_bind]
    refine wpAny_bind (wpAny_bind (first E (wpAny_pure ?_)))
    rw [if_neg hall, if_neg h0]
    rw [oneTypeOnly'_eq, List.mapM_toArray, map_eq_pure_bind]
    refine wpAny_bind (wpAny_bind (wpAny_bind (kas_mapM (r := Value.type "tuple") _ (fun v hv Q' q => by
      obtain ⟨x, _, as, r⟩ := rd v hv
      exact (type_itup r).here q) (wpAny_pure ?_))))
    obtain ⟨v₁, rest, e1⟩ : ∃ v₁ rest, vs = v₁ :: rest := by
      cases vs with
      | nil => simp at h2
      | cons v r => exact ⟨v, r, rfl⟩
    subst e1
    have hall2 : ((List.map (fun _ => Value.type "tuple") (v₁ :: rest)).toArray.all fun x => x == Value.type "tuple") = true := by
      simp only [List.all_toArray, List.all_map, List.all_eq_true]
      intro _ _
      exact beq_self_eq_true _
    have h0 : (List.map (fun _ => Value.type "tuple") (v₁ :: rest)).toArray[0]? = some (Value.type "tuple") := by simp
    rw [h0]
    simp only [hall2, if_true]
    exact wpAny_pure (wpAny_pure hq)
/-- sorted(a set of tuples of ints): a list of its members -/
theorem sorted_setG {P : Program} {w : World} {A : Around} {E : Value → Shared → Prop} {s : Shared} {a : Addr} {L : List (Addr × List Int)} {es : Array (Int × Value)} {ep : Nat} {t : SetTable} {Q : Value → Shared → Prop} (R : SetTR P w s.heap a L es ep t) (hh : A.handled = none) (hu : A.units + 64 < cLine)
    (hQ : ∀ s' p (out : Array Value) (c : Nat) (L' : List (Addr × List Int)), (∀ b o, s.heap.get? b = some o → s'.heap.get? b = some o) → s'.gens = s.gens → s'.os = s.os → s.heap.objs.size ≤ p →
      s'.heap.get? p = some (seqObj "list" out c) → out.toList = L'.map (fun q => Value.ref q.1) → L'.Perm L → Q (.ref p) s') :
    wpAny (model P w) A (call (.builtin "sorted") [.ref a]) Q E s := by
  obtain ⟨o, ho, hex, hd⟩ := R.ob
  have hsz := R.size
  have hfew := R.few
  refine Calls.call_function_entry kind_sorted plain_sorted entry_sorted (args_sorted1 _) ?_
  unfold Builtin.«sorted»
  refine wpAny_bind (m := checkCount "sorted" 1 1 _) (wpAny_pure ?_)
  refine wpAny_bind (collect_set (A := A.in1) hh ⟨o, ho, hex.1, hd⟩ R.fits (by unfold scanBound; omega) R.tab.ris R.led fun s1 vs k1 hz g1 o1 pm => ?_)
  have hes : es.toList.map (·.2) = L.map fun q => Value.ref q.1 := by
    rw [R.rows]
    unfold L2.rowsOf
    rw [List.map_map]
    rfl
  rw [hes] at pm
  obtain ⟨L1, p1, e1⟩ := perm_of_map (fun q : Addr × List Int => Value.ref q.1) pm L rfl
  have hvl : vs.length ≤ sizeLine := by rw [e1, List.length_map, p1.length_eq, sizeLine_eq]; omega
  refine wpAny_bind (wpAny_newList ?_ hvl)
  have hoL : (s1.heap.push (seqObj "list" vs.toArray 0)).get? s1.heap.objs.size = some (seqObj "list" vs.toArray 0) := Heap.get?_push_size _ rfl
  have old : ∀ b u, s.heap.get? b = some u → (s1.heap.push (seqObj "list" vs.toArray 0)).get? b = some u := fun b u e => Heap.get?_push_of_some _ (k1 b u e)
  have rdAll : ∀ (h' : Heap), (∀ b u, s.heap.get? b = some u → b ≠ s1.heap.objs.size → h'.get? b = some u) → ∀ q ∈ L, ∃ as, Reads h' (.ref q.1) (itup q.2) as := by
    intro h' hk q hq
    obtain ⟨b, items, n, hb⟩ := id (R.tup q hq)
    obtain ⟨hbo, hbc, hbd, hbi⟩ := hb
    have hne : q.1 ≠ s1.heap.objs.size := fun z => by
      have := Heap.lt_size (k1 _ _ hbo)
      rw [z] at this
      exact absurd this (Nat.lt_irrefl _)
    have rdI : ∀ (ks : List Int) (us : List Value), ItemsAre (intKind P w) ks us → ∃ as, ReadsAll h' us (ks.map PyData.int) as := by
      intro ks us it
      induction it with
      | nil => exact ⟨_, .nil⟩
      | @cons k u ks us h1 _ ih =>
        obtain ⟨as, r⟩ := ih
        have hi : Value.isInt k u = true := h1
        obtain ⟨tk, rfl⟩ := Value.isInt_shape hi
        exact ⟨_, .cons (.int _ _) r⟩
    obtain ⟨as, r⟩ := rdI _ _ hbi
    exact ⟨_, .tuple (hk _ _ hbo hne) hbc hbd r⟩
  have eachR : ∀ (h' : Heap), (∀ b u, s.heap.get? b = some u → b ≠ s1.heap.objs.size → h'.get? b = some u) → ∀ L2 : List (Addr × List Int), (∀ q ∈ L2, q ∈ L) → EachIs (fun v d => ∃ as, Reads h' v d as) (L2.map fun q => Value.ref q.1) ((L2.map (·.2)).map itup) := by
    intro h' hk L2
    induction L2 with
    | nil => exact fun _ => .nil
    | cons q L2 ih => exact fun hs => .cons (rdAll h' hk q (hs q List.mem_cons_self)) (ih fun r hr => hs r (List.mem_cons_of_mem _ hr))
  have hk2 : ∀ b u, s.heap.get? b = some u → b ≠ s1.heap.objs.size → (sortingHeap (s1.heap.push (seqObj "list" vs.toArray 0)) s1.heap.objs.size vs).get? b = some u := fun b u e hb => sortingHeap_old hb (old b u e)
  have e2 := eachR _ hk2 L1 fun q hq => p1.mem_iff.mp hq
  rw [← e1] at e2
  have units1 : A.in1.in1.units + 1 < cLine := by show A.units + 1 + 1 + 1 < cLine; omega
  have R' : EachIs (fun (v : Value) (q : Addr × List Int) => v = Value.ref q.1) vs L1 := by
    rw [e1]
    clear e1 e2 hvl p1
    induction L1 with
    | nil => exact .nil
    | cons q L1 ih => exact .cons rfl ih
  have eb : (L1.map (·.2)).map itup = L1.map fun q => itup q.2 := by rw [List.map_map]; rfl
  have er : EachIs (fun (v : Value) (q : Addr × List Int) => ∃ as, Reads (sortingHeap (s1.heap.push (seqObj "list" vs.toArray 0)) s1.heap.objs.size vs) v (itup q.2) as) vs L1 := by
    have : ∀ {vs : List Value} {L1 : List (Addr × List Int)} {h' : Heap}, EachIs (fun v d => ∃ as, Reads h' v d as) vs ((L1.map (·.2)).map itup) → EachIs (fun (v : Value) (q : Addr × List Int) => ∃ as, Reads h' v (itup q.2) as) vs L1 := by
      intro vs L1 h'
      induction L1 generalizing vs with
      | nil => intro e; cases e; exact .nil
      | cons q L1 ih => intro e; cases e with | cons h t => exact .cons h (ih t)
    exact this e2
  have S := sorts_itups (prog := P) (w := w) (A := A.in1.in1) (s := { s1 with heap := sortingHeap (s1.heap.push (seqObj "list" vs.toArray 0)) s1.heap.objs.size vs }) e2 units1
  refine wpAny_bind (wpAny_holding (wpAny_call_entry (s := { s1 with heap := s1.heap.push (seqObj "list" vs.toArray 0) }) slot_list_sort ⟨_, hoL, rfl⟩ entry_list_sort (list_sort_vals hoL S hvl ⟨.none, rfl, ?_⟩) (args_list_sort _)))
  have out := sortVals_data (enc := fun q : Addr × List Int => itup q.2) false R' er (by rw [← eb]; exact AllAlike.of itup_alike)
  rw [eb]
  generalize hov : sortVals (dataKind (sortingHeap (s1.heap.push (seqObj "list" vs.toArray 0)) s1.heap.objs.size vs) (L1.map fun q => itup q.2)) false vs vs = ov at out ⊢
  obtain ⟨c, hc⟩ := sortedHeap_at (vs := vs) (out := ov.toArray) hoL
  have eo : ∀ {ov : List Value} {L2 : List (Addr × List Int)}, EachIs (fun (v : Value) (q : Addr × List Int) => v = Value.ref q.1) ov L2 → ov = L2.map fun q => Value.ref q.1 := by
    intro ov L2 e
    induction e with
    | nil => rfl
    | cons h _ ih => rw [h, ih]; rfl
  refine wpAny_pure ⟨_, rfl, hQ _ s1.heap.objs.size ov.toArray c (L1.mergeSort (dataLe false fun q => itup q.2)) (fun b u e => ?_) g1 o1 hz hc (by simpa using eo out) ((List.mergeSort_perm _ _).trans p1)⟩
  have q := k1 b u e
  have hlt := Heap.lt_size q
  show (sortedHeap (s1.heap.push (seqObj "list" vs.toArray 0)) s1.heap.objs.size vs ov.toArray).get? b = some u
  rw [sortedHeap_old (Nat.ne_of_lt hlt) (by rw [size_push']; exact Nat.lt_succ_of_lt hlt)]
  exact Heap.get?_push_of_some _ q
end
/-! ### over the layer -/
/-- sorted(a set of tuples of ints): a new list of its members, in some order -/
def rSortSet (K : PySem.W.Frag) (P : Program) (w : World) : List V → Hp → VK → Prop := fun vs H Q => ∃ (a : Addr) (L : List (Addr × List Int)), vs = [V.ref a] ∧ H a = some (SetTO P w a L) ∧ (∀ p ∈ L, SqT K H p.1 (p.2.map V.int)) ∧
  ∀ (L' : List (Addr × List Int)) (p : Addr), L'.Perm L → (L'.map (·.2)).Nodup → H p = none → Q (.ref p) (upd H p (.lst (L'.map fun q => V.ref q.1)))
theorem cr_sortSet {X : Cx} (hc : X.calm = true) (hu : X.A.units + 64 < cLine) : CallR X (.builtin "sorted") (rSortSet X.K X.prog X.w) := by
  intro pins s σ H vs us Q I r h
  obtain ⟨a, L, rfl, ha, hk, q⟩ := h
  have R0 : SetT0 X.prog X.w s.heap a L := (I.hok a _ ha).1
  obtain ⟨es, ep, t, R⟩ := R0.full fun p hp => I.isT (hk p hp)
  rw [Vals.ref1 r]
  refine sorted_setG R (I.ok.hd hc) hu fun s' p out c L' k g o hp hg hout pm => ?_
  have hlen : (L'.map fun q => V.ref q.1).length ≤ sizeLine := by rw [List.length_map, pm.length_eq, sizeLine_eq]; have := R.few; omega
  have hn : H p = none := I.hok.fresh hp
  have hv : Vals (L'.map fun q => V.ref q.1) out.toList := by rw [hout]; exact vals_of_refs L'
  have J : Inv X pins σ (upd H p (.lst (L'.map fun q => V.ref q.1))) { s with heap := s'.heap, gens := s'.gens, drawn := s'.drawn, toks := s'.toks } :=
    I.call (ch := []) (Un.laid k hp hn) (I.hok.laid k hp ⟨hlen, out.toList, c, hv, hg⟩) (by rw [g]; exact I.bare) (fun _ z => nomatch z)
  have e : s' = { s with heap := s'.heap, gens := s'.gens, drawn := s'.drawn, toks := s'.toks } := by
    cases s'
    cases s
    cases o
    rfl
  rw [e]
  exact ⟨.ref p, _, J, rfl, q L' p pm ((pm.map (·.2)).nodup_iff.mpr R.nd) hn⟩
end Om

/-! list(d.values()) -/
namespace Om
open PySem PySem.Spec PyProof.Rows L2
def rValuesL : V → Hp → VK → Prop := fun x H Q => ∃ (d : Addr) (kvs : List (Key × V)), x = .ref d ∧ H d = some (.dK kvs) ∧ ∀ p, H p = none → Q (.ref p) (upd H p (.lst (kvs.map Prod.snd)))
def tListValues (te : TE) : TE := fun σ H Q => te σ H fun x H1 => rValuesL x H1 Q
theorem vals_of_kv {P : Program} {w : World} : ∀ {kvs : List (Key × V)} {vs : List (Key × Value)}, KV kvs vs → ∀ {us : List Value}, us.length = vs.length → (∀ (j : Nat) u, us[j]? = some u → ∃ k, vs[j]? = some (k, u)) → Vals (kvs.map Prod.snd) us := by
  intro kvs vs h
  unfold KV at h
  induction h with
  | nil =>
    intro us hl _
    rw [List.length_eq_zero_iff.mp hl]
    exact .nil
  | @cons p q ps qs hpq t ih =>
    intro us hl hu
    cases us with
    | nil => cases hl
    | cons u us =>
      obtain ⟨k, e⟩ := hu 0 u rfl
      have e : q = (k, u) := Option.some.inj e
      refine .cons ?_ (ih (Nat.succ.inj hl) fun j v hv => hu (j + 1) v hv)
      have := hpq.2
      rw [e] at this
      exact this
section
variable {X : Cx} {e : Expr} {te : TE} {p apos cpos pos : Pos}
theorem pe_listValues (hc : X.calm = true) (he : PE X e te) (hg : Gl X "list") (hm : X.mg "list" = none) (hv : bootBuiltins "list" = some (.type "list")) (hbase : attributeBase e "values" X.env (eval e X.env) = eval e X.env := by rfl) (hline : (apos.endLine == cpos.line) = true := by rfl)
    (hs : starEach [.Call (.Attribute e "values" apos) [] [] cpos] X.env = (false, eval (.Call (.Attribute e "values" apos) [] [] cpos) X.env) :: starEach [] X.env := by rfl) :
    PE X (.Call (.Name "list" p) [.Call (.Attribute e "values" apos) [] [] cpos] [] pos) (tListValues te) := by
  refine ⟨fun pins s σ H Q I hq => ?_⟩
  refine wpAny_Call_Name_kw (ld_blt I hg hm hv ?_)
  refine PyProof.Rows.callWith_type1 ?_ hs rfl
  rw [hs]
  show wpAny _ _ (spliced ((false, eval (.Call (.Attribute e "values" apos) [] [] cpos) X.env) :: backTo pos (starEach [] X.env))) _ _ s
  refine Calls.spliced_cons ?_
  refine wpAny_Call_method (T := "dict") (id := "dict.values") hbase rfl hline F.plainAttrs_dict F.slot_dict_values F.type_dict_values (thn (he.run pins s σ H _ I hq) fun u s1 ⟨x, H1, I1, rx, d, kvs, ex, hd, q⟩ => ?_)
  subst ex
  obtain rfl : u = Value.ref d := rx
  obtain ⟨hz, hs0, vs, kv, hdo⟩ := I1.hok d _ hd
  have lk : kvs.length = vs.length := Paired.length kv
  obtain ⟨es, ep, raw, hsz, hent⟩ := hdo.raw
  refine ⟨hdo.typeIs, hdo.mapOf.noDict, ?_⟩
  show wpAny _ _ (callWith cpos (.builtin "dict.values") [.ref d] [] []) _ X.xe s1
  refine method_meetsIn F.slot_dict_values F.entry_dict_values rfl (PySem.evalArgs_none ⟨rfl, hdo.typeIs, F.args_dict_values_1 _, _, meets_dict_values (mixKind X.prog X.w) d hs0, ⟨vs, hdo⟩, ?_⟩)
  refine Calls.spliced_nil ?_
  have hle : es.size ≤ sizeLine := by rw [hsz, ← lk]; exact hz
  have gone : ∀ b o, s1.heap.get? b = some o → (s1.heap.push { cls := .type "dict_values", data := .fields #[.ref d] }).get? b = some o := fun b o q => Heap.get?_push_of_some _ q
  refine PySem.W.kdl_call (s := { s1 with heap := s1.heap.push { cls := .type "dict_values", data := .fields #[.ref d] } }) (KdlSrc.rawValues (prog := X.prog) (w := X.w) (r := s1.heap.objs.size) (d := d) (es := es) (ep := ep)) (I1.ok.hd hc) ⟨⟨_, Heap.get?_push_size _ rfl, rfl, rfl⟩, raw.at fun o q => gone _ _ q⟩ hle fun h' tk acc c hk hS hacc => ?_
  have hp : s1.heap.objs.size ≤ (s1.heap.push { cls := .type "dict_values", data := .fields #[.ref d] }).objs.size := by rw [Heap.size_push]; exact Nat.le_succ _
  have hsa : acc.toList.length = vs.length := by rw [Array.length_toList, hacc.1, hsz]
  have hv2 : Vals (kvs.map Prod.snd) acc.toList := vals_of_kv (P := X.prog) (w := X.w) kv hsa fun j u hj => by
    rw [Array.getElem?_toList] at hj
    obtain ⟨hi, hu⟩ := hacc.2 j u hj
    have hjv : j < vs.length := by rw [← hsz]; exact hi
    obtain ⟨_, e2⟩ := hent j hi vs[j].1 vs[j].2 (by rw [List.getElem?_eq_getElem hjv])
    exact ⟨vs[j].1, by rw [List.getElem?_eq_getElem hjv, hu, e2]⟩
  have hn := I1.hok.fresh hp
  exact ⟨.ref _, upd H1 _ (.lst (kvs.map Prod.snd)), I1.laid (t' := tk) (fun b o q => hk b o (gone b o q)) hp ⟨by rw [List.length_map]; exact hz, acc.toList, c, hv2, by rw [Array.toArray_toList]; exact hS⟩, rfl, q _ hn⟩
end
end Om

/-! a dict whose keys are tuples of cells -/
namespace Om
open PySem PySem.Spec PyProof.Rows L2 LamX
def tupD (g : List Cell) : PyData := .tuple (g.map cdp)
def keyC (c : Cell) : NestedKey := .tup [.num (c.1 : Nat), .num (c.2 : Nat)]
def keyN (g : List Cell) : NestedKey := .tup (g.map keyC)
theorem keyC_inj {a b : Cell} (h : keyC a = keyC b) : a = b := by
  unfold keyC at h
  injection h with h
  injection h with h1 h2
  injection h1 with h1
  injection h2 with h2 _
  injection h2 with h2
  exact Prod.ext (Int.ofNat.inj h1) (Int.ofNat.inj h2)
theorem keyN_inj {a b : List Cell} (h : keyN a = keyN b) : a = b := by
  unfold keyN at h
  injection h with h
  induction a generalizing b with
  | nil =>
    cases b with
    | nil => rfl
    | cons y b => cases h
  | cons x a ih =>
    cases b with
    | nil => cases h
    | cons y b =>
      injection h with h1 h2
      rw [keyC_inj h1, ih h2]
theorem keyN_depth (g : List Cell) : (keyN g).depth ≤ 8 := by
  have h : NestedKey.depthAll (g.map keyC) ≤ 1 := by
    induction g with
    | nil => exact Nat.zero_le _
    | cons c g ih =>
      show max (NestedKey.depth (keyC c)) _ ≤ 1
      have : NestedKey.depth (keyC c) = 1 := by simp [keyC, NestedKey.depth, NestedKey.depthAll]
      rw [this]
      exact Nat.max_le.mpr ⟨Nat.le_refl _, ih⟩
  show NestedKey.depthAll (g.map keyC) + 1 ≤ 8
  omega
theorem reads_cell {h : Heap} {c : Cell} {v : Value} {as : List Addr} (r : Reads h v (cdp c) as) : NestedIs h (keyC c) v := by
  unfold cdp at r
  cases r with
  | tuple h1 h2 h3 h4 =>
    refine .tup h1 h2 h3 ?_
    generalize Array.toList _ = vs at h4
    cases h4 with
    | cons r1 h4 =>
      cases r1
      cases h4 with
      | cons r2 h4 =>
        cases r2
        cases h4
        exact .cons (.int _ _) (.cons (.int _ _) .nil)
theorem reads_cells {h : Heap} : ∀ {g : List Cell} {vs : List Value} {as : List Addr}, ReadsAll h vs (g.map cdp) as → NestedAll h (g.map keyC) vs
  | [], _, _, r => by cases r; exact .nil
  | c :: g, _, _, r => by
    cases r with
    | cons r1 r2 => exact .cons (reads_cell r1) (reads_cells r2)
theorem reads_key {h : Heap} {g : List Cell} {v : Value} {as : List Addr} (r : Reads h v (tupD g) as) : NestedIs h (keyN g) v := by
  unfold tupD at r
  cases r with
  | tuple h1 h2 h3 h4 => exact .tup h1 h2 h3 (reads_cells h4)
/-- the dict at d, without its keys' tuples: an entry's key, where its tuple stands, its value -/
structure NkE (P : Program) (w : World) (h : Heap) (d : Addr) (xs : List (List Cell × Addr × V)) : Prop where
  ex : (d == sysModules) = false ∧ ∃ (vs : List (NestedKey × Addr × Value)) (o : Obj) (es : Array DictEntry) (ep : Nat), h.get? d = some o ∧ o.ExactDict ∧ o.data = .dict es ep ∧ es.toList = vs.map (entryOfKey (nestedKind P w)) ∧ (vs.map (·.1)).Nodup ∧
    Paired (fun (p : List Cell × Addr × V) (q : NestedKey × Addr × Value) => q.1 = keyN p.1 ∧ q.2.1 = p.2.1 ∧ RelV p.2.2 q.2.2) xs vs
def NkO (P : Program) (w : World) (d : Addr) (xs : List (List Cell × Addr × V)) : HO := .ext fun h => NkE P w h d xs
theorem nkO_new {P : Program} {w : World} {H : Hp} {h : Heap} {d : Addr} {xs : List (List Cell × Addr × V)} (R : NkE P w h d xs) : ObjOk P w H h d (NkO P w d xs) := by
  obtain ⟨_, vs, o, es, ep, ho, _⟩ := R.ex
  refine ⟨R, ⟨o, ho⟩, fun h1 h2 p k => ?_⟩
  obtain ⟨q0, vs', o', es', ep', ho', r'⟩ := NkE.ex p
  exact ⟨q0, vs', o', es', ep', k o' ho', r'⟩
/-- the keys' tuples stand -/
def NkK (K : PySem.W.Frag) (H : Hp) (xs : List (List Cell × Addr × V)) : Prop := ∀ x ∈ xs, Dp K H (.ref x.2.1) (tupD x.1)
def lookN (xs : List (List Cell × Addr × V)) (g : List Cell) : Option V := (xs.find? fun x => decide (x.1 = g)).map fun x => x.2.2
/-- in its place, or at the end -/
def putN (xs : List (List Cell × Addr × V)) (g : List Cell) (a : Addr) (v : V) : List (List Cell × Addr × V) := if (lookN xs g).isSome then xs.map fun x => if x.1 = g then (x.1, x.2.1, v) else x else xs ++ [(g, a, v)]
theorem paired_mem {α β : Type} {R : α → β → Prop} : ∀ {xs : List α} {ys : List β}, Paired R xs ys → ∀ y ∈ ys, ∃ x ∈ xs, R x y
  | _, _, .nil, _, h => absurd h (by simp)
  | _, _, .cons h t, y, hy => by
    rcases List.mem_cons.mp hy with rfl | hy
    · exact ⟨_, List.mem_cons_self, h⟩
    · obtain ⟨x, hx, r⟩ := paired_mem t y hy
      exact ⟨x, List.mem_cons_of_mem _ hx, r⟩
section
variable {P : Program} {w : World}
abbrev NkR (p : List Cell × Addr × V) (q : NestedKey × Addr × Value) : Prop := q.1 = keyN p.1 ∧ q.2.1 = p.2.1 ∧ RelV p.2.2 q.2.2
theorem look_rel {g : List Cell} : ∀ {xs : List (List Cell × Addr × V)} {vs : List (NestedKey × Addr × Value)}, Paired NkR xs vs → (lookN xs g = none ∧ atKey vs (keyN g) = none) ∨ ∃ v p, lookN xs g = some v ∧ atKey vs (keyN g) = some p ∧ RelV v p.2
  | _, _, .nil => .inl ⟨rfl, rfl⟩
  | _, _, @Paired.cons _ _ _ x y xs vs h t => by
    by_cases e : x.1 = g
    · refine .inr ⟨x.2.2, y.2, ?_, ?_, h.2.2⟩
      · unfold lookN
        rw [List.find?_cons_of_pos (by simpa using e)]
        rfl
      · simp [atKey, h.1, e]
    · have e2 : ¬ y.1 = keyN g := fun z => e (keyN_inj (by rw [← h.1]; exact z))
      have l1 : lookN (x :: xs) g = lookN xs g := by
        unfold lookN
        rw [List.find?_cons_of_neg (by simpa using e)]
      have l2 : atKey (y :: vs) (keyN g) = atKey vs (keyN g) := by simp [atKey, e2]
      rw [l1, l2]
      exact look_rel t
theorem any_rel {g : List Cell} {xs : List (List Cell × Addr × V)} {vs : List (NestedKey × Addr × Value)} (h : Paired NkR xs vs) : (lookN xs g).isSome = (atKey vs (keyN g)).isSome := by
  rcases look_rel (g := g) h with ⟨h1, h2⟩ | ⟨v, p, h1, h2, _⟩
  · rw [h1, h2]; rfl
  · rw [h1, h2]; rfl
theorem put_rel {g : List Cell} {a : Addr} {v : V} {u : Value} {xs : List (List Cell × Addr × V)} {vs : List (NestedKey × Addr × Value)} (h : Paired NkR xs vs) (r : RelV v u) : Paired NkR (putN xs g a v) (storedH vs (keyN g) a u) := by
  unfold putN storedH
  rw [any_rel h]
  split
  · have : ∀ {xs : List (List Cell × Addr × V)} {vs : List (NestedKey × Addr × Value)}, Paired NkR xs vs → Paired NkR (xs.map fun x => if x.1 = g then (x.1, x.2.1, v) else x) (vs.map (putAt (keyN g) u)) := by
      intro xs vs h
      induction h with
      | nil => exact .nil
      | @cons x y xs vs h t ih =>
        refine .cons ?_ ih
        by_cases e : x.1 = g
        · dsimp only
          rw [if_pos e]
          have e2 : y.1 = keyN g := by rw [h.1, e]
          simp only [putAt, e2, if_true]
          exact ⟨by rw [e], h.2.1, r⟩
        · dsimp only
          rw [if_neg e]
          have e2 : ¬ y.1 = keyN g := fun z => e (keyN_inj (by rw [← h.1]; exact z))
          simp only [putAt, e2, if_false]
          exact h
    exact this h
  · have : ∀ {xs : List (List Cell × Addr × V)} {vs : List (NestedKey × Addr × Value)}, Paired NkR xs vs → Paired NkR (xs ++ [(g, a, v)]) (vs ++ [(keyN g, a, u)]) := by
      intro xs vs h
      induction h with
      | nil => exact .cons ⟨rfl, rfl, r⟩ .nil
      | cons h _ ih => exact .cons h ih
    exact this h
end
section
variable {X : Cx} {pins : List (Addr × Obj)} {σ : L2.St} {H : Hp} {s : Shared}
theorem nk_full {d : Addr} {xs : List (List Cell × Addr × V)} (I : Inv X pins σ H s) (hd : H d = some (NkO X.prog X.w d xs)) (hk : NkK X.K H xs) : (d == sysModules) = false ∧ ∃ vs, s.heap.DictOfH (nestedKind X.prog X.w) d vs ∧ Paired NkR xs vs := by
  have R : NkE X.prog X.w s.heap d xs := (I.hok d _ hd).1
  obtain ⟨h0, vs, o, es, ep, ho, hx, hdat, he, hn, pr⟩ := R.ex
  refine ⟨h0, vs, ⟨o, es, ep, ho, hx, hdat, he, fun y hy => ?_, hn⟩, pr⟩
  obtain ⟨x, hxm, e1, e2, _⟩ := paired_mem pr y hy
  obtain ⟨as, r⟩ := Dp.reads I (tupD x.1) (.ref x.2.1) (.ref x.2.1) (hk x hxm) rfl
  rw [e1, e2]
  exact ⟨reads_key r, keyN_depth _⟩
theorem nk_key {b : Addr} {g : List Cell} (I : Inv X pins σ H s) (h : Dp X.K H (.ref b) (tupD g)) : (nestedKind X.prog X.w).is s.heap (keyN g) b := by
  obtain ⟨as, r⟩ := Dp.reads I (tupD g) (.ref b) (.ref b) h rfl
  exact ⟨reads_key r, keyN_depth _⟩
/-- g not in d -/
def rNotInN (K : PySem.W.Frag) (P : Program) (w : World) : R2 := fun x y H Q => ∃ (b d : Addr) (g : List Cell) (xs : List (List Cell × Addr × V)), x = .ref b ∧ y = .ref d ∧ Dp K H (.ref b) (tupD g) ∧ H d = some (NkO P w d xs) ∧ NkK K H xs ∧ Q (.bl (!(lookN xs g).isSome)) H
theorem op_notInN (hu : X.A.units + 16 < cLine) : OpR X (compareOp .NotIn) (rNotInN X.K X.prog X.w) := by
  intro pins s σ H x y v u Q I rx ry h
  obtain ⟨b, d, g, xs, rfl, rfl, hb, hd, hk, q⟩ := h
  cases rx
  cases ry
  obtain ⟨h0, vs, hm, pr⟩ := nk_full I hd hk
  refine notIn_keyed (knd := nestedKind X.prog X.w) (by show X.A.units + 1 + 8 < cLine; omega) (nk_key I hb) h0 ⟨vs, hm, rfl⟩ ?_
  rw [valueAt_pairsH, Option.isSome_map, ← any_rel pr]
  exact ⟨.bl _, H, I.tok _, rfl, q⟩
/-- d[g], there -/
def rIxN (K : PySem.W.Frag) (P : Program) (w : World) : R2 := fun x y H Q => ∃ (b d : Addr) (g : List Cell) (xs : List (List Cell × Addr × V)) (v : V), x = .ref d ∧ y = .ref b ∧ Dp K H (.ref b) (tupD g) ∧ H d = some (NkO P w d xs) ∧ NkK K H xs ∧ lookN xs g = some v ∧ Q v H
theorem ix_N (hu : X.A.units + 16 < cLine) : IxR X (rIxN X.K X.prog X.w) := by
  intro value slice pins s σ H x y v u Q I rx ry h hs
  obtain ⟨b, d, g, xs, z, rfl, rfl, hb, hd, hk, hz, q⟩ := h
  cases rx
  cases ry
  obtain ⟨h0, vs, hm, pr⟩ := nk_full I hd hk
  rcases look_rel (g := g) pr with ⟨h1, _⟩ | ⟨v, p, h1, h2, hr⟩
  · rw [h1] at hz; cases hz
  · rw [h1] at hz
    obtain rfl := Option.some.inj hz
    exact tail_any hm.typeIs PySem.F.slot_dict_getitem.lookup (wpAny_getItem_heap (by show X.A.units + 1 + 8 < cLine; omega) (nk_key I hb) hm h2 ⟨_, H, I.tok _, hr, q⟩) hs
/-- d[g] = v -/
def sPutN (K : PySem.W.Frag) (P : Program) (w : World) (td ti tv : TE) : TS := fun D σ H => tv σ H fun v H1 => td σ H1 fun x H2 => ti σ H2 fun y H3 => ∃ (b d : Addr) (g : List Cell) (xs : List (List Cell × Addr × V)), x = .ref d ∧ y = .ref b ∧ Dp K H3 (.ref b) (tupD g) ∧ H3 d = some (NkO P w d xs) ∧ NkK K H3 xs ∧ xs.length ≤ 100000 ∧ D.nx σ (upd H3 d (NkO P w d (putN xs g b v)))
theorem ps_putN {o i value : Expr} {td ti tv : TE} {pos pos' : Pos} (hu : X.A.units + 16 < cLine) (ho : PE X o td) (hi : PE X i ti) (hv : PE X value tv) (hs : swapsWith value (some (.Subscript o i pos')) pos.line X.env = pure false) :
    PS X (.Assign [.Subscript o i pos'] value pos) (sPutN X.K X.prog X.w td ti tv) := by
  refine ⟨fun pins s σ H D I h => ?_⟩
  refine wpAny_Assign_Subscript (thn (hv.run pins s σ H _ I h) fun r s1 ⟨v, H1, I1, rv, q1⟩ => thn (ho.run pins s1 σ H1 _ I1 q1) fun u s2 ⟨x, H2, I2, rx, q2⟩ => thn (hi.run pins s2 σ H2 _ I2 q2) fun iv s3 ⟨y, H3, I3, ry, b, d, g, xs, ex, ey, hb, hd, hk, hl, q3⟩ => ?_) hs
  subst ex ey
  cases rx
  cases ry
  obtain ⟨h0, vs, hm, pr⟩ := nk_full I3 hd hk
  have hsz : vs.length ≤ sizeLine := by rw [← Paired.length pr, sizeLine_eq]; omega
  refine wpAny_setItem_heap (hsz := hsz) (by show X.A.units + 1 + 8 < cLine; omega) (nk_key I3 hb) hm fun h' hm' sb => ?_
  obtain ⟨o, es, ep, ho', hx', hd', he', hi', hn'⟩ := id hm'
  have he : ∃ u, h'.get? d = some u := ⟨_, ho'⟩
  refine ⟨σ, _, I3.write (e := d) (t' := _) (by rw [hd]; trivial) (.inl rfl) (fun c u hc hu => (sb.2 c hc).trans hu) he (nkO_new ⟨h0, _, o, es, ep, ho', hx', hd', he', hn', put_rel pr rv⟩), q3⟩
/-- {} -/
def tDNewN (P : Program) (w : World) : TE := fun _ H Q => ∀ p, H p = none → Q (.ref p) (upd H p (NkO P w p []))
theorem pe_dnewN {pos : Pos} : PE X (.Dict [] [] pos) (tDNewN X.prog X.w) := ⟨fun pins s σ H Q I h =>
  wpAny_Dict_empty ⟨.ref s.heap.objs.size, _, I.laid (a := s.heap.objs.size) (o := NkO X.prog X.w s.heap.objs.size []) (t' := s.toks) (fun _ _ q => Heap.get?_push_of_some _ q) (Nat.le_refl _) (nkO_new ⟨by
    obtain ⟨_, hs, _⟩ := dk_empty (P := X.prog) (w := X.w) (H := upd H s.heap.objs.size (.dK [])) s.heap I.big
    exact hs, [], _, #[], 0, Heap.get?_push_size _ rfl, ⟨rfl, rfl, rfl⟩, rfl, rfl, List.nodup_nil, .nil⟩), rfl, h _ (I.hok.fresh (Nat.le_refl _))⟩⟩
end
end Om

namespace Om
open PySem PySem.Spec PyProof.Rows L2 LamX PySem PySem.W 
/-! ### max(list of ints, default=d) -/
def rMaxDef (K : PySem.W.Frag) : List V → List V → Hp → VK → Prop := fun vs zs H Q => ∃ (a : Addr) (ns : List Int) (d : V), vs = [V.ref a] ∧ zs = [d] ∧ SqL K H a (ns.map V.int) ∧ (ns = [] → Q d H) ∧ ∀ (n : Int) (r : List Int), ns = n :: r → Q (.int (r.foldl max n)) H
theorem alike_ints (ns : List Int) : AlikeAll (ns.map PyData.int) := by
  refine ⟨fun x hx y hy => ?_, fun x hx => ?_⟩
  · obtain ⟨i, _, rfl⟩ := List.mem_map.mp hx
    obtain ⟨j, _, rfl⟩ := List.mem_map.mp hy
    rfl
  · obtain ⟨i, _, rfl⟩ := List.mem_map.mp hx
    exact fun e => by cases e
theorem cr_maxDef {X : Cx} (hc : X.calm = true) (hu : X.A.units + 64 < cLine) : CallRK X (.builtin "max") [Str.ofString "default"] (rMaxDef X.K) := by
  intro pins s σ H xs zs us ws Q I rx rz h
  obtain ⟨a, ns, d, rfl, rfl, hs, q0, q1⟩ := h
  obtain ⟨its, rv, hl, _⟩ := I.list hs
  rw [Vals.ref1 rx]
  obtain ⟨u, rfl, ru⟩ := vals1 rz
  obtain ⟨as, hr⟩ := Dp.readsAll I (ns.map PyData.int) (ns.map V.int) its (dpAll_ints ns) rv
  have hd : PyData.depthAll (ns.map PyData.int) = 0 := dep_ints ns
  refine max_list_default (d := u) (I.ok.hd hc) hl.isList hr (alike_ints ns) (by rw [hd]; omega) (fun e h' tk hk => ?_) (fun y ys i v h' tk bs e hv hrd hk => ?_)
  · have e2 : ns = [] := by cases ns with
      | nil => rfl
      | cons n r => cases e
    exact ⟨d, H, I.kept hk, ru, q0 e2⟩
  · cases ns with
    | nil => cases e
    | cons n r =>
      have e2 : y = .int n ∧ ys = r.map PyData.int := by
        injection e with h1 h2
        exact ⟨h1.symm, h2.symm⟩
      obtain ⟨rfl, rfl⟩ := e2
      rw [maxD_ints] at hrd
      cases hrd
      exact ⟨.int _, H, I.kept hk, ⟨_, rfl⟩, q1 n r rfl⟩
end Om

namespace Om
open PySem PySem.Spec PyProof.Rows L2 LamX
/-! ### xs.count(y), the items flat -/
def rCntF (K : PySem.W.Frag) : V → List V → Hp → VK → Prop := fun x vs H Q => ∃ (p : Addr) (ys : List V) (y : V), x = .ref p ∧ vs = [y] ∧ SqL K H p ys ∧ flatV y = true ∧ ys.all flatV = true ∧ Q (.int ((ys.countP fun z => eqV z y) : Nat)) H
theorem cnt_flat {y : V} {uy : Value} : ∀ {ys : List V} {us : List Value}, Vals ys us → ys.all flatV = true → us.countP (eqU y) = ys.countP fun z => eqV z y
  | _, _, .nil, _ => rfl
  | v :: vs, u :: us, .cons r rr, hf => by
    simp only [List.all_cons, Bool.and_eq_true] at hf
    rw [List.countP_cons, List.countP_cons, cnt_flat (uy := uy) rr hf.2, eqU_of r hf.1]
theorem mt_countF {X : Cx} : MtR X "list.count" (rCntF X.K) := by
  rintro pins s σ H x xs v us Q I rx rxs ⟨p, ys, y, rfl, rfl, hs, fy, fys, q⟩
  cases rx
  cases rxs with
  | @cons _ uy _ ut ry rt =>
    cases rt
    obtain ⟨its, rv, ⟨⟨cls, dd, data, sl⟩, n, ho, hc, hdn, hd⟩, hlen⟩ := I.list hs
    simp only at hc hd
    subst hc hd
    refine call_meets PySem.F.slot_list_count ⟨_, ho, rfl⟩ PySem.F.entry_list_count (PySem.F.args_list_count_2 _ _) (SeqAt.list_countAt p its.toArray n dd sl uy (eqU y)) ⟨ho, fun u' hu' => mem_eqAt ry fy rv fys u' (by simpa using hu'), ?_⟩
    have ec : its.toArray.toList.countP (eqU y) = ys.countP fun z => eqV z y := cnt_flat (uy := uy) rv fys
    refine ⟨.int ((ys.countP fun z => eqV z y) : Nat), H, I.tok _, ⟨s.toks, ?_⟩, q⟩
    show Value.int ((its.toArray.toList.countP (eqU y) : Nat) : Int) s.toks = _
    rw [ec]
theorem cnt_K {X : Cx} {K : PySem.W.Frag} (hK : X.K = K) : MtR X "list.count" (rCntF K) := by
  subst hK
  exact mt_countF
theorem bm_K {X : Cx} {K : PySem.W.Frag} {e : Expr} {T : String} {r : V → List V → Hp → VK → Prop} {to : TE} {t : TA} (hK : X.K = K) (h : PE X e (tBM X.K T r to t)) : PE X e (tBM K T r to t) := by
  subst hK
  exact h
/-! ### how many are left in the worst case -/
def mxI : List Int → Int
  | [] => 0
  | n :: r => r.foldl max n
def toldAll (r : Rl) (c : Cell) (ps : List Cell) : List Str := ps.map (told r c)
def cntsOf (ws vs : List Str) : List Int := (vs.filter fun w => !decide (w = ("found" : Str))).map fun w => ((ws.countP fun z => decide (z = w) : Nat) : Int)
def mostL (r : Rl) (c : Cell) (ps : List Cell) : Int := mxI (cntsOf (toldAll r c ps) (toldAll r c ps))
abbrev sMostL : Stmt := top 33
abbrev sNextD : Stmt := top 26
def spMostL (K : PySem.W.Frag) : Sp := fun vs H Q _ => ∃ (ra ca pa : Addr) (r : Rl) (c : Cell) (ps : List Cell), vs = [.ref ra, .ref ca, .ref pa] ∧ SqT K H ra r.vs ∧ SqT K H ca (cvs c) ∧ Dp K H (.ref pa) (.tuple (ps.map cdp)) ∧ ps.length ≤ 1000 ∧ ∀ H', Same H H' → Q (.int (mostL r c ps)) H'
theorem cnt_strs (ws : List Str) (w : Str) : (ws.map V.str).countP (fun z => eqV z (.str w)) = ws.countP fun z => decide (z = w) := by
  rw [List.countP_map]
  congr 1
section
variable {P : Program} {w : World} {K : PySem.W.Frag} {mg : Str → Option Value} {base : Heap} {CI : Addr}
abbrev nML : List Str := ["rule", "cell", "places", "told", "place", "word"]
theorem scML : FnScope nML ["rule", "cell", "places"] (defScope sMostL) := ⟨rfl, rfl, rfl, by decide +kernel, rfl, by decide +kernel, by decide +kernel⟩
def mlLc1 : Expr := asgExpr ((defBody sMostL).getD 0 noS)
def kwArg0 (e : Expr) : Expr := match e with
  | .Call _ (a :: _) _ _ => a
  | _ => .Constant .none 0 ⟨0, 0, 0, 0⟩
def mlLc2 : Expr := kwArg0 (retExpr ((defBody sMostL).getD 1 noS))
theorem blkML1 : BlkOk nML (defScope sMostL) (lcScope mlLc1) [("place", 4)] := blkOk_by (by decide +kernel)
theorem blkML2 : BlkOk nML (defScope sMostL) (lcScope mlLc2) [("word", 5)] := blkOk_by (by decide +kernel)
theorem ok_mostL {f : Addr} {fd : FuncData} (F : FnP K "_most_left" "_most_left" sMostL f fd) (TO : Cal P w K mg base CX0 2 "_told" ["rule", "cell", "place"] (spTold K)) (gmax : mg "max" = none) : FnOk P w K mg base CX0 3 f fd ["rule", "cell", "places"] (spMostL K) := by
  refine F.ok scML (fun vs H Q E h => ?_) (fun cdv A outer s H vs Q E hr h => ?_)
  · obtain ⟨ra, ca, pa, r, c, ps, rfl, _⟩ := h
    rfl
  · obtain ⟨ra, ca, pa, r, c, ps, rfl, hR, hC, hP, hl, k⟩ := h
    have nd := scML.nd
    refine ⟨_, PSs.nox (pss_cons (ps_set (i := 3) nd rfl (.inr rfl) (pe_lc (own := [("place", 4)]) (g := gName 4) rfl nd (pi_tup (pv 2)) blkML1 (fun _ _ _ _ _ => pg_name (i := 4) nd rfl (.inl rfl)) (fun _ _ _ _ _ => pts_nil) (fun _ _ _ _ _ => pe_cal TO hr pass0 (pa_cons (pv 0) (pa_cons (pv 1) (pa_cons (pv 4) pa_nil))))))
      (pss_one (ps_ret (pe_callBK (cr_maxDef rfl hr.units) (by rfl) gmax (by decide +kernel) (pa_cons (pe_lc (own := [("word", 5)]) (g := gName 5) rfl nd (pi_list (pv 3)) blkML2 (fun _ _ _ _ _ => pg_name (i := 5) nd rfl (.inl rfl)) (fun _ _ _ _ _ => pts_one (pt_cmpR op_ne (pv 5) pe_str (nomark _)))
        (fun _ _ _ _ _ => bm_K (K := K) rfl (pe_bm PySem.F.plainAttrs_list PySem.F.slot_list_count PySem.F.type_list_count (cnt_K (K := K) rfl) (pv 3) (pa_cons (pv 5) pa_nil)))) pa_nil) (pk_cons pe_int pk_nil))))), ?_⟩
    cases hP with
    | tup pS pA =>
    rename_i pvs
    have lp := dpAll_len pA
    rw [List.length_map] at lp
    let ws := toldAll r c ps
    have lws : ws.length = ps.length := by show (List.map _ _).length = _; rw [List.length_map]
    refine ⟨_, rfl, pa, rfl, ⟨_, pS⟩, fun D hD => lc_tup (K := K) (a := pa) (xs := pvs) (fun i H1 => H1 D = some (.lst ((ws.take i).map V.str)) ∧ Same H H1) ⟨upd_same, Same.new (Same.refl H) hD⟩ (fun i H1 _ q => Same.tup q.2 pS) ?_ ?_⟩
    · rintro i x H1 hx ⟨h1, s1⟩
      obtain ⟨p, hp, hpd⟩ := pdp_at pA hx
      obtain ⟨pc, rfl, hpc⟩ := cell_at hpd
      have hi : i < ps.length := (List.getElem?_eq_some_iff.mp hp).1
      have et : ws.take (i + 1) = ws.take i ++ [told r c p] := by
        rw [List.take_succ]
        show _ ++ ((ps.map (told r c))[i]?).toList = _
        rw [List.getElem?_map, hp]
        rfl
      refine ⟨rfl, tyes ?_⟩
      refine ⟨_, rfl, _, rfl, _, rfl, ra, ca, pc, r, c, p, rfl, Same.tup s1 hR, Same.tup s1 hC, Same.tup s1 hpc, ?_⟩
      refine ⟨_, h1, Nat.lt_of_le_of_lt (show _ ≤ 1000 by rw [List.length_map, List.length_take]; omega) (by decide), ?_, Same.updN s1 hD⟩
      rw [upd_same, et, List.map_append]
      rfl
    · rintro H1 ⟨h1, s1⟩
      have etl : ws.take pvs.length = ws := by rw [lp, ← lws, List.take_length]
      rw [etl] at h1
      refine ⟨_, rfl, D, rfl, ⟨_, .inl (.inl h1)⟩, fun D2 hD2 => lc_list (K := K) (a := D) (xs := ws.map V.str) (fun i H2 => H2 D2 = some (.lst ((cntsOf ws (ws.take i)).map V.int)) ∧ Same H1 H2) ⟨by rw [List.take_zero]; exact upd_same, Same.new (Same.refl H1) hD2⟩ (fun i H2 _ q => .inl (.inl (q.2 _ _ h1))) ?_ ?_⟩
      · rintro i x H2 hx ⟨h2, s2⟩
        have hi : i < ws.length := by
          have := (List.getElem?_eq_some_iff.mp hx).1
          rwa [List.length_map] at this
        have hxe : x = .str ws[i] := by
          rw [List.getElem?_map, List.getElem?_eq_getElem hi] at hx
          exact (Option.some.inj hx).symm
        subst hxe
        have et : cntsOf ws (ws.take (i + 1)) = cntsOf ws (ws.take i) ++ (if ws[i] = ("found" : Str) then [] else [((ws.countP fun z => decide (z = ws[i]) : Nat) : Int)]) := by
          unfold cntsOf
          rw [List.take_succ, List.getElem?_eq_getElem hi, List.filter_append, List.map_append]
          congr 1
          show List.map _ (List.filter _ [ws[i]]) = _
          rw [List.filter_cons]
          by_cases e : ws[i] = ("found" : Str)
          · simp [e]
          · simp [e]
        have lc : (cntsOf ws (ws.take i)).length ≤ 1000 := by
          unfold cntsOf
          rw [List.length_map]
          exact Nat.le_trans (List.length_filter_le ..) (by rw [List.length_take]; omega)
        refine ⟨rfl, ?_⟩
        refine ⟨_, rfl, rfl, _, rfl, ?_⟩
        by_cases e : ws[i] = ("found" : Str)
        · rw [if_pos e, List.append_nil] at et
          refine iteF' (by rw [e, eqS]; rfl) ⟨?_, s2⟩
          rw [et]
          exact h2
        · rw [if_neg e] at et
          refine iteT' (by rw [neS e]; rfl) ?_
          have h12 := s2 _ _ h1
          refine ⟨_, rfl, .inl ⟨rfl, _, .inl (.inl h12)⟩, _, rfl, D, _, _, rfl, rfl, .inl (.inl h12), rfl, flat_strs _, ?_⟩
          rw [cnt_strs]
          refine ⟨_, h2, Nat.lt_of_le_of_lt (show _ ≤ 1000 by rw [List.length_map]; exact lc) (by decide), ?_, Same.updN s2 hD2⟩
          rw [upd_same, et, List.map_append]
          rfl
      · rintro H2 ⟨h2, s2⟩
        rw [List.length_map, List.take_length] at h2
        refine ⟨D2, _, .int 0, rfl, rfl, .inl (.inl h2), fun e => ?_, fun n rr e => ?_⟩
        · have kk := k H2 (s1.trans s2)
          have e2 : mostL r c ps = 0 := by show mxI (cntsOf ws ws) = 0; rw [e]; rfl
          rw [e2] at kk
          exact kk
        · have kk := k H2 (s1.trans s2)
          have e2 : mostL r c ps = rr.foldl max n := by show mxI (cntsOf ws ws) = _; rw [e]; rfl
          rw [e2] at kk
          exact kk
end
end Om

namespace Om
open PySem PySem.Spec PyProof.Rows L2 LamX
/-- the first cell after whose dig the fewest are left in the worst case -/
def FirstMin (ns : List Int) (j : Nat) : Prop := ∃ m, ns[j]? = some m ∧ (∀ y ∈ ns, m ≤ y) ∧ ∀ (i : Nat) (z : Int), i < j → ns[i]? = some z → z ≠ m
def worstOf (r : Rl) (cs ps : List Cell) : List Int := cs.map fun c => mostL r c ps
def spNextD (K : PySem.W.Frag) (CI : Addr) : Sp := fun vs H Q _ => ∃ (a pa ra : Addr) (rows : List (List Nat)) (ps : List Cell) (r : Rl), vs = [.ref a, .ref pa, .ref ra] ∧ Isl K CI H a rows ∧ Vd rows ∧ cellsOf rows ≠ [] ∧ Dp K H (.ref pa) (.tuple (ps.map cdp)) ∧ (∀ c ∈ ps, c ∈ cellsOf rows) ∧ SqT K H ra r.vs ∧ r.Ok ∧ ps.length ≤ 1000 ∧
  ∀ (x : V) (j : Nat) (c : Cell) (H' : Hp), Same H H' → FirstMin (worstOf r (cellsOf rows) ps) j → (cellsOf rows)[j]? = some c → Dp K H' x (cdp c) → Q x H'
theorem first_min : ∀ (ns : List Int) (m : Int), m ∈ ns → (∀ y ∈ ns, m ≤ y) → ∃ j : Nat, ns[j]? = some m ∧ ∀ (i : Nat) (z : Int), i < j → ns[i]? = some z → z ≠ m
  | n :: r, m, hm, hle => by
    by_cases e : n = m
    · exact ⟨0, by rw [e]; rfl, fun i z hi => absurd hi (Nat.not_lt_zero _)⟩
    · have hm2 : m ∈ r := by
        rcases List.mem_cons.mp hm with h | h
        · exact absurd h.symm e
        · exact h
      obtain ⟨j, h1, h2⟩ := first_min r m hm2 fun y hy => hle y (List.mem_cons_of_mem _ hy)
      refine ⟨j + 1, h1, fun i z hi hz => ?_⟩
      cases i with
      | zero =>
        obtain rfl : n = z := Option.some.inj hz
        exact e
      | succ i => exact h2 i z (by omega) hz
section
variable {P : Program} {w : World} {K : PySem.W.Frag} {mg : Str → Option Value} {base : Heap} {CI fN pm gt : Addr}
abbrev nND : List Str := ["island", "places", "rule", "cells", "most_left", "cell"]
theorem scND : FnScope nND ["island", "places", "rule"] (defScope sNextD) := ⟨rfl, rfl, rfl, by decide +kernel, rfl, by decide +kernel, by decide +kernel⟩
def ndLc : Expr := asgExpr ((defBody sNextD).getD 3 noS)
theorem blkND : BlkOk nND (defScope sNextD) (lcScope ndLc) [("cell", 5)] := blkOk_by (by decide +kernel)
theorem ok_nextD {f : Addr} {fd h3 : FuncData} (F : FnP K "next_dig" "next_dig" sNextD f fd) (PL : Cal P w K mg base CX0 5 "_require_places" ["island", "places", "rule"] (spPlaces K CI)) (ML : Cal P w K mg base CX0 3 "_most_left" ["rule", "cell", "places"] (spMostL K)) (TI : IslF K mg CI fN)
    (pC : PropOf K CI "cells" pm gt) (G3 : FnOk P w K mg base CX0 1 gt h3 ["self"] (spICells K CI)) (b3 : Binds K h3 ["self"] []) (glen : mg "len" = none) (gmin : mg "min" = none) : FnOk P w K mg base CX0 6 f fd ["island", "places", "rule"] (spNextD K CI) := by
  refine F.ok scND (fun vs H Q E h => ?_) (fun cdv A outer s H vs Q E hr h => ?_)
  · obtain ⟨a, pa, ra, rows, ps, r, rfl, _⟩ := h
    rfl
  · obtain ⟨a, pa, ra, rows, ps, r, rfl, hI, vd, hne, hP, pin, hR, hok, hl, k⟩ := h
    have nd := scND.nd
    have hr2 : Room 2 _ := hr.mono (by decide)
    have hr3 : Room 3 _ := hr.mono (by decide)
    refine ⟨_, PSs.nox (pss_cons (ps_expr (pe_cal PL hr pass0 (pa_cons (pv 0) (pa_cons (pv 1) (pa_cons (pv 2) pa_nil)))))
      (pss_cons (ps_set (i := 3) nd rfl (.inl rfl) (pe_prop (pv 0) TI.cl pC G3 hr2 b3 .nil pass0 rfl))
      (pss_cons (ps_if (pt_cmpR op_eq (pe_callB call_len_seq (by rfl) glen PySem.boot_len (pa_cons (pv 3) pa_nil)) pe_int (nomark _)) pss_no pss_nil)
      (pss_cons (ps_setLc (i := 4) (own := [("cell", 5)]) (g := gName 5) rfl nd rfl rfl (sw_true rfl rfl rfl (by decide +kernel)) (pi_list (pv 3)) blkND (fun _ _ _ _ _ => pg_name (i := 5) nd rfl (.inl rfl)) (fun _ _ _ _ _ => pts_nil) (fun _ _ _ _ _ => pe_cal ML hr3 pass0 (pa_cons (pv 2) (pa_cons (pv 5) (pa_cons (pv 1) pa_nil)))))
      (pss_one (ps_ret (pe_ix ix_list (pv 3) (pe_bm PySem.F.plainAttrs_list PySem.F.slot_list_index PySem.F.type_list_index mt_index (pv 4) (pa_cons (pe_callB (cr_min rfl) (by rfl) gmin (by decide +kernel) (pa_cons (pv 4) pa_nil)) pa_nil)) (fun _ _ => rfl)))))))), ?_⟩
    refine ⟨_, rfl, _, rfl, _, rfl, a, pa, ra, rows, ps, r, rfl, hI, vd.toGood2, hP, pin, hR, hok, fun H1 s1 => ?_⟩
    have I1 := hI.same s1
    obtain ⟨dx, pr, hx, hxS⟩ := id I1
    refine ⟨_, rfl, a, dx, _, rfl, hx, ?_⟩
    refine ⟨a, rows, rfl, I1, vd, fun v H2 s2 hd => ?_⟩
    cases hd with
    | lst cS cA =>
    rename_i ce cvz
    have lc := dpAll_len cA
    rw [List.length_map] at lc
    have lmax : (cellsOf rows).length ≤ 1000 := by
      have h1 := cellsTo_len (rows := rows) (w := 12) (fun r hr => (vd.wid r hr).2) rows.length (Nat.le_refl _)
      have h2 := vd.hgt
      show (cellsTo rows rows.length).length ≤ _
      omega
    have hpos : 0 < (cellsOf rows).length := List.length_pos_iff.mpr hne
    have s12 := s1.trans s2
    refine ⟨_, rfl, ce, _, rfl, .inl cS, rfl, _, rfl, iteF' (decide_eq_false fun e => by have := V.int.inj e; omega) ?_⟩
    refine ⟨_, rfl, ce, rfl, ⟨_, cS⟩, fun D hD => ?_⟩
    refine lc_list (K := K) (a := ce) (xs := cvz) (fun i H3 => H3 D = some (.lst ((worstOf r ((cellsOf rows).take i) ps).map V.int)) ∧ Same H2 H3) ⟨by rw [List.take_zero]; exact upd_same, Same.new (Same.refl H2) hD⟩ (fun i H3 _ q => Same.lst q.2 cS) ?_ ?_
    · rintro i x H3 hx3 ⟨h3, s3⟩
      obtain ⟨c, hc, hcd⟩ := pdp_at cA hx3
      obtain ⟨ca, rfl, hca⟩ := cell_at hcd
      have s13 := s12.trans s3
      have et : worstOf r ((cellsOf rows).take (i + 1)) ps = worstOf r ((cellsOf rows).take i) ps ++ [mostL r c ps] := by
        unfold worstOf
        rw [List.take_succ, hc, List.map_append]
        rfl
      have lw : (worstOf r ((cellsOf rows).take i) ps).length ≤ 1000 := by
        unfold worstOf
        rw [List.length_map, List.length_take]
        omega
      refine ⟨rfl, tyes ?_⟩
      refine ⟨_, rfl, _, rfl, _, rfl, ra, ca, pa, r, c, ps, rfl, Same.tup s13 hR, Same.tup s3 hca, Same.dp s13 hP, hl, fun H4 s4 => ?_⟩
      have h4 := s4 _ _ h3
      refine ⟨_, h4, Nat.lt_of_le_of_lt (show _ ≤ 1000 by rw [List.length_map]; exact lw) (by decide), ?_, Same.updN (s3.trans s4) hD⟩
      rw [upd_same, et, List.map_append]
      rfl
    · rintro H3 ⟨h3, s3⟩
      rw [lc, List.take_length] at h3
      have lw : (worstOf r (cellsOf rows) ps).length = (cellsOf rows).length := List.length_map ..
      refine ⟨_, rfl, ⟨_, rfl, .inl ⟨rfl, _, .inl (.inl h3)⟩, ⟨_, rfl, D, _, rfl, .inl (.inl h3), by omega, fun m hm1 hm2 => ?_⟩⟩⟩
      obtain ⟨j, hj1, hj2⟩ := first_min _ m hm1 hm2
      have hj : j < (cellsOf rows).length := by
        have := (List.getElem?_eq_some_iff.mp hj1).1
        omega
      refine nilArgs ⟨D, _, .int m, j, .int m, rfl, rfl, .inl (.inl h3), rfl, ?_, ?_, ?_, ?_, ?_⟩
      · rw [List.all_map]
        exact List.all_eq_true.mpr fun _ _ => rfl
      · rw [List.getElem?_map, hj1]
        rfl
      · exact decide_eq_true rfl
      · intro i z hi hz
        rw [List.getElem?_map] at hz
        cases hn : (worstOf r (cellsOf rows) ps)[i]? with
        | none => rw [hn] at hz; cases hz
        | some n =>
          rw [hn] at hz
          obtain rfl : V.int n = z := Option.some.inj hz
          exact decide_eq_false (hj2 i n hi hn)
      · obtain ⟨x, hx4, hxd⟩ := dpAll_at cA (i := j) (e := cdp (cellsOf rows)[j]) (by rw [List.getElem?_map, List.getElem?_eq_getElem hj]; rfl)
        refine ⟨ce, _, _, x, rfl, rfl, Same.lst s3 cS, atI_nat hx4, ?_⟩
        exact k x j _ H3 (s12.trans s3) ⟨m, hj1, hm2, hj2⟩ (List.getElem?_eq_getElem hj) (Same.dp s3 hxd)
end
end Om

namespace Om
open PySem PySem.Spec PyProof.Rows L2 LamX
/-! ### masks of places -/
def maskN (f : Nat → Bool) : Nat → Nat
  | 0 => 0
  | n + 1 => maskN f n ||| (if f n = true then 2 ^ n else 0)
theorem maskN_bit (f : Nat → Bool) : ∀ n j, (maskN f n).testBit j = (decide (j < n) && f j)
  | 0, j => by rw [maskN, Nat.zero_testBit]; simp
  | n + 1, j => by
    rw [maskN, Nat.testBit_or, maskN_bit f n j]
    by_cases e : j = n
    · subst e
      by_cases h : f j = true
      · rw [if_pos h, Nat.testBit_two_pow_self, h]; simp
      · rw [if_neg h, Nat.zero_testBit]
        have : f j = false := by simpa using h
        rw [this]; simp
    · have h0 : (if f n = true then 2 ^ n else 0).testBit j = false := by
        split
        · exact Nat.testBit_two_pow_of_ne (fun h => e h.symm)
        · exact Nat.zero_testBit _
      rw [h0, Bool.or_false]
      have : decide (j < n) = decide (j < n + 1) := decide_eq_decide.mpr (by omega)
      rw [this]
theorem maskN_lt (f : Nat → Bool) (n : Nat) : maskN f n < 2 ^ n := Nat.lt_pow_two_of_testBit _ fun j hj => by
  rw [maskN_bit]
  have : decide (j < n) = false := decide_eq_false (by omega)
  rw [this, Bool.false_and]
def keysOf (ws : List Str) : List Str := ws.foldl (fun acc w => if w ∈ acc then acc else acc ++ [w]) []
theorem keysOf_snoc (ws : List Str) (w : Str) : keysOf (ws ++ [w]) = if w ∈ keysOf ws then keysOf ws else keysOf ws ++ [w] := by
  unfold keysOf
  rw [List.foldl_append]
  rfl
theorem keysOf_mem (ws : List Str) (w : Str) : w ∈ keysOf ws ↔ w ∈ ws := by
  have key : ∀ n, ∀ ws : List Str, ws.length = n → (w ∈ keysOf ws ↔ w ∈ ws) := by
    intro n
    induction n with
    | zero => intro ws h; rw [List.length_eq_zero_iff.mp h]; exact Iff.rfl
    | succ n ih =>
      intro ws h
      have hne : ws ≠ [] := fun e => by rw [e] at h; cases h
      have e := List.dropLast_concat_getLast hne
      have hl : ws.dropLast.length = n := by rw [List.length_dropLast, h]; rfl
      have ih := ih _ hl
      rw [← e, keysOf_snoc, List.mem_append, List.mem_singleton]
      by_cases hm : ws.getLast hne ∈ keysOf ws.dropLast
      · rw [if_pos hm, ih]
        refine ⟨.inl, fun h => h.elim id fun h => ?_⟩
        rw [← ih, h]; exact hm
      · rw [if_neg hm, List.mem_append, List.mem_singleton, ih]
  exact key _ ws rfl
theorem keysOf_nodup (ws : List Str) : (keysOf ws).Nodup := by
  have key : ∀ n, ∀ ws : List Str, ws.length = n → (keysOf ws).Nodup := by
    intro n
    induction n with
    | zero => intro ws h; rw [List.length_eq_zero_iff.mp h]; exact List.nodup_nil
    | succ n ih =>
      intro ws h
      have hne : ws ≠ [] := fun e => by rw [e] at h; cases h
      have e := List.dropLast_concat_getLast hne
      have hl : ws.dropLast.length = n := by rw [List.length_dropLast, h]; rfl
      have ih := ih _ hl
      rw [← e, keysOf_snoc]
      by_cases hm : ws.getLast hne ∈ keysOf ws.dropLast
      · rw [if_pos hm]; exact ih
      · rw [if_neg hm]
        exact List.nodup_append.mpr ⟨ih, by simp, fun a ha b hb e => hm (by rw [List.mem_singleton] at hb; rw [← hb, ← e]; exact ha)⟩
  exact key _ ws rfl
def maskOf (ws : List Str) (w : Str) : Nat := maskN (fun j => decide (ws[j]? = some w)) ws.length
theorem maskOf_bit (ws : List Str) (w : Str) (j : Nat) : (maskOf ws w).testBit j = decide (ws[j]? = some w) := by
  unfold maskOf
  rw [maskN_bit]
  by_cases h : j < ws.length
  · rw [decide_eq_true h, Bool.true_and]
  · rw [decide_eq_false h, Bool.false_and]
    have : ws[j]? = none := List.getElem?_eq_none (by omega)
    rw [this]
    exact (decide_eq_false (fun e => nomatch e)).symm
theorem maskOf_snoc (ws : List Str) (v w : Str) : maskOf (ws ++ [v]) w = maskOf ws w ||| (if v = w then 2 ^ ws.length else 0) := by
  refine Nat.eq_of_testBit_eq fun j => ?_
  rw [Nat.testBit_or, maskOf_bit, maskOf_bit]
  rcases Nat.lt_trichotomy j ws.length with h | h | h
  · rw [List.getElem?_append_left h]
    have h0 : (if v = w then 2 ^ ws.length else 0).testBit j = false := by
      split
      · exact Nat.testBit_two_pow_of_ne (by omega)
      · exact Nat.zero_testBit _
    rw [h0, Bool.or_false]
  · subst h
    rw [List.getElem?_append_right (Nat.le_refl _), Nat.sub_self, List.getElem?_eq_none (Nat.le_refl _)]
    show decide (some v = some w) = (decide (none = some w) || _)
    rw [show decide ((none : Option Str) = some w) = false from decide_eq_false (fun e => by cases e), Bool.false_or]
    by_cases e : v = w
    · rw [if_pos e, Nat.testBit_two_pow_self, e]; simp
    · rw [if_neg e, Nat.zero_testBit]
      exact decide_eq_false fun h => e (Option.some.inj h)
  · rw [List.getElem?_eq_none (by rw [List.length_append, List.length_singleton]; omega), List.getElem?_eq_none (by omega)]
    have h0 : (if v = w then 2 ^ ws.length else 0).testBit j = false := by
      split
      · exact Nat.testBit_two_pow_of_ne (by omega)
      · exact Nat.zero_testBit _
    rw [h0, Bool.or_false]
theorem maskOf_none {ws : List Str} {w : Str} (h : w ∉ ws) : maskOf ws w = 0 := Nat.eq_of_testBit_eq fun j => by
  rw [maskOf_bit, Nat.zero_testBit]
  exact decide_eq_false fun e => h (List.mem_of_getElem? e)
def kvsOf (ws : List Str) : List (Key × V) := (keysOf ws).map fun w => ((Sum.inr w : Key), V.int ((maskOf ws w : Nat) : Int))
theorem valV_map {l : List Str} (f : Str → V) (w : Str) : valV (l.map fun w => ((Sum.inr w : Key), f w)) (Sum.inr w : Key) = if w ∈ l then some (f w) else none := by
  induction l with
  | nil => rfl
  | cons v l ih =>
    rw [List.map_cons]
    by_cases e : v = w
    · subst e
      rw [valV_pos rfl, if_pos List.mem_cons_self]
    · rw [valV_neg (fun h => e (Sum.inr.inj h)), ih]
      by_cases hm : w ∈ l
      · rw [if_pos hm, if_pos (List.mem_cons_of_mem _ hm)]
      · rw [if_neg hm, if_neg fun h => (List.mem_cons.mp h).elim (fun h => e h.symm) hm]
theorem any_map {l : List Str} (f : Str → V) (w : Str) : ((l.map fun w => ((Sum.inr w : Key), f w)).any fun kv => decide (kv.1 = (Sum.inr w : Key))) = decide (w ∈ l) := by
  rw [valV_any, valV_map]
  by_cases h : w ∈ l
  · rw [if_pos h, decide_eq_true h]; rfl
  · rw [if_neg h, decide_eq_false h]; rfl
theorem kvs_get (ws : List Str) (w : Str) : (valV (kvsOf ws) (Sum.inr w : Key)).getD (.int 0) = .int ((maskOf ws w : Nat) : Int) := by
  unfold kvsOf
  rw [valV_map]
  by_cases h : w ∈ keysOf ws
  · rw [if_pos h]; rfl
  · rw [if_neg h, maskOf_none fun k => h ((keysOf_mem ws w).mpr k)]; rfl
theorem kvs_put (ws : List Str) (w : Str) : putK (kvsOf ws) (Sum.inr w : Key) (.int (((maskOf ws w ||| 2 ^ ws.length : Nat) : Nat) : Int)) = kvsOf (ws ++ [w]) := by
  have e1 : maskOf ws w ||| 2 ^ ws.length = maskOf (ws ++ [w]) w := by rw [maskOf_snoc, if_pos rfl]
  rw [e1]
  unfold putK
  have ea := any_map (l := keysOf ws) (fun w => V.int ((maskOf ws w : Nat) : Int)) w
  show (if ((kvsOf ws).any fun kv => decide (kv.1 = (Sum.inr w : Key))) = true then _ else _) = _
  unfold kvsOf
  rw [ea, keysOf_snoc]
  by_cases h : w ∈ keysOf ws
  · rw [if_pos (decide_eq_true h), if_pos h, List.map_map]
    refine List.map_congr_left fun v hv => ?_
    show (if (Sum.inr v : Key) = Sum.inr w then _ else _) = _
    by_cases e : v = w
    · subst e; rw [if_pos rfl]
    · rw [if_neg fun h => e (Sum.inr.inj h), maskOf_snoc, if_neg fun h => e h.symm, Nat.or_zero]
  · rw [if_neg (by rw [decide_eq_true_eq]; exact h), if_neg h, List.map_append]
    congr 1
    refine List.map_congr_left fun v hv => ?_
    rw [maskOf_snoc, if_neg fun e => h (by rw [e]; exact hv), Nat.or_zero]
theorem kvs_len (ws : List Str) : (kvsOf ws).length ≤ ws.length := by
  unfold kvsOf
  rw [List.length_map]
  have key : ∀ n, ∀ ws : List Str, ws.length = n → (keysOf ws).length ≤ n := by
    intro n
    induction n with
    | zero => intro ws h; rw [List.length_eq_zero_iff.mp h]; exact Nat.le_refl _
    | succ n ih =>
      intro ws h
      have hne : ws ≠ [] := fun e => by rw [e] at h; cases h
      have e := List.dropLast_concat_getLast hne
      have hl : ws.dropLast.length = n := by rw [List.length_dropLast, h]; rfl
      have ih := ih _ hl
      rw [← e, keysOf_snoc]
      split
      · omega
      · rw [List.length_append, List.length_singleton]; omega
  exact key _ ws rfl
def splitW (ws : List Str) : List Nat := ((keysOf ws).filter fun w => !decide (w = ("found" : Str))).map (maskOf ws)

/-! ### | of numbers from nought -/
theorem bor_nat (a b : Nat) : Builtin.bitOr (a : Int) (b : Int) = ((a ||| b : Nat) : Int) := by
  have n1 : Builtin.bitNot (a : Int) = -(a : Int) - 1 := by unfold Builtin.bitNot; omega
  have n2 : Builtin.bitNot (b : Int) = -(b : Int) - 1 := by unfold Builtin.bitNot; omega
  have m1 : Builtin.bitNot (-(a : Int) - 1) = (a : Int) := by unfold Builtin.bitNot; omega
  have m2 : Builtin.bitNot (-(b : Int) - 1) = (b : Int) := by unfold Builtin.bitNot; omega
  unfold Builtin.bitOr Builtin.bitAnd
  rw [n1, n2]
  rw [decide_eq_false (show ¬ (0 : Int) ≤ -(a : Int) - 1 by omega), decide_eq_false (show ¬ (0 : Int) ≤ -(b : Int) - 1 by omega)]
  simp only
  rw [m1, m2, Int.toNat_natCast, Int.toNat_natCast]
  unfold Builtin.bitNot
  omega
/-! ### _split -/
abbrev sSplit : Stmt := top 34
def spSplit (K : PySem.W.Frag) : Sp := fun vs H Q _ => ∃ (ra ca pa : Addr) (r : Rl) (c : Cell) (ps : List Cell), vs = [.ref ra, .ref ca, .ref pa] ∧ SqT K H ra r.vs ∧ SqT K H ca (cvs c) ∧ Dp K H (.ref pa) (.tuple (ps.map cdp)) ∧ ps.length ≤ 1000 ∧
  ∀ p H', Same H H' → SqT K H' p (((splitW (toldAll r c ps)).map fun (n : Nat) => (n : Int)).map V.int) → Q (.ref p) H'
section
variable {P : Program} {w : World} {K : PySem.W.Frag} {mg : Str → Option Value} {base : Heap} {CI : Addr}
abbrev nSp : List Str := ["rule", "cell", "places", "masks", "number", "place", "word", "mask"]
theorem scSp : FnScope nSp ["rule", "cell", "places"] (defScope sSplit) := ⟨rfl, rfl, rfl, by decide +kernel, rfl, by decide +kernel, by decide +kernel⟩
def spLc : Expr := arg0 (retExpr ((defBody sSplit).getD 2 noS))
theorem blkSp : BlkOk nSp (defScope sSplit) (lcScope spLc) [("word", 6), ("mask", 7)] := blkOk_by (by decide +kernel)
theorem ok_split {f : Addr} {fd : FuncData} (F : FnP K "_split" "_split" sSplit f fd) (TO : Cal P w K mg base CX0 2 "_told" ["rule", "cell", "place"] (spTold K)) (genum : mg "enumerate" = none) (gtup : mg "tuple" = none) : FnOk P w K mg base CX0 3 f fd ["rule", "cell", "places"] (spSplit K) := by
  refine F.ok scSp (fun vs H Q E h => ?_) (fun cdv A outer s H vs Q E hr h => ?_)
  · obtain ⟨ra, ca, pa, r, c, ps, rfl, _⟩ := h
    rfl
  · obtain ⟨ra, ca, pa, r, c, ps, rfl, hR, hC, hP, hl, k⟩ := h
    have nd := scSp.nd
    have hu := hu_of hr
    refine ⟨_, PSs.nox (pss_cons (ps_set (i := 3) nd rfl (.inl rfl) pe_dnewK)
      (pss_cons (ps_for PassesOwn.never rfl (pi_enumT rfl genum (pa_cons (pv 2) pa_nil)) (pg_tup rfl (pgs_cons (pg_name (i := 4) nd rfl (.inl rfl)) (pgs_cons (pg_name (i := 5) nd rfl (.inl rfl)) pgs_nil)))
        (pss_cons (ps_set (i := 6) nd rfl (.inl rfl) (pe_cal TO hr pass0 (pa_cons (pv 0) (pa_cons (pv 1) (pa_cons (pv 5) pa_nil)))))
        (pss_one (ps_dput hu (pv 3) (pv 6) (pe_op op_or (pe_dget2 hu (pv 3) (pv 6) pe_int ⟨rfl, rfl, rfl, rfl⟩) (pe_op op_shl pe_int (pv 4))) rfl))))
      (pss_one (ps_ret (pe_callTy call_tuple_of (by rfl) gtup (by decide +kernel) (pa_cons (pe_lock (pe_lc (own := [("word", 6), ("mask", 7)]) (g := gTup K 2 (gCons (gName 6) (gCons (gName 7) gNil))) rfl nd (pi_items (pv 3)) blkSp
        (fun _ _ _ _ _ => pg_tup rfl (pgs_cons (pg_name (i := 6) nd rfl (.inl rfl)) (pgs_cons (pg_name (i := 7) nd rfl (.inl rfl)) pgs_nil))) (fun _ _ _ _ _ => pts_one (pt_cmpR op_ne (pv 6) pe_str (nomark _))) (fun _ _ _ _ _ => pv 7))) pa_nil)))))), ?_⟩
    cases hP with
    | tup pS pA =>
    rename_i pvs
    have lp := dpAll_len pA
    rw [List.length_map] at lp
    let ws := toldAll r c ps
    have lws : ws.length = ps.length := by show (List.map _ _).length = _; rw [List.length_map]
    refine fun D hD => ?_
    have sD : Same H (upd H D (.dK [])) := Same.new (Same.refl H) hD
    refine ⟨_, rfl, pa, pvs, rfl, Same.tup sD pS, for_enumT (K := K) (a := pa) (xs := pvs) (fun i σ H1 => Same H H1 ∧ H1 D = some (.dK (kvsOf (ws.take i))) ∧ ∃ v4 v5 v6, σ = [some (.ref ra), some (.ref ca), some (.ref pa), some (.ref D), v4, v5, v6, none]) ⟨sD, upd_same, _, _, _, rfl⟩ (fun i σ H1 _ q => Same.tup q.1 pS) ?_ ?_⟩
    · rintro i x T σ H1 hx ⟨s1, h1, v4, v5, v6, rfl⟩ hT
      obtain ⟨p, hp, hpd⟩ := pdp_at pA hx
      obtain ⟨pc, rfl, hpc⟩ := cell_at hpd
      have hi : i < ps.length := (List.getElem?_eq_some_iff.mp hp).1
      have s2 : Same H (upd H1 T (.tup [.int (i : Nat), .ref pc])) := Same.new s1 hT
      refine ⟨T, _, rfl, .inl (.inl upd_same), rfl, _, _, rfl, _, _, rfl, rfl, ?_⟩
      refine ⟨_, rfl, _, rfl, _, rfl, ra, ca, pc, r, c, p, rfl, Same.tup s2 hR, Same.tup s2 hC, Same.tup s2 hpc, ?_⟩
      have hDT : D ≠ T := fun e => by rw [e, hT] at h1; cases h1
      have h2 : (upd H1 T (.tup [.int (i : Nat), .ref pc])) D = some (.dK (kvsOf (ws.take i))) := by rw [upd_ne hDT]; exact h1
      have ltk : (ws.take i).length = i := by rw [List.length_take, lws]; omega
      have et : ws.take (i + 1) = ws.take i ++ [told r c p] := by
        rw [List.take_succ]
        show _ ++ ((ps.map (told r c))[i]?).toList = _
        rw [List.getElem?_map, hp]
        rfl
      refine ⟨_, rfl, D, rfl, .inl ⟨_, .inl h2⟩, _, rfl, ?_⟩
      refine ⟨_, DGet.k (k := Sum.inr (told r c p)) h2, ?_⟩
      rw [kvs_get]
      refine ⟨_, rfl, ⟨1, (i : Nat), rfl, rfl, ⟨by omega, by omega, by decide⟩, ?_⟩⟩
      refine ⟨_, _, rfl, rfl, ?_⟩
      have eb : Builtin.bitOr ((maskOf (ws.take i) (told r c p) : Nat) : Int) (1 * 2 ^ ((i : Nat) : Int).toNat) = ((maskOf (ws.take i) (told r c p) ||| 2 ^ (ws.take i).length : Nat) : Int) := by
        rw [← bor_nat, ltk, Int.toNat_natCast, Int.one_mul]
        congr 1
      dsimp only
      rw [eb]
      refine ⟨_, rfl, _, rfl, D, _, rfl, DPut.k (k := Sum.inr (told r c p)) h2 (Nat.lt_of_le_of_lt (Nat.le_trans (kvs_len _) (show _ ≤ 1000 by rw [ltk]; omega)) (by decide)), ?_⟩
      rw [kvs_put, ← et]
      exact ⟨Same.updN s2 hD, upd_same, _, _, _, rfl⟩
    · rintro σ H1 ⟨s1, h1, v4, v5, v6, rfl⟩
      have etl : ws.take pvs.length = ws := by rw [lp, ← lws, List.take_length]
      rw [etl] at h1
      have hk : (kvsOf ws).length ≤ 1000 := Nat.le_trans (kvs_len ws) (by omega)
      refine ⟨D, _, h1, trivial, fun od => ?_⟩
      have sF : Same H (upd H1 D (.frz od (.dK (kvsOf ws)))) := Same.updN s1 hD
      refine ⟨_, rfl, D, od, _, rfl, upd_same, fun D2 hD2 => ?_⟩
      have n2 : D2 ≠ D := fun e => by rw [e, upd_same] at hD2; cases hD2
      refine lc_it (walk_items (d := D) (o := od) (kvs := kvsOf ws)) (fun i H2 => H2 D2 = some (.lst (((((keysOf ws).take i).filter fun w => !decide (w = ("found" : Str))).map (maskOf ws)).map fun (n : Nat) => V.int (n : Int))) ∧ H2 D = some (.frz od (.dK (kvsOf ws))) ∧ Same H H2) ⟨by rw [List.take_zero]; exact upd_same, by rw [upd_ne (fun e => n2 e.symm)]; exact upd_same, Same.new sF hD2⟩ (fun i H2 _ q => q.2.1) ?_ ?_
      · rintro i x H2 H2' hi ⟨g1, g2, s2⟩ ⟨T, wv, mv, rfl, hT, rfl, hw, hm⟩
        have hiK : i < (keysOf ws).length := by rw [kvsOf, List.length_map] at hi; exact hi
        have ek : (kvsOf ws)[i]? = some ((Sum.inr (keysOf ws)[i] : Key), V.int ((maskOf ws (keysOf ws)[i] : Nat) : Int)) := by
          unfold kvsOf
          rw [List.getElem?_map, List.getElem?_eq_getElem hiK]
          rfl
        have hw : ((kvsOf ws)[i]?.map fun kv => kV kv.1) = some wv := hw
        have hm : ((kvsOf ws)[i]?.map Prod.snd) = some mv := hm
        rw [ek] at hw hm
        obtain rfl := Option.some.inj hw
        obtain rfl := Option.some.inj hm
        have s3 : Same H (upd H2 T (.tup [kV (Sum.inr (keysOf ws)[i] : Key), V.int ((maskOf ws (keysOf ws)[i] : Nat) : Int)])) := Same.new s2 hT
        have t1 : D2 ≠ T := fun e => by rw [e, hT] at g1; cases g1
        have t2 : D ≠ T := fun e => by rw [e, hT] at g2; cases g2
        refine ⟨T, _, rfl, .inl (.inl upd_same), rfl, _, _, rfl, _, _, rfl, rfl, rfl, ?_⟩
        refine ⟨_, rfl, rfl, _, rfl, ?_⟩
        have et : (((keysOf ws).take (i + 1)).filter fun w => !decide (w = ("found" : Str))) = (((keysOf ws).take i).filter fun w => !decide (w = ("found" : Str))) ++ (if (keysOf ws)[i] = ("found" : Str) then [] else [(keysOf ws)[i]]) := by
          rw [List.take_succ, List.getElem?_eq_getElem hiK, List.filter_append]
          congr 1
          show List.filter _ [(keysOf ws)[i]] = _
          rw [List.filter_cons]
          by_cases e : (keysOf ws)[i] = ("found" : Str)
          · simp [e]
          · simp [e]
        by_cases e : (keysOf ws)[i] = ("found" : Str)
        · rw [if_pos e, List.append_nil] at et
          refine iteF' (by rw [e]; show (!decide (V.str _ = V.str _)) = false; rw [eqS]; rfl) ⟨?_, by rw [upd_ne t2]; exact g2, s3⟩
          rw [upd_ne t1, et]
          exact g1
        · rw [if_neg e] at et
          refine iteT' (by show (!decide (V.str _ = V.str _)) = true; rw [neS e]; rfl) ?_
          refine ⟨_, rfl, _, by rw [upd_ne t1]; exact g1, Nat.lt_of_le_of_lt (show _ ≤ 1000 by
            rw [List.length_map, List.length_map]
            refine Nat.le_trans (List.length_filter_le ..) ?_
            rw [List.length_take]
            rw [kvsOf, List.length_map] at hk
            omega) (by decide), ?_, by rw [upd_ne (fun e => n2 e.symm), upd_ne t2]; exact g2, Same.updN s3 (Same.free sF hD2)⟩
          rw [upd_same, et, List.map_append, List.map_append]
          rfl
      · rintro H2 ⟨g1, g2, s2⟩
        have ln : (kvsOf ws).length = (keysOf ws).length := by rw [kvsOf, List.length_map]
        rw [ln, List.take_length] at g1
        refine ⟨g2, ?_⟩
        have g3 : (upd H2 D (.dK (kvsOf ws))) D2 = some (.lst (((((keysOf ws)).filter fun w => !decide (w = ("found" : Str))).map (maskOf ws)).map fun (n : Nat) => V.int (n : Int))) := by rw [upd_ne n2]; exact g1
        refine ⟨D2, _, rfl, .inl ⟨.inl (.inl g3), fun p hp => ?_⟩⟩
        refine k p _ (Same.new (Same.updN s2 hD) hp) (.inl (.inl ?_))
        rw [upd_same]
        unfold splitW
        simp only [List.map_map]
        rfl
end
end Om

namespace Om
open PySem PySem.Spec PyProof.Rows L2 LamX
/-! ### the table of the fewest digs, by masks -/
def mxN : List Nat → Nat
  | [] => 0
  | n :: r => r.foldl max n
def mnN : List Nat → Nat
  | [] => 0
  | n :: r => r.foldl min n
def partsOf (left : Nat) (m : List Nat) : List Nat := m.map fun k => left &&& k
def goodP (S : List (List Nat)) (left : Nat) : List (List Nat) := (S.map (partsOf left)).filter fun p => !decide (left ∈ p)
def worstL (fs : List Nat) (S : List (List Nat)) (left : Nat) : List Nat := (goodP S left).map fun p => mxN (p.map fun q => fs.getD q 0)
def tab (S : List (List Nat)) : Nat → List Nat
  | 0 => [0]
  | k + 1 => tab S k ++ [1 + mnN (worstL (tab S k) S (k + 1))]
theorem tab_len (S : List (List Nat)) : ∀ k, (tab S k).length = k + 1
  | 0 => rfl
  | k + 1 => by rw [tab, List.length_append, tab_len S k, List.length_singleton]
theorem foldl_max_nat (f : Nat → Int) (hf : ∀ a b, f (max a b) = max (f a) (f b)) : ∀ (l : List Nat) (n : Nat), (l.map f).foldl max (f n) = f (l.foldl max n)
  | [], _ => rfl
  | x :: l, n => by
    rw [List.map_cons, List.foldl_cons, List.foldl_cons, ← hf, foldl_max_nat f hf l]
theorem cast_max (a b : Nat) : ((max a b : Nat) : Int) = max (a : Int) (b : Int) := by omega
theorem foldl_min_le : ∀ (l : List Nat) (n : Nat), l.foldl min n ≤ n ∧ ∀ x ∈ l, l.foldl min n ≤ x
  | [], n => ⟨Nat.le_refl _, fun x h => absurd h (by simp)⟩
  | y :: l, n => by
    rw [List.foldl_cons]
    obtain ⟨h1, h2⟩ := foldl_min_le l (min n y)
    refine ⟨Nat.le_trans h1 (Nat.min_le_left _ _), fun x hx => ?_⟩
    rcases List.mem_cons.mp hx with rfl | hx
    · exact Nat.le_trans h1 (Nat.min_le_right _ _)
    · exact h2 x hx
theorem foldl_min_mem : ∀ (l : List Nat) (n : Nat), l.foldl min n = n ∨ l.foldl min n ∈ l
  | [], _ => .inl rfl
  | y :: l, n => by
    rw [List.foldl_cons]
    rcases foldl_min_mem l (min n y) with h | h
    · rw [h]
      rcases Nat.le_total n y with c | c
      · rw [Nat.min_eq_left c]; exact .inl rfl
      · rw [Nat.min_eq_right c]; exact .inr List.mem_cons_self
    · exact .inr (List.mem_cons_of_mem _ h)
theorem mnN_mem {l : List Nat} (h : l ≠ []) : mnN l ∈ l := by
  cases l with
  | nil => exact absurd rfl h
  | cons n r =>
    rcases foldl_min_mem r n with e | e
    · show r.foldl min n ∈ _
      rw [e]; exact List.mem_cons_self
    · exact List.mem_cons_of_mem _ e
theorem mnN_le {l : List Nat} {x : Nat} (h : x ∈ l) : mnN l ≤ x := by
  cases l with
  | nil => exact absurd h (by simp)
  | cons n r =>
    obtain ⟨h1, h2⟩ := foldl_min_le r n
    rcases List.mem_cons.mp h with rfl | h
    · exact h1
    · exact h2 x h
theorem mnN_eq {l : List Nat} {m : Nat} (hm : m ∈ l) (hle : ∀ x ∈ l, m ≤ x) : mnN l = m := Nat.le_antisymm (mnN_le hm) (hle _ (mnN_mem fun e => by rw [e] at hm; exact absurd hm (by simp)))
theorem splitW_word {ws : List Str} {m : Nat} (h : m ∈ splitW ws) : ∃ v, v ∈ ws ∧ v ≠ ("found" : Str) ∧ m = maskOf ws v := by
  unfold splitW at h
  obtain ⟨v, hv, rfl⟩ := List.mem_map.mp h
  obtain ⟨h1, h2⟩ := List.mem_filter.mp hv
  exact ⟨v, (keysOf_mem ws v).mp h1, by simpa using h2, rfl⟩
theorem splitW_mem {ws : List Str} {v : Str} (h : v ∈ ws) (hf : v ≠ ("found" : Str)) : maskOf ws v ∈ splitW ws := by
  unfold splitW
  exact List.mem_map.mpr ⟨v, List.mem_filter.mpr ⟨(keysOf_mem ws v).mpr h, by simpa using hf⟩, rfl⟩
theorem splitW_lt {ws : List Str} {m : Nat} (h : m ∈ splitW ws) : m < 2 ^ ws.length := by
  obtain ⟨v, _, _, rfl⟩ := splitW_word h
  exact maskN_lt _ _
theorem bit_of_pos {left n : Nat} (h0 : 0 < left) (hn : left < 2 ^ n) : ∃ j, j < n ∧ left.testBit j = true := by
  refine Classical.byContradiction fun hc => ?_
  have : left = 0 := Nat.eq_of_testBit_eq fun j => by
    rw [Nat.zero_testBit]
    by_cases hj : j < n
    · cases e : left.testBit j with
      | false => rfl
      | true => exact absurd ⟨j, hj, e⟩ hc
    · exact Nat.testBit_lt_two_pow (Nat.lt_of_lt_of_le hn (Nat.pow_le_pow_right (by decide) (by omega)))
  omega
theorem told_found {r : Rl} {c p : Cell} : told r c p = ("found" : Str) ↔ c = p := by
  unfold told
  by_cases h : c = p
  · rw [if_pos h]; exact ⟨fun _ => h, fun _ => rfl⟩
  · rw [if_neg h]
    refine ⟨fun e => ?_, fun e => absurd e h⟩
    exfalso
    revert e
    have n1 : ("empty" : Str) ≠ "found" := by decide +kernel
    have n2 : ("level" : Str) ≠ "found" := by decide +kernel
    have n3 : ("north" : Str) ≠ "found" := by decide +kernel
    have n4 : ("south" : Str) ≠ "found" := by decide +kernel
    have n5 : ("near" : Str) ≠ "found" := by decide +kernel
    have n6 : ("far" : Str) ≠ "found" := by decide +kernel
    cases r with
    | plain => exact n1
    | rows =>
      show toldR c.1 p.1 ≠ _
      unfold toldR
      split
      · exact n2
      · split
        · exact n3
        · exact n4
    | near k =>
      show (if away c p ≤ (k : Int) then ("near" : Str) else "far") ≠ _
      split
      · exact n5
      · exact n6
/-- a dig at a place that is left parts it -/
theorem good_ne {r : Rl} {ps : List Cell} {S : List (List Nat)} {left : Nat} (hS : ∀ p ∈ ps, splitW (toldAll r p ps) ∈ S) (h0 : 0 < left) (hn : left < 2 ^ ps.length) : goodP S left ≠ [] := by
  obtain ⟨j, hj, hb⟩ := bit_of_pos h0 hn
  have hm : partsOf left (splitW (toldAll r ps[j] ps)) ∈ goodP S left := by
    refine List.mem_filter.mpr ⟨List.mem_map.mpr ⟨_, hS _ (List.getElem_mem hj), rfl⟩, ?_⟩
    simp only [Bool.not_eq_true', decide_eq_false_iff_not]
    intro hin
    obtain ⟨k, hk, e⟩ := List.mem_map.mp hin
    obtain ⟨v, hv, hf, rfl⟩ := splitW_word hk
    have b1 : (left &&& maskOf (toldAll r ps[j] ps) v).testBit j = true := by rw [e]; exact hb
    rw [Nat.testBit_and, maskOf_bit, Bool.and_eq_true, decide_eq_true_eq] at b1
    have e2 : (toldAll r ps[j] ps)[j]? = some (told r ps[j] ps[j]) := by
      show (ps.map (told r ps[j]))[j]? = _
      rw [List.getElem?_map, List.getElem?_eq_getElem hj]
      rfl
    rw [e2] at b1
    exact hf (by rw [← Option.some.inj b1.2]; exact told_found.mpr rfl)
  intro e
  rw [e] at hm
  exact absurd hm (by simp)
end Om

namespace Om
open PySem PySem.Spec PyProof.Rows L2 LamX
abbrev sFewest : Stmt := top 27
def splitsOf (r : Rl) (cs ps : List Cell) : List (List Nat) := cs.map fun c => splitW (toldAll r c ps)
def spFewest (K : PySem.W.Frag) (CI : Addr) : Sp := fun vs H Q _ => ∃ (a pa ra : Addr) (rows : List (List Nat)) (ps : List Cell) (r : Rl), vs = [.ref a, .ref pa, .ref ra] ∧ Isl K CI H a rows ∧ Vd rows ∧ Dp K H (.ref pa) (.tuple (ps.map cdp)) ∧ (∀ c ∈ ps, c ∈ cellsOf rows) ∧ SqT K H ra r.vs ∧ r.Ok ∧ ps.length ≤ 9 ∧
  (∃ B : List (List Nat), B.length ≤ 62 ∧ ∀ m ∈ splitsOf r (cellsOf rows) ps, m ∈ B) ∧
  ∀ (S : List (List Nat)) (H' : Hp), Same H H' → (∀ m, m ∈ S ↔ m ∈ splitsOf r (cellsOf rows) ps) → Q (.int (((tab S (2 ^ ps.length - 1)).getD (2 ^ ps.length - 1) 0 : Nat) : Int)) H'
section
variable {P : Program} {w : World} {K : PySem.W.Frag} {mg : Str → Option Value} {base : Heap} {CI fN pm gt : Addr}
abbrev nFw : List Str := ["island", "places", "rule", "splits", "fewest", "left", "parted", "worst", "cell", "masks", "mask", "parts", "part"]
theorem scFw : FnScope nFw ["island", "places", "rule"] (defScope sFewest) := ⟨rfl, rfl, rfl, by decide +kernel, rfl, by decide +kernel, by decide +kernel⟩
def fwSc : Expr := arg0 (asgExpr ((defBody sFewest).getD 2 noS))
def fwPt : Expr := asgExpr (inFor ((defBody sFewest).getD 4 noS) 0)
def fwWs : Expr := asgExpr (inFor ((defBody sFewest).getD 4 noS) 1)
def scScope (e : Expr) : Scope := match e with
  | .SetComp _ _ sc _ => sc
  | _ => lcScope e
theorem blkFw1 : BlkOk nFw (defScope sFewest) (scScope fwSc) [("cell", 8)] := blkOk_by (by decide +kernel)
theorem blkFw2 : BlkOk nFw (defScope sFewest) (lcScope fwPt) [("masks", 9)] := blkOk_by (by decide +kernel)
theorem blkFw3 : BlkOk nFw (relab (lcScope fwPt) (defScope sFewest)) (lcScope (lcElt fwPt)) [("mask", 10)] := blkOk_by (by decide +kernel)
theorem blkFw4 : BlkOk nFw (defScope sFewest) (lcScope fwWs) [("parts", 11)] := blkOk_by (by decide +kernel)
theorem blkFw5 : BlkOk nFw (relab (lcScope fwWs) (defScope sFewest)) (lcScope (kwArg0 (lcElt fwWs))) [("part", 12)] := blkOk_by (by decide +kernel)
theorem maxDefK {X : Cx} {K : PySem.W.Frag} (hK : X.K = K) (hc : X.calm = true) (hu : X.A.units + 64 < cLine) : CallRK X (.builtin "max") [Str.ofString "default"] (rMaxDef K) := by
  subst hK
  exact cr_maxDef hc hu
theorem pi_tupK {X : Cx} {K : PySem.W.Frag} {tg l : Expr} {tl : TE} (hK : X.K = K) (h : PE X l tl) : PI X tg l (iTup K tl) := by
  subst hK
  exact pi_tup h
theorem pi_listK {X : Cx} {K : PySem.W.Frag} {tg l : Expr} {tl : TE} (hK : X.K = K) (h : PE X l tl) : PI X tg l (iList K tl) := by
  subst hK
  exact pi_list h
theorem notInK {X : Cx} {K : PySem.W.Frag} (hK : X.K = K) : OpR X (compareOp .NotIn) (rIn K true) := by
  subst hK
  exact op_notIn_seq
theorem ixLK {X : Cx} {K : PySem.W.Frag} (hK : X.K = K) : IxR X (rIx K) := by
  subst hK
  exact ix_seq
theorem SqT.otherX {K : PySem.W.Frag} {H : Hp} {a D : Addr} {xs : List V} {φ : Heap → Prop} {o : HO} (h : SqT K H a xs) (hD : H D = some (.ext φ)) : SqT K (upd H D o) a xs := by
  rcases h with (h | ⟨ob, h⟩) | h
  · have n : a ≠ D := fun e => by rw [e, hD] at h; cases h
    exact .inl (.inl (by rw [upd_ne n]; exact h))
  · have n : a ≠ D := fun e => by rw [e, hD] at h; cases h
    exact .inl (.inr ⟨ob, by rw [upd_ne n]; exact h⟩)
  · exact .inr h
theorem wlk_it {J : It} {n : Nat} {G : Hp → Prop} {Y : Nat → Hp → V → Hp → Prop} (wk : Walk J n G Y) {Fin : Hp → Prop} {Act : V → Hp → (Hp → Prop) → Prop} {H0 : Hp} (Pv : Nat → Hp → Prop) (h0 : Pv 0 H0) (hG : ∀ i H, i ≤ n → Pv i H → G H)
    (hs : ∀ i x H H', i < n → Pv i H → Y i H x H' → Act x H' (Pv (i + 1))) (hd : ∀ H, Pv n H → Fin H) : ∃ W : Nat → Nat → Hp → Prop, (∃ m, W 0 m H0) ∧ Wlk J W Fin Act := by
  refine ⟨fun i m H => m = n - i ∧ i ≤ n ∧ Pv i H, ⟨n, by simp, Nat.zero_le _, h0⟩, ?_⟩
  rintro i m H ⟨rfl, hi, p⟩
  have q := hG i H hi p
  by_cases hlt : i < n
  · exact .inr ⟨wk.goes i H hlt q, Pv (i + 1), fun H' p' => ⟨n - (i + 1), by omega, rfl, hlt, p'⟩, fun x H' y => hs i x H H' hlt p (wk.yields i H x H' hlt q y)⟩
  · have e : i = n := by omega
    subst e
    exact .inl ⟨wk.stops H q, hd H p⟩
theorem nodup_len {α : Type} [DecidableEq α] : ∀ (l D : List α), l.Nodup → (∀ x ∈ l, x ∈ D) → l.length ≤ D.length
  | [], _, _, _ => Nat.zero_le _
  | x :: l, D, hn, hs => by
    obtain ⟨h1, h2⟩ := List.nodup_cons.mp hn
    have hx : x ∈ D := hs x List.mem_cons_self
    have ih := nodup_len l (D.erase x) h2 fun y hy => (List.mem_erase_of_ne (fun e => h1 (by rw [← e]; exact hy))).2 (hs y (List.mem_cons_of_mem _ hy))
    have e := List.length_erase_of_mem hx
    have hp : 0 < D.length := List.length_pos_of_mem hx
    rw [List.length_cons]
    omega
def castL (m : List Nat) : List Int := m.map fun (n : Nat) => (n : Int)
theorem castL_inj {a b : List Nat} (h : castL a = castL b) : a = b := by
  have e : (castL a).map Int.toNat = (castL b).map Int.toNat := by rw [h]
  have id1 : ∀ m : List Nat, (castL m).map Int.toNat = m := fun m => by
    unfold castL
    rw [List.map_map]
    exact (List.map_congr_left fun n _ => Int.toNat_natCast n).trans (List.map_id m)
  rw [id1, id1] at e
  exact e
/-- the set at D holds just the keys of ms -/
structure SetIs (K : PySem.W.Frag) (P : Program) (w : World) (H : Hp) (D : Addr) (ms : List (List Int)) (L : List (Addr × List Int)) : Prop where
  at_ : H D = some (SetTO P w D L)
  nd : (L.map (·.2)).Nodup
  tup : ∀ p ∈ L, SqT K H p.1 (p.2.map V.int)
  mem : ∀ k, k ∈ L.map (·.2) ↔ k ∈ ms
theorem SetIs.put {K : PySem.W.Frag} {P : Program} {w : World} {H : Hp} {D b : Addr} {ms : List (List Int)} {L L' : List (Addr × List Int)} {k : List Int} (S : SetIs K P w H D ms L) (hb : SqT K H b (k.map V.int)) (c1 : k ∈ L.map (·.2) → L' = L) (c2 : k ∉ L.map (·.2) → L'.Perm ((b, k) :: L)) :
    SetIs K P w (upd H D (SetTO P w D L')) D (ms ++ [k]) L' := by
  have keep : ∀ {a : Addr} {xs : List V}, SqT K H a xs → SqT K (upd H D (SetTO P w D L')) a xs := fun h => SqT.otherX h S.at_
  by_cases hk : k ∈ L.map (·.2)
  · have e := c1 hk
    subst e
    refine ⟨upd_same, S.nd, fun p hp => keep (S.tup p hp), fun j => ?_⟩
    rw [List.mem_append, List.mem_singleton, S.mem]
    exact ⟨.inl, fun h => h.elim id fun h => by rw [h]; exact (S.mem k).mp hk⟩
  · have pm := c2 hk
    refine ⟨upd_same, ?_, fun p hp => ?_, fun j => ?_⟩
    · refine ((pm.map (·.2)).nodup_iff).mpr ?_
      exact List.nodup_cons.mpr ⟨hk, S.nd⟩
    · rcases List.mem_cons.mp (pm.mem_iff.mp hp) with rfl | h
      · exact keep hb
      · exact keep (S.tup p h)
    · rw [(pm.map (·.2)).mem_iff, List.mem_append, List.mem_singleton]
      show j ∈ k :: L.map (·.2) ↔ _
      rw [List.mem_cons, S.mem]
      exact Or.comm
def cv (l : List Nat) : List V := l.map fun (n : Nat) => V.int (n : Int)
theorem cv_len (l : List Nat) : (cv l).length = l.length := List.length_map ..
theorem cv_at {l : List Nat} {i : Nat} {n : Nat} (h : l[i]? = some n) : (cv l)[i]? = some (V.int (n : Int)) := by
  unfold cv
  rw [List.getElem?_map, h]
  rfl
theorem cv_app (a b : List Nat) : cv (a ++ b) = cv a ++ cv b := List.map_append
theorem cv_castL (m : List Nat) : (castL m).map V.int = cv m := by
  unfold castL cv
  rw [List.map_map]
  rfl
theorem inV_cv (a : Nat) : ∀ l : List Nat, inV (.int (a : Int)) (cv l) = decide (a ∈ l)
  | [] => by simp [inV, cv]
  | b :: l => by
    have ih := inV_cv a l
    unfold inV at ih ⊢
    show (eqV _ _ || (cv l).any _) = _
    rw [ih]
    by_cases h : a = b
    · subst h
      have : eqV (.int (a : Int)) (.int (a : Int)) = true := decide_eq_true rfl
      rw [this, Bool.true_or]
      exact (decide_eq_true List.mem_cons_self).symm
    · have h1 : eqV (.int (b : Int)) (.int (a : Int)) = false := decide_eq_false (show ¬ ((b : Int) = (a : Int)) by omega)
      have h2 : eqV (.int (a : Int)) (.int (b : Int)) = false := decide_eq_false (show ¬ ((a : Int) = (b : Int)) by omega)
      first
        | rw [h1]
        | rw [h2]
      rw [Bool.false_or]
      refine decide_eq_decide.mpr ⟨List.mem_cons_of_mem _, fun hm => (List.mem_cons.mp hm).elim (fun e => absurd e h) id⟩
theorem flat_cv (l : List Nat) : (cv l).all flatV = true := by
  unfold cv
  rw [List.all_map]
  exact List.all_eq_true.mpr fun _ _ => rfl
/-- the lists of numbers at as, each apart from D -/
structure IntL (H : Hp) (D : Addr) (as : List Addr) (pls : List (List Nat)) : Prop where
  len : as.length = pls.length
  at_ : ∀ (i : Nat) (l : List Nat), pls[i]? = some l → ∃ a, as[i]? = some a ∧ a ≠ D ∧ H a = some (.lst (cv l))
theorem IntL.same {H H' : Hp} {D : Addr} {as : List Addr} {pls : List (List Nat)} (h : IntL H D as pls) (s : Same H H') : IntL H' D as pls :=
  ⟨h.len, fun i l hl => by
    obtain ⟨a, e1, e2, e3⟩ := h.at_ i l hl
    exact ⟨a, e1, e2, s _ _ e3⟩⟩
theorem IntL.push {H : Hp} {D a : Addr} {as : List Addr} {pls : List (List Nat)} {l : List Nat} {o : HO} (h : IntL H D as pls) (ha : H a = some (.lst (cv l))) (hne : a ≠ D) : IntL (upd H D o) D (as ++ [a]) (pls ++ [l]) := by
  refine ⟨by rw [List.length_append, List.length_append, h.len]; rfl, fun i m hm => ?_⟩
  by_cases hi : i < pls.length
  · rw [List.getElem?_append_left hi] at hm
    obtain ⟨b, e1, e2, e3⟩ := h.at_ i m hm
    exact ⟨b, by rw [List.getElem?_append_left (by rw [h.len]; exact hi)]; exact e1, e2, by rw [upd_ne e2]; exact e3⟩
  · have hi2 : i = pls.length := by
      have := (List.getElem?_eq_some_iff.mp hm).1
      rw [List.length_append, List.length_singleton] at this
      omega
    subst hi2
    rw [List.getElem?_append_right (Nat.le_refl _), Nat.sub_self] at hm
    obtain rfl : l = m := Option.some.inj hm
    exact ⟨a, by rw [List.getElem?_append_right (by rw [h.len]; exact Nat.le_refl _), h.len, Nat.sub_self]; rfl, hne, by rw [upd_ne hne]; exact ha⟩
theorem sortSetK {X : Cx} {K : PySem.W.Frag} (hK : X.K = K) (hc : X.calm = true) (hu : X.A.units + 64 < cLine) : CallR X (.builtin "sorted") (rSortSet K X.prog X.w) := by
  subst hK
  exact cr_sortSet hc hu
theorem ok_fewest {f : Addr} {fd h3 : FuncData} (F : FnP K "fewest_digs" "fewest_digs" sFewest f fd) (PL : Cal P w K mg base CX0 5 "_require_places" ["island", "places", "rule"] (spPlaces K CI)) (SP : Cal P w K mg base CX0 3 "_split" ["rule", "cell", "places"] (spSplit K)) (TI : IslF K mg CI fN)
    (pC : PropOf K CI "cells" pm gt) (G3 : FnOk P w K mg base CX0 1 gt h3 ["self"] (spICells K CI)) (b3 : Binds K h3 ["self"] []) (glen : mg "len" = none) (gmin : mg "min" = none) (gmax : mg "max" = none) (gsorted : mg "sorted" = none) (grange : mg "range" = none) (gmp : ∃ t, mg "MOST_PLACES" = some (.int 9 t)) : FnOk P w K mg base CX0 6 f fd ["island", "places", "rule"] (spFewest K CI) := by
  obtain ⟨tmp, gmp⟩ := gmp
  refine F.ok scFw (fun vs H Q E h => ?_) (fun cdv A outer s H vs Q E hr h => ?_)
  · obtain ⟨a, pa, ra, rows, ps, r, rfl, _⟩ := h
    rfl
  · obtain ⟨a, pa, ra, rows, ps, r, rfl, hI, vd, hP, pin, hR, hok, hl, hB, k⟩ := h
    have nd := scFw.nd
    have hr2 : Room 2 _ := hr.mono (by decide)
    have hr3 : Room 3 _ := hr.mono (by decide)
    have hu := hr.units
    refine ⟨_, PSs.nox (pss_cons (ps_expr (pe_cal PL hr pass0 (pa_cons (pv 0) (pa_cons (pv 1) (pa_cons (pv 2) pa_nil)))))
      (pss_cons (ps_if (pt_cmpR op_gt (pe_callB call_len_seq (by rfl) glen PySem.boot_len (pa_cons (pv 1) pa_nil)) (pe_glob (v := .int 9) rfl gmp ⟨_, rfl⟩) (nomark _)) pss_no pss_nil)
      (pss_cons (ps_set (i := 3) nd rfl (.inl rfl) (pe_callB (sortSetK (K := K) rfl rfl hu) (by rfl) gsorted (by decide +kernel) (pa_cons (pe_sc1 (own := [("cell", 8)]) (g := gName 8) rfl (Nat.lt_of_le_of_lt (Nat.add_le_add_left (by decide) _) hu) nd (pi_list (pe_prop (pv 0) TI.cl pC G3 hr2 b3 .nil pass0 rfl)) blkFw1 (fun _ _ _ _ _ => pg_name (i := 8) nd rfl (.inl rfl)) (fun _ _ _ _ _ => pts_nil)
          (fun _ _ _ _ _ => pe_cal SP hr3 pass0 (pa_cons (pv 2) (pa_cons (pv 8) (pa_cons (pv 1) pa_nil))))) pa_nil)))
      (pss_cons (ps_set (i := 4) nd rfl (.inr rfl) (pe_lst (pa_cons pe_int pa_nil)))
      (pss_cons (ps_for PassesOwn.never rfl (pi_range2 rfl grange (pa_cons pe_int (pa_cons (pe_op op_shl pe_int (pe_callB call_len_seq (by rfl) glen PySem.boot_len (pa_cons (pv 1) pa_nil))) pa_nil))) (pg_name (i := 5) nd rfl (.inr rfl))
          (pss_cons (ps_setLc (i := 6) (own := [("masks", 9)]) (g := gName 9) rfl nd rfl rfl (sw_true rfl rfl rfl (by decide +kernel)) (pi_list (pv 3)) blkFw2 (fun _ _ _ _ _ => pg_name (i := 9) nd rfl (.inl rfl)) (fun _ _ _ _ _ => pts_nil)
              (fun _ _ _ _ _ => pe_lc (own := [("mask", 10)]) (g := gName 10) rfl nd (pi_tupK (K := K) rfl (pv 9)) blkFw3 (fun _ _ _ _ _ => pg_name (i := 10) nd rfl (.inl rfl)) (fun _ _ _ _ _ => pts_nil) (fun _ _ _ _ _ => pe_op op_and (pv 5) (pv 10))))
          (pss_cons (ps_setLc (i := 7) (own := [("parts", 11)]) (g := gName 11) rfl nd rfl rfl (sw_true rfl rfl rfl (by decide +kernel)) (pi_list (pv 6)) blkFw4 (fun _ _ _ _ _ => pg_name (i := 11) nd rfl (.inl rfl)) (fun _ _ _ _ _ => pts_one (pt_cmpR (notInK (K := K) rfl) (pv 5) (pv 11) (by with_unfolding_all rfl)))
              (fun _ _ _ _ _ => pe_callBK (maxDefK (K := K) rfl rfl hu) (by rfl) gmax (by decide +kernel) (pa_cons (pe_lc (own := [("part", 12)]) (g := gName 12) rfl nd (pi_listK (K := K) rfl (pv 11)) blkFw5 (fun _ _ _ _ _ => pg_name (i := 12) nd rfl (.inl rfl)) (fun _ _ _ _ _ => pts_nil) (fun _ _ _ _ _ => pe_ix (ixLK (K := K) rfl) (pv 4) (pv 12) (fun _ _ => rfl))) pa_nil) (pk_cons pe_int pk_nil)))
          (pss_one (ps_expr (pe_bm PySem.F.plainAttrs_list PySem.F.slot_list_append PySem.F.type_list_append mt_append (pv 4) (pa_cons (pe_op op_add pe_int (pe_callB (cr_min rfl) (by rfl) gmin (by decide +kernel) (pa_cons (pv 7) pa_nil))) pa_nil)))))))
      (pss_one (ps_ret (pe_ix ix_list (pv 4) (pe_un un_neg pe_int) (fun _ _ => rfl))))))))), ?_⟩
    refine ⟨_, rfl, _, rfl, _, rfl, a, pa, ra, rows, ps, r, rfl, hI, vd.toGood2, hP, pin, hR, hok, fun H1 s1 => ?_⟩
    have P1 := Same.dp s1 hP
    have P1' := P1
    cases P1 with
    | tup pS pA =>
    rename_i pvs
    have lp := dpAll_len pA
    rw [List.length_map] at lp
    have h9 : ¬ ((pvs.length : Int) > 9) := by omega
    refine ⟨_, rfl, pa, pvs, rfl, .inr pS, _, _, rfl, rfl, _, rfl, iteF' (decide_eq_false h9) ?_⟩
    have I1 := hI.same s1
    obtain ⟨dx, pr, hx, hxS⟩ := id I1
    obtain ⟨B, hB1, hB2⟩ := hB
    let ms := splitsOf r (cellsOf rows) ps
    have lms : ms.length = (cellsOf rows).length := by show (List.map _ _).length = _; rw [List.length_map]
    refine ⟨_, rfl, a, dx, _, rfl, hx, ?_⟩
    refine ⟨a, rows, rfl, I1, vd, fun v H2 s2 hd => ?_⟩
    cases hd with
    | lst cS cA =>
    rename_i ce cvz
    have lc := dpAll_len cA
    rw [List.length_map] at lc
    have s12 := s1.trans s2
    refine ⟨ce, rfl, ⟨_, cS⟩, fun D hD => ?_⟩
    have sD : Same H2 (upd H2 D (SetTO P w D [])) := Same.new (Same.refl H2) hD
    refine wlk_it (walk_list (K := K) (a := ce) (xs := cvz)) (fun i H3 => ∃ L, SetIs K P w H3 D ((ms.take i).map castL) L ∧ Same H2 H3) ⟨[], ⟨upd_same, List.nodup_nil, fun p hp => absurd hp (by simp), fun k => by rw [List.take_zero]; exact Iff.rfl⟩, sD⟩ (fun i H3 _ q => by
      obtain ⟨L, _, s3⟩ := q
      exact Same.lst s3 cS) ?_ ?_
    · rintro i x H3 H3' hi ⟨L, SI, s3⟩ ⟨rfl, hx3⟩
      obtain ⟨c, hc, hcd⟩ := pdp_at cA hx3
      obtain ⟨ca, rfl, hca⟩ := cell_at hcd
      have s13 := s12.trans s3
      have hi2 : i < (cellsOf rows).length := (List.getElem?_eq_some_iff.mp hc).1
      have et : ms.take (i + 1) = ms.take i ++ [splitW (toldAll r c ps)] := by
        rw [List.take_succ]
        show _ ++ (((cellsOf rows).map fun c => splitW (toldAll r c ps))[i]?).toList = _
        rw [List.getElem?_map, hc]
        rfl
      refine ⟨rfl, tyes ?_⟩
      refine ⟨_, rfl, _, rfl, _, rfl, ra, ca, pa, r, c, ps, rfl, Same.tup s13 hR, Same.tup s3 hca, Same.dp s13 hP, by omega, fun p H4 s4 hp => ?_⟩
      refine ⟨p, castL (splitW (toldAll r c ps)), L, rfl, hp, s4 _ _ SI.at_, fun q hq => Same.tup s4 (SI.tup q hq), ?_, fun L' c1 c2 => ⟨L', ?_, Same.updN (s3.trans s4) hD⟩⟩
      · have := nodup_len (L.map (·.2)) (B.map castL) SI.nd fun k hk => by
          obtain ⟨m, hm, rfl⟩ := List.mem_map.mp ((SI.mem k).mp hk)
          exact List.mem_map.mpr ⟨m, hB2 m (List.mem_of_mem_take hm), rfl⟩
        rw [List.length_map, List.length_map] at this
        omega
      · rw [et, List.map_append]
        exact SetIs.put ⟨s4 _ _ SI.at_, SI.nd, fun q hq => Same.tup s4 (SI.tup q hq), SI.mem⟩ hp c1 c2
    · rintro H3 ⟨L, SI, s3⟩
      rw [lc, ← lms, List.take_length] at SI
      refine ⟨D, L, rfl, SI.at_, SI.tup, fun L' sp pm nd' hsp => ?_⟩
      have hq : ∀ q ∈ L', ∃ m ∈ ms, q.2 = castL m := fun q hq => by
        obtain ⟨m, hm, e⟩ := List.mem_map.mp ((SI.mem q.2).mp (List.mem_map.mpr ⟨q, pm.mem_iff.mp hq, rfl⟩))
        exact ⟨m, hm, e.symm⟩
      let S : List (List Nat) := L'.map fun q => q.2.map Int.toNat
      have toN : ∀ m : List Nat, (castL m).map Int.toNat = m := fun m => by
        unfold castL
        rw [List.map_map]
        exact (List.map_congr_left fun n _ => Int.toNat_natCast n).trans (List.map_id m)
      have S_at : ∀ (j : Nat) (q : Addr × List Int), L'[j]? = some q → ∃ m, S[j]? = some m ∧ q.2 = castL m := fun j q hj => by
        obtain ⟨m, hm, e⟩ := hq q (List.mem_of_getElem? hj)
        refine ⟨m, ?_, e⟩
        show (L'.map _)[j]? = _
        rw [List.getElem?_map, hj]
        show some (q.2.map Int.toNat) = some m
        rw [e, toN]
      have S_mem : ∀ m, m ∈ S ↔ m ∈ ms := fun m => by
        constructor
        · intro h
          obtain ⟨q, h1, h2⟩ := List.mem_map.mp h
          obtain ⟨m', h3, h4⟩ := hq q h1
          rw [h4, toN] at h2
          rw [← h2]
          exact h3
        · intro h
          have : castL m ∈ L.map (·.2) := (SI.mem _).mpr (List.mem_map.mpr ⟨m, h, rfl⟩)
          obtain ⟨q, h1, h2⟩ := List.mem_map.mp this
          exact List.mem_map.mpr ⟨q, pm.mem_iff.mpr h1, by rw [h2, toN]⟩
      have lS : S.length = L'.length := List.length_map ..
      have lL : L'.length ≤ 62 := by
        rw [pm.length_eq]
        have := nodup_len (L.map (·.2)) (B.map castL) SI.nd fun k hk => by
          obtain ⟨m, hm, rfl⟩ := List.mem_map.mp ((SI.mem k).mp hk)
          exact List.mem_map.mpr ⟨m, hB2 m hm, rfl⟩
        rw [List.length_map, List.length_map] at this
        omega
      have ml : ∀ m ∈ S, m.length ≤ 1000 := fun m hm => by
        obtain ⟨c, hc, rfl⟩ := List.mem_map.mp ((S_mem m).mp hm)
        unfold splitW
        rw [List.length_map]
        refine Nat.le_trans (List.length_filter_le ..) ?_
        have := kvs_len (toldAll r c ps)
        rw [kvsOf, List.length_map] at this
        have l2 : (toldAll r c ps).length = ps.length := List.length_map ..
        omega
      have s4 : Same H3 (upd H3 sp (.lst (L'.map fun q => V.ref q.1))) := Same.new (Same.refl H3) hsp
      have hTup : ∀ q ∈ L', SqT K (upd H3 sp (.lst (L'.map fun q => V.ref q.1))) q.1 (q.2.map V.int) := fun q hq => Same.tup s4 (SI.tup q (pm.mem_iff.mp hq))
      have hSp : (upd H3 sp (.lst (L'.map fun q => V.ref q.1))) sp = some (.lst (L'.map fun q => V.ref q.1)) := upd_same
      have s14 : Same H (upd H3 sp (.lst (L'.map fun q => V.ref q.1))) := (s12.trans s3).trans s4
      have pS4 : SqT K (upd H3 sp (.lst (L'.map fun q => V.ref q.1))) pa pvs := Same.tup ((s2.trans s3).trans s4) pS
      generalize upd H3 sp (.lst (L'.map fun q => V.ref q.1)) = H4 at s14 hTup hSp s4 pS4 ⊢
      refine ⟨by show 1 ≤ sizeLine; decide, fun fp hfp => ?_⟩
      have s45 : Same H4 (upd H4 fp (.lst [V.int 0])) := Same.new (Same.refl H4) hfp
      have hpow : 2 ^ ps.length ≤ 512 := Nat.pow_le_pow_right (n := 2) (by decide) (show ps.length ≤ 9 from hl)
      have hpos : 0 < 2 ^ ps.length := Nat.pow_pos (by decide)
      have ep : (1 : Int) * 2 ^ ((pvs.length : Nat) : Int).toNat = ((2 ^ ps.length : Nat) : Int) := by
        rw [Int.toNat_natCast, lp, Int.one_mul]
        exact (Int.natCast_pow 2 _).symm
      refine ⟨_, rfl, pa, pvs, rfl, .inr (Same.tup s45 pS4), ⟨1, ((pvs.length : Nat) : Int), rfl, rfl, ⟨by omega, by omega, by decide⟩, ?_⟩⟩
      refine ⟨1, _, rfl, ⟨by decide, by decide, ?_, ?_⟩, ?_⟩
      · rw [ep]; omega
      · rw [ep]; omega
      rw [ep]
      have eN : (((2 ^ ps.length : Nat) : Int) - 1).toNat = 2 ^ ps.length - 1 := by omega
      rw [eN]
      refine for_range (lo := 1) (n := 2 ^ ps.length - 1) (fun i σ H5 => (∃ v5 v6 v7, σ = [some (.ref a), some (.ref pa), some (.ref ra), some (.ref sp), some (.ref fp), v5, v6, v7, none, none, none, none, none]) ∧ Same H4 H5 ∧ H5 fp = some (.lst (cv (tab S i)))) ⟨⟨_, _, _, rfl⟩, s45, upd_same⟩ ?_ ?_
      · rintro i σ H5 hi ⟨⟨v5, v6, v7, rfl⟩, s5, h5⟩
        have el : (1 : Int) + ((i : Nat) : Int) = ((i + 1 : Nat) : Int) := by omega
        rw [el]
        have h5s := s5 _ _ hSp
        -- the parts
        refine ⟨_, rfl, sp, rfl, ⟨_, .inl (.inl h5s)⟩, fun D2 hD2 => ?_⟩
        have sD2 : Same H5 (upd H5 D2 (.lst [])) := Same.new (Same.refl H5) hD2
        refine lc_list (K := K) (a := sp) (xs := L'.map fun q => V.ref q.1) (fun j H6 => ∃ as, H6 D2 = some (.lst (as.map V.ref)) ∧ IntL H6 D2 as ((S.take j).map (partsOf (i + 1))) ∧ Same H5 H6) ⟨[], upd_same, ⟨rfl, fun j l h => by rw [List.take_zero] at h; simp at h⟩, sD2⟩ (fun j H6 _ q => by
          obtain ⟨as, _, _, s6⟩ := q
          exact .inl (.inl (s6 _ _ h5s))) ?_ ?_
        · rintro j x H6 hx6 ⟨as, g1, g2, s6⟩
          rw [List.getElem?_map] at hx6
          cases hj : L'[j]? with
          | none => rw [hj] at hx6; cases hx6
          | some q =>
          rw [hj] at hx6
          obtain rfl : V.ref q.1 = x := Option.some.inj hx6
          obtain ⟨m, hm, em⟩ := S_at j q hj
          have hqm : SqT K H6 q.1 (cv m) := by
            have := Same.tup (s5.trans s6) (hTup q (List.mem_of_getElem? hj))
            rw [em, cv_castL] at this
            exact this
          refine ⟨rfl, tyes ?_⟩
          refine ⟨_, rfl, q.1, rfl, ⟨_, hqm⟩, fun D3 hD3 => ?_⟩
          refine lc_tup (K := K) (a := q.1) (xs := cv m) (fun l H7 => H7 D3 = some (.lst (cv ((partsOf (i + 1) m).take l))) ∧ Same H6 H7) ⟨by rw [List.take_zero]; exact upd_same, Same.new (Same.refl H6) hD3⟩ (fun l H7 _ q7 => Same.tup q7.2 hqm) ?_ ?_
          · rintro l x7 H7 hx7 ⟨f1, f2⟩
            have hl7 : l < m.length := by
              have := (List.getElem?_eq_some_iff.mp hx7).1
              rwa [cv_len] at this
            rw [cv_at (List.getElem?_eq_getElem hl7)] at hx7
            obtain rfl := Option.some.inj hx7
            have et : (partsOf (i + 1) m).take (l + 1) = (partsOf (i + 1) m).take l ++ [(i + 1) &&& m[l]] := by
              rw [List.take_succ]
              unfold partsOf
              rw [List.getElem?_map, List.getElem?_eq_getElem hl7]
              rfl
            refine ⟨rfl, tyes ?_⟩
            refine ⟨_, rfl, _, rfl, _, _, rfl, rfl, ?_⟩
            dsimp only
            rw [PySem.W.os_band]
            refine ⟨_, f1, Nat.lt_of_le_of_lt (show _ ≤ 1000 by
              rw [cv_len, List.length_take]
              have := ml m (List.mem_of_getElem? hm)
              unfold partsOf
              rw [List.length_map]
              omega) (by decide), ?_, Same.updN f2 hD3⟩
            rw [upd_same, et, cv_app]
            rfl
          · rintro H7 ⟨f1, f2⟩
            have lpm : (cv m).length = (partsOf (i + 1) m).length := by rw [cv_len, partsOf, List.length_map]
            rw [lpm, List.take_length] at f1
            have ne : D3 ≠ D2 := fun e => by rw [e, g1] at hD3; cases hD3
            refine ⟨_, f2 _ _ g1, Nat.lt_of_le_of_lt (show _ ≤ 1000 by
              rw [List.length_map, g2.len, List.length_map, List.length_take]
              omega) (by decide), as ++ [D3], ?_, ?_, Same.updN (s6.trans f2) hD2⟩
            · rw [upd_same, List.map_append]
              rfl
            · have et : (S.take (j + 1)).map (partsOf (i + 1)) = (S.take j).map (partsOf (i + 1)) ++ [partsOf (i + 1) m] := by
                rw [List.take_succ, hm, List.map_append]
                rfl
              rw [et]
              exact (g2.same f2).push f1 ne
        · rintro H6 ⟨as, g1, g2, s6⟩
          have lLS : (L'.map fun q => V.ref q.1).length = S.length := by rw [List.length_map, lS]
          rw [lLS, List.take_length] at g2
          have h6 := s6 _ _ h5
          let wk := fun (j : Nat) => (((S.take j).map (partsOf (i + 1))).filter fun p => !decide (i + 1 ∈ p)).map fun p => mxN (p.map fun q => (tab S i).getD q 0)
          refine ⟨_, rfl, D2, rfl, ⟨_, .inl (.inl g1)⟩, fun D4 hD4 => ?_⟩
          refine lc_list (K := K) (a := D2) (xs := as.map V.ref) (fun j H7 => H7 D4 = some (.lst (cv (wk j))) ∧ Same H6 H7) ⟨by show upd _ _ _ _ = some (.lst (cv ((((S.take 0).map _).filter _).map _))); rw [List.take_zero]; exact upd_same, Same.new (Same.refl H6) hD4⟩ (fun j H7 _ q => .inl (.inl (q.2 _ _ g1))) ?_ ?_
          · rintro j x H7 hx7 ⟨f1, f2⟩
            have hj : j < S.length := by
              have := (List.getElem?_eq_some_iff.mp hx7).1
              rw [List.length_map, g2.len, List.length_map] at this
              exact this
            have hSj : S[j]? = some S[j] := List.getElem?_eq_getElem hj
            obtain ⟨b, b1, b2, b3⟩ := g2.at_ j (partsOf (i + 1) S[j]) (by rw [List.getElem?_map, hSj]; rfl)
            rw [List.getElem?_map, b1] at hx7
            obtain rfl : V.ref b = x := Option.some.inj hx7
            have b7 := f2 _ _ b3
            have lwk : (wk j).length ≤ 1000 := by
              show (List.map _ _).length ≤ _
              rw [List.length_map]
              refine Nat.le_trans (List.length_filter_le ..) ?_
              rw [List.length_map, List.length_take]
              omega
            have et : (S.take (j + 1)).map (partsOf (i + 1)) = (S.take j).map (partsOf (i + 1)) ++ [partsOf (i + 1) S[j]] := by
              rw [List.take_succ, hSj, List.map_append]
              rfl
            have ef : (((S.take (j + 1)).map (partsOf (i + 1))).filter fun p => !decide (i + 1 ∈ p)) = (((S.take j).map (partsOf (i + 1))).filter fun p => !decide (i + 1 ∈ p)) ++ (if i + 1 ∈ partsOf (i + 1) S[j] then [] else [partsOf (i + 1) S[j]]) := by
              rw [et, List.filter_append]
              congr 1
              rw [List.filter_cons]
              by_cases e : i + 1 ∈ partsOf (i + 1) S[j]
              · simp [e]
              · simp [e]
            refine ⟨rfl, ?_⟩
            refine ⟨_, rfl, _, rfl, b, _, rfl, .inl (.inl (.inl b7)), rfl, flat_cv _, _, rfl, ?_⟩
            rw [inV_cv]
            by_cases e : i + 1 ∈ partsOf (i + 1) S[j]
            · rw [if_pos e, List.append_nil] at ef
              have ew : wk (j + 1) = wk j := by show List.map _ _ = List.map _ _; rw [ef]
              refine iteF' (by rw [decide_eq_true e]; rfl) ⟨?_, f2⟩
              rw [ew]
              exact f1
            · rw [if_neg e] at ef
              have ew : wk (j + 1) = wk j ++ [mxN ((partsOf (i + 1) S[j]).map fun q => (tab S i).getD q 0)] := by
                show List.map _ _ = List.map _ _ ++ _
                rw [ef, List.map_append]
                rfl
              refine iteT' (by rw [decide_eq_false e]; rfl) ?_
              have lps : (partsOf (i + 1) S[j]).length ≤ 1000 := by
                unfold partsOf
                rw [List.length_map]
                exact ml _ (List.getElem_mem hj)
              refine ⟨_, rfl, b, rfl, ⟨_, .inl (.inl b7)⟩, fun D5 hD5 => ?_⟩
              refine lc_list (K := K) (a := b) (xs := cv (partsOf (i + 1) S[j])) (fun l H8 => H8 D5 = some (.lst (cv (((partsOf (i + 1) S[j]).take l).map fun q => (tab S i).getD q 0))) ∧ Same H7 H8) ⟨by rw [List.take_zero]; exact upd_same, Same.new (Same.refl H7) hD5⟩ (fun l H8 _ q => .inl (.inl (q.2 _ _ b7))) ?_ ?_
              · rintro l x8 H8 hx8 ⟨c1, c2⟩
                have hl8 : l < (partsOf (i + 1) S[j]).length := by
                  have := (List.getElem?_eq_some_iff.mp hx8).1
                  rwa [cv_len] at this
                have hpl : (partsOf (i + 1) S[j])[l]? = some (partsOf (i + 1) S[j])[l] := List.getElem?_eq_getElem hl8
                rw [cv_at hpl] at hx8
                obtain rfl := Option.some.inj hx8
                have hmem := List.getElem_mem hl8
                generalize (partsOf (i + 1) S[j])[l] = q at hpl hmem ⊢
                have hlt : q < i + 1 := by
                  obtain ⟨k0, _, ek⟩ := List.mem_map.mp hmem
                  have h1 : q ≤ i + 1 := by rw [← ek]; exact Nat.and_le_left
                  have h2 : q ≠ i + 1 := fun z => e (by have hm := hmem; rw [z] at hm; exact hm)
                  omega
                have htb : (tab S i)[q]? = some ((tab S i).getD q 0) := by
                  have : q < (tab S i).length := by rw [tab_len]; exact hlt
                  rw [List.getD_eq_getElem?_getD, List.getElem?_eq_getElem this]
                  rfl
                have et8 : ((partsOf (i + 1) S[j]).take (l + 1)).map (fun q => (tab S i).getD q 0) = ((partsOf (i + 1) S[j]).take l).map (fun q => (tab S i).getD q 0) ++ [(tab S i).getD q 0] := by
                  rw [List.take_succ, hpl, List.map_append]
                  rfl
                have h8 := c2 _ _ (f2 _ _ h6)
                refine ⟨rfl, tyes ?_⟩
                refine ⟨_, rfl, _, rfl, .inl ⟨fp, _, (q : Nat), V.int (((tab S i).getD q 0 : Nat) : Int), rfl, rfl, .inl (.inl h8), atI_nat (cv_at htb), ?_⟩⟩
                refine ⟨_, c1, Nat.lt_of_le_of_lt (show _ ≤ 1000 by
                  rw [cv_len, List.length_map, List.length_take]
                  omega) (by decide), ?_, Same.updN c2 hD5⟩
                rw [upd_same, et8, cv_app]
                rfl
              · rintro H8 ⟨c1, c2⟩
                rw [cv_len, List.take_length] at c1
                have c3 : H8 D5 = some (.lst ((castL ((partsOf (i + 1) S[j]).map fun q => (tab S i).getD q 0)).map V.int)) := by
                  rw [c1, cv_castL]
                have fin : ∀ H9, H9 = H8 → (∃ acc, H9 D4 = some (.lst acc) ∧ acc.length < sizeLine ∧ ((upd H9 D4 (.lst (acc ++ [V.int ((mxN ((partsOf (i + 1) S[j]).map fun q => (tab S i).getD q 0) : Nat) : Int)]))) D4 = some (.lst (cv (wk (j + 1)))) ∧ Same H6 (upd H9 D4 (.lst (acc ++ [V.int ((mxN ((partsOf (i + 1) S[j]).map fun q => (tab S i).getD q 0) : Nat) : Int)]))))) := by
                  rintro H9 rfl
                  refine ⟨_, c2 _ _ f1, Nat.lt_of_le_of_lt (show _ ≤ 1000 by rw [cv_len]; exact lwk) (by decide), ?_, Same.updN (f2.trans c2) hD4⟩
                  rw [upd_same, ew, cv_app]
                  rfl
                refine ⟨D5, _, .int 0, rfl, rfl, .inl (.inl c3), fun e0 => ?_, fun n rr e0 => ?_⟩
                · have e1 : (partsOf (i + 1) S[j]).map (fun q => (tab S i).getD q 0) = [] := by
                    unfold castL at e0
                    exact List.map_eq_nil_iff.mp e0
                  have := fin H8 rfl
                  rw [e1] at this
                  exact this
                · have := fin H8 rfl
                  cases e1 : (partsOf (i + 1) S[j]).map (fun q => (tab S i).getD q 0) with
                  | nil => rw [e1] at e0; cases e0
                  | cons n0 r0 =>
                    rw [e1] at e0 this
                    injection e0 with e2 e3
                    have em : ((mxN (n0 :: r0) : Nat) : Int) = rr.foldl max n := by
                      rw [← e2, ← e3]
                      exact (foldl_max_nat (fun n : Nat => (n : Int)) cast_max r0 n0).symm
                    rw [em] at this
                    exact this
          · rintro H7 ⟨f1, f2⟩
            have lw : (as.map V.ref).length = S.length := by rw [List.length_map, g2.len, List.length_map]
            rw [lw] at f1
            have ewk : wk S.length = worstL (tab S i) S (i + 1) := by
              show (((S.take S.length).map _).filter _).map _ = _
              rw [List.take_length]
              rfl
            rw [ewk] at f1
            have h7 := f2 _ _ h6
            have wne : worstL (tab S i) S (i + 1) ≠ [] := by
              unfold worstL
              intro e
              refine good_ne (r := r) (ps := ps) (S := S) (left := i + 1) (fun p hp => (S_mem _).mpr (List.mem_map.mpr ⟨p, pin p hp, rfl⟩)) (by omega) (by omega) (List.map_eq_nil_iff.mp e)
            have f3 : H7 D4 = some (.lst ((castL (worstL (tab S i) S (i + 1))).map V.int)) := by rw [f1, cv_castL]
            refine ⟨_, rfl, .inl ⟨rfl, _, .inl (.inl h7)⟩, ⟨_, rfl, D4, _, rfl, .inl (.inl f3), by
              unfold castL
              rw [List.length_map]
              exact List.length_pos_iff.mpr wne, fun m hm1 hm2 => ?_⟩⟩
            have em : m = ((mnN (worstL (tab S i) S (i + 1)) : Nat) : Int) := by
              obtain ⟨m0, h1, rfl⟩ := List.mem_map.mp hm1
              rw [mnN_eq h1 fun x hx => by
                have := hm2 (x : Int) (List.mem_map.mpr ⟨x, hx, rfl⟩)
                omega]
            refine ⟨1, m, rfl, rfl, ?_⟩
            refine nilArgs ⟨fp, _, _, rfl, rfl, h7, Nat.lt_of_le_of_lt (show _ ≤ 1000 by rw [cv_len, tab_len]; omega) (by decide), ⟨_, _, _, rfl⟩, ?_, ?_⟩
            · have nf : ∀ c o, H4 c = some o → c ≠ fp := fun c o hc z => by rw [z, hfp] at hc; cases hc
              intro c o hc
              rw [upd_ne (nf c o hc)]
              exact f2 _ _ (s6 _ _ (s5 _ _ hc))
            · rw [upd_same, tab, cv_app, em]
              have : (1 : Int) + ((mnN (worstL (tab S i) S (i + 1)) : Nat) : Int) = ((1 + mnN (worstL (tab S i) S (i + 1)) : Nat) : Int) := by omega
              show some (HO.lst (cv (tab S i) ++ [V.int ((1 : Int) + ((mnN (worstL (tab S i) S (i + 1)) : Nat) : Int))])) = _
              rw [this]
              rfl
      · rintro σ H5 ⟨⟨v5, v6, v7, rfl⟩, s5, h5⟩
        have el : (tab S (2 ^ ps.length - 1)).length = 2 ^ ps.length - 1 + 1 := tab_len S _
        have hne : tab S (2 ^ ps.length - 1) ≠ [] := fun z => by rw [z] at el; cases el
        have hlast : atI (cv (tab S (2 ^ ps.length - 1))) (-1) = some (V.int (((tab S (2 ^ ps.length - 1)).getD (2 ^ ps.length - 1) 0 : Nat) : Int)) := by
          have e0 := (List.dropLast_concat_getLast hne).symm
          have eg : (tab S (2 ^ ps.length - 1)).getD (2 ^ ps.length - 1) 0 = (tab S (2 ^ ps.length - 1)).getLast hne := by
            rw [List.getLast_eq_getElem, List.getD_eq_getElem?_getD, List.getElem?_eq_getElem (by omega), Option.getD_some]
            congr 1
            omega
          rw [eg]
          generalize (tab S (2 ^ ps.length - 1)).getLast hne = z at e0 ⊢
          rw [e0, cv_app]
          exact atI_last _ _
        exact ⟨_, rfl, ⟨1, rfl, fp, _, -1, _, rfl, rfl, .inl (.inl h5), hlast, k S H5 (s14.trans s5) S_mem⟩⟩
end
end Om

/-! what the digs' functions refuse -/
namespace Om
open PySem PySem.Spec PyProof.Rows L2 LamX
/-! ### numbers as they are told: whole ones, truth values -/
inductive Nm where
  | i (n : Int)
  | b (x : Bool)
deriving DecidableEq
def Nm.v : Nm → V
  | .i n => .int n
  | .b x => .bl x
def Nm.d : Nm → PyData
  | .i n => .int n
  | .b x => .bool x
theorem nm_dp {K : PySem.W.Frag} {H : Hp} : ∀ n : Nm, Dp K H n.v n.d
  | .i n => .int n
  | .b x => .bl x
theorem nms_dp {K : PySem.W.Frag} {H : Hp} : ∀ ns : List Nm, DpAll K H (ns.map Nm.v) (ns.map Nm.d)
  | [] => .nil
  | n :: r => .cons (nm_dp n) (nms_dp r)
theorem dp_nm {K : PySem.W.Frag} {H : Hp} {v : V} : ∀ {n : Nm}, Dp K H v n.d → v = n.v
  | .i n, h => by cases h; rfl
  | .b x, h => by cases h; rfl
theorem dp_nms {K : PySem.W.Frag} {H : Hp} : ∀ {ns : List Nm} {vs : List V}, DpAll K H vs (ns.map Nm.d) → vs = ns.map Nm.v
  | [], [], .nil => rfl
  | n :: r, v :: t, .cons h1 h2 => by rw [dp_nm h1, dp_nms h2]; rfl
def inN : Nm → Int → Int → Bool
  | .i n, lo, hi => inR n lo hi
  | .b _, _, _ => false
def spInN : Sp := fun vs H Q _ => ∃ (v : Nm) (lo hi : Int), vs = [v.v, .int lo, .int hi] ∧ Q (.bl (inN v lo hi)) H
section
variable {P : Program} {w : World} {K : PySem.W.Frag} {mg : Str → Option Value} {base : Heap}
theorem ok_inN {f : Addr} {fd : FuncData} (F : FnP K "in_range" "in_range" sInR f fd) (gisi : mg "isinstance" = none) (gint : mg "int" = none) (gbool : mg "bool" = none) : FnOk P w K mg base CX0 1 f fd nInR spInN := by
  refine F.ok scInR (fun vs H Q E h => ?_) (fun cdv A outer s H vs Q E hr h => ?_)
  · obtain ⟨v, lo, hi, rfl, _⟩ := h
    rfl
  · obtain ⟨v, lo, hi, rfl, k⟩ := h
    refine ⟨_, PSs.nox (pss_one (ps_ret (pe_and (pe_callB call_isi (by rfl) gisi (by decide +kernel) (pa_cons (pv 0) (pa_cons (pe_bltn (v := .ty "int") (by rfl) gint boot_int rfl) pa_nil)))
      (pe_and (pe_not (pe_callB call_isi (by rfl) gisi (by decide +kernel) (pa_cons (pv 0) (pa_cons (pe_bltn (v := .ty "bool") (by rfl) gbool (by decide +kernel) rfl) pa_nil))))
        (pe_one (pe_chain op_le op_le (pv 1) (pv 0) (pv 2))))))), ?_⟩
    cases v with
    | i v =>
      refine ⟨_, rfl, _, _, _, _, _, rfl, .ty "int", .base (.int _), kit_ty (a := "int") (b := "int") (r := true) (by decide +kernel), ?_⟩
      refine ⟨true, rfl, iteT ?_⟩
      refine ⟨_, rfl, _, _, _, _, _, rfl, .ty "bool", .base (.int _), kit_ty (a := "int") (b := "bool") (r := false) (by decide +kernel), false, rfl, true, rfl, iteT ?_⟩
      refine ⟨_, rfl, _, rfl, _, _, rfl, rfl, _, rfl, ?_⟩
      have k : Q (.bl (decide (lo ≤ v) && decide (v ≤ hi))) H := k
      cases e : decide (lo ≤ v) with
      | true =>
        rw [e, Bool.true_and] at k
        exact iteT ⟨_, rfl, _, _, rfl, rfl, k⟩
      | false =>
        rw [e, Bool.false_and] at k
        exact iteF k
    | b x =>
      refine ⟨_, rfl, _, _, _, _, _, rfl, .ty "int", .base (.bl _), kit_ty (a := "bool") (b := "int") (r := true) (by decide +kernel), ?_⟩
      refine ⟨true, rfl, iteT ?_⟩
      exact ⟨_, rfl, _, _, _, _, _, rfl, .ty "bool", .base (.bl _), kit_ty (a := "bool") (b := "bool") (r := true) (by decide +kernel), true, rfl, false, rfl, iteF k⟩
abbrev sAscS : Stmt := top 7
abbrev nAscS : List Str := ["text", "allowed", "sign"]
def ascLc : Expr := match retExpr ((defBody sAscS).getD 0 (.Pass ⟨0, 0, 0, 0⟩)) with
  | .BoolOp _ [_, .Compare _ _ [c] _] _ => arg0 c
  | e => e
end
structure IsM (K : PySem.W.Frag) (mg : Str → Option Value) (C fI : Addr) : Prop where
  oex : OexC K C
  noI : PySem.W.findIn K (.ref C) "index" = some none
  iC : PySem.W.findIn K (.ref C) "__init__" = some (some (.ref fI))
  tI : PySem.W.typeIn K (.ref fI) = some (.type "function")
  gC : mg "InvalidDig" = some (.ref C)
def xdIM (x : V) : List (Str × V) := [(("index" : Str), x)]
def spIM (C : Addr) : Sp := fun vs H Q _ => ∃ (a : Addr) (x : V), vs = [.ref a, x] ∧ H a = some (exo a C none) ∧ ∀ dx, H dx = none → dx ≠ a → Q .non (upd (upd H dx (exd dx (xdIM x))) a (exo a C (some dx)))
theorem mkIM {C : Addr} {H1 : Hp} {W : XK} {x : V} (k : ∀ d H', H1 d = none → Same H1 H' → H' d = some (.xd (xdIM x)) → W (.ref C) (some d) H') :
    [x].length ≤ 1000 ∧ ∀ a, H1 a = none → spIM C (.ref a :: ([x] ++ [])) (upd H1 a (exo a C none)) (fun v H2 => v = .non ∧ ∃ (d : Addr) (fs : List (Str × V)), H2 a = some (exo a C (some d)) ∧ H2 d = some (exd d fs) ∧ H1 d = none ∧ W (.ref C) (some d) (upd (del H2 a) d (.xd fs))) (fun _ _ _ => False) := by
  refine ⟨by simp, fun a ha => ⟨a, x, rfl, upd_same, fun dx h1 h2 => ⟨rfl, dx, _, upd_same, (by rw [upd_ne h2]; exact upd_same), ?_, ?_⟩⟩⟩
  · rw [upd_ne h2] at h1; exact h1
  · rw [upd_ne h2] at h1
    refine k dx _ h1 (fun c o hc => ?_) upd_same
    have n1 : c ≠ dx := ne_of_none hc h1
    have n2 : c ≠ a := ne_of_none hc ha
    rw [upd_ne n1, del_ne n2, upd_ne n2, upd_ne n1, upd_ne n2]
    exact hc
abbrev sIM : Stmt := inClass (top 11) 0
section
variable {P : Program} {w : World} {K : PySem.W.Frag} {mg : Str → Option Value} {base : Heap} {C fI : Addr}
theorem scIM : FnScope ["self", "index"] ["self", "index"] (defScope sIM) := ⟨rfl, rfl, rfl, by decide +kernel, rfl, by decide +kernel, by decide +kernel⟩
theorem ok_IM {fd : FuncData} (F : FnP K "__init__" "InvalidDig.__init__" sIM fI fd) (T : IsM K mg C fI) : FnOk P w K mg base CX0 1 fI fd ["self", "index"] (spIM C) := by
  refine F.ok scIM (fun vs H Q E h => ?_) (fun cdv A outer s H vs Q E hr h => ?_)
  · obtain ⟨a, x, rfl, _⟩ := h
    rfl
  · obtain ⟨a, x, rfl, ha, k⟩ := h
    refine ⟨_, PSs.nox (pss_one (ps_ost (pv 0) (pv 1))), ?_⟩
    exact ⟨_, rfl, _, rfl, a, C, rfl, T.oex, T.noI, .inl ⟨ha, fun dx h1 h2 => k dx h1 h2⟩⟩
end
theorem passE0 {P : Program} {w : World} {X : Cx} : Passes (L2.CX P w) X E0 := fun pins σ H s e s' I h => by
  obtain ⟨a, B, H', cls, d, _, _, _, _, _, _, _, z⟩ := h
  exact z.elim
/-! ### a rule, be it one or not -/
def nrV (n : Nm) : List V := [.str "near", n.v]
def RuleX (K : PySem.W.Frag) (H : Hp) (ra : Addr) (G B : Hp → Prop) : Prop := (∃ r : Rl, SqT K H ra r.vs ∧ r.Ok ∧ ∀ H', Same H H' → G H') ∨ ∃ n : Nm, SqT K H ra (nrV n) ∧ inN n 1 22 = false ∧ ∀ H', Same H H' → B H'
theorem RuleX.mono {K : PySem.W.Frag} {H H1 : Hp} {ra : Addr} {G B G' B' : Hp → Prop} (h : RuleX K H ra G B) (s : Same H H1) (hG : ∀ H', Same H1 H' → G H' → G' H') (hB : ∀ H', Same H1 H' → B H' → B' H') : RuleX K H1 ra G' B' := by
  rcases h with ⟨r, h1, h2, h3⟩ | ⟨n, h1, h2, h3⟩
  · exact .inl ⟨r, Same.tup s h1, h2, fun H' s' => hG H' s' (h3 H' (s.trans s'))⟩
  · exact .inr ⟨n, Same.tup s h1, h2, fun H' s' => hB H' s' (h3 H' (s.trans s'))⟩
def spReqX (K : PySem.W.Frag) (CR : Addr) : Sp := fun vs H Q E => ∃ ra : Addr, vs = [.ref ra] ∧ RuleX K H ra (fun H' => Q .non H') fun H' => E (.ref CR) none H'
def spLandF (K : PySem.W.Frag) (CI CU : Addr) : Sp := fun vs H Q E => ∃ (a ca : Addr) (rows : List (List Nat)) (c : Int × Int), vs = [.ref a, .ref ca] ∧ Isl K CI H a rows ∧ Good2 rows ∧ SqT K H ca [.int c.1, .int c.2] ∧ (hasC rows c.1 c.2 = true → Q .non H) ∧ (hasC rows c.1 c.2 = false → E (.ref CU) none H)
/-- cells at their addresses, on land or not -/
def CTs (K : PySem.W.Frag) (H : Hp) (xs : List V) (cs : List (Int × Int)) : Prop := xs.length = cs.length ∧ ∀ (i : Nat) (x : V), xs[i]? = some x → ∃ (ca : Addr) (c : Int × Int), cs[i]? = some c ∧ x = .ref ca ∧ SqT K H ca [.int c.1, .int c.2]
theorem CTs.same {K : PySem.W.Frag} {H H' : Hp} {xs : List V} {cs : List (Int × Int)} (h : CTs K H xs cs) (s : Same H H') : CTs K H' xs cs := ⟨h.1, fun i x hx => by
  obtain ⟨ca, c, h1, h2, h3⟩ := h.2 i x hx
  exact ⟨ca, c, h1, h2, Same.tup s h3⟩⟩
def offC (rows : List (List Nat)) (cs : List (Int × Int)) : Prop := ∃ c ∈ cs, hasC rows c.1 c.2 = false
def spPlX (K : PySem.W.Frag) (CI CU CR : Addr) : Sp := fun vs H Q E => ∃ (a pa ra : Addr) (rows : List (List Nat)) (xs : List V) (cs : List (Int × Int)), vs = [.ref a, .ref pa, .ref ra] ∧ Isl K CI H a rows ∧ Good2 rows ∧ SqT K H pa xs ∧ CTs K H xs cs ∧
  (offC rows cs → ∀ H', Same H H' → E (.ref CU) none H') ∧ (¬ offC rows cs → RuleX K H ra (fun H' => Q .non H') fun H' => E (.ref CR) none H')
section
variable {P : Program} {w : World} {K : PySem.W.Frag} {mg : Str → Option Value} {base : Heap} {CI CU CR : Addr}
theorem ok_landF {f gC : Addr} {fd fdC : FuncData} (F : FnP K "require_land" "require_land" sLand f fd) (U : ErrU K mg "UnknownCell" CU) (mC : OwnM K CI "__contains__" gC) (GC : FnOk P w K mg base CX0 3 gC fdC ["self", "cell"] (spHas K CI)) (bC : Binds K fdC ["self", "cell"] []) : FnOk P w K mg base (L2.CX P w) 4 f fd ["island", "cell"] (spLandF K CI CU) := by
  refine F.ok scLand (fun vs H Q E h => ?_) (fun cdv A outer s H vs Q E hr h => ?_)
  · obtain ⟨a, ca, rows, c, rfl, _⟩ := h
    rfl
  · obtain ⟨a, ca, rows, c, rfl, hI, g, hC, k1, k2⟩ := h
    refine ⟨_, pss_one (ps_if (pt_cmpR (op_notInOwn mC GC hr bC pass0) (pv 1) (pv 0) (by with_unfolding_all rfl))
      (pss_one (ps_raise rfl (takes_of rfl rfl rfl rfl) (pmk_own PySem.F.excBase_ValueError U.q U.g U.kp (raises_own U.r1 U.r2) rfl))) pss_nil), ?_⟩
    obtain ⟨dx, p, hp, _⟩ := id hI
    refine ⟨_, rfl, _, rfl, a, dx, _, rfl, hp, a, ca, rows, _, _, rfl, hI, g, hC, _, rfl, _, rfl, ?_⟩
    cases e : hasC rows c.1 c.2 with
    | false => exact iteT' rfl (k2 e)
    | true => exact iteF' rfl (k1 e)
def nrD (n : Nm) : PyData := .tuple [.str "near", n.d]
theorem sh_nr (n : Nm) : SeqAt.shaped (nrD n) = true := by
  cases n with
  | i m => exact shaped_of (by simp only [nrD, Nm.d, PyData.canLay0, PyData.canLayAll0, Bool.and_true]; decide +kernel) (by simp [nrD, Nm.d, PyData.depth, PyData.depthAll])
  | b x => exact shaped_of (by simp only [nrD, Nm.d, PyData.canLay0, PyData.canLayAll0, Bool.and_true]; decide +kernel) (by simp [nrD, Nm.d, PyData.depth, PyData.depthAll])
theorem ok_reqX {f : Addr} {fd : FuncData} (F : FnP K "require_rule" "require_rule" sReqR f fd) (UR : ErrU K mg "InvalidRule" CR) (G : Cal P w K mg base CX0 1 "in_range" nInR spInN) (glen : mg "len" = none) (gaw : ∃ t, mg "MOST_AWAY" = some (.int 22 t)) : FnOk P w K mg base (L2.CX P w) 2 f fd ["rule"] (spReqX K CR) := by
  obtain ⟨taw, gaw⟩ := gaw
  refine F.ok scReqR (fun vs H Q E h => ?_) (fun cdv A outer s H vs Q E hr h => ?_)
  · obtain ⟨ra, rfl, _⟩ := h
    rfl
  · obtain ⟨ra, rfl, h⟩ := h
    refine ⟨_, pss_cons (ps_if (pt_cmpR (op_inT (room65 hr)) (pv 0) (pe_tup (pa_cons (pe_tup (pa_cons pe_str pa_nil)) (pa_cons (pe_tup (pa_cons pe_str pa_nil)) pa_nil))) (by with_unfolding_all rfl)) (pss_one ps_retN) pss_nil)
      (pss_one (ps_if (PW.pt (pw_or (pt_cmpR op_ne (pe_callB call_len_seq (by rfl) glen PySem.boot_len (pa_cons (pv 0) pa_nil)) pe_int (nomark _)) (pw_or (pt_cmpR op_ne (pe_ix ix_tup (pv 0) pe_int (fun _ _ => rfl)) pe_str (nomark _)) (pw_or1 (pt_not (pt_val (pe_cal G hr pass0 (pa_cons (pe_ix ix_tup (pv 0) pe_int (fun _ _ => rfl)) (pa_cons pe_int (pa_cons (pe_glob (v := .int 22) rfl gaw ⟨_, rfl⟩) pa_nil))))))))))
        (pss_one (ps_raise rfl (takes_of rfl rfl rfl rfl) (pmk_own PySem.F.excBase_ValueError UR.q UR.g UR.kp (raises_own UR.r1 UR.r2) rfl))) pss_nil)), ?_⟩
    refine ⟨_, rfl, by show 1 ≤ sizeLine; decide, fun a1 h1 => ⟨by show 1 ≤ sizeLine; decide, fun a2 h2 => ⟨by show 2 ≤ sizeLine; decide, fun a3 h3 => ?_⟩⟩⟩
    have s1 := Same.new (Same.refl H) h1 (o := .tup [.str (Str.ofString "plain")])
    have s2 := Same.new (Same.refl _) h2 (o := .tup [.str (Str.ofString "rows")])
    have s3 := Same.new (Same.refl _) h3 (o := .tup [.ref a1, .ref a2])
    have s13 := (s1.trans s2).trans s3
    have dT : Dp K (upd (upd (upd H a1 (.tup [.str (Str.ofString "plain")])) a2 (.tup [.str (Str.ofString "rows")])) a3 (.tup [.ref a1, .ref a2])) (.ref a3) (.tuple [.tuple [.str "plain"], .tuple [.str "rows"]]) :=
      .tup (.inl (.inl upd_same)) (.cons (.tup (.inl (.inl (s3 _ _ (s2 _ _ upd_same)))) (.cons (.str _) .nil)) (.cons (.tup (.inl (.inl (s3 _ _ upd_same))) (.cons (.str _) .nil)) .nil))
    rcases h with ⟨r, hR, hok, k⟩ | ⟨n, hR, hbad, k⟩
    · have hR3 := Same.tup s13 hR
      have shr : SeqAt.shaped r.d = true := by cases r <;> first | decide +kernel | exact shaped_of (by simp only [Rl.d, Rl.ds, PyData.canLay0, PyData.canLayAll0, Bool.and_true]; decide +kernel) (by simp [Rl.d, Rl.ds, PyData.depth, PyData.depthAll])
      refine ⟨r.d, [.tuple [.str "plain"], .tuple [.str "rows"]], rl_dp hR3, dT, shr, by decide +kernel, _, rfl, ?_⟩
      cases r with
      | plain =>
        refine iteT' ?_ (k _ s13)
        simp only [List.any_cons, Rl.d, Rl.ds, eqvP, Bool.true_or]
      | rows =>
        refine iteT' ?_ (k _ s13)
        simp only [List.any_cons, List.any_nil, Rl.d, Rl.ds, eqvR, Bool.true_or, Bool.or_true]
      | near m =>
        refine iteF' ?_ ?_
        · simp only [List.any_cons, List.any_nil, Rl.d, Rl.ds, Bool.or_false]
          rfl
        refine ⟨_, rfl, ra, _, rfl, .inr hR3, rfl, _, rfl, iteF' rfl ?_⟩
        refine ⟨_, rfl, ra, _, 0, _, rfl, rfl, hR3, at0, rfl, _, rfl, iteF' (by rw [eqS]; rfl) ?_⟩
        obtain ⟨m1, m2⟩ := hok
        refine ⟨_, rfl, ra, _, 1, _, rfl, rfl, hR3, rfl, .i m, _, _, rfl, true, ?_, iteF' rfl (k _ s13)⟩
        show V.bl (inR _ _ _) = _
        unfold inR
        rw [decide_eq_true (by omega), decide_eq_true (by omega)]
        rfl
    · have hR3 := Same.tup s13 hR
      have dN : Dp K (upd (upd (upd H a1 (.tup [.str (Str.ofString "plain")])) a2 (.tup [.str (Str.ofString "rows")])) a3 (.tup [.ref a1, .ref a2])) (.ref ra) (nrD n) := .tup hR3 (.cons (.str _) (.cons (nm_dp n) .nil))
      refine ⟨nrD n, [.tuple [.str "plain"], .tuple [.str "rows"]], dN, dT, sh_nr n, by decide +kernel, _, rfl, ?_⟩
      refine iteF' ?_ ?_
      · simp only [List.any_cons, List.any_nil, nrD, Bool.or_false]
        cases n <;> rfl
      refine ⟨_, rfl, ra, _, rfl, .inr hR3, rfl, _, rfl, iteF' rfl ?_⟩
      refine ⟨_, rfl, ra, _, 0, _, rfl, rfl, hR3, at0, rfl, _, rfl, iteF' (by rw [eqS]; rfl) ?_⟩
      refine ⟨_, rfl, ra, _, 1, _, rfl, rfl, hR3, rfl, n, _, _, rfl, false, by rw [hbad], iteT' rfl (k _ s13)⟩
theorem ok_plX {f : Addr} {fd : FuncData} (F : FnP K "_require_places" "_require_places" sPlaces f fd) (LD : Cal P w K mg base (L2.CX P w) 4 "require_land" ["island", "cell"] (spLandF K CI CU)) (RR : Cal P w K mg base (L2.CX P w) 2 "require_rule" ["rule"] (spReqX K CR)) : FnOk P w K mg base (L2.CX P w) 5 f fd ["island", "places", "rule"] (spPlX K CI CU CR) := by
  refine F.ok scPl (fun vs H Q E h => ?_) (fun cdv A outer s H vs Q E hr h => ?_)
  · obtain ⟨a, pa, ra, rows, xs, cs, rfl, _⟩ := h
    rfl
  · obtain ⟨a, pa, ra, rows, xs, cs, rfl, hI, g, hS, hC, k1, k2⟩ := h
    have nd := scPl.nd
    have hr2 : Room 2 _ := hr.mono (by decide)
    refine ⟨_, pss_cons (ps_for (passes_of rfl) rfl (pi_tup (pv 1)) (pg_name (i := 3) nd rfl (.inl rfl)) (pss_one (ps_expr (pe_cal LD hr (passes_call (W := fun cls d _ H => E cls d H) (takes_of rfl rfl rfl rfl) fun _ _ _ _ h => h) (pa_cons (pv 0) (pa_cons (pv 3) pa_nil))))))
      (pss_one (ps_expr (pe_cal RR hr2 (passes_call (W := fun cls d _ H => E cls d H) (takes_of rfl rfl rfl rfl) fun _ _ _ _ h => h) (pa_cons (pv 2) pa_nil)))), ?_⟩
    refine ⟨_, rfl, pa, rfl, ⟨_, hS⟩, for_tup (K := K) (a := pa) (xs := xs) (fun i σ H' => H' = H ∧ (∃ v, σ = [some (.ref a), some (.ref pa), some (.ref ra), v]) ∧ ∀ c ∈ cs.take i, hasC rows c.1 c.2 = true) ⟨rfl, ⟨_, rfl⟩, fun c hc => by cases hc⟩ (fun i σ H' _ p => by rw [p.1]; exact hS) ?_ ?_⟩
    · rintro i x σ H' hx ⟨rfl, ⟨v, rfl⟩, hpre⟩
      obtain ⟨ca, c, h1, rfl, h3⟩ := hC.2 i x hx
      refine ⟨_, rfl, _, rfl, a, ca, rows, c, rfl, hI, g, h3, fun e => ⟨rfl, ⟨_, rfl⟩, fun d hd => ?_⟩, fun e => k1 ⟨c, List.mem_of_getElem? h1, e⟩ _ (Same.refl _)⟩
      rw [List.take_succ, h1] at hd
      rcases List.mem_append.mp hd with h | h
      · exact hpre d h
      · rw [List.mem_singleton.mp h]
        exact e
    · rintro σ H' ⟨rfl, ⟨v, rfl⟩, hall⟩
      rw [List.take_of_length_le (by rw [hC.1]; exact Nat.le_refl _)] at hall
      have hno : ¬ offC rows cs := fun ⟨c, hc, e⟩ => by rw [hall c hc] at e; cases e
      exact ⟨_, rfl, ra, rfl, k2 hno⟩
/-! ### hint -/
def spHintX (K : PySem.W.Frag) (CR : Addr) : Sp := fun vs H Q E => ∃ (ra ca pa : Addr) (n : Nm), vs = [.ref ra, .ref ca, .ref pa] ∧ SqT K H ra (nrV n) ∧ inN n 1 22 = false ∧ ∀ H', Same H H' → E (.ref CR) none H'
theorem ok_hintX {f : Addr} {fd : FuncData} (F : FnP K "hint" "hint" sHint f fd) (RR : Cal P w K mg base (L2.CX P w) 2 "require_rule" ["rule"] (spReqX K CR)) : FnOk P w K mg base (L2.CX P w) 3 f fd ["rule", "cell", "place"] (spHintX K CR) := by
  refine F.ok scHint (fun vs H Q E h => ?_) (fun cdv A outer s H vs Q E hr h => ?_)
  · obtain ⟨ra, ca, pa, n, rfl, _⟩ := h
    rfl
  · obtain ⟨ra, ca, pa, n, rfl, h1, h2, k⟩ := h
    exact ⟨_, pss_cons (ps_expr (pe_cal RR hr (passes_call (W := fun cls d _ H => E cls d H) (takes_of rfl rfl rfl rfl) fun _ _ _ _ h => h) (pa_cons (pv 0) pa_nil))) pss_no, ⟨_, rfl, ra, rfl, .inr ⟨n, h1, h2, k⟩⟩⟩
end
end Om

namespace Om
open PySem PySem.Spec PyProof.Rows L2 LamX
/-- digs: a cell and a word each -/
def DTs (K : PySem.W.Frag) (H : Hp) (ys : List V) (ds : List ((Int × Int) × Str)) : Prop := ys.length = ds.length ∧ ∀ (i : Nat) (y : V), ys[i]? = some y → ∃ (t ca : Addr) (d : (Int × Int) × Str), ds[i]? = some d ∧ y = .ref t ∧ SqT K H t [.ref ca, .str d.2] ∧ SqT K H ca [.int d.1.1, .int d.1.2]
theorem DTs.same {K : PySem.W.Frag} {H H' : Hp} {ys : List V} {ds : List ((Int × Int) × Str)} (h : DTs K H ys ds) (s : Same H H') : DTs K H' ys ds := ⟨h.1, fun i y hy => by
  obtain ⟨t, ca, d, h1, h2, h3, h4⟩ := h.2 i y hy
  exact ⟨t, ca, d, h1, h2, Same.tup s h3, Same.tup s h4⟩⟩
/-- what is refused of digs, the rule one -/
def DBad (K : PySem.W.Frag) (CU CD : Addr) (H : Hp) (rows : List (List Nat)) (r : Rl) (ds : List ((Int × Int) × Str)) (B : Value → Option Addr → Hp → Prop) : Prop :=
  ((∃ d ∈ ds, hasC rows d.1.1 d.1.2 = false) → ∀ H', Same H H' → B (.ref CU) none H') ∧
  ((∀ d ∈ ds, hasC rows d.1.1 d.1.2 = true) → ∃ (i : Nat) (d : (Int × Int) × Str), ds[i]? = some d ∧ d.2 ∉ words r ∧ (∀ j d', j < i → ds[j]? = some d' → d'.2 ∈ words r) ∧
    ∀ dx H', H dx = none → Same H H' → H' dx = some (.xd (xdIM (.int (i : Nat)))) → B (.ref CD) (some dx) H')
def LBad (K : PySem.W.Frag) (CI CU CR CD : Addr) (H : Hp) (a pa ra da : Addr) (B : Value → Option Addr → Hp → Prop) : Prop := ∃ (rows : List (List Nat)) (xs : List V) (cs : List (Int × Int)) (ys : List V) (ds : List ((Int × Int) × Str)),
  Isl K CI H a rows ∧ Good2 rows ∧ SqT K H pa xs ∧ CTs K H xs cs ∧ SqL K H da ys ∧ DTs K H ys ds ∧ (offC rows cs → ∀ H', Same H H' → B (.ref CU) none H') ∧
  (¬ offC rows cs → (∃ n : Nm, SqT K H ra (nrV n) ∧ inN n 1 22 = false ∧ ∀ H', Same H H' → B (.ref CR) none H') ∨ ∃ r : Rl, SqT K H ra r.vs ∧ r.Ok ∧ DBad K CU CD H rows r ds B)
def spLBX (K : PySem.W.Frag) (CI CU CR CD : Addr) : Sp := fun vs H Q E => ∃ a pa ra da : Addr, vs = [.ref a, .ref pa, .ref ra, .ref da] ∧ LBad K CI CU CR CD H a pa ra da E
/-- .. of places and a rule -/
def spNDX (K : PySem.W.Frag) (CI CU CR : Addr) : Sp := fun vs H Q E => ∃ (a pa ra : Addr) (rows : List (List Nat)) (xs : List V) (cs : List (Int × Int)), vs = [.ref a, .ref pa, .ref ra] ∧ Isl K CI H a rows ∧ Good2 rows ∧ SqT K H pa xs ∧ CTs K H xs cs ∧
  (offC rows cs → ∀ H', Same H H' → E (.ref CU) none H') ∧ (¬ offC rows cs → ∃ n : Nm, SqT K H ra (nrV n) ∧ inN n 1 22 = false ∧ ∀ H', Same H H' → E (.ref CR) none H')
def spFDX (K : PySem.W.Frag) (CI CU CR CT : Addr) : Sp := fun vs H Q E => ∃ (a pa ra : Addr) (rows : List (List Nat)) (xs : List V) (cs : List (Int × Int)), vs = [.ref a, .ref pa, .ref ra] ∧ Isl K CI H a rows ∧ Good2 rows ∧ SqT K H pa xs ∧ CTs K H xs cs ∧
  (offC rows cs → ∀ H', Same H H' → E (.ref CU) none H') ∧ (¬ offC rows cs → (9 < xs.length ∧ ∃ r : Rl, SqT K H ra r.vs ∧ r.Ok ∧ ∀ H', Same H H' → E (.ref CT) none H') ∨ ∃ n : Nm, SqT K H ra (nrV n) ∧ inN n 1 22 = false ∧ ∀ H', Same H H' → E (.ref CR) none H')
section
variable {P : Program} {w : World} {K : PySem.W.Frag} {mg : Str → Option Value} {base : Heap} {CI CU CR CD CT fI wd : Addr}
theorem ok_lbX {f : Addr} {fd fdI : FuncData} (F : FnP K "_left_behind" "_left_behind" sLeftB f fd) (PL : Cal P w K mg base (L2.CX P w) 5 "_require_places" ["island", "places", "rule"] (spPlX K CI CU CR)) (LD : Cal P w K mg base (L2.CX P w) 4 "require_land" ["island", "cell"] (spLandF K CI CU))
    (T : IsM K mg CD fI) (FI : FnOk P w K mg base CX0 1 fI fdI ["self", "index"] (spIM CD)) (bI : Binds K fdI ["self", "index"] []) (W : WF K w mg wd) (genum : mg "enumerate" = none) : FnOk P w K mg base (L2.CX P w) 6 f fd ["island", "places", "rule", "digs"] (spLBX K CI CU CR CD) := by
  refine F.ok scLB (fun vs H Q E h => ?_) (fun cdv A outer s H vs Q E hr h => ?_)
  · obtain ⟨a, pa, ra, da, rfl, _⟩ := h
    rfl
  · obtain ⟨a, pa, ra, da, rfl, rows, xs, cs, ys, ds, hI, g, hS, hC, hL, hD, k1, k2⟩ := h
    have nd := scLB.nd
    have hr5 : Room 5 _ := hr.mono (by decide)
    have hr4 : Room 4 _ := hr.mono (by decide)
    refine ⟨_, pss_cons (ps_expr (pe_cal PL hr5 (passes_call (W := fun cls d _ H => E cls d H) (takes_of rfl rfl rfl rfl) fun _ _ _ _ h => h) (pa_cons (pv 0) (pa_cons (pv 1) (pa_cons (pv 2) pa_nil)))))
      (pss_cons (ps_for (passes_of rfl) rfl (pi_list (pv 3)) (pg_tup rfl (pgs_cons (pg_name (i := 4) nd rfl (.inr rfl)) (pgs_cons (pg_name (i := 5) nd rfl (.inl rfl)) pgs_nil))) (pss_one (ps_expr (pe_cal LD hr4 (passes_call (W := fun cls d _ H => E cls d H) (takes_of rfl rfl rfl rfl) fun _ _ _ _ h => h) (pa_cons (pv 0) (pa_cons (pv 4) pa_nil))))))
      (pss_cons (ps_for (passes_of rfl) rfl (pi_enum rfl genum (pa_cons (pv 3) pa_nil)) (pg_tup rfl (pgs_cons (pg_name (i := 6) nd rfl (.inl rfl)) (pgs_cons (pg_tup rfl (pgs_cons (pg_name (i := 5) nd rfl (.inl rfl)) (pgs_cons (pg_name (i := 7) nd rfl (.inr rfl)) pgs_nil))) pgs_nil)))
        (pss_one (ps_if (pt_cmpR (notIn_K' (K := K) rfl) (pv 7) (pe_ix ix_kdict (pe_glob (v := .ref wd) rfl W.g rfl) (pe_ix ix_tup (pv 2) pe_int (fun _ _ => rfl)) (fun _ _ => rfl)) (by with_unfolding_all rfl))
          (pss_one (ps_raise rfl (takes_of rfl rfl rfl rfl) (pmk_oex T.oex T.iC T.tI FI (hr.mono (by decide)) bI .nil pass0 rfl T.gC (pa_cons (pv 6) pa_nil)))) pss_nil))) pss_no)), ?_⟩
    refine ⟨_, rfl, _, rfl, _, rfl, a, pa, ra, rows, xs, cs, rfl, hI, g, hS, hC, k1, fun hno => ?_⟩
    rcases k2 hno with ⟨n, h1, h2, h3⟩ | ⟨r, hR, hok, hB1, hB2⟩
    · exact .inr ⟨n, h1, h2, h3⟩
    refine .inl ⟨r, hR, hok, fun H1 s1 => ?_⟩
    -- each dig's cell
    refine ⟨_, rfl, da, rfl, ⟨_, Same.lst s1 hL⟩, for_list (K := K) (a := da) (xs := ys) (fun i σ H' => H' = H1 ∧ (∃ v4 v5, σ = [some (.ref a), some (.ref pa), some (.ref ra), some (.ref da), v4, v5, none, none, none, none]) ∧ ∀ d ∈ ds.take i, hasC rows d.1.1 d.1.2 = true)
      ⟨rfl, ⟨_, _, rfl⟩, fun d hd => by cases hd⟩ (fun i σ H' _ q => by rw [q.1]; exact Same.lst s1 hL) ?_ ?_⟩
    · rintro i x σ H' hx ⟨rfl, ⟨v4, v5, rfl⟩, hpre⟩
      obtain ⟨t, ca, d, hd, rfl, hT, hCa⟩ := (hD.same s1).2 i x hx
      refine ⟨t, _, rfl, hT, rfl, _, _, rfl, _, _, rfl, rfl, ?_⟩
      refine ⟨_, rfl, _, rfl, a, ca, rows, d.1, rfl, hI.same s1, g, hCa, fun e => ⟨rfl, ⟨_, _, rfl⟩, fun d' hd' => ?_⟩, fun e => hB1 ⟨d, List.mem_of_getElem? hd, e⟩ _ s1⟩
      rw [List.take_succ, hd] at hd'
      rcases List.mem_append.mp hd' with h | h
      · exact hpre d' h
      · rw [List.mem_singleton.mp h]
        exact e
    rintro σ H' ⟨rfl, ⟨v4, v5, rfl⟩, hall⟩
    rw [List.take_of_length_le (by rw [hD.1]; exact Nat.le_refl _)] at hall
    obtain ⟨i0, d0, hd0, hw0, hpre0, hE⟩ := hB2 hall
    have hi0 : i0 < ds.length := (List.getElem?_eq_some_iff.mp hd0).1
    -- each dig's word
    refine ⟨_, rfl, da, ys, rfl, Same.lst s1 hL, for_it (walk_enumL (K := K) (a := da) (xs := ys)) (fun i σ H2 => Same H' H2 ∧ (∃ v5 v6 v7, σ = [some (.ref a), some (.ref pa), some (.ref ra), some (.ref da), v4, v5, v6, v7, none, none]) ∧ i ≤ i0)
      ⟨Same.refl _, ⟨_, _, _, rfl⟩, Nat.zero_le _⟩ (fun i σ H2 _ q => Same.lst q.1 (Same.lst s1 hL)) ?_ ?_⟩
    · rintro i x σ H2 H3 hi ⟨s2, ⟨v5, v6, v7, rfl⟩, hle⟩ ⟨T', y, rfl, hT', rfl, hy⟩
      have s3 := Same.new (Same.refl H2) hT' (o := .tup [.int (i : Nat), y])
      have s23 := s2.trans s3
      obtain ⟨t, ca, d, hd, rfl, hT2, hCa⟩ := (hD.same s1).2 i y hy
      obtain ⟨p, hk, hp⟩ := W.at_ r
      refine ⟨T', _, rfl, .inl (.inl upd_same), rfl, _, _, rfl, _, _, rfl, ⟨t, _, rfl, Same.tup s23 hT2, rfl, _, _, rfl, _, _, rfl, rfl, rfl, ?_⟩⟩
      refine ⟨_, rfl, _, rfl, ra, _, 0, _, rfl, rfl, Same.tup (s1.trans s23) hR, r.at0, wd, r.word, .ref p, rfl, rfl, hk, p, _, rfl, .inr (hp _), rfl, flat_strs _, ?_⟩
      refine ⟨_, rfl, ?_⟩
      rw [if_pos rfl, inV_strs]
      rcases Nat.lt_or_ge i i0 with h | h
      · refine iteF' (by rw [decide_eq_true (hpre0 i d h hd)]; rfl) ⟨s23, ⟨_, _, _, rfl⟩, h⟩
      · obtain rfl : i = i0 := Nat.le_antisymm hle h
        rw [hd0] at hd
        cases hd
        refine iteT' (by rw [decide_eq_false hw0]; rfl) ?_
        exact ⟨_, rfl, mkIM (W := E) fun dx H4 h1 h2 h3 => hE dx H4 (Same.free (s1.trans s23) h1) ((s1.trans s23).trans h2) h3⟩
    · rintro σ H2 ⟨_, _, hle⟩
      rw [hD.1] at hle
      omega
theorem ok_laX {f : Addr} {fd : FuncData} (F : FnP K "left_after" "left_after" sLeftA f fd) (LB : Cal P w K mg base (L2.CX P w) 6 "_left_behind" n4 (spLBX K CI CU CR CD)) : FnOk P w K mg base (L2.CX P w) 7 f fd n4 (spLBX K CI CU CR CD) := by
  refine F.ok scLA (fun vs H Q E h => ?_) (fun cdv A outer s H vs Q E hr h => ?_)
  · obtain ⟨a, pa, ra, da, rfl, _⟩ := h
    rfl
  · obtain ⟨a, pa, ra, da, rfl, h⟩ := h
    exact ⟨_, pss_one (ps_ret (pe_ix ix_list (pe_cal LB hr (passes_call (W := fun cls d _ H => E cls d H) (takes_of rfl rfl rfl rfl) fun _ _ _ _ h => h) (pa_cons (pv 0) (pa_cons (pv 1) (pa_cons (pv 2) (pa_cons (pv 3) pa_nil))))) (pe_un un_neg pe_int) (fun _ _ => rfl))), ⟨_, rfl, _, rfl, _, rfl, _, rfl, a, pa, ra, da, rfl, h⟩⟩
theorem ok_fwX {f : Addr} {fd : FuncData} (F : FnP K "first_wrong" "first_wrong" sFirstW f fd) (LB : Cal P w K mg base (L2.CX P w) 6 "_left_behind" n4 (spLBX K CI CU CR CD)) (genum : mg "enumerate" = none) : FnOk P w K mg base (L2.CX P w) 7 f fd n4 (spLBX K CI CU CR CD) := by
  refine F.ok scFW (fun vs H Q E h => ?_) (fun cdv A outer s H vs Q E hr h => ?_)
  · obtain ⟨a, pa, ra, da, rfl, _⟩ := h
    rfl
  · obtain ⟨a, pa, ra, da, rfl, h⟩ := h
    have nd := scFW.nd
    exact ⟨_, pss_cons (ps_for (passes_of rfl) rfl (pi_enum rfl genum (pa_cons (pe_slice sl_list (pe_cal LB hr (passes_call (W := fun cls d _ H => E cls d H) (takes_of rfl rfl rfl rfl) fun _ _ _ _ h => h) (pa_cons (pv 0) (pa_cons (pv 1) (pa_cons (pv 2) (pa_cons (pv 3) pa_nil))))) (po_some pe_int) po_none) pa_nil)) (pg_tup rfl (pgs_cons (pg_name (i := 4) nd rfl (.inl rfl)) (pgs_cons (pg_name (i := 5) nd rfl (.inl rfl)) pgs_nil))) pss_no) pss_no,
      ⟨_, rfl, _, rfl, _, rfl, _, rfl, a, pa, ra, da, rfl, h⟩⟩
theorem ok_ndX {f : Addr} {fd : FuncData} (F : FnP K "next_dig" "next_dig" sNextD f fd) (PL : Cal P w K mg base (L2.CX P w) 5 "_require_places" ["island", "places", "rule"] (spPlX K CI CU CR)) : FnOk P w K mg base (L2.CX P w) 6 f fd ["island", "places", "rule"] (spNDX K CI CU CR) := by
  refine F.ok scND (fun vs H Q E h => ?_) (fun cdv A outer s H vs Q E hr h => ?_)
  · obtain ⟨a, pa, ra, rows, xs, cs, rfl, _⟩ := h
    rfl
  · obtain ⟨a, pa, ra, rows, xs, cs, rfl, hI, g, hS, hC, k1, k2⟩ := h
    exact ⟨_, pss_cons (ps_expr (pe_cal PL hr (passes_call (W := fun cls d _ H => E cls d H) (takes_of rfl rfl rfl rfl) fun _ _ _ _ h => h) (pa_cons (pv 0) (pa_cons (pv 1) (pa_cons (pv 2) pa_nil))))) pss_no, ⟨_, rfl, _, rfl, _, rfl, a, pa, ra, rows, xs, cs, rfl, hI, g, hS, hC, k1, fun hno => .inr (k2 hno)⟩⟩
theorem ok_fdX {f : Addr} {fd : FuncData} (F : FnP K "fewest_digs" "fewest_digs" sFewest f fd) (PL : Cal P w K mg base (L2.CX P w) 5 "_require_places" ["island", "places", "rule"] (spPlX K CI CU CR)) (UT : ErrU K mg "TooMany" CT) (glen : mg "len" = none) (gmost : ∃ t, mg "MOST_PLACES" = some (.int 9 t)) : FnOk P w K mg base (L2.CX P w) 6 f fd ["island", "places", "rule"] (spFDX K CI CU CR CT) := by
  obtain ⟨tm, gmost⟩ := gmost
  refine F.ok scFw (fun vs H Q E h => ?_) (fun cdv A outer s H vs Q E hr h => ?_)
  · obtain ⟨a, pa, ra, rows, xs, cs, rfl, _⟩ := h
    rfl
  · obtain ⟨a, pa, ra, rows, xs, cs, rfl, hI, g, hS, hC, k1, k2⟩ := h
    refine ⟨_, pss_cons (ps_expr (pe_cal PL hr (passes_call (W := fun cls d _ H => E cls d H) (takes_of rfl rfl rfl rfl) fun _ _ _ _ h => h) (pa_cons (pv 0) (pa_cons (pv 1) (pa_cons (pv 2) pa_nil)))))
      (pss_cons (ps_if (pt_cmpR op_gt (pe_callB call_len_seq (by rfl) glen PySem.boot_len (pa_cons (pv 1) pa_nil)) (pe_glob (v := .int 9) rfl gmost ⟨_, rfl⟩) (nomark _))
        (pss_one (ps_raise rfl (takes_of rfl rfl rfl rfl) (pmk_own PySem.F.excBase_ValueError UT.q UT.g UT.kp (raises_own UT.r1 UT.r2) rfl))) pss_nil) pss_no), ?_⟩
    refine ⟨_, rfl, _, rfl, _, rfl, a, pa, ra, rows, xs, cs, rfl, hI, g, hS, hC, k1, fun hno => ?_⟩
    rcases k2 hno with ⟨h9, r, hR, hok, k⟩ | h
    · refine .inl ⟨r, hR, hok, fun H1 s1 => ?_⟩
      exact ⟨_, rfl, pa, _, rfl, .inr (Same.tup s1 hS), _, _, rfl, rfl, _, rfl, iteT' (decide_eq_true (by omega)) (k H1 s1)⟩
    · exact .inr h
end
end Om

/-! a lambda's function object, made: the parts of K1G that GFun needs -/
namespace Om
open PySem PySem.Spec PyProof.Rows L2 LamX
/-- the function object: as the library's, its defaults dV -/
abbrev lamFd (qual : Str) (params : Arguments) (body : Expr) (scope : Scope) (cl : List (Str × Addr)) (pm : Value) (c' : Addr) (ctv dV : Value) : FuncData :=
  { PySem.W.kla_fn "<lambda>" qual params body scope cl pm (.ref c') ctv with defaults := dV }
abbrev lamOb (qual : Str) (params : Arguments) (body : Expr) (scope : Scope) (cl : List (Str × Addr)) (pm : Value) (c' : Addr) (ctv dV : Value) : Obj :=
  { cls := .type "function", data := .func (lamFd qual params body scope cl pm c' ctv dV) }
section
variable {M : Model} {A : Around} {E : Value → Shared → Prop} {s : Shared} {qual : Str} {params : Arguments} {body : Expr} {scope : Scope} {env : Env} {c P : Addr} {ps : Array Value} {pos : Pos} {fl : Nat} {mg : Str → Option Value}
  {clos : List (Str × Addr)} {Q : Value → Shared → Prop} {dV : Value}
/-- its code object is new -/
theorem tail_new (e1 : closureFor scope env = pure clos) (e2 : env.globals = mainGlobals) (e3 : s.heap.Ns mainGlobals mg) (e4 : env.code = .ref c) (e5 : PySem.W.CodeHd s.heap c P) (e6 : s.heap.get? P = some { cls := .none, data := .fields ps })
    (e7 : TriplesOk ps.toList) (e8 : codeAmong pos ps.toList = none) (e9 : mainGlobals ≠ P) (e10 : s.heap.BuiltinsAt mg P)
    (k : ∀ c' ctv h' tk, Heap.ExtBut P s.heap h' → s.heap.objs.size ≤ c' → c' < h'.objs.size → h'.CodeRec (.ref c') qual → h'.get? P = some { cls := .none, data := .fields (ps ++ #[rawInt pos.line, rawInt pos.col, .ref c']) } →
      Q (.ref h'.objs.size) { s with heap := h'.push (lamOb qual params body scope clos ((mg "__name__").getD .none) c' ctv dV), toks := tk }) :
    wpAny M A (makeTail "<lambda>" qual params (.expr body) scope env dV .none none pos fl) Q E s := by
  obtain ⟨b1, o1, g1, g2, _, g3, g4, g5, g6, g7⟩ := e10
  unfold makeTail
  rw [e1, e2]
  refine wpAny_bind (wpAny_pure ?_)
  cases clos with
  | nil =>
    simp only [List.isEmpty_nil, if_true]
    refine wpAny_bind (wpAny_pure (wpAny_bind (wpAny_functionCodeX e4 (e5.code e6 e7) (e5.tab e6) e8 fun c' h' tk x1 x2 x3 _ x4 x5 _ => ?_)))
    have G2 := e3.extBut x1 e9
    exact wpAny_bind (wpAny_builtinsFor G2 g1 g2 (x1 _ _ g3 g4) g5 g6 g7 (wpAny_bind (wpAny_nsGet G2 (wpAny_bind (wpAny_pure (wpAny_newObj_type (k c' .none h' tk x1 x2 x3 x4 x5.2) (by size_fits)))))))
  | cons q r =>
    simp only [List.isEmpty_cons, Bool.false_eq_true, if_false]
    refine wpAny_bind (wpAny_newTextTuple ?_)
    have kp : ∀ (oT : Obj) (b : Addr) (o : Obj), s.heap.get? b = some o → (s.heap.push oT).get? b = some o := fun oT b o e => Heap.get?_push_of_some _ e
    refine wpAny_bind (wpAny_functionCodeX e4 ((e5.keeps (kp _)).code (kp _ _ _ e6) e7) ((e5.keeps (kp _)).tab (kp _ _ _ e6)) e8 fun c' h' tk x1 x2 x3 _ x4 x5 _ => ?_)
    have ex : Heap.ExtBut P s.heap h' := fun b o hb e => x1 b o hb (kp _ b o e)
    have G2 := (e3.push _).extBut x1 e9
    have sz : s.heap.objs.size ≤ c' := Nat.le_trans (by rw [Heap.size_push]; omega) x2
    exact wpAny_bind (wpAny_builtinsFor G2 g1 g2 (ex _ _ g3 g4) g5 g6 g7 (wpAny_bind (wpAny_nsGet G2 (wpAny_bind (wpAny_pure (wpAny_newObj_type (k c' _ h' tk ex sz x3 x4 x5.2) (by size_fits)))))))
/-- its code object stands in the table -/
theorem tail_hit {cv : Value} (e1 : closureFor scope env = pure clos) (e2 : env.globals = mainGlobals) (e3 : s.heap.Ns mainGlobals mg) (e4 : env.code = .ref c) (e5 : PySem.W.CodeHd s.heap c P) (e6 : s.heap.get? P = some { cls := .none, data := .fields ps })
    (e7 : TriplesOk ps.toList) (e8 : codeAmong pos ps.toList = some cv) (e10 : s.heap.BuiltinsAt mg P)
    (k : ∀ (ctv : Value) (h' : Heap) (tk : Tok), (∀ b o, s.heap.get? b = some o → h'.get? b = some o) → s.heap.objs.size ≤ h'.objs.size →
      Q (.ref h'.objs.size) { s with heap := h'.push { cls := .type "function", data := .func { PySem.W.kla_fn "<lambda>" qual params body scope clos ((mg "__name__").getD .none) cv ctv with defaults := dV } }, toks := tk }) :
    wpAny M A (makeTail "<lambda>" qual params (.expr body) scope env dV .none none pos fl) Q E s := by
  obtain ⟨b1, o1, g1, g2, _, g3, g4, g5, g6, g7⟩ := e10
  unfold makeTail
  rw [e1, e2]
  refine wpAny_bind (wpAny_pure ?_)
  cases clos with
  | nil =>
    simp only [List.isEmpty_nil, if_true]
    exact wpAny_bind (wpAny_pure (wpAny_bind (wpAny_functionCode_hit e4 (e5.code e6 e7) e8 (wpAny_bind (wpAny_builtinsFor e3 g1 g2 g4 g5 g6 g7 (wpAny_bind (wpAny_nsGet e3 (wpAny_bind (wpAny_pure (wpAny_newObj_type (k .none s.heap s.toks (fun _ _ e => e) (Nat.le_refl _)) (by size_fits)))))))))))
  | cons q r =>
    simp only [List.isEmpty_cons, Bool.false_eq_true, if_false]
    have kp : ∀ (oT : Obj) (b : Addr) (o : Obj), s.heap.get? b = some o → (s.heap.push oT).get? b = some o := fun oT b o e => Heap.get?_push_of_some _ e
    exact wpAny_bind (wpAny_newTextTuple (wpAny_bind (wpAny_functionCode_hit e4 ((e5.keeps (kp _)).code (kp _ _ _ e6) e7) e8 (wpAny_bind (wpAny_builtinsFor (e3.push _) g1 g2 (kp _ _ _ g4) g5 g6 g7
      (wpAny_bind (wpAny_nsGet (e3.push _) (wpAny_bind (wpAny_pure (wpAny_newObj_type (k _ _ s.toks (kp _) (by rw [Heap.size_push]; omega)) (by size_fits)))))))))))
end
end Om

/-! a lambda as a value: made, kept, handed on, called by whoever holds it -/
namespace Om
open PySem PySem.Spec PyProof.Rows L2 LamX NdefX
/-- its words -/
structure LE where
  params : Arguments
  body : Expr
  scope : Scope
  qual : Str
  cl : List (Str × Addr)
  c : Addr
def LE.nf (F : LE) : NF := ⟨"<lambda>", F.qual, F.params, [], F.scope, F.cl, F.c⟩
/-- the function object at f -/
def FnE (f : Addr) (F : LE) : HO := .ext fun h => ∃ pm ctv, h.get? f = some (lamOb F.qual F.params F.body F.scope F.cl pm F.c ctv .none)
theorem fnE_tbl {f : Addr} {F : LE} (ps : Array Value) : FnE f F ≠ .tbl ps := fun z => by
  unfold FnE at z
  cases z
section
variable {X : Cx} {pins : List (Addr × Obj)} {σ : L2.St} {H : Hp} {s : Shared}
theorem fnE_at {f : Addr} {F : LE} (I : Inv X pins σ H s) (h : H f = some (FnE f F)) : ∃ pm ctv, s.heap.get? f = some (lamOb F.qual F.params F.body F.scope F.cl pm F.c ctv .none) := (I.hok f _ h).1
/-- the function object just made is known from now on -/
theorem inv_fnE {F : LE} {o : Obj} {t' : Nat} {pm ctv : Value} (I : Inv X pins σ H s) (ho : o = lamOb F.qual F.params F.body F.scope F.cl pm F.c ctv .none) :
    Inv X pins σ (upd H s.heap.objs.size (FnE s.heap.objs.size F)) { s with heap := s.heap.push o, toks := t' } := by
  subst ho
  refine I.laid (a := s.heap.objs.size) (fun b u e => Heap.get?_push_of_some _ e) (Nat.le_refl _) ?_
  have e : (s.heap.push (lamOb F.qual F.params F.body F.scope F.cl pm F.c ctv .none)).get? s.heap.objs.size = some (lamOb F.qual F.params F.body F.scope F.cl pm F.c ctv .none) := Heap.get?_push_size _ rfl
  exact ⟨⟨pm, ctv, e⟩, ⟨_, e⟩, fun h1 h2 ⟨p, t, z⟩ st => ⟨p, t, st _ z⟩⟩
/-- a lambda without parameters that have a default is made -/
theorem lamE_make {T : List (Addr × Str)} {c P : Addr} {params : Arguments} {body : Expr} {scope : Scope} {pos : Pos} {Q : Value → Shared → Prop} (I : Inv X pins σ H s) (TB : TabB X.base X.mg c P) (hcode : X.env.code = .ref c)
    (hm : (P, X.env.qual ++ "<lambda>") ∈ T) (hu : ∀ p ∈ T, p.1 = P → p.2 = X.env.qual ++ "<lambda>") (hT : Tabs T H) (hdef : defaultsOf params X.env = ([], [])) (hfree : ∀ y ∈ scope.names, y.2 = .free → ∃ c, X.env.cells.lookup y.1 = some c)
    (k : ∀ (f c' : Addr) (H1 : Hp) (s' : Shared), Inv X pins σ H1 s' → ExtN H H1 → Tabs T H1 → H f = none → H1 f = some (FnE f ⟨params, body, scope, X.env.qual ++ "<lambda>", cloFrom X.env.cells scope.names [], c'⟩) → H1 c' = some (CodeO c' (X.env.qual ++ "<lambda>")) → Q (.ref f) s') :
    wpAny (model X.prog X.w) X.A (eval (.Lambda params body scope pos) X.env) Q X.xe s := by
  rw [arm_eval_Lambda, hdef]
  show wpAny _ _ (do let dv ← evalAll []; let kdv ← holding dv (evalAllOpt []); makeFunction "<lambda>" (X.env.qual ++ "<lambda>") params (.expr body) scope X.env dv kdv [] pos pos.line) Q X.xe s
  refine wpAny_bind (wpAny_pure (wpAny_bind (wpAny_holding (wpAny_pure ?_))))
  rw [makeFunction_eq]
  simp only [List.zip_nil_right, List.filterMap_nil, List.isEmpty_nil, if_true, pure_bind]
  obtain ⟨ps, tP, tt, ta⟩ := hT _ hm
  have bP : s.heap.BuiltinsAt X.mg P := TB.bm.keeps I.bk
  have oP : s.heap.get? P = some { cls := .none, data := .fields ps } := I.hok P _ tP
  cases hc : codeAmong pos ps.toList with
  | none =>
    refine tail_new (mg := X.mg) (closure_ok hfree) I.ok.glob (I.mod.glob.keeps I.bk) hcode (TB.code.keeps I.bk) oP tt hc TB.gP bP fun c' ctv h' tk x1 x2 x3 x4 x5 => ?_
    obtain ⟨c2, oc, vs, t, y1, y2, y3, y4⟩ := x4
    cases y1
    have nC : H c' = none := I.hok.fresh x2
    have I1 := inv_table (t' := tk) (more := #[rawInt pos.line, rawInt pos.col, .ref c']) (h' := h') I tP (fun b o hb e => x1 b o hb e) x5 x2 ⟨oc, vs, t, y2, y3, y4⟩
    have nPC : P ≠ c' := ne_of_none tP nC
    have eN : ExtN H (upd (upd H P (.tbl (ps ++ #[rawInt pos.line, rawInt pos.col, .ref c']))) c' (CodeO c' (X.env.qual ++ "<lambda>"))) := fun b o e n => by
      have n1 : b ≠ P := fun z => by
        rw [z, tP] at e
        exact n ps (Option.some.inj e).symm
      rw [upd_ne (ne_of_none e nC), upd_ne n1]
      exact e
    have eL : (ps ++ #[rawInt pos.line, rawInt pos.col, .ref c']).toList = ps.toList ++ [rawInt pos.line, rawInt pos.col, .ref c'] := by simp
    have T1 : Tabs T (upd (upd H P (.tbl (ps ++ #[rawInt pos.line, rawInt pos.col, .ref c']))) c' (CodeO c' (X.env.qual ++ "<lambda>"))) := fun p hp => by
      by_cases hb : p.1 = P
      · rw [hu p hp hb, hb]
        refine ⟨_, by rw [upd_ne nPC, upd_same], by rw [eL]; exact PySem.TriplesOk_snoc _ _ _ _ tt, fun p' cv hcv => ?_⟩
        rw [eL] at hcv
        rcases among_app _ tt hcv with z | z
        · obtain ⟨c0, w1, w2⟩ := ta p' cv z
          exact ⟨c0, w1, eN _ _ w2 codeO_ne⟩
        · exact ⟨c', z, upd_same⟩
      · obtain ⟨ps2, a1, a2, a3⟩ := hT p hp
        refine ⟨ps2, by rw [upd_ne (ne_of_none a1 nC), upd_ne hb]; exact a1, a2, fun p' cv hcv => ?_⟩
        obtain ⟨c0, w1, w2⟩ := a3 p' cv hcv
        exact ⟨c0, w1, eN _ _ w2 codeO_ne⟩
    have nF := I1.hok.fresh (Nat.le_refl _)
    have I2 := inv_fnE (F := ⟨params, body, scope, X.env.qual ++ "<lambda>", cloFrom X.env.cells scope.names [], c'⟩) (t' := tk) (pm := (X.mg "__name__").getD .none) (ctv := ctv) I1 rfl
    refine k h'.objs.size c' _ _ I2 (fun b o e n => ?_) (T1.ext fun b o e => ?_) (I.hok.fresh (Nat.le_trans x2 (Nat.le_of_lt x3))) upd_same ?_
    · have e1 := eN b o e n
      exact (upd_ne (ne_of_none e1 nF)).trans e1
    · exact (upd_ne (ne_of_none e nF)).trans e
    · exact (upd_ne (Nat.ne_of_lt x3)).trans upd_same
  | some cv =>
    obtain ⟨c', y1, y2⟩ := ta pos cv hc
    subst y1
    refine tail_hit (mg := X.mg) (closure_ok hfree) I.ok.glob (I.mod.glob.keeps I.bk) hcode (TB.code.keeps I.bk) oP tt hc bP fun ctv h' tk x1 x2 => ?_
    have I1 : Inv X pins σ H { s with heap := h', toks := tk } := I.kept x1
    have nF : H h'.objs.size = none := I1.hok.fresh (Nat.le_refl _)
    have I2 := inv_fnE (F := ⟨params, body, scope, X.env.qual ++ "<lambda>", cloFrom X.env.cells scope.names [], c'⟩) (t' := tk) (pm := (X.mg "__name__").getD .none) (ctv := ctv) I1 rfl
    refine k h'.objs.size c' _ _ I2 (fun b o e n => ?_) (hT.ext fun b o e => ?_) nF upd_same ?_
    · exact (upd_ne (ne_of_none e nF)).trans e
    · exact (upd_ne (ne_of_none e nF)).trans e
    · exact (upd_ne (ne_of_none y2 nF)).trans y2
end
/-- lambda ..: body, as a value -/
def tLamE (T : List (Addr × Str)) (mk : Addr → LE) : TE := fun σ H Q => Tabs T H ∧ ∀ (f c' : Addr) (H1 : Hp), ExtN H H1 → Tabs T H1 → H f = none → H1 f = some (FnE f (mk c')) → H1 c' = some (CodeO c' (mk c').qual) → Q (.ref f) H1
theorem pe_lamE {X : Cx} {T : List (Addr × Str)} {c P : Addr} {params : Arguments} {body : Expr} {scope : Scope} {pos : Pos} {mk : Addr → LE} (TB : TabB X.base X.mg c P) (hcode : X.env.code = .ref c)
    (hm : (P, X.env.qual ++ "<lambda>") ∈ T) (hu : ∀ p ∈ T, p.1 = P → p.2 = X.env.qual ++ "<lambda>") (hdef : defaultsOf params X.env = ([], [])) (hfree : ∀ y ∈ scope.names, y.2 = .free → X.env.scope.names.lookup y.1 = some .cell ∨ X.env.scope.names.lookup y.1 = some .free)
    (hmk : ∀ c', (⟨params, body, scope, X.env.qual ++ "<lambda>", cloFrom X.env.cells scope.names [], c'⟩ : LE) = mk c') : PE X (.Lambda params body scope pos) (tLamE T mk) := by
  constructor
  rintro pins s σ H Q I ⟨hT, h⟩
  have hfr : ∀ y ∈ scope.names, y.2 = .free → ∃ c, X.env.cells.lookup y.1 = some c := fun y hy e => (hfree y hy e).elim (fun z => I.ok.has _ (.inl z)) fun z => I.ok.has _ (.inr z)
  refine lamE_make I TB hcode hm hu hT hdef hfr fun f c' H1 s' I1 eN T1 f0 f1 c1 => ?_
  rw [hmk c'] at f1
  have eq : X.env.qual ++ "<lambda>" = (mk c').qual := by rw [← hmk c']
  rw [eq] at c1
  exact ⟨.ref f, H1, I1, rfl, h f c' H1 eN T1 f0 f1 c1⟩
/-! ### what it promises -/
structure EOk (P : Program) (w : World) (K : PySem.W.Frag) (mg : Str → Option Value) (base : Heap) (CX : CXT) (k : Nat) (f : Addr) (F : LE) (ps fr : List Str) (sp : List (Option V) → Sp) : Prop where
  len : ∀ ws vs H Q E, sp ws vs H Q E → vs.length = ps.length
  run : ∀ (A : Around) (outer : List Env) (s : Shared) (H : Hp) (us : List Value) (vs : List V) (ws : List (Option V)) (Q : VK) (E : XK), Room k A → Env0 P w K mg base A outer s H → H f = some (FnE f F) → H F.c = some (CodeO F.c F.qual) →
    CellsAt F.cl fr ws s.heap H → Vals vs us → sp ws vs H Q E → codeAny (model P w) A (.call (.ref f) ⟨us, []⟩) (CR CX outer P w H s Q E) s
section
variable {CX : CXT} {P : Program} {w : World} {K : PySem.W.Frag} {mg : Str → Option Value} {base : Heap} {N ps fr : List Str} {F : LE} {f : Addr} {k : Nat} {sp : List (Option V) → Sp}
/-- by its body -/
theorem eok_of (S : NScope N ps fr F.scope) (hb : ∀ (pm ctv : Value) (us : List Value), us.length = ps.length → bindArgs (lamFd F.qual F.params F.body F.scope F.cl pm F.c ctv .none) ⟨us, []⟩ = pure (ps.zip us)) (len : ∀ ws vs H Q E, sp ws vs H Q E → vs.length = ps.length)
    (hbody : ∀ (A : Around) (outer : List Env) (s : Shared) (H : Hp) (vs : List V) (ws : List (Option V)) (Q : VK) (E : XK), Room k (A.deeper (envF F.nf f s.heap.objs.size)) → ws.length = fr.length → sp ws vs H Q E →
      ∃ t, PE (ncx (L2.CX P w) P w K mg base N F.nf f A outer s H E) F.body t ∧ t (startF N vs ws) H Q) :
    EOk P w K mg base (L2.CX P w) (k + 1) f F ps fr sp := by
  refine ⟨len, fun A outer s H us vs ws Q E hr e0 hf hc C r hsp => ?_⟩
  have hl := len _ _ _ _ _ hsp
  have lim : s.heap.NoLimit := e0.mod.nolimit.keeps fun b o e => (e0.bs b o e).1
  obtain ⟨pm, ctv, ho⟩ := (e0.hok f _ hf).1
  obtain ⟨⟨oc, vs', t0, y1, y2, y3⟩, _, _⟩ := e0.hok F.c _ hc
  refine PySem.W.kla_callFunE hr.depth ho rfl S.co S.gen rfl ⟨F.c, oc, vs', t0, rfl, y1, y2, y3⟩ ?_
  have hb' := hb pm ctv us (by rw [← r.length]; exact hl)
  rw [hb']
  refine wpAny_pure (wpAny_newFunctionEnv S.nocell (fun ⟨n, _⟩ hy => S.par n (List.of_mem_zip hy).1) (fun h₁ hns hsb => ⟨lim.fresh _ hsb, ?_⟩) S.kind)
  have kp : ∀ b o, s.heap.get? b = some o → h₁.get? b = some o := fun b o e => hsb.extBut b o (Nat.ne_of_lt (Heap.lt_size e)) (Heap.get?_push_of_some _ e)
  obtain ⟨t, ht, hq⟩ := hbody A outer s H vs ws Q E (hr.deeper _) C.len hsp
  have I : Inv (ncx (L2.CX P w) P w K mg base N F.nf f A outer s H E) [] (startF N vs ws) H { s with heap := h₁, toks := s.toks + (ps.zip us).length } := inv_startN S hr.hd e0 hl r C hns kp
  refine PySem.W.kla_codeExpr (wpAny_mono (ht.run [] _ (startF N vs ws) H Q I hq) (fun v s' ⟨w', H', J, rv, q⟩ => ⟨w', H', J.os, J.bare, J.base, J.hok, rv, q⟩) fun e s' hq => hq)
end
/-! ### calls of a name that holds it -/
def tCallE (mk : Addr → LE) (i : Nat) (sp : List (Option V) → Sp) (E : XK) (t : TA) : TE := fun σ H Q => ∃ f c', σ[i]? = some (some (.ref f)) ∧ H f = some (FnE f (mk c')) ∧
  t σ H fun vs H1 => H1 f = some (FnE f (mk c')) ∧ H1 (mk c').c = some (CodeO (mk c').c (mk c').qual) ∧ sp [] vs H1 Q E
theorem fnAtE {X : Cx} {pins : List (Addr × Obj)} {σ : L2.St} {H : Hp} {s : Shared} {f : Addr} {F : LE} (I : Inv X pins σ H s) (e : H f = some (FnE f F)) : PySem.W.FnAt f s.heap := by
  obtain ⟨pm, ctv, ho⟩ := fnE_at I e
  exact ⟨_, _, _, _, ho⟩
section
variable {X : Cx} {CX : CXT} {mk : Addr → LE} {ps : List Str} {i j k : Nat} {x : Str} {sp : List (Option V) → Sp} {E : XK} {t : TA} {e : Expr} {es : List Expr} {p pos : Pos}
/-- .. a lambda that captures nothing -/
theorem pe_calle (Fn : ∀ f c', EOk X.prog X.w X.K X.mg X.base CX k f (mk c') ps [] sp) (hcl : ∀ c', (mk c').cl = []) (hr : Room j X.A) (hk : k ≤ j) (hx : Passes CX X E) (hN : X.N[i]? = some x) (hv : Vis X.env.scope x) (ha : PA X (e :: es) t)
    (hd : (x == ("__debug__" : Str)) = false := by decide) (hcd : (x == ("__classdict__" : Str)) = false := by decide)
    (he : starEach (e :: es) X.env = (false, eval e X.env) :: starEach es X.env := by rfl) (hpl : (backTo pos (starEach es X.env)).any (·.1) = false := by rfl) :
    PE X (.Call (.Name x p) (e :: es) [] pos) (tCallE mk i sp E t) := by
  refine ⟨fun pins s σ H Q I h => ?_⟩
  obtain ⟨f, c', hs, hf, ht⟩ := h
  refine wpAny_Call_Name_kw (thn ((pe_var (pos := p) hN hv hd hcd).run pins s σ H (fun v H1 => v = .ref f ∧ H1 = H) I ⟨.ref f, hs, rfl, rfl⟩) fun u s1 ⟨v, H1, I1, r1, q1⟩ => ?_)
  obtain ⟨ev, eH⟩ := q1
  subst ev
  rw [eH] at I1
  obtain rfl : u = Value.ref f := r1
  refine PySem.W.callWith_F (first := []) (fnAtE I1 hf) (thn (ha.run pos pins s1 σ H _ I1 ht) fun us s2 ⟨vs, H2, I2, r, h1, h2, q⟩ => ⟨fnAtE I2 h1, ?_⟩) he hpl
  show wpAny _ _ (call (.ref f) us) _ _ _
  have C : CellsAt (mk c').cl [] [] s2.heap H2 := by
    rw [hcl c']
    exact ⟨rfl, (fun y a z => by cases z), (fun y z a b => by cases b), (fun i y z => by cases z)⟩
  refine wpAny_call (codeAny_mono ((Fn f c').run X.A X.stack s2 H2 us vs _ Q E (hr.mono hk) I2.env0 h1 h2 C r q) fun r s' hq => ?_)
  cases r with
  | error e => exact hx pins σ H2 s2 e s' I2 hq
  | ok fl =>
    cases fl with
    | ret u => exact I2.after hq
    | next => exact False.elim hq
    | brk => exact False.elim hq
    | cont => exact False.elim hq
end
end Om

/-! a lambda handed to a def, its parameters all with a written default; what it raises is wished for at the slots of the def that calls it -/
namespace Om
open PySem PySem.Spec PyProof.Rows L2 LamX
section
variable {M : Model} {A : Around} {E : Value → Shared → Prop} {s : Shared} {qual : Str} {params : Arguments} {body : Expr} {scope : Scope} {env : Env} {c P : Addr} {ps : Array Value} {pos : Pos} {fl : Nat} {mg : Str → Option Value}
  {clos : List (Str × Addr)} {Q : Value → Shared → Prop} {dV : Value}
end
section
variable {X : Cx} {pins : List (Addr × Obj)} {σ : L2.St} {H : Hp} {s : Shared}
/-- a lambda with one parameter whose default is a written int is made -/
theorem lam_mk1 {T : List (Addr × Str)} {c P : Addr} {params : Arguments} {body : Expr} {scope : Scope} {pos p0 : Pos} {i0 : Int} {j0 : Nat} {E : Value → Shared → Prop} {Q : Value → Shared → Prop} (I : Inv X pins σ H s) (TB : TabB X.base X.mg c P) (hcode : X.env.code = .ref c)
    (hm : (P, X.env.qual ++ "<lambda>") ∈ T) (hu : ∀ p ∈ T, p.1 = P → p.2 = X.env.qual ++ "<lambda>") (hT : Tabs T H) (hdef : defaultsOf params X.env = ([eval (.Constant (.int i0) j0 p0) X.env], [])) (hfree : ∀ y ∈ scope.names, y.2 = .free → ∃ c, X.env.cells.lookup y.1 = some c)
    (k : ∀ (f c' D : Addr) (t0 : Tok) (pm ctv : Value) (H1 : Hp) (s' : Shared), Inv X pins σ H1 s' → ExtN H H1 → Tabs T H1 → s'.heap.get? f = some (lamOb (X.env.qual ++ "<lambda>") params body scope (cloFrom X.env.cells scope.names []) pm c' ctv (.ref D)) →
      s'.heap.get? D = some { cls := .type "tuple", data := .seq #[.int i0 t0] } → H1 f = none → H1 D = none → f ∉ frs X.stack → D ∉ frs X.stack → H1 c' = some (CodeO c' (X.env.qual ++ "<lambda>")) → Q (.ref f) s') (hxe : E = X.xe) :
    wpAny (model X.prog X.w) X.A (eval (.Lambda params body scope pos) X.env) Q E s := by
  subst hxe
  rw [arm_eval_Lambda, hdef]
  show wpAny _ _ (do let dv ← evalAll [eval (.Constant (.int i0) j0 p0) X.env]; let kdv ← holding dv (evalAllOpt []); makeFunction "<lambda>" (X.env.qual ++ "<lambda>") params (.expr body) scope X.env dv kdv [] pos pos.line) Q X.xe s
  refine wpAny_bind (wpAny_bind (thn ((pe_int (X := X) (i := i0) (j := j0) (pos := p0)).run pins s σ H (fun v H' => v = .int i0 ∧ H' = H) I ⟨rfl, rfl⟩) fun u s1 ⟨v, H1, I1, r1, ev, eH⟩ => ?_))
  subst ev
  rw [eH] at I1
  obtain ⟨t0, rfl⟩ := r1
  refine wpAny_bind (wpAny_holding (wpAny_pure (wpAny_pure (wpAny_bind (wpAny_holding (wpAny_pure ?_))))))
  rw [makeFunction_eq]
  simp only [List.zip_nil_right, List.filterMap_nil, List.isEmpty_nil, List.isEmpty_cons, Bool.false_eq_true, if_false, if_true, pure_bind]
  refine wpAny_bind (wpAny_newTextTuple ?_)
  have eD : (s1.heap.push { cls := .type "tuple", data := .seq [Value.int i0 t0].toArray }).get? s1.heap.objs.size = some { cls := .type "tuple", data := .seq #[.int i0 t0] } := Heap.get?_push_size _ rfl
  have I2 : Inv X pins σ H { s1 with heap := s1.heap.push { cls := .type "tuple", data := .seq [Value.int i0 t0].toArray } } := I1.kept (t' := s1.toks) fun b o e => Heap.get?_push_of_some _ e
  have nD : H s1.heap.objs.size = none := I1.hok.fresh (Nat.le_refl _)
  have frN : ∀ f, s1.heap.objs.size ≤ f → f ∉ frs X.stack := fun f hf z => by
    rcases List.mem_cons.mp (I1.stkSub _ z) with e | e
    · have q1 := I1.lt
      rw [← e] at q1
      exact Nat.lt_irrefl _ (Nat.lt_of_lt_of_le q1 hf)
    · exact I1.nofs hf e
  have frD := frN s1.heap.objs.size (Nat.le_refl _)
  have szD : s1.heap.objs.size ≤ (s1.heap.push { cls := .type "tuple", data := .seq [Value.int i0 t0].toArray }).objs.size := by rw [Heap.size_push]; omega
  generalize s1.heap.objs.size = D at eD nD frN frD szD
  generalize hs2 : ({ s1 with heap := s1.heap.push { cls := .type "tuple", data := .seq [Value.int i0 t0].toArray } } : Shared) = s2 at I2
  have eh : s2.heap = s1.heap.push { cls := .type "tuple", data := .seq [Value.int i0 t0].toArray } := by rw [← hs2]
  rw [← eh] at eD szD
  obtain ⟨ps, tP, tt, ta⟩ := hT _ hm
  have bP : s2.heap.BuiltinsAt X.mg P := TB.bm.keeps I2.bk
  have oP : s2.heap.get? P = some { cls := .none, data := .fields ps } := I2.hok P _ tP
  cases hc : codeAmong pos ps.toList with
  | none =>
    refine tail_new (mg := X.mg) (closure_ok hfree) I2.ok.glob (I2.mod.glob.keeps I2.bk) hcode (TB.code.keeps I2.bk) oP tt hc TB.gP bP fun c' ctv h' tk x1 x2 x3 x4 x5 => ?_
    obtain ⟨c2, oc, vs, t, y1, y2, y3, y4⟩ := x4
    cases y1
    have nC : H c' = none := I2.hok.fresh x2
    have sz2 : s2.heap.objs.size ≤ h'.objs.size := Nat.le_trans x2 (Nat.le_of_lt x3)
    have J := inv_table (t' := tk) (more := #[rawInt pos.line, rawInt pos.col, .ref c']) (h' := h'.push (lamOb (X.env.qual ++ "<lambda>") params body scope (cloFrom X.env.cells scope.names []) ((X.mg "__name__").getD .none) c' ctv (.ref D))) I2 tP
      (fun b o hb e => Heap.get?_push_of_some _ (x1 b o hb e)) (Heap.get?_push_of_some _ x5) x2 ⟨oc, vs, t, Heap.get?_push_of_some _ y2, y3, y4⟩
    have nPC : P ≠ c' := ne_of_none tP nC
    have eN : ExtN H (upd (upd H P (.tbl (ps ++ #[rawInt pos.line, rawInt pos.col, .ref c']))) c' (CodeO c' (X.env.qual ++ "<lambda>"))) := fun b o e n => by
      have n1 : b ≠ P := fun z => by
        rw [z, tP] at e
        exact n ps (Option.some.inj e).symm
      rw [upd_ne (ne_of_none e nC), upd_ne n1]
      exact e
    have eL : (ps ++ #[rawInt pos.line, rawInt pos.col, .ref c']).toList = ps.toList ++ [rawInt pos.line, rawInt pos.col, .ref c'] := by simp
    have eD2 : (h'.push (lamOb (X.env.qual ++ "<lambda>") params body scope (cloFrom X.env.cells scope.names []) ((X.mg "__name__").getD .none) c' ctv (.ref D))).get? D = some { cls := .type "tuple", data := .seq #[.int i0 t0] } := by
      refine Heap.get?_push_of_some _ (x1 D _ (fun z => ?_) eD)
      rw [z, tP] at nD
      cases nD
    have lD : D < s2.heap.objs.size := Heap.lt_size eD
    have nDc : D ≠ c' := Nat.ne_of_lt (Nat.lt_of_lt_of_le lD x2)
    have nDP : D ≠ P := fun z => by rw [z, tP] at nD; cases nD
    refine k h'.objs.size c' D t0 ((X.mg "__name__").getD .none) ctv _ _ J eN (fun p hp => ?_) (Heap.get?_push_size _ rfl) eD2 ?_ ?_ (frN _ (Nat.le_trans szD sz2)) frD upd_same
    · by_cases hb : p.1 = P
      · rw [hu p hp hb, hb]
        refine ⟨_, by rw [upd_ne nPC, upd_same], by rw [eL]; exact PySem.TriplesOk_snoc _ _ _ _ tt, fun p' cv hcv => ?_⟩
        rw [eL] at hcv
        rcases among_app _ tt hcv with z | z
        · obtain ⟨c0, w1, w2⟩ := ta p' cv z
          exact ⟨c0, w1, eN _ _ w2 codeO_ne⟩
        · exact ⟨c', z, upd_same⟩
      · obtain ⟨ps2, a1, a2, a3⟩ := hT p hp
        refine ⟨ps2, by rw [upd_ne (ne_of_none a1 nC), upd_ne hb]; exact a1, a2, fun p' cv hcv => ?_⟩
        obtain ⟨c0, w1, w2⟩ := a3 p' cv hcv
        exact ⟨c0, w1, eN _ _ w2 codeO_ne⟩
    · rw [upd_ne (Nat.ne_of_gt x3), upd_ne (Nat.ne_of_gt (Nat.lt_of_lt_of_le (Heap.lt_size oP) sz2))]
      exact I2.hok.fresh sz2
    · rw [upd_ne nDc, upd_ne nDP]
      exact nD
  | some cv =>
    obtain ⟨c', y1, y2⟩ := ta pos cv hc
    subst y1
    refine tail_hit (mg := X.mg) (closure_ok hfree) I2.ok.glob (I2.mod.glob.keeps I2.bk) hcode (TB.code.keeps I2.bk) oP tt hc bP fun ctv h' tk x1 x2 => ?_
    have J : Inv X pins σ H { s2 with heap := h'.push (lamOb (X.env.qual ++ "<lambda>") params body scope (cloFrom X.env.cells scope.names []) ((X.mg "__name__").getD .none) c' ctv (.ref D)), toks := tk } := I2.kept fun b o e => Heap.get?_push_of_some _ (x1 b o e)
    exact k h'.objs.size c' D t0 ((X.mg "__name__").getD .none) ctv H _ J (ExtN.refl H) hT (Heap.get?_push_size _ rfl) (Heap.get?_push_of_some _ (x1 _ _ eD)) (I2.hok.fresh x2) nD (frN _ (Nat.le_trans szD x2)) frD y2
end
end Om

namespace Om
open PySem PySem.Spec PyProof.Rows L2 LamX
/-- the lambda's names: parameters (none of the maker's names), captured ones, globals -/
structure LamG (N : List Str) (sc scope : Scope) (xs : List Str) : Prop where
  kind : scope.kind = .function
  co : scope.isCoroutine = false
  gen : scope.isGenerator = false
  own : ∀ y ∈ scope.names, y.2 ≠ .cell ∧ (y.2 = .local → y.1 ∉ N)
  free : ∀ y ∈ scope.names, y.2 = .free → sc.names.lookup y.1 = some .cell ∨ sc.names.lookup y.1 = some .free
  par : ∀ x ∈ xs, scope.names.lookup x = some .local
def lamGB (N : List Str) (sc scope : Scope) (xs : List Str) : Bool :=
  decide (scope.kind = .function) && (!scope.isCoroutine && (!scope.isGenerator && ((scope.names.all fun y => !decide (y.2 = .cell) && (!decide (y.2 = .local) || !decide (y.1 ∈ N))) &&
    ((scope.names.all fun y => !decide (y.2 = .free) || (decide (sc.names.lookup y.1 = some .cell) || decide (sc.names.lookup y.1 = some .free))) && xs.all fun x => decide (scope.names.lookup x = some .local)))))
theorem lamG_by {N : List Str} {sc scope : Scope} {xs : List Str} (h : lamGB N sc scope xs = true) : LamG N sc scope xs := by
  unfold lamGB at h
  simp only [Bool.and_eq_true, Bool.or_eq_true, Bool.not_eq_true', decide_eq_true_eq, decide_eq_false_iff_not, List.all_eq_true] at h
  obtain ⟨h1, h2, h3, h4, h5, h6⟩ := h
  refine ⟨h1, h2, h3, fun y hy => ⟨(h4 y hy).1, fun e => ?_⟩, fun y hy e => ?_, h6⟩
  · rcases (h4 y hy).2 with z | z
    · exact absurd e z
    · exact z
  · rcases h5 y hy with z | z
    · exact absurd e z
    · exact z
theorem LamG.has {X : Cx} {N : List Str} {scope : Scope} {xs : List Str} (L : LamG N X.env.scope scope xs) (ok : X.Ok) : ∀ y ∈ scope.names, y.2 = .free → ∃ c, X.env.cells.lookup y.1 = some c := fun y hy e => (L.free y hy e).elim (fun k => ok.has _ (.inl k)) fun k => ok.has _ (.inr k)
section
variable {X : Cx} {pins : List (Addr × Obj)} {σ : L2.St} {H HZ : Hp} {s s1 : Shared}
theorem lam_startG {A : Around} {outer : List Env} {E : XK} {scope : Scope} {xs : List Str} {binds : List (Str × Value)} {f c' : Addr} {h1 : Heap} {tk : Nat} (I : Inv X pins σ H s) (L : LamG X.N X.env.scope scope xs) (e0 : Env0 X.prog X.w X.K X.mg X.base A outer s1 HZ)
    (hd : A.handled = none) (un : Un (frs X.stack) [] H HZ s.heap s1.heap) (hns : h1.Ns s1.heap.objs.size fun y => binds.reverse.lookup y) (kp : ∀ b o, s1.heap.get? b = some o → h1.get? b = some o) :
    Inv (lamCx X A outer s1 HZ E scope f c') [] σ HZ { s1 with heap := h1, toks := tk } := by
  have frees := L.has I.ok
  have cm : ∀ {y c}, (cloFrom X.env.cells scope.names []).lookup y = some c → X.env.cells.lookup y = some c := fun {y c} e => by
    rcases cloFrom_mem (PySem.mem_of_lookup e) with m | ⟨z1, z2⟩
    · cases m
    · obtain ⟨c1, z3⟩ := frees _ z1 rfl
      have z3 : X.env.cells.lookup y = some c1 := z3
      obtain rfl : c = c1 := by rw [z2, z3]; rfl
      exact z3
  have lk : ∀ {y}, scope.names.lookup y = some .free → ∃ c, (cloFrom X.env.cells scope.names []).lookup y = some c := fun {y} e =>
    mem_lookup (cloFrom_has (cells := X.env.cells) (acc := []) (show (y, NameKind.free) ∈ scope.names from PySem.mem_of_lookup e))
  have cellK : ∀ {c : Addr} {v : Option Value}, H c = none → s.heap.IsCell c v → h1.IsCell c v := fun {c v} n ⟨o, z1, z2⟩ => by
    obtain ⟨sl, q⟩ := un.any z1 n (by simp)
    exact ⟨_, kp _ _ q, z2⟩
  have nx : ∀ b : Addr, b ∉ (lamCx X A outer s1 HZ E scope f c').ex := fun b z => by cases z
  have visN : ∀ (i : Nat) (y : Str), X.N[i]? = some y → Vis scope y → scope.names.lookup y = some .free := fun i y e v => by
    rcases v with z | z | z
    · exact absurd (List.mem_of_getElem? e) ((L.own _ (PySem.mem_of_lookup z)).2 rfl)
    · exact absurd rfl (L.own _ (PySem.mem_of_lookup z)).1
    · exact z
  have okC : (lamCx X A outer s1 HZ E scope f c').Ok := {
    mod := e0.mod, kind := L.kind, glob := rfl, blt := rfl, above := Nat.le_refl _
    inj := fun y z c z1 z2 => I.ok.inj y z c (cm z1) (cm z2)
    has := fun y hy => by
      rcases (show scope.names.lookup y = some .cell ∨ scope.names.lookup y = some .free from hy) with z | z
      · exact absurd rfl (L.own _ (PySem.mem_of_lookup z)).1
      · exact lk z
    cab := fun y c z _ => by cases (show false = true from z)
    hd := fun _ => hd, frames := Around.frames_deeper e0.frames, stk := .inr ⟨rfl, rfl⟩, exf := fun b z => absurd z (nx b), bs := e0.bs, bsz := e0.bsz, noex := fun b _ _ => nx b, exfs := fun b z => absurd z (nx b), funs := e0.funs, frf := e0.frf }
  exact {
    ok := okC, os := rfl, bare := e0.bare, base := Un.kept kp
    loc := ⟨_, hns, fun i y v z1 z2 z3 => by
      have fr := visN i y z1 z3
      obtain ⟨m, mn, ml⟩ := I.loc
      obtain ⟨u, r, q⟩ := ml i y v z1 z2 ((L.free _ (PySem.mem_of_lookup fr) rfl).elim (fun k => .inr (.inl k)) fun k => .inr (.inr k))
      obtain ⟨c2, y2⟩ := lk fr
      refine ⟨u, r, .inr ⟨.inr fr, c2, y2, ?_⟩⟩
      rcases q with ⟨q1, _⟩ | ⟨_, c3, q2, q3⟩
      · have q1 : X.env.scope.names.lookup y = some .local := q1
        rcases L.free _ (PySem.mem_of_lookup fr) rfl with w | w
        · rw [show X.env.scope.names.lookup y = _ from w] at q1; cases q1
        · rw [show X.env.scope.names.lookup y = _ from w] at q1; cases q1
      · rw [cm y2] at q2
        cases q2
        exact cellK (I.freeC y _ (cm y2)) q3⟩
    cell := fun y c z => let ⟨v, q⟩ := I.cell y c (cm z); ⟨v, cellK (I.freeC y c (cm z)) q⟩
    free := e0.hok.fresh (Nat.le_refl _)
    freeC := fun y c z => let ⟨v, o, q, _⟩ := I.cell y c (cm z); un.free c o q (I.freeC y c (cm z)) (by simp)
    pin := fun q hq => by cases (show q ∈ ([] : List (Addr × Obj)) ++ [] from hq)
    hok := e0.hok.kept kp
    len := I.len }
/-- x(), in the def that got the lambda (in slot 0) -/
theorem pe_actG {CXg : CXT} {Eg : XK} {Ng : List Str} {qg : Str} {sg : Scope} {g f c' : Addr} {cdg pm ctv dV : Value} {params : Arguments} {body : Expr} {scope : Scope} {xs : List Str} {binds : List (Str × Value)} {hold : List (Addr × Obj)} {k : Nat} {a : Str} {pn : List (Addr × Obj)} {xe : Value → Shared → Prop} {W : WX} {tb : XK → TE} {p1 p2 : Pos}
    (I : Inv X pins σ H s) (L : LamG X.N X.env.scope scope xs) (hf : s.heap.get? f = some (lamOb (X.env.qual ++ "<lambda>") params body scope (cloFrom X.env.cells scope.names []) pm c' ctv dV)) (hfn : H f = none) (hfr : f ∉ frs X.stack)
    (hh : ∀ p ∈ hold, s.heap.get? p.1 = some p.2 ∧ H p.1 = none ∧ p.1 ∉ frs X.stack) (hbn : ∀ s' : Shared, (∀ p ∈ hold, s'.heap.get? p.1 = some p.2) → BindsTo s' (lamFd (X.env.qual ++ "<lambda>") params body scope (cloFrom X.env.cells scope.names []) pm c' ctv dV) ⟨[], []⟩ binds)
    (hbx : ∀ y ∈ binds, y.1 ∈ xs)
    (tk : Takes ((cxOf CXg X.prog X.w X.K X.mg X.base Ng qg sg g cdg X.A X.stack s H Eg).tr pn xe) W) (hr : Room (k + 1) (X.A.deeper (envOfC qg sg s.heap.objs.size g cdg)))
    (hbody : ∀ (A : Around) (outer : List Env) (s : Shared) (H : Hp) (E : XK), Room k (A.deeper (lamEnv X scope s.heap.objs.size f c')) → PE (lamCx X A outer s H E scope f c') body (tb E))
    (hN : Ng[0]? = some a) (hv : Vis sg a) (hd : (a == ("__debug__" : Str)) = false := by decide) (hcd : (a == ("__classdict__" : Str)) = false := by decide) :
    PE ((cxOf CXg X.prog X.w X.K X.mg X.base Ng qg sg g cdg X.A X.stack s H Eg).tr pn xe) (.Call (.Name a p1) [] [] p2)
      (fun σZ HZ Q => σZ[0]? = some (some (.ref f)) ∧ HZ c' = some (CodeO c' (X.env.qual ++ "<lambda>")) ∧ ∃ E : XK, (∀ cls d H', E cls d H' → W cls d σZ H') ∧ tb E σ HZ Q) := by
  constructor
  rintro pinsZ sZ σZ HZ Q IZ ⟨hs, hc, E, hW, ht⟩
  refine wpAny_Call_Name_kw (thn ((pe_var (pos := p1) (i := 0) hN hv hd hcd).run pinsZ sZ σZ HZ (fun v H1 => v = .ref f ∧ H1 = HZ) IZ ⟨.ref f, hs, rfl, rfl⟩) fun u s1 ⟨v, H1, I1, r1, ev, eH⟩ => ?_)
  subst ev
  rw [eH] at I1
  obtain rfl : u = Value.ref f := r1
  have of1 := I1.base.keep f _ hf hfn hfr (by intro z; cases z)
  have hold1 : ∀ p ∈ hold, s1.heap.get? p.1 = some p.2 := fun p hp => let ⟨z1, z2, z3⟩ := hh p hp; I1.base.keep p.1 _ z1 z2 z3 (by intro z; cases z)
  have un : Un (frs X.stack) [] H HZ s.heap s1.heap := I1.base
  obtain ⟨⟨oc, vs, t, y1, y2, y3⟩, _, _⟩ := I1.hok c' _ hc
  have called : codeAny (model X.prog X.w) (X.A.deeper (envOfC qg sg s.heap.objs.size g cdg)) (.call (.ref f) ⟨[], []⟩) (CR (L2.CX X.prog X.w) (envOfC qg sg s.heap.objs.size g cdg :: X.stack) X.prog X.w HZ s1 Q E) s1 := by
    refine PySem.W.kla_callFunE hr.depth of1 rfl L.co L.gen rfl ⟨c', oc, vs, t, rfl, y1, y2, y3⟩ (hbn s1 hold1 _ _ _ _ (wpAny_newFunctionEnv (fun y hy => (L.own y hy).1) (fun y hy => L.par _ (hbx y hy)) (fun h1 hns hsb => ⟨I1.nolimit.fresh _ hsb, ?_⟩) L.kind))
    have kp : ∀ b o, s1.heap.get? b = some o → h1.get? b = some o := fun b o e => hsb.extBut b o (Nat.ne_of_lt (Heap.lt_size e)) (Heap.get?_push_of_some _ e)
    have J : Inv (lamCx X (X.A.deeper (envOfC qg sg s.heap.objs.size g cdg)) (envOfC qg sg s.heap.objs.size g cdg :: X.stack) s1 HZ E scope f c') [] σ HZ { s1 with heap := h1, toks := s1.toks + binds.length } := lam_startG I L I1.env0 hr.hd un hns kp
    refine PySem.W.kla_codeExpr (wpAny_mono ((hbody _ _ s1 HZ E (hr.deeper _)).run [] _ _ HZ Q J ht) (fun v s' ⟨w', H', J', rv, q⟩ => ⟨w', H', J'.os, J'.bare, J'.base, J'.hok, rv, q⟩) fun e s' hq => hq)
  refine PySem.W.callWith_F0 ⟨_, _, _, _, of1⟩ (wpAny_call (codeAny_mono called fun r s' hq => ?_))
  match r, hq with
  | .error e, hq => exact tk _ _ (XE.of_call I1 hW hq)
  | .ok (.ret u), hq => exact I1.after hq
  | .ok .next, hq => exact False.elim hq
  | .ok .brk, hq => exact False.elim hq
  | .ok .cont, hq => exact False.elim hq
end
end Om

namespace Om
open PySem PySem.Spec PyProof.Rows L2 LamX
/-- the def at g calls what it got (in slot 0, its name a); TT: what it makes of the lambda's reading -/
def GivesG (X : Cx) (Ng : List Str) (x : Str) (sg : Scope) (g : Addr) (cdg : Value) (bg : List Stmt) (a : Str) (q : Str) (TT : (XK → Hp → VK → Prop) → Hp → VK → Prop) : Prop :=
  ∀ (f c' : Addr) (s : Shared) (H : Hp) (Q : VK) (tl : XK → Hp → VK → Prop),
    (∀ (W : WX) (pn : List (Addr × Obj)) (xe : Value → Shared → Prop) (p1 p2 : Pos), Takes ((cxOf L2.CX0 X.prog X.w X.K X.mg X.base Ng x sg g cdg X.A X.stack s H L2.E0).tr pn xe) W →
      PE ((cxOf L2.CX0 X.prog X.w X.K X.mg X.base Ng x sg g cdg X.A X.stack s H L2.E0).tr pn xe) (.Call (.Name a p1) [] [] p2) (fun σZ HZ Q => σZ[0]? = some (some (.ref f)) ∧ HZ c' = some (CodeO c' q) ∧ ∃ E : XK, (∀ cls d H', E cls d H' → W cls d σZ H') ∧ tl E HZ Q)) →
    H c' = some (CodeO c' q) → Room 2 (X.A.deeper (envOfC x sg s.heap.objs.size g cdg)) → TT tl H Q →
    ∃ t, PSs (cxOf L2.CX0 X.prog X.w X.K X.mg X.base Ng x sg g cdg X.A X.stack s H L2.E0).nox bg t ∧ t { nx := fun _ H' => Q .non H', rt := Q } (L2.start Ng [.ref f]) H
section
variable {X : Cx}
/-- behind the making: the def is called with the lambda -/
theorem lam_given {T : List (Addr × Str)} {TT : (XK → Hp → VK → Prop) → Hp → VK → Prop} {x a : Str} {g f c' : Addr} {k : Nat} {pg : Arguments} {bg : List Stmt} {sg : Scope} {dG kG doc pmg cdg ctg oc pm ctv dV : Value} {an od : Option Addr} {osl : Array (Option Value)} {Ng : List Str}
    {params : Arguments} {body : Expr} {scope : Scope} {t : XK → TE} {xs : List Str} {binds : List (Str × Value)} {hold : List (Addr × Obj)} {pins : List (Addr × Obj)} {σ : L2.St} {H1 : Hp} {s' : Shared} {Q : VK} {E' : Value → Shared → Prop}
    (lk : X.K.lookup g = some ⟨oc, od, .func (PySem.W.fnOf x x pg bg sg dG kG doc pmg an cdg ctg), osl⟩) (hcg : PySem.W.codeIn X.K cdg x = true) (hb : L2.Binds X.K (PySem.W.fnOf x x pg bg sg dG kG doc pmg an cdg ctg) [a] []) (Sg : FnScope Ng [a] sg) (hNg : Ng[0]? = some a) (hva : Vis sg a)
    (hG : GivesG X Ng x sg g cdg bg a (X.env.qual ++ "<lambda>") TT) (hr : Room (k + 2) X.A) (hr3 : Room 3 X.A) (L : LamG X.N X.env.scope scope xs) (I1 : Inv X pins σ H1 s')
    (hf : s'.heap.get? f = some (lamOb (X.env.qual ++ "<lambda>") params body scope (cloFrom X.env.cells scope.names []) pm c' ctv dV)) (hfn : H1 f = none) (hfr : f ∉ frs X.stack)
    (hh : ∀ p ∈ hold, s'.heap.get? p.1 = some p.2 ∧ H1 p.1 = none ∧ p.1 ∉ frs X.stack) (hbn : ∀ s' : Shared, (∀ p ∈ hold, s'.heap.get? p.1 = some p.2) → BindsTo s' (lamFd (X.env.qual ++ "<lambda>") params body scope (cloFrom X.env.cells scope.names []) pm c' ctv dV) ⟨[], []⟩ binds)
    (hbx : ∀ y ∈ binds, y.1 ∈ xs) (hco : H1 c' = some (CodeO c' (X.env.qual ++ "<lambda>"))) (hT : TT (fun E H' Q' => t E σ H' Q') H1 Q)
    (hbody : ∀ (A : Around) (outer : List Env) (s : Shared) (H : Hp) (E : XK), Room k (A.deeper (lamEnv X scope s.heap.objs.size f c')) → PE (lamCx X A outer s H E scope f c') body (t E))
    (hd : (a == ("__debug__" : Str)) = false := by decide) (hcd : (a == ("__classdict__" : Str)) = false := by decide) :
    wpAny (model X.prog X.w) X.A (call (.ref g) [.ref f]) (EP X pins σ Q) E' s' := by
  have called : codeAny (model X.prog X.w) X.A (.call (.ref g) ⟨[.ref f], []⟩) (CR L2.CX0 X.stack X.prog X.w H1 s' Q L2.E0) s' := by
    refine run_ofS (k := k + 1) (N := Ng) (ps := [a]) (us := [.ref f]) (vs := [.ref f]) lk hcg Sg hr I1.env0 (hb s' [.ref f] I1.kIn rfl) (.cons rfl .nil) rfl fun hr' => ?_
    obtain ⟨t', z1, z2⟩ := hG f c' s' H1 Q (fun E H' Q' => t E σ H' Q') (fun W pn xe p1 p2 tk => pe_actG I1 L hf hfn hfr hh hbn hbx tk hr' hbody hNg hva hd hcd) hco (hr3.deeper _) hT
    exact ⟨t', z1.nox, z2⟩
  refine wpAny_call (codeAny_mono called fun r s2 hq => ?_)
  match r, hq with
  | .error e, hq => exact (show False from hq).elim
  | .ok (.ret u), hq => exact I1.after hq
  | .ok .next, hq => exact False.elim hq
  | .ok .brk, hq => exact False.elim hq
  | .ok .cont, hq => exact False.elim hq
/-- x(lambda: body) -/
theorem pe_lamG0 {T : List (Addr × Str)} {TT : (XK → Hp → VK → Prop) → Hp → VK → Prop} {x a : Str} {g c P : Addr} {k : Nat} {pg : Arguments} {bg : List Stmt} {sg : Scope} {dG kG doc pmg cdg ctg oc : Value} {an od : Option Addr} {osl : Array (Option Value)} {Ng : List Str}
    {params : Arguments} {body : Expr} {scope : Scope} {t : XK → TE} {p lpos pos : Pos} (hg : Gl X x) (hm : X.mg x = some (.ref g)) (hk : PySem.W.keepIn X.K (.ref g) = true)
    (lk : X.K.lookup g = some ⟨oc, od, .func (PySem.W.fnOf x x pg bg sg dG kG doc pmg an cdg ctg), osl⟩) (hcg : PySem.W.codeIn X.K cdg x = true) (hb : L2.Binds X.K (PySem.W.fnOf x x pg bg sg dG kG doc pmg an cdg ctg) [a] []) (Sg : FnScope Ng [a] sg) (hNg : Ng[0]? = some a) (hva : Vis sg a)
    (hG : GivesG X Ng x sg g cdg bg a (X.env.qual ++ "<lambda>") TT)
    (TB : TabB X.base X.mg c P) (hcode : X.env.code = .ref c) (hmT : (P, X.env.qual ++ "<lambda>") ∈ T) (hu : ∀ p ∈ T, p.1 = P → p.2 = X.env.qual ++ "<lambda>") (hr : Room (k + 2) X.A) (hr3 : Room 3 X.A) (L : LamG X.N X.env.scope scope []) (hdef : defaultsOf params X.env = ([], []))
    (hbind : ∀ (q : Str) (cl : List (Str × Addr)) (pm : Value) (c' : Addr) (ctv : Value), bindArgs (lamFd q params body scope cl pm c' ctv .none) ⟨[], []⟩ = pure [])
    (hbody : ∀ (A : Around) (outer : List Env) (s : Shared) (H : Hp) (E : XK) (f c' : Addr), Room k (A.deeper (lamEnv X scope s.heap.objs.size f c')) → PE (lamCx X A outer s H E scope f c') body (t E))
    (hdb : (x == ("__debug__" : Str)) = false := by decide) (hd : (a == ("__debug__" : Str)) = false := by decide) (hcd : (a == ("__classdict__" : Str)) = false := by decide) :
    PE X (.Call (.Name x p) [.Lambda params body scope lpos] [] pos) (tLam T TT t) := by
  constructor
  rintro pins s σ H Q I ⟨hT, h⟩
  refine wpAny_Call_Name_kw (ld_glob I hg hm (PySem.W.callWith_K (h₀ := X.base) I.ok.mod.kin hk ?_ (by rfl) (by rfl)) hdb)
  show wpAny _ _ (spliced ((false, eval (.Lambda params body scope lpos) X.env) :: backTo pos (starEach [] X.env))) _ _ s
  refine Calls.spliced_cons (lam_make2 I TB hcode hmT hu hT hdef (L.has I.ok) fun f c' pm' ctv H1 s' I1 eN T1 hf hfn hfr hco => Calls.spliced_nil ⟨I1.kIn, ?_⟩)
  exact lam_given (T := T) (dV := .none) (xs := []) (binds := []) (hold := []) lk hcg hb Sg hNg hva hG hr hr3 L I1 hf hfn hfr (fun p hp => by cases hp) (fun s' _ => BindsTo.of_eq (hbind _ _ _ _ _)) (fun y hy => by cases hy) hco (h H1 eN T1) (fun A outer s H E hr2 => hbody A outer s H E f c' hr2) hd hcd
/-- x(lambda y=i: body) -/
theorem pe_lamG1 {T : List (Addr × Str)} {TT : (XK → Hp → VK → Prop) → Hp → VK → Prop} {x a y : Str} {g c P : Addr} {k : Nat} {pg : Arguments} {bg : List Stmt} {sg : Scope} {dG kG doc pmg cdg ctg oc : Value} {an od : Option Addr} {osl : Array (Option Value)} {Ng : List Str}
    {params : Arguments} {body : Expr} {scope : Scope} {t : XK → TE} {p lpos pos p0 : Pos} {i0 : Int} {j0 : Nat} (hg : Gl X x) (hm : X.mg x = some (.ref g)) (hk : PySem.W.keepIn X.K (.ref g) = true)
    (lk : X.K.lookup g = some ⟨oc, od, .func (PySem.W.fnOf x x pg bg sg dG kG doc pmg an cdg ctg), osl⟩) (hcg : PySem.W.codeIn X.K cdg x = true) (hb : L2.Binds X.K (PySem.W.fnOf x x pg bg sg dG kG doc pmg an cdg ctg) [a] []) (Sg : FnScope Ng [a] sg) (hNg : Ng[0]? = some a) (hva : Vis sg a)
    (hG : GivesG X Ng x sg g cdg bg a (X.env.qual ++ "<lambda>") TT)
    (TB : TabB X.base X.mg c P) (hcode : X.env.code = .ref c) (hmT : (P, X.env.qual ++ "<lambda>") ∈ T) (hu : ∀ p ∈ T, p.1 = P → p.2 = X.env.qual ++ "<lambda>") (hr : Room (k + 2) X.A) (hr3 : Room 3 X.A) (L : LamG X.N X.env.scope scope [y]) (hdef : defaultsOf params X.env = ([eval (.Constant (.int i0) j0 p0) X.env], []))
    (hbind : ∀ (q : Str) (cl : List (Str × Addr)) (pm : Value) (c' : Addr) (ctv : Value) (D : Addr) (v : Value), ∃ kk : Option (Array Value) → Sem (List (Str × Value)), bindArgs (lamFd q params body scope cl pm c' ctv (.ref D)) ⟨[], []⟩ = seqItems? (.ref D) >>= kk ∧ kk (some #[v]) = pure [(y, v)])
    (hbody : ∀ (A : Around) (outer : List Env) (s : Shared) (H : Hp) (E : XK) (f c' : Addr), Room k (A.deeper (lamEnv X scope s.heap.objs.size f c')) → PE (lamCx X A outer s H E scope f c') body (t E))
    (hdb : (x == ("__debug__" : Str)) = false := by decide) (hd : (a == ("__debug__" : Str)) = false := by decide) (hcd : (a == ("__classdict__" : Str)) = false := by decide) :
    PE X (.Call (.Name x p) [.Lambda params body scope lpos] [] pos) (tLam T TT t) := by
  constructor
  rintro pins s σ H Q I ⟨hT, h⟩
  refine wpAny_Call_Name_kw (ld_glob I hg hm (PySem.W.callWith_K (h₀ := X.base) I.ok.mod.kin hk ?_ (by rfl) (by rfl)) hdb)
  show wpAny _ _ (spliced ((false, eval (.Lambda params body scope lpos) X.env) :: backTo pos (starEach [] X.env))) _ _ s
  refine Calls.spliced_cons (lam_mk1 I TB hcode hmT hu hT hdef (L.has I.ok) (fun f c' D t0 pm' ctv H1 s' I1 eN T1 hf hD hfn hDn hfr hDr hco => Calls.spliced_nil ⟨I1.kIn, ?_⟩) rfl)
  refine lam_given (T := T) (dV := .ref D) (xs := [y]) (binds := [(y, .int i0 t0)]) (hold := [(D, { cls := .type "tuple", data := .seq #[.int i0 t0] })]) lk hcg hb Sg hNg hva hG hr hr3 L I1 hf hfn hfr (fun p hp => ?_) (fun s2 hs2 => ?_) (fun z hz => ?_) hco (h H1 eN T1) (fun A outer s H E hr2 => hbody A outer s H E f c' hr2) hd hcd
  · rw [List.mem_singleton.mp hp]
    exact ⟨hD, hDn, hDr⟩
  · obtain ⟨kk, z1, z2⟩ := hbind (X.env.qual ++ "<lambda>") (cloFrom X.env.cells scope.names []) pm' c' ctv D (.int i0 t0)
    intro M A' E2 Q2 hq
    rw [z1]
    refine wpAny_bind (wpAny_seqItems (hs2 _ (List.mem_singleton.mpr rfl)) rfl ?_)
    rw [z2]
    exact wpAny_pure hq
  · rw [List.mem_singleton.mp hz]
    exact List.mem_singleton.mpr rfl
end
end Om

namespace Om
open PySem PySem.Spec PyProof.Rows L2 LamX
/-! ### xs.count(y), the items flat -/
/-! ### isinstance(e, C), e the exception that the suite holds, of an own class -/
def rIsX (K : PySem.W.Frag) (a : Addr) (cls : Value) (d : Option Addr) : List V → Hp → VK → Prop := fun xs H Q => ∃ (D : Addr) (c : V) (cv : Value) (b : Bool), cls = .ref D ∧ ExcC K D ∧ xs = [.ref a, c] ∧ (∀ u, RelV c u → u = cv) ∧ PySem.W.kitOne K (.ref D) cv = some b ∧
  (∀ dd, d = some dd → ∃ fs, H dd = some (.xd fs)) ∧ Q (.bl b) H
theorem call_isX {X : Cx} {a : Addr} {cls : Value} {d : Option Addr} {oe : Obj} {pn : List (Addr × Obj)} (hz : Zc cls d oe) (hf : ∃ vs, oe.data = .fields vs) : CallR (X.suite a ((a, oe) :: pn)) (.builtin "isinstance") (rIsX X.K a cls d) := by
  rintro pins s σ H xs us Q I r ⟨D, c, cv, b, rfl, C, rfl, hcv, e, hd, q⟩
  cases r with
  | cons rx rr =>
    cases rr with
    | cons rt rr =>
      cases rr
      cases rx
      obtain rfl := hcv _ rt
      obtain ⟨hget, _⟩ := I.pin (a, oe) (List.mem_append.mpr (.inl List.mem_cons_self))
      obtain ⟨vs, hv⟩ := hf
      have no : PySem.W.notCls oe = true := by unfold PySem.W.notCls; rw [hv]
      have J : ∃ od, PySem.W.InstAt s.heap a oe D od := by
        cases d with
        | none => exact ⟨none, hget, hz.1, no, by rw [hz.2]; trivial⟩
        | some dd =>
          obtain ⟨fs, hx⟩ := hd dd rfl
          obtain ⟨mA, ⟨o, es, ep, ho, _⟩, _⟩ := I.hok dd _ hx
          exact ⟨some o, hget, hz.1, no, by rw [hz.2]; exact ho⟩
      obtain ⟨od, J⟩ := J
      have hcl : (PySem.W.clsIn X.K D).isSome = true := by
        obtain ⟨cd, hc, _⟩ := PySem.W.any_some C.hd
        rw [hc]
        rfl
      exact PySem.W.kia_one (PySem.W.kitx_exc (ox := oe) (od := od) hcl C.hg C.hk C.hs C.ha C.hn C.ht C.hm) I.kIn J e (fun z => nomatch z) fun tk => ⟨.bl b, H, I.kept (t' := tk) fun _ _ z => z, rfl, q⟩
end Om

namespace Om
open PySem PySem.Spec PyProof.Rows L2 LamX
def nmE : Nat → Str
  | 0 => "InvalidIsland"
  | 1 => "InvalidMap"
  | 2 => "InvalidNumber"
  | 3 => "NoBeginning"
  | 4 => "NoWay"
  | 5 => "TooMany"
  | _ => "UnknownCell"
/-- what the top says of the errors' classes -/
structure ErrF (K : PySem.W.Frag) (mg : Str → Option Value) (C : Nat → Addr) (CM : Addr) : Prop where
  gM : mg "MapError" = some (.ref CM)
  g : ∀ i, i < 7 → mg (nmE i) = some (.ref (C i))
  exm : ∀ i, i < 7 → PySem.W.exmOne K (.ref (C i)) (.ref CM) = some true
  exc : ∀ i, i < 7 → ExcC K (C i)
  kit : ∀ i j, i < 7 → j < 7 → PySem.W.kitOne K (.ref (C i)) (.ref (C j)) = some (decide (j = i))
  kitV : ∀ i, i < 7 → PySem.W.kitOne K (.ref (C i)) (.type "ValueError") = some true
  xf0 : XfC K (C 0)
  noR : PySem.W.findIn K (.ref (C 0)) "row" = some none
  noC : PySem.W.findIn K (.ref (C 0)) "column" = some none
  xf1 : XfC K (C 1)
  noI : PySem.W.findIn K (.ref (C 1)) "index" = some none
  gi : mg "isinstance" = none
  gv : mg "ValueError" = none
inductive ErrOut (C : Nat → Addr) (Q : VK) : Value → Option Addr → Hp → Prop
/-- what _law_error makes of an error -/
  | isl {d : Addr} {x y : V} {H' : Hp} : H' d = some (.xd (xdII x y)) → (∀ p H2, H' p = none → Same H' H2 → H2 p = some (.tup [.str "InvalidIsland", x, y]) → Q (.ref p) H2) → ErrOut C Q (.ref (C 0)) (some d) H'
  | chart {d : Addr} {x : V} {H' : Hp} : H' d = some (.xd [(("index" : Str), x)]) → (∀ p H2, H' p = none → Same H' H2 → H2 p = some (.tup [.str "InvalidMap", x]) → Q (.ref p) H2) → ErrOut C Q (.ref (C 1)) (some d) H'
  | other {j : Nat} {H' : Hp} : 2 ≤ j → j < 7 → (∀ H2, Same H' H2 → Q (.str (nmE j)) H2) → ErrOut C Q (.ref (C j)) none H'
def TErr (C : Nat → Addr) : (XK → Hp → VK → Prop) → Hp → VK → Prop := fun tl H Q => tl (ErrOut C Q) H fun _ H' => Q (.str "") H'
/-! rules whose reading names the written part apart from the context -/
theorem isX_K {X : Cx} {K : PySem.W.Frag} {a : Addr} {cls : Value} {d : Option Addr} {oe : Obj} {pn : List (Addr × Obj)} (hK : X.K = K) (hz : Zc cls d oe) (hf : ∃ vs, oe.data = .fields vs) : CallR (X.suite a ((a, oe) :: pn)) (.builtin "isinstance") (rIsX K a cls d) := by
  subst hK
  exact call_isX hz hf
theorem bm_KV {X : Cx} {K : PySem.W.Frag} {T id : String} {name : Str} {r : V → List V → Hp → VK → Prop} {o e : Expr} {es : List Expr} {to : TE} {t : TA} {apos cpos : Pos} (hK : X.K = K) (pa : PlainAttrs T) (slot : Slot T name id) (hty : typeOf (.builtin id) = pure (.type "method_descriptor")) (hm : MtR X id r) (ho : PE X o to) (ha : PA X (e :: es) t)
    (hbase : attributeBase o name X.env (eval o X.env) = eval o X.env := by rfl)
    (hfew : ((backTo cpos (starEach (e :: es) X.env)).all (fun x => !x.1) && (backToKw cpos (keywordEach [] X.env)).all (fun x => x.1.isSome) && decide ((e :: es).length + ([] : List Keyword).length + (if ([] : List Keyword).isEmpty then 0 else 1) < 30)) = true := by rfl)
    (hline : (apos.endLine == cpos.line) = true := by rfl) (hs : starEach (e :: es) X.env = (false, eval e X.env) :: starEach es X.env := by rfl) (hplain : (backTo cpos (starEach es X.env)).any (·.1) = false := by rfl) :
    PE X (.Call (.Attribute o name apos) (e :: es) [] cpos) (tBM K T r to t) := by
  subst hK
  exact pe_bm pa slot hty hm ho ha hbase hfew hline hs hplain
theorem index_K {X : Cx} {K : PySem.W.Frag} (hK : X.K = K) : MtR X "list.index" (rIndex K) := by
  subst hK
  exact mt_index
theorem ixl_K {X : Cx} {K : PySem.W.Frag} (hK : X.K = K) : IxR X (rIxL K) := by
  subst hK
  exact ix_list
def ksV (j : Nat) : List V := [.bl (decide (0 = j)), .bl (decide (1 = j)), .bl (decide (2 = j)), .bl (decide (3 = j)), .bl (decide (4 = j)), .bl (decide (5 = j)), .bl (decide (6 = j))]
def nmsV : List V := [.str (nmE 0), .str (nmE 1), .str (nmE 2), .str (nmE 3), .str (nmE 4), .str (nmE 5), .str (nmE 6)]
theorem ksV_flat (j : Nat) : (ksV j).all flatV = true := rfl
theorem ksV_count {j : Nat} (h : j < 7) : ((ksV j).countP fun z => eqV z (.bl true)) = 1 := by
  have e : ∀ j : Fin 7, ((ksV j).countP fun z => eqV z (.bl true)) = 1 := by decide
  exact e ⟨j, h⟩
theorem ksV_at {j : Nat} (h : j < 7) : (ksV j)[j]? = some (.bl true) := by
  have e : ∀ j : Fin 7, (ksV j)[j.val]? = some (.bl true) := by decide
  exact e ⟨j, h⟩
theorem ksV_ahead {j : Nat} (h : j < 7) {m : Nat} {z : V} (hm : m < j) (hz : (ksV j)[m]? = some z) : eqV z (.bl true) = false := by
  have e : ∀ j m : Fin 7, m.val < j.val → ((ksV j)[m.val]?.map fun z => eqV z (.bl true)) = some false := by decide
  have e2 := e ⟨j, h⟩ ⟨m, by omega⟩ hm
  rw [hz] at e2
  exact Option.some.inj e2
theorem nmsV_at {j : Nat} (h : j < 7) : atI nmsV ((j : Nat) : Int) = some (.str (nmE j)) := by
  refine atI_nat ?_
  have e : j = 0 ∨ j = 1 ∨ j = 2 ∨ j = 3 ∨ j = 4 ∨ j = 5 ∨ j = 6 := by omega
  rcases e with rfl | rfl | rfl | rfl | rfl | rfl | rfl <;> rfl
theorem nmE_inj {j : Nat} (h : j < 7) : (nmE j = nmE 0 ↔ j = 0) ∧ (nmE j = nmE 1 ↔ j = 1) := by
  have e : j = 0 ∨ j = 1 ∨ j = 2 ∨ j = 3 ∨ j = 4 ∨ j = 5 ∨ j = 6 := by omega
  rcases e with rfl | rfl | rfl | rfl | rfl | rfl | rfl <;> decide +kernel
section
variable {X : Cx} {C : Nat → Addr} {CM g : Addr} {cdg : Value} {q : Str}
end
end Om

/-! lambdas kept in a list: made as values (without a default, or one parameter with a written int), each called later, in a list comprehension of their maker, by a def that gets it -/
namespace Om
open PySem PySem.Spec PyProof.Rows L2 LamX NdefX
/-- a function object whose defaults are the tuple at D -/
def FnE1 (f : Addr) (F : LE) (D : Addr) : HO := .ext fun h => ∃ pm ctv, h.get? f = some (lamOb F.qual F.params F.body F.scope F.cl pm F.c ctv (.ref D))
def TupI (D : Addr) (i : Int) : HO := .ext fun h => ∃ t, h.get? D = some { cls := .type "tuple", data := .seq #[.int i t] }
/-- the lambda at f, its default (an int) or none -/
def LamAt (H : Hp) (f : Addr) (F : LE) : Option Int → Prop
  | none => H f = some (FnE f F)
  | some i => ∃ D, H f = some (FnE1 f F D) ∧ H D = some (TupI D i)
def LamK (H : Hp) (f : Addr) (F : Addr → LE) (d : Option Int) : Prop := ∃ c', LamAt H f (F c') d ∧ H (F c').c = some (CodeO (F c').c (F c').qual)
theorem LamAt.ext {H H' : Hp} {f : Addr} {F : LE} {d : Option Int} (h : LamAt H f F d) (k : ExtN H H') : LamAt H' f F d := by
  cases d with
  | none => exact k _ _ h fnE_tbl
  | some i =>
    obtain ⟨D, h1, h2⟩ := h
    exact ⟨D, k _ _ h1 (fun ps z => by unfold FnE1 at z; cases z), k _ _ h2 fun ps z => by unfold TupI at z; cases z⟩
theorem LamK.ext {H H' : Hp} {f : Addr} {F : Addr → LE} {d : Option Int} (h : LamK H f F d) (k : ExtN H H') : LamK H' f F d := by
  obtain ⟨c', h1, h2⟩ := h
  exact ⟨c', h1.ext k, k _ _ h2 codeO_ne⟩
/-- the words of a lambda written in the text -/
def leOf (cells : List (Str × Addr)) (q : Str) (params : Arguments) (body : Expr) (scope : Scope) (c' : Addr) : LE := ⟨params, body, scope, q ++ "<lambda>", cloFrom cells scope.names [], c'⟩
section
variable {X : Cx} {pins : List (Addr × Obj)} {σ : L2.St} {H : Hp} {s : Shared}
theorem inv_fnE1 {F : LE} {D : Addr} {o : Obj} {t' : Nat} {pm ctv : Value} (I : Inv X pins σ H s) (ho : o = lamOb F.qual F.params F.body F.scope F.cl pm F.c ctv (.ref D)) :
    Inv X pins σ (upd H s.heap.objs.size (FnE1 s.heap.objs.size F D)) { s with heap := s.heap.push o, toks := t' } := by
  subst ho
  refine I.laid (a := s.heap.objs.size) (fun b u e => Heap.get?_push_of_some _ e) (Nat.le_refl _) ?_
  have e : (s.heap.push (lamOb F.qual F.params F.body F.scope F.cl pm F.c ctv (.ref D))).get? s.heap.objs.size = some (lamOb F.qual F.params F.body F.scope F.cl pm F.c ctv (.ref D)) := Heap.get?_push_size _ rfl
  exact ⟨⟨pm, ctv, e⟩, ⟨_, e⟩, fun h1 h2 ⟨p, t, z⟩ st => ⟨p, t, st _ z⟩⟩
/-- the end of the making of a lambda whose defaults stand in the tuple at D -/
theorem lamE_tail {T : List (Addr × Str)} {c P D : Addr} {params : Arguments} {body : Expr} {scope : Scope} {pos : Pos} {Q : Value → Shared → Prop} (I : Inv X pins σ H s) (TB : TabB X.base X.mg c P) (hcode : X.env.code = .ref c)
    (hm : (P, X.env.qual ++ "<lambda>") ∈ T) (hu : ∀ p ∈ T, p.1 = P → p.2 = X.env.qual ++ "<lambda>") (hT : Tabs T H) (hfree : ∀ y ∈ scope.names, y.2 = .free → ∃ c, X.env.cells.lookup y.1 = some c)
    (k : ∀ (f c' : Addr) (H1 : Hp) (s' : Shared), Inv X pins σ H1 s' → ExtN H H1 → Tabs T H1 → H f = none → H1 f = some (FnE1 f ⟨params, body, scope, X.env.qual ++ "<lambda>", cloFrom X.env.cells scope.names [], c'⟩ D) → H1 c' = some (CodeO c' (X.env.qual ++ "<lambda>")) → Q (.ref f) s') :
    wpAny (model X.prog X.w) X.A (makeTail "<lambda>" (X.env.qual ++ "<lambda>") params (.expr body) scope X.env (.ref D) .none none pos pos.line) Q X.xe s := by
  obtain ⟨ps, tP, tt, ta⟩ := hT _ hm
  have bP : s.heap.BuiltinsAt X.mg P := TB.bm.keeps I.bk
  have oP : s.heap.get? P = some { cls := .none, data := .fields ps } := I.hok P _ tP
  cases hc : codeAmong pos ps.toList with
  | none =>
    refine tail_new (mg := X.mg) (closure_ok hfree) I.ok.glob (I.mod.glob.keeps I.bk) hcode (TB.code.keeps I.bk) oP tt hc TB.gP bP fun c' ctv h' tk x1 x2 x3 x4 x5 => ?_
    obtain ⟨c2, oc, vs, t, y1, y2, y3, y4⟩ := x4
    cases y1
    have nC : H c' = none := I.hok.fresh x2
    have I1 := inv_table (t' := tk) (more := #[rawInt pos.line, rawInt pos.col, .ref c']) (h' := h') I tP (fun b o hb e => x1 b o hb e) x5 x2 ⟨oc, vs, t, y2, y3, y4⟩
    have nPC : P ≠ c' := ne_of_none tP nC
    have eN : ExtN H (upd (upd H P (.tbl (ps ++ #[rawInt pos.line, rawInt pos.col, .ref c']))) c' (CodeO c' (X.env.qual ++ "<lambda>"))) := fun b o e n => by
      have n1 : b ≠ P := fun z => by
        rw [z, tP] at e
        exact n ps (Option.some.inj e).symm
      rw [upd_ne (ne_of_none e nC), upd_ne n1]
      exact e
    have eL : (ps ++ #[rawInt pos.line, rawInt pos.col, .ref c']).toList = ps.toList ++ [rawInt pos.line, rawInt pos.col, .ref c'] := by simp
    have T1 : Tabs T (upd (upd H P (.tbl (ps ++ #[rawInt pos.line, rawInt pos.col, .ref c']))) c' (CodeO c' (X.env.qual ++ "<lambda>"))) := fun p hp => by
      by_cases hb : p.1 = P
      · rw [hu p hp hb, hb]
        refine ⟨_, by rw [upd_ne nPC, upd_same], by rw [eL]; exact PySem.TriplesOk_snoc _ _ _ _ tt, fun p' cv hcv => ?_⟩
        rw [eL] at hcv
        rcases among_app _ tt hcv with z | z
        · obtain ⟨c0, w1, w2⟩ := ta p' cv z
          exact ⟨c0, w1, eN _ _ w2 codeO_ne⟩
        · exact ⟨c', z, upd_same⟩
      · obtain ⟨ps2, a1, a2, a3⟩ := hT p hp
        refine ⟨ps2, by rw [upd_ne (ne_of_none a1 nC), upd_ne hb]; exact a1, a2, fun p' cv hcv => ?_⟩
        obtain ⟨c0, w1, w2⟩ := a3 p' cv hcv
        exact ⟨c0, w1, eN _ _ w2 codeO_ne⟩
    have nF := I1.hok.fresh (Nat.le_refl _)
    have I2 := inv_fnE1 (F := ⟨params, body, scope, X.env.qual ++ "<lambda>", cloFrom X.env.cells scope.names [], c'⟩) (D := D) (t' := tk) (pm := (X.mg "__name__").getD .none) (ctv := ctv) I1 rfl
    refine k h'.objs.size c' _ _ I2 (fun b o e n => ?_) (T1.ext fun b o e => ?_) (I.hok.fresh (Nat.le_trans x2 (Nat.le_of_lt x3))) upd_same ?_
    · have e1 := eN b o e n
      exact (upd_ne (ne_of_none e1 nF)).trans e1
    · exact (upd_ne (ne_of_none e nF)).trans e
    · exact (upd_ne (Nat.ne_of_lt x3)).trans upd_same
  | some cv =>
    obtain ⟨c', y1, y2⟩ := ta pos cv hc
    subst y1
    refine tail_hit (mg := X.mg) (closure_ok hfree) I.ok.glob (I.mod.glob.keeps I.bk) hcode (TB.code.keeps I.bk) oP tt hc bP fun ctv h' tk x1 x2 => ?_
    have I1 : Inv X pins σ H { s with heap := h', toks := tk } := I.kept x1
    have nF : H h'.objs.size = none := I1.hok.fresh (Nat.le_refl _)
    have I2 := inv_fnE1 (F := ⟨params, body, scope, X.env.qual ++ "<lambda>", cloFrom X.env.cells scope.names [], c'⟩) (D := D) (t' := tk) (pm := (X.mg "__name__").getD .none) (ctv := ctv) I1 rfl
    refine k h'.objs.size c' _ _ I2 (fun b o e n => ?_) (hT.ext fun b o e => ?_) nF upd_same ?_
    · exact (upd_ne (ne_of_none e nF)).trans e
    · exact (upd_ne (ne_of_none e nF)).trans e
    · exact (upd_ne (ne_of_none y2 nF)).trans y2
end
section
variable {X : Cx}
def tLamV (T : List (Addr × Str)) (F : Addr → LE) (d : Option Int) : TE := fun σ H Q => Tabs T H ∧ ∀ (f : Addr) (H1 : Hp), ExtN H H1 → Tabs T H1 → H f = none → LamK H1 f F d → Q (.ref f) H1
theorem pe_lamV0 {T : List (Addr × Str)} {c P : Addr} {params : Arguments} {body : Expr} {scope : Scope} {pos : Pos} (TB : TabB X.base X.mg c P) (hcode : X.env.code = .ref c)
    (hm : (P, X.env.qual ++ "<lambda>") ∈ T) (hu : ∀ p ∈ T, p.1 = P → p.2 = X.env.qual ++ "<lambda>") (hdef : defaultsOf params X.env = ([], [])) (hfree : ∀ y ∈ scope.names, y.2 = .free → X.env.scope.names.lookup y.1 = some .cell ∨ X.env.scope.names.lookup y.1 = some .free) :
    PE X (.Lambda params body scope pos) (tLamV T (leOf X.env.cells X.env.qual params body scope) none) := by
  refine ⟨fun pins s σ H Q I ⟨hT, h⟩ => (pe_lamE (T := T) (mk := leOf X.env.cells X.env.qual params body scope) TB hcode hm hu hdef hfree (fun _ => rfl)).run pins s σ H Q I ⟨hT, fun f c' H1 e T1 hf h1 h2 => h f H1 e T1 hf ⟨c', h1, h2⟩⟩⟩
theorem pe_lamV1 {T : List (Addr × Str)} {c P : Addr} {params : Arguments} {body : Expr} {scope : Scope} {pos p0 : Pos} {i0 : Int} {j0 : Nat} (TB : TabB X.base X.mg c P) (hcode : X.env.code = .ref c)
    (hm : (P, X.env.qual ++ "<lambda>") ∈ T) (hu : ∀ p ∈ T, p.1 = P → p.2 = X.env.qual ++ "<lambda>") (hdef : defaultsOf params X.env = ([eval (.Constant (.int i0) j0 p0) X.env], [])) (hfree : ∀ y ∈ scope.names, y.2 = .free → X.env.scope.names.lookup y.1 = some .cell ∨ X.env.scope.names.lookup y.1 = some .free) :
    PE X (.Lambda params body scope pos) (tLamV T (leOf X.env.cells X.env.qual params body scope) (some i0)) := by
  constructor
  rintro pins s σ H Q I ⟨hT, h⟩
  have hfr : ∀ y ∈ scope.names, y.2 = .free → ∃ c, X.env.cells.lookup y.1 = some c := fun y hy e => (hfree y hy e).elim (fun z => I.ok.has _ (.inl z)) fun z => I.ok.has _ (.inr z)
  rw [arm_eval_Lambda, hdef]
  show wpAny _ _ (do let dv ← evalAll [eval (.Constant (.int i0) j0 p0) X.env]; let kdv ← holding dv (evalAllOpt []); makeFunction "<lambda>" (X.env.qual ++ "<lambda>") params (.expr body) scope X.env dv kdv [] pos pos.line) _ X.xe s
  refine wpAny_bind (wpAny_bind (thn ((pe_int (X := X) (i := i0) (j := j0) (pos := p0)).run pins s σ H (fun v H' => v = .int i0 ∧ H' = H) I ⟨rfl, rfl⟩) fun u s1 ⟨v, H1, I1, r1, ev, eH⟩ => ?_))
  subst ev
  rw [eH] at I1
  obtain ⟨t0, rfl⟩ := r1
  refine wpAny_bind (wpAny_holding (wpAny_pure (wpAny_pure (wpAny_bind (wpAny_holding (wpAny_pure ?_))))))
  rw [makeFunction_eq]
  simp only [List.zip_nil_right, List.filterMap_nil, List.isEmpty_nil, List.isEmpty_cons, Bool.false_eq_true, if_false, if_true, pure_bind]
  refine wpAny_bind (wpAny_newTextTuple ?_)
  have nD : H s1.heap.objs.size = none := I1.hok.fresh (Nat.le_refl _)
  have I2 : Inv X pins σ (upd H s1.heap.objs.size (TupI s1.heap.objs.size i0)) { s1 with heap := s1.heap.push { cls := .type "tuple", data := .seq [Value.int i0 t0].toArray } } := by
    refine I1.laid (t' := s1.toks) (fun b o e => Heap.get?_push_of_some _ e) (Nat.le_refl _) ?_
    have e : (s1.heap.push { cls := .type "tuple", data := .seq [Value.int i0 t0].toArray }).get? s1.heap.objs.size = some { cls := .type "tuple", data := .seq #[.int i0 t0] } := Heap.get?_push_size _ rfl
    exact ⟨⟨t0, e⟩, ⟨_, e⟩, fun h1 h2 ⟨t, z⟩ st => ⟨t, st _ z⟩⟩
  generalize s1.heap.objs.size = D at nD I2 ⊢
  have s2 := Same.new (Same.refl H) nD (o := TupI D i0)
  have eD : (upd H D (TupI D i0)) D = some (TupI D i0) := upd_same
  generalize upd H D (TupI D i0) = H2 at I2 s2 eD
  have e2 : ExtN H H2 := fun b o e _ => s2 _ _ e
  refine lamE_tail I2 TB hcode hm hu (hT.ext s2) hfr fun f c' H3 s' I3 e3 T3 hf h1 h2 => ?_
  exact ⟨.ref f, H3, I3, rfl, h f H3 (e2.trans e3) T3 (by cases q : H f with | none => rfl | some o => rw [s2 _ _ q] at hf; cases hf) ⟨c', ⟨D, h1, e3 _ _ eD fun ps z => by unfold TupI at z; cases z⟩, h2⟩⟩
end
end Om

/-! a lambda kept in a list is called: by a def that gets it, in a list comprehension of its maker -/
namespace Om
open PySem PySem.Spec PyProof.Rows L2 LamX NdefX
theorem clauseL_loop {X : Cx} (hc : X.calm = true) (hxe : ∀ e s, ¬ X.xe e s) {elt : Expr} {cs : List Comprehension} {scope : Scope} {pos : Pos} {node : Expr} (en : node = .ListComp elt cs scope pos) {k : Nat} {tg iter : Expr} {ifs : List Expr} {it : Addr} {acc : Value} {act : Sem PySem.Fin → Sem PySem.Fin} {R : PySem.Result → Shared → Prop}
    (hturn : compTurn node k (.ref it) acc X.env = clauseTurn node k tg iter ifs (.ref it) acc X.env act)
    {pins : List (Addr × Obj)} {σ0 : L2.St} {fp : List Addr} {tn : Nat → Heap → Prop} {J : It} (T : Turn X.prog X.w X.K tg J fp it tn) {g : TG} {tt : TT} (pg : PG X tg g) (pt : PTs X ifs tt)
    (stat : ∀ {H' : Hp}, (∀ b ∈ fp, H' b = none) → ∀ b ∈ fp, FpOk X pins H' b)
    {Fin : Hp → Prop} {ok : L2.St → Prop} {Body : L2.St → Hp → (Hp → Prop) → Prop}
    (body : ∀ {σ2 : L2.St} {Hx : Heap} {s : Shared} {H : Hp} {Nx : Hp → Prop}, ok σ2 → Inv X (pins ++ pinsAt fp Hx) σ2 H s → Body σ2 H Nx → ∀ (kont : Sem PySem.Fin) (P : PySem.Fin → Shared → Prop) (E : Value → Shared → Prop), (∀ s', (∃ σ' H', Inv X (pins ++ pinsAt fp Hx) σ' H' s' ∧ Knows σ0 σ' ∧ Nx H') → wpAny (model X.prog X.w) X.A kont P E s') → wpAny (model X.prog X.w) X.A (act kont) P E s)
    (hok : ∀ {σ2 : L2.St}, ok σ2 → Knows σ0 σ2) {W : Nat → Nat → Hp → Prop}
    (turn : ∀ i m H, W i m H → (J.stop i H ∧ Fin H) ∨ (J.go i H ∧ ∃ Nx : Hp → Prop, (∀ H', Nx H' → ∃ m', m' < m ∧ W (i + 1) m' H') ∧ ∀ x H', J.yld i H x H' → g x σ0 H' fun σ2 H2 => ok σ2 ∧ tt σ2 H2 fun b H3 => if b = true then Body σ2 H3 Nx else Nx H3))
    (hend : ∀ H' s', Inv X pins σ0 H' s' → Fin H' → R (.ok .next) s')
    {s : Shared} {H : Hp} {m0 : Nat} (I : Inv X pins σ0 H s) (st : tn 0 s.heap) (nfp : ∀ b ∈ fp, H b = none) (w0 : W 0 m0 H) :
    codeAny (model X.prog X.w) X.A (.compLoop node k (.ref it) acc X.env) R s := by
  subst en
  refine codeAny_loop rfl (fun n s' => ∃ i H', Inv X pins σ0 H' s' ∧ tn i s'.heap ∧ (∀ b ∈ fp, H' b = none) ∧ W i n H') ?_ m0 ⟨0, H, I, st, nfp, w0⟩
  rintro n s5 ⟨i, H5, I5, st5, n5, w5⟩
  show wpAny _ X.A ((compTurn (.ListComp elt cs scope pos) k (.ref it) acc X.env).onRaise (fun x => do noteFrame x X.env; theTreesLotGoes x)) _ _ s5
  refine wpAny_noted ?_
  rw [hturn]
  unfold clauseTurn
  refine wpAny_bind (wpAny_standAt (wpAny_bind ?_))
  rcases turn i n H5 w5 with ⟨stop, qq⟩ | ⟨go, Nx, hNx, step⟩
  · refine thnF (T.done X rfl rfl rfl hc i pins s5 σ0 H5 (fun _ _ => False) I5 (stat n5) st5 stop) fun r s6 ⟨hr, I6⟩ => ?_
    subst hr
    exact wpAny_pure (hend H5 s6 I6 qq)
  · refine thnF (T.item X rfl rfl rfl hc i pins s5 σ0 H5 (fun _ _ => False) I5 (stat n5) st5 go) fun r s6 ⟨u, hr, h6⟩ => ?_
    subst hr
    dsimp only
    refine wpAny_bind (thnF h6 fun _ s7 ⟨x, H7, I7, r7, y7, st7, n7⟩ => ?_)
    have I7' := I7.pinned (stat n7) (T.obj _ _ st7)
    have fin : ∀ {σ' : L2.St} {s' : Shared} {H' : Hp}, Inv X (pins ++ pinsAt fp s7.heap) σ' H' s' → Knows σ0 σ' → Nx H' → ∃ m, m < n ∧ ∃ i H', Inv X pins σ0 H' s' ∧ tn i s'.heap ∧ (∀ b ∈ fp, H' b = none) ∧ W i m H' := fun {σ' s' H'} I' kn nx => by
      obtain ⟨m', hm, w'⟩ := hNx H' nx
      have held : ∀ b ∈ fp, ∀ o, s7.heap.get? b = some o → s'.heap.get? b = some o ∧ H' b = none := fun b hb o e =>
        ⟨(I'.pin (b, o) (List.mem_append_right _ (List.mem_append_right _ (mem_pinsAt hb e)))).1, (I'.pin (b, o) (List.mem_append_right _ (List.mem_append_right _ (mem_pinsAt hb e)))).2.1⟩
      refine ⟨m', hm, i + 1, H', I'.unpinned.weak kn.1 kn.2, T.keep _ _ _ st7 fun b hb o e => (held b hb o e).1, fun b hb => ?_, w'⟩
      obtain ⟨o, e, _⟩ := T.obj _ _ st7 b hb
      exact (held b hb o e).2
    refine wpAny_bind (thnE hxe (pg.run _ s7 σ0 H7 x u _ I7' r7 (step x H7 y7)) fun _ s8 ⟨σ8, H8, I8, k8, q8⟩ => ?_)
    refine wpAny_bind (thnE hxe (pt.run _ s8 σ8 H8 _ I8 q8) fun b s9 ⟨H9, I9, q9⟩ => ?_)
    cases b with
    | false => exact wpAny_pure ⟨rfl, fin I9 (hok k8) q9⟩
    | true => exact body k8 I9 q9 _ _ _ fun s' ⟨σ', H', I', kn, nx⟩ => wpAny_pure ⟨rfl, fin I' kn nx⟩
section
variable {X : Cx}
/-- [elt for target in iter if ..], the element read with what the maker knows -/
def tLcV (wi : L2.TI) (g : TG) (tt : TT) (te : L2.St → TE) (vs : List Nat) : TE := fun σ H Q => wi σ H fun J H1 => ∀ D, H1 D = none → ∃ W : Nat → Nat → Hp → Prop, (∃ m, W 0 m (upd H1 D (.lst []))) ∧
  Wlk J W (fun H => Q (.ref D) H) fun x H' Nx => g x (wipe σ vs) H' fun σ2 H2 => wipe σ2 vs = wipe σ vs ∧ tt σ2 H2 fun b H3 => if b = true then (te σ σ2 H3 fun y H4 => ∃ acc, H4 D = some (.lst acc) ∧ acc.length < sizeLine ∧ Nx (upd H4 D (.lst (acc ++ [y])))) else Nx H3
/-- an expression in a block of X, which knows what X knew -/
structure PEV (X Y : Cx) (e : Expr) (te : L2.St → TE) : Prop where
  run : ∀ (pins : List (Addr × Obj)) (σ : L2.St), (∀ {pinsY : List (Addr × Obj)} {σY : L2.St} {H : Hp} {s : Shared}, Inv Y pinsY σY H s → Inv X pins σ H s) → ∀ (pinsY : List (Addr × Obj)) (s : Shared) (σY : L2.St) (H : Hp) (Q : VK), Inv Y pinsY σY H s → te σ σY H Q →
    wpAny (model Y.prog Y.w) Y.A (eval e Y.env) (EP Y pinsY σY Q) Y.xe s
theorem pe_lcV {elt tg iter : Expr} {ifs : List Expr} {scope : Scope} {own : List (Str × Nat)} {pos : Pos} {wi : L2.TI} {g : TG} {tt : TT} {te : L2.St → TE} (hc : X.calm = true) (hN : X.N.Nodup) (hi : PI X tg iter wi) (ok : BlkOk X.N X.env.scope scope own)
    (hg : BlkX X scope fun Y => PG Y tg g) (ht : BlkX X scope fun Y => PTs Y ifs tt) (he' : BlkX X scope fun Y => PEV X Y elt te) (hs : ∀ x, foldedSetIterable iter X.env x = pure x := by intro _; rfl) :
    PE X (.ListComp elt [⟨tg, iter, ifs, 0⟩] scope pos) (tLcV wi g tt te (ownS own)) := by
  have he := fun s H C cl fp => (he' s H C cl fp).run
  refine ⟨fun pins s σ H Q I h => ?_⟩
  rw [eval_ListComp]
  have cells : ∀ y ∈ scope.names, y.2 = .free → ∃ c, X.env.cells.lookup y.1 = some c := fun y hy e => (ok.free y hy e).elim (fun k => I.ok.has _ (.inl k)) fun k => I.ok.has _ (.inr k)
  refine wpAny_comprehension_free rfl hs (closure_ok cells) ok.kind (fun y hy e => by rw [ok.uniq y hy, e])
    (thn (hi.run pins s σ H _ I h) fun xv s1 hx => thn hx fun itv s2 h2 => ?_)
  obtain ⟨it, fp, tn, J, H2, rfl, I2, T, st2, f2, q⟩ := h2
  refine wpAny_newObj_type (newEnv_comp ?_) (by show 0 ≤ sizeLine; decide)
  have hn2 : H2 s2.heap.objs.size = none := I2.hok.fresh (Nat.le_refl _)
  obtain ⟨W, ⟨m0, w0⟩, wlk⟩ := q _ hn2
  have I3 : Inv X pins σ (upd H2 s2.heap.objs.size (.lst [])) { s2 with heap := s2.heap.push { cls := .type "list", data := .seq ([] : List Value).toArray } } :=
    I2.laid (t' := s2.toks) (fun b o e => Heap.get?_push_of_some _ e) (Nat.le_refl _) ⟨Nat.zero_le _, [], 0, .nil, Heap.get?_push_size _ rfl⟩
  have below : ∀ b ∈ fp, b < s2.heap.objs.size := fun b hb => by
    obtain ⟨o, e, _⟩ := T.obj _ _ st2 b hb
    exact Heap.lt_size e
  have st3 : tn 0 (s2.heap.push { cls := .type "list", data := .seq ([] : List Value).toArray }) := T.keep _ _ _ st2 fun b _ o e => Heap.get?_push_of_some _ e
  have f3 : ∀ b ∈ fp, FpOk X pins (upd H2 s2.heap.objs.size (.lst [])) b ∧ b < (s2.heap.push { cls := .type "list", data := .seq ([] : List Value).toArray }).objs.size := fun b hb =>
    ⟨⟨by rw [upd_ne (Nat.ne_of_lt (below b hb))]; exact (f2 b hb).1, (f2 b hb).2⟩, by rw [Heap.size_push]; exact Nat.lt_succ_of_lt (below b hb)⟩
  generalize hS3 : ({ s2 with heap := s2.heap.push { cls := .type "list", data := .seq ([] : List Value).toArray } } : Shared) = s3 at I3
  have hh3 : s2.heap.push { cls := .type "list", data := .seq ([] : List Value).toArray } = s3.heap := by rw [← hS3]
  rw [hh3] at st3 f3
  generalize s2.heap.objs.size = D at I3 f3 w0 wlk hn2 ⊢
  generalize hH3 : upd H2 D (.lst []) = H3 at I3 f3 w0
  have I4 := block_start I3 ok hN f3
  have st4 : tn 0 (pushCells (s3.heap.push { cls := .type "dict", data := .dict #[] }) scope.names) := T.keep _ _ _ st3 fun b _ o e => pushCells_keeps _ _ _ _ (Heap.get?_push_of_some _ e)
  have nfp : ∀ b ∈ fp, H3 b = none := fun b hb => (f3 b hb).1.1
  have back : ∀ H5 s6, Inv (X.blk s3 H3 scope (compEnvC scope (cellsFrom (s3.heap.objs.size + 1) scope.names (cloFrom X.env.cells scope.names [])) s3.heap.objs.size X.env) fp) [] (wipe σ (ownS own)) H5 s6 → Q (.ref D) H5 →
      compPost (model X.prog X.w) X.A X.xe none (EP X pins σ Q) (.ref D) s3.heap.objs.size (.ok .next) s6 := fun H5 s6 I6 qq => by
    have I7 : Inv X pins σ H5 s6 := I3.call' (ch := fp) I6.os I6.base I6.hok I6.bare fun b hb => ⟨(f3 b hb).1.2.2.2.1, (f3 b hb).1.2.1, (f3 b hb).1.2.2.2.2.1, (f3 b hb).1.2.2.2.2.2⟩
    have nC : H5 s3.heap.objs.size = none := I6.free
    obtain ⟨m, hn, _⟩ := I6.loc
    obtain ⟨f0, f1, f2, f3', f4, f5⟩ := I3.fpOk (Nat.le_refl _) nC
    exact ⟨m, hn, fun h'' sb => ⟨.ref D, H5, I7.turned (t' := s6.toks) (fun b o hb e => (sb.2 b hb).trans e) f0 f1 f3' f4 f5, rfl, qq⟩⟩
  show codeAny _ _ (.compStart (.ListComp elt [⟨tg, iter, ifs, 0⟩] scope pos) 0 (.ref it) (.ref D) (compEnvC scope (cellsFrom (s3.heap.objs.size + 1) scope.names (cloFrom X.env.cells scope.names [])) s3.heap.objs.size X.env)) (compPost (model X.prog X.w) X.A X.xe none (EP X pins σ Q) (.ref D) s3.heap.objs.size) { s3 with heap := pushCells (s3.heap.push { cls := .type "dict", data := .dict #[] }) scope.names }
  have L : codeAny (model X.prog X.w) X.A (.compLoop (.ListComp elt [⟨tg, iter, ifs, 0⟩] scope pos) 0 (.ref it) (.ref D) (compEnvC scope (cellsFrom (s3.heap.objs.size + 1) scope.names (cloFrom X.env.cells scope.names [])) s3.heap.objs.size X.env)) (compPost (model X.prog X.w) X.A X.xe none (EP X pins σ Q) (.ref D) s3.heap.objs.size) { s3 with heap := pushCells (s3.heap.push { cls := .type "dict", data := .dict #[] }) scope.names } := by
    generalize cellsFrom (s3.heap.objs.size + 1) scope.names (cloFrom X.env.cells scope.names []) = cl at I4 back ⊢
    generalize s3.heap.objs.size = C at I4 back ⊢
    exact clauseL_loop (X := X.blk s3 H3 scope (compEnvC scope cl C X.env) fp) hc (fun _ _ h => h) rfl (iter := iter)
      (act := fun kont => ((do let _ ← call (.builtin "list.append") [.ref D, ← eval elt (compEnvC scope cl C X.env)] : Sem Unit)) >>= fun _ => kont)
      (compTurn_list ..) T (hg s3 H3 C cl fp) (ht s3 H3 C cl fp)
      (fun hn b hb => ⟨hn b hb, (I4.ok.exf b hb).1, I4.ok.exfs b hb, .inl hb, fun x c e => (I4.ok.exf b hb).2 x c e, fun p hp => absurd (show p ∈ ([] : List (Addr × Obj)) ++ [] from hp) (by simp)⟩)
      (ok := fun σ2 => wipe σ2 (ownS own) = wipe σ (ownS own))
      (Body := fun σ2 H3 Nx => te σ σ2 H3 fun y H4 => ∃ acc, H4 D = some (.lst acc) ∧ acc.length < sizeLine ∧ Nx (upd H4 D (.lst (acc ++ [y]))))
      (body := fun {σ2 Hx s H Nx} o I2 b kont P E hk' => by
        refine wpAny_bind (wpAny_bind (thnE (fun _ _ h => h) (he s3 H3 C cl fp pins σ (fun {pinsY σY H5 s6} I6 => I3.call' (ch := fp) I6.os I6.base I6.hok I6.bare fun b hb => ⟨(f3 b hb).1.2.2.2.1, (f3 b hb).1.2.1, (f3 b hb).1.2.2.2.2.1, (f3 b hb).1.2.2.2.2.2⟩) _ s σ2 H _ I2 b) fun z s1 ⟨y, H1, I1, r1, acc, hD, hz, nx⟩ => ?_))
        exact wpAny_bind (app_ok (X := X.blk s3 H3 scope (compEnvC scope cl C X.env) fp) I1 hD hz r1 fun s' I' => wpAny_pure (hk' s' ⟨σ2, _, I', knows_wipe o, nx⟩)))
      knows_wipe wlk back I4 st4 nfp w0
  exact codeAny_compStart_list L (T.self X.A 0 _ _ _ st4 L)
end
end Om

namespace Om
open PySem PySem.Spec PyProof.Rows L2 LamX NdefX
/-- how a lambda of X's takes its default, when it is called with nothing -/
structure LamW (X : Cx) (params : Arguments) (body : Expr) (scope : Scope) (d : Option Int) : Prop where
  ex : ∃ xs, LamG X.N X.env.scope scope xs ∧ match d with
    | none => ∀ (q : Str) (cl : List (Str × Addr)) (pm : Value) (c' : Addr) (ctv : Value), bindArgs (lamFd q params body scope cl pm c' ctv .none) ⟨[], []⟩ = pure []
    | some _ => ∃ y, y ∈ xs ∧ ∀ (q : Str) (cl : List (Str × Addr)) (pm : Value) (c' : Addr) (ctv : Value) (D : Addr) (v : Value), ∃ kk : Option (Array Value) → Sem (List (Str × Value)), bindArgs (lamFd q params body scope cl pm c' ctv (.ref D)) ⟨[], []⟩ = seqItems? (.ref D) >>= kk ∧ kk (some #[v]) = pure [(y, v)]
section
variable {X : Cx} {pins : List (Addr × Obj)} {σ : L2.St} {H HZ : Hp} {s s1 : Shared}
theorem binds_of {f : Addr} {d : Option Int} {params : Arguments} {body : Expr} {scope : Scope} {cells : List (Str × Addr)} {q : Str} {c' : Addr} (L : LamW X params body scope d) (hok : HOk X.prog X.w HZ s1.heap) (h : LamAt HZ f (leOf cells q params body scope c') d) :
    ∃ (pm ctv dV : Value) (binds : List (Str × Value)) (xs : List Str), s1.heap.get? f = some (lamOb (q ++ "<lambda>") params body scope (cloFrom cells scope.names []) pm c' ctv dV) ∧ LamG X.N X.env.scope scope xs ∧ (∀ y ∈ binds, y.1 ∈ xs) ∧
      BindsTo s1 (lamFd (q ++ "<lambda>") params body scope (cloFrom cells scope.names []) pm c' ctv dV) ⟨[], []⟩ binds := by
  obtain ⟨xs, g, b⟩ := L.ex
  cases d with
  | none =>
    obtain ⟨pm, ctv, ho⟩ := (hok f _ h).1
    exact ⟨pm, ctv, .none, [], xs, ho, g, (fun y hy => by cases hy), BindsTo.of_eq (b _ _ _ _ _)⟩
  | some i =>
    obtain ⟨D, h1, h2⟩ := h
    obtain ⟨pm, ctv, ho⟩ := (hok f _ h1).1
    obtain ⟨t0, hD⟩ := (hok D _ h2).1
    obtain ⟨y, hy, b⟩ := b
    obtain ⟨kk, z1, z2⟩ := b (q ++ "<lambda>") (cloFrom cells scope.names []) pm c' ctv D (.int i t0)
    refine ⟨pm, ctv, .ref D, [(y, .int i t0)], xs, ho, g, (fun z hz => by rw [List.mem_singleton.mp hz]; exact hy), ?_⟩
    intro M A' E2 Q2 hq
    rw [z1]
    refine wpAny_bind (wpAny_seqItems hD rfl ?_)
    rw [z2]
    exact wpAny_pure hq
/-- x(), in the def that got the lambda (in slot 0) -/
theorem pe_actV {CXg : CXT} {Eg : XK} {Ng : List Str} {qg : Str} {sg : Scope} {g f : Addr} {cdg : Value} {params : Arguments} {body : Expr} {scope : Scope} {d : Option Int} {k : Nat} {a : Str} {pn : List (Addr × Obj)} {xe : Value → Shared → Prop} {W : WX} {tb : XK → TE} {p1 p2 : Pos}
    (I : Inv X pins σ H s) (L : LamW X params body scope d)
    (tk : Takes ((cxOf CXg X.prog X.w X.K X.mg X.base Ng qg sg g cdg X.A X.stack s H Eg).tr pn xe) W) (hr : Room (k + 1) (X.A.deeper (envOfC qg sg s.heap.objs.size g cdg)))
    (hbody : ∀ (A : Around) (outer : List Env) (s : Shared) (H : Hp) (E : XK) (f c' : Addr), Room k (A.deeper (lamEnv X scope s.heap.objs.size f c')) → PE (lamCx X A outer s H E scope f c') body (tb E))
    (hN : Ng[0]? = some a) (hv : Vis sg a) (hd : (a == ("__debug__" : Str)) = false := by decide) (hcd : (a == ("__classdict__" : Str)) = false := by decide) :
    PE ((cxOf CXg X.prog X.w X.K X.mg X.base Ng qg sg g cdg X.A X.stack s H Eg).tr pn xe) (.Call (.Name a p1) [] [] p2)
      (fun σZ HZ Q => σZ[0]? = some (some (.ref f)) ∧ LamK HZ f (leOf X.env.cells X.env.qual params body scope) d ∧ ∃ E : XK, (∀ cls d H', E cls d H' → W cls d σZ H') ∧ tb E σ HZ Q) := by
  constructor
  rintro pinsZ sZ σZ HZ Q IZ ⟨hs, ⟨c', hf, hc⟩, E, hW, ht⟩
  refine wpAny_Call_Name_kw (thn ((pe_var (pos := p1) (i := 0) hN hv hd hcd).run pinsZ sZ σZ HZ (fun v H1 => v = .ref f ∧ H1 = HZ) IZ ⟨.ref f, hs, rfl, rfl⟩) fun u s1 ⟨v, H1, I1, r1, ev, eH⟩ => ?_)
  subst ev
  rw [eH] at I1
  obtain rfl : u = Value.ref f := r1
  obtain ⟨pm, ctv, dV, binds, xs, of1, G, hbx, hbn⟩ := binds_of L I1.hok hf
  have un : Un (frs X.stack) [] H HZ s.heap s1.heap := I1.base
  obtain ⟨⟨oc, vs, t, y1, y2, y3⟩, _, _⟩ := I1.hok c' _ hc
  have called : codeAny (model X.prog X.w) (X.A.deeper (envOfC qg sg s.heap.objs.size g cdg)) (.call (.ref f) ⟨[], []⟩) (CR (L2.CX X.prog X.w) (envOfC qg sg s.heap.objs.size g cdg :: X.stack) X.prog X.w HZ s1 Q E) s1 := by
    refine PySem.W.kla_callFunE hr.depth of1 rfl G.co G.gen rfl ⟨c', oc, vs, t, rfl, y1, y2, y3⟩ (hbn _ _ _ _ (wpAny_newFunctionEnv (fun y hy => (G.own y hy).1) (fun y hy => G.par _ (hbx y hy)) (fun h1 hns hsb => ⟨I1.nolimit.fresh _ hsb, ?_⟩) G.kind))
    have kp : ∀ b o, s1.heap.get? b = some o → h1.get? b = some o := fun b o e => hsb.extBut b o (Nat.ne_of_lt (Heap.lt_size e)) (Heap.get?_push_of_some _ e)
    have J : Inv (lamCx X (X.A.deeper (envOfC qg sg s.heap.objs.size g cdg)) (envOfC qg sg s.heap.objs.size g cdg :: X.stack) s1 HZ E scope f c') [] σ HZ { s1 with heap := h1, toks := s1.toks + binds.length } := lam_startG I G I1.env0 hr.hd un hns kp
    refine PySem.W.kla_codeExpr (wpAny_mono ((hbody _ _ s1 HZ E f c' (hr.deeper _)).run [] _ _ HZ Q J ht) (fun v s' ⟨w', H', J', rv, q⟩ => ⟨w', H', J'.os, J'.bare, J'.base, J'.hok, rv, q⟩) fun e s' hq => hq)
  refine PySem.W.callWith_F0 ⟨_, _, _, _, of1⟩ (wpAny_call (codeAny_mono called fun r s' hq => ?_))
  match r, hq with
  | .error e, hq => exact tk _ _ (XE.of_call I1 hW hq)
  | .ok (.ret u), hq => exact I1.after hq
  | .ok .next, hq => exact False.elim hq
  | .ok .brk, hq => exact False.elim hq
  | .ok .cont, hq => exact False.elim hq
end
/-- the def at g calls what it got (in slot 0, its name a); CO: what is known of it; TT: what the def makes of its reading -/
def GivesV (X : Cx) (Ng : List Str) (x : Str) (sg : Scope) (g : Addr) (cdg : Value) (bg : List Stmt) (a : Str) (TT : (XK → Hp → VK → Prop) → Hp → VK → Prop) : Prop :=
  ∀ (f : Addr) (s : Shared) (H : Hp) (Q : VK) (CO : Hp → Prop) (tl : XK → Hp → VK → Prop),
    (∀ (W : WX) (pn : List (Addr × Obj)) (xe : Value → Shared → Prop) (p1 p2 : Pos), Takes ((cxOf L2.CX0 X.prog X.w X.K X.mg X.base Ng x sg g cdg X.A X.stack s H L2.E0).tr pn xe) W →
      PE ((cxOf L2.CX0 X.prog X.w X.K X.mg X.base Ng x sg g cdg X.A X.stack s H L2.E0).tr pn xe) (.Call (.Name a p1) [] [] p2) (fun σZ HZ Q => σZ[0]? = some (some (.ref f)) ∧ CO HZ ∧ ∃ E : XK, (∀ cls d H', E cls d H' → W cls d σZ H') ∧ tl E HZ Q)) →
    CO H → Room 2 (X.A.deeper (envOfC x sg s.heap.objs.size g cdg)) → TT tl H Q →
    ∃ t, PSs (cxOf L2.CX0 X.prog X.w X.K X.mg X.base Ng x sg g cdg X.A X.stack s H L2.E0).nox bg t ∧ t { nx := fun _ H' => Q .non H', rt := Q } (L2.start Ng [.ref f]) H
/-- a lambda of X's, what it is known by and what its body reads -/
structure LamB (X : Cx) (k : Nat) (params : Arguments) (body : Expr) (scope : Scope) (d : Option Int) (tb : XK → TE) : Prop where
  w : LamW X params body scope d
  run : ∀ (A : Around) (outer : List Env) (s : Shared) (H : Hp) (E : XK) (f c' : Addr), Room k (A.deeper (lamEnv X scope s.heap.objs.size f c')) → PE (lamCx X A outer s H E scope f c') body (tb E)
/-- some lambdas of X's: each reads by its own tb -/
structure LamJ where
  params : Arguments
  body : Expr
  scope : Scope
  d : Option Int
  tb : XK → TE
section
variable {X : Cx}
def tGiveV (X : Cx) (js : List LamJ) (TT : (XK → Hp → VK → Prop) → Hp → VK → Prop) (i : Nat) : L2.St → TE := fun σ σY H Q => ∃ (f : Addr) (j : LamJ), σY[i]? = some (some (.ref f)) ∧ j ∈ js ∧ LamK H f (leOf X.env.cells X.env.qual j.params j.body j.scope) j.d ∧ TT (fun E H' Q' => j.tb E σ H' Q') H Q
theorem pev_give {js : List LamJ} {TT : (XK → Hp → VK → Prop) → Hp → VK → Prop} {x y a : Str} {g : Addr} {k i : Nat} {pg : Arguments} {bg : List Stmt} {sg : Scope} {dG kG doc pmg cdg ctg oc : Value} {an od : Option Addr} {osl : Array (Option Value)} {Ng : List Str} {p py pos : Pos}
    {s0 : Shared} {H0 : Hp} {scope : Scope} {cenv : Env} {fp : List Addr}
    (hg : Gl (X.blk s0 H0 scope cenv fp) x) (hm : X.mg x = some (.ref g)) (hk : PySem.W.keepIn X.K (.ref g) = true)
    (lk : X.K.lookup g = some ⟨oc, od, .func (PySem.W.fnOf x x pg bg sg dG kG doc pmg an cdg ctg), osl⟩) (hcg : PySem.W.codeIn X.K cdg x = true) (hb : L2.Binds X.K (PySem.W.fnOf x x pg bg sg dG kG doc pmg an cdg ctg) [a] []) (Sg : FnScope Ng [a] sg) (hNg : Ng[0]? = some a) (hva : Vis sg a)
    (hG : GivesV X Ng x sg g cdg bg a TT) (hr : Room (k + 2) X.A) (hr3 : Room 3 X.A) (hL : ∀ j ∈ js, LamB X k j.params j.body j.scope j.d j.tb) (hN : X.N[i]? = some y) (hv : Vis cenv.scope y)
    (hdb : (x == ("__debug__" : Str)) = false := by decide) (hd : (a == ("__debug__" : Str)) = false := by decide) (hcd : (a == ("__classdict__" : Str)) = false := by decide) (hd2 : (y == ("__debug__" : Str)) = false := by decide) (hcd2 : (y == ("__classdict__" : Str)) = false := by decide)
    (he : starEach [Expr.Name y py] cenv = (false, eval (.Name y py) cenv) :: starEach [] cenv := by rfl) (hpl : (backTo pos (starEach [] cenv)).any (·.1) = false := by rfl) :
    PEV X (X.blk s0 H0 scope cenv fp) (.Call (.Name x p) [.Name y py] [] pos) (tGiveV X js TT i) := by
  constructor
  rintro pins σ back pinsY s σY H Q IY ⟨f, j, hs, hj, hf, hT⟩
  refine wpAny_Call_Name_kw (ld_glob IY hg hm ?_ hdb)
  refine PySem.W.callWith_K (h₀ := X.base) IY.ok.mod.kin hk (thn ((pa_cons (pe_var (X := X.blk s0 H0 scope cenv fp) (pos := py) hN hv hd2 hcd2) pa_nil).run pos pinsY s σY H (fun vs H1 => vs = [.ref f] ∧ H1 = H) IY ⟨.ref f, hs, rfl, rfl⟩) fun us s1 ⟨vs, H1, I1, r, ev, eH⟩ => ⟨I1.kIn, ?_⟩) he hpl
  subst ev
  rw [eH] at I1
  cases r with
  | cons r1 rr =>
    cases rr
    obtain rfl := r1
    have I := back I1
    have called : codeAny (model X.prog X.w) X.A (.call (.ref g) ⟨[.ref f], []⟩) (CR L2.CX0 X.stack X.prog X.w H s1 Q L2.E0) s1 := by
      refine run_ofS (k := k + 1) (N := Ng) (ps := [a]) (us := [.ref f]) (vs := [.ref f]) lk hcg Sg hr I1.env0 (hb s1 [.ref f] I1.kIn rfl) (.cons rfl .nil) rfl fun hr' => ?_
      obtain ⟨t', z1, z2⟩ := hG f s1 H Q (fun H' => LamK H' f (leOf X.env.cells X.env.qual j.params j.body j.scope) j.d) (fun E H' Q' => j.tb E σ H' Q') (fun W pn xe p1 p2 tk => pe_actV I (hL j hj).w tk hr' (hL j hj).run hNg hva hd hcd) hf (hr3.deeper _) hT
      exact ⟨t', z1.nox, z2⟩
    refine wpAny_call (codeAny_mono called fun r s2 hq => ?_)
    match r, hq with
    | .error e, hq => exact (show False from hq).elim
    | .ok (.ret u), hq => exact I1.after hq
    | .ok .next, hq => exact False.elim hq
    | .ok .brk, hq => exact False.elim hq
    | .ok .cont, hq => exact False.elim hq
end
end Om

/-! _law_fail -/
namespace Om
open PySem PySem.Spec PyProof.Rows L2 LamX NdefX
abbrev sFail : Stmt := top 43
def nmF : Nat → Str
  | 0 => "UnknownCell"
  | 1 => "InvalidRule"
  | 2 => "TooMany"
  | _ => "InvalidDig"
structure FailF (K : PySem.W.Frag) (mg : Str → Option Value) (C : Nat → Addr) (CM : Addr) : Prop where
  gM : mg "MapError" = some (.ref CM)
  g : ∀ i, i < 4 → mg (nmF i) = some (.ref (C i))
  exm : ∀ i, i < 4 → PySem.W.exmOne K (.ref (C i)) (.ref CM) = some true
  exc : ∀ i, i < 4 → ExcC K (C i)
  kit : ∀ i j, i < 4 → j < 4 → PySem.W.kitOne K (.ref (C i)) (.ref (C j)) = some (decide (j = i))
  xf3 : XfC K (C 3)
  noI : PySem.W.findIn K (.ref (C 3)) "index" = some none
  gi : mg "isinstance" = none
/-- what _law_fail makes of an error -/
inductive FailOut (C : Nat → Addr) (Q : VK) : Value → Option Addr → Hp → Prop
  | mk {j : Nat} {H' : Hp} : j < 3 → (∀ H2, Same H' H2 → Q (.str (nmF j)) H2) → FailOut C Q (.ref (C j)) none H'
  | dig {d : Addr} {x : V} {H' : Hp} : H' d = some (.xd (xdIM x)) → (∀ p H2, H' p = none → Same H' H2 → H2 p = some (.tup [.str "InvalidDig", x]) → Q (.ref p) H2) → FailOut C Q (.ref (C 3)) (some d) H'
def TFail (C : Nat → Addr) : (XK → Hp → VK → Prop) → Hp → VK → Prop := fun tl H Q => tl (FailOut C Q) H Q
abbrev nFail : List Str := ["_law_work", "e", "_law_kinds"]
theorem scFail : FnScope nFail ["_law_work"] (defScope sFail) := ⟨rfl, rfl, rfl, by decide +kernel, rfl, by decide +kernel, by decide +kernel⟩
def kfV (j : Nat) : List V := [.bl (decide (0 = j)), .bl (decide (1 = j)), .bl (decide (2 = j)), .bl true]
def nmfV : List V := [.str (nmF 0), .str (nmF 1), .str (nmF 2), .str "another"]
theorem kfV_flat (j : Nat) : (kfV j).all flatV = true := rfl
theorem kfV_at {j : Nat} (h : j < 3) : (kfV j)[j]? = some (.bl true) := by
  have e : j = 0 ∨ j = 1 ∨ j = 2 := by omega
  rcases e with rfl | rfl | rfl <;> rfl
theorem kfV_ahead {j : Nat} (h : j < 3) {m : Nat} {z : V} (hm : m < j) (hz : (kfV j)[m]? = some z) : eqV z (.bl true) = false := by
  have e : j = 0 ∨ j = 1 ∨ j = 2 := by omega
  have e2 : m = 0 ∨ m = 1 := by omega
  rcases e with rfl | rfl | rfl <;> rcases e2 with rfl | rfl <;> first | omega | (cases hz; rfl)
theorem nmfV_at {j : Nat} (h : j < 3) : atI nmfV ((j : Nat) : Int) = some (.str (nmF j)) := by
  have e : j = 0 ∨ j = 1 ∨ j = 2 := by omega
  rcases e with rfl | rfl | rfl <;> rfl
section
variable {X : Cx} {C : Nat → Addr} {CM g : Addr} {cdg : Value}
theorem fail_gives (T : FailF X.K X.mg C CM) : GivesV X nFail "_law_fail" (defScope sFail) g cdg (defBody sFail) "_law_work" (TFail C) := by
  intro f s H Q CO tl act hc hr h
  have nd := scFail.nd
  refine ⟨_, pss_one (ps_try_as (X := (cxOf L2.CX0 X.prog X.w X.K X.mg X.base nFail "_law_fail" (defScope sFail) g cdg X.A X.stack s H L2.E0).nox) (i := 1) (c := .ref CM)
      (tb := fun W D σ H => σ[0]? = some (some (.ref f)) ∧ CO H ∧ ∃ E : XK, (∀ cls d H', E cls d H' → W cls d σ H') ∧ tl E H D.rt)
      rfl rfl nd rfl rfl ⟨rfl, by decide, .inl T.gM⟩ L2.takes0 (fun W pn xe tk _ => ?_)
      (fun a oe cls d pn hz hf =>
        pss_cons (ps_if (pt_val (pe_callB (isX_K (K := X.K) rfl hz hf) (by rfl) T.gi (by decide +kernel) (pa_cons (pv 1) (pa_cons (pe_glob (v := .ref (C 3)) rfl (T.g 3 (by decide)) rfl) pa_nil)))) (pss_one (ps_ret (pe_tup (pa_cons pe_str (pa_cons (pe_xf T.xf3 T.noI hz hf (pv 1)) pa_nil))))) pss_nil)
        (pss_cons (ps_set (i := 2) nd rfl (.inl rfl) (pe_lst (pa_cons (pe_callB (isX_K (K := X.K) rfl hz hf) (by rfl) T.gi (by decide +kernel) (pa_cons (pv 1) (pa_cons (pe_glob (v := .ref (C 0)) rfl (T.g 0 (by decide)) rfl) pa_nil)))
            (pa_cons (pe_callB (isX_K (K := X.K) rfl hz hf) (by rfl) T.gi (by decide +kernel) (pa_cons (pv 1) (pa_cons (pe_glob (v := .ref (C 1)) rfl (T.g 1 (by decide)) rfl) pa_nil)))
            (pa_cons (pe_callB (isX_K (K := X.K) rfl hz hf) (by rfl) T.gi (by decide +kernel) (pa_cons (pv 1) (pa_cons (pe_glob (v := .ref (C 2)) rfl (T.g 2 (by decide)) rfl) pa_nil))) (pa_cons pe_bl pa_nil))))))
        (pss_one (ps_ret (pe_ix (ixl_K (K := X.K) rfl) (pe_lst (pa_cons pe_str (pa_cons pe_str (pa_cons pe_str (pa_cons pe_str pa_nil))))) (bm_KV (K := X.K) rfl PySem.F.plainAttrs_list PySem.F.slot_list_index PySem.F.type_list_index (index_K (K := X.K) rfl) (pv 2) (pa_cons pe_bl pa_nil)) (fun _ _ => rfl))))))), ?_⟩
  · refine ⟨fun pins s' σ H' D I h' => ?_⟩
    obtain ⟨h1, h2, h3⟩ := h'
    exact (pss_one (ps_ret (act W pn xe _ _ tk))).run pins s' σ H' D I ⟨h1, h2, h3⟩
  · refine ⟨rfl, hc, FailOut C Q, fun cls d H' out => ?_, h⟩
    cases out with
    | dig hx k =>
      rename_i dd x
      refine ⟨true, T.exm 3 (by decide), fun _ a ha => ?_, fun z => by cases z⟩
      refine ⟨_, rfl, C 3, _, _, _, rfl, T.exc 3 (by decide), rfl, fun u r => r, T.kit 3 3 (by decide) (by decide), fun d' e => by cases e; exact ⟨_, hx⟩, _, rfl, ?_⟩
      refine iteT' (decide_eq_true rfl) ?_
      have li : List.lookup ("index" : Str) (xdIM x) = some x := by unfold xdIM; rw [lookup_put, if_pos rfl]
      refine ⟨_, rfl, rfl, rfl, dd, _, x, rfl, hx, li, (by show 2 ≤ sizeLine; decide), fun p hp => ?_⟩
      exact k p _ hp (Same.new (Same.refl _) hp) upd_same
    | mk hj k =>
    rename_i j
    have hj4 : j < 4 := by omega
    have hd : ∀ (dd : Addr), (none : Option Addr) = some dd → ∃ fs, H' dd = some (.xd fs) := fun dd e => by cases e
    refine ⟨true, T.exm j hj4, fun _ a ha => ?_, fun z => by cases z⟩
    refine ⟨_, rfl, C j, _, _, _, rfl, T.exc j hj4, rfl, fun u r => r, T.kit j 3 hj4 (by decide), hd, _, rfl, iteF' (decide_eq_false (by omega)) ?_⟩
    refine ⟨_, rfl, C j, _, _, _, rfl, T.exc j hj4, rfl, fun u r => r, T.kit j 0 hj4 (by decide), hd, _, rfl, C j, _, _, _, rfl, T.exc j hj4, rfl, fun u r => r, T.kit j 1 hj4 (by decide), hd,
      _, rfl, C j, _, _, _, rfl, T.exc j hj4, rfl, fun u r => r, T.kit j 2 hj4 (by decide), hd, (by show 4 ≤ sizeLine; decide), fun p1 hp1 => ?_⟩
    have S1 : Same H' (upd H' p1 (.lst (kfV j))) := Same.new (Same.refl _) hp1
    have k1 : (upd H' p1 (.lst (kfV j))) p1 = some (.lst (kfV j)) := upd_same
    show (fun (Hx : Hp) => _) (upd H' p1 (.lst (kfV j)))
    generalize (upd H' p1 (.lst (kfV j))) = H1 at S1 k1 ⊢
    refine ⟨by show 4 ≤ sizeLine; decide, fun p2 hp2 => ?_⟩
    have S2 := S1.trans (Same.new (Same.refl H1) hp2 (o := .lst nmfV))
    have k2 : (upd H1 p2 (.lst nmfV)) p2 = some (.lst nmfV) := upd_same
    have k12 : (upd H1 p2 (.lst nmfV)) p1 = some (.lst (kfV j)) := Same.new (Same.refl H1) hp2 _ _ k1
    refine ⟨_, rfl, .inl ⟨rfl, _, .inl (.inl k12)⟩, p1, _, _, j, _, rfl, rfl, .inl (.inl k12), rfl, kfV_flat j, kfV_at hj, rfl, fun m z hm hz => kfV_ahead hj hm hz, ?_⟩
    refine ⟨p2, _, _, _, rfl, rfl, .inl (.inl k2), nmfV_at hj, ?_⟩
    exact k _ S2
end
end Om

/-! _law_water -/
namespace Om
open PySem PySem.Spec PyProof.Rows L2 LamX NdefX
abbrev TX := List (Addr × (Int × Int))
def vx (t : TX) : List V := t.map fun p => V.ref p.1
def CXs (H : Hp) (t : TX) : Prop := ∀ p ∈ t, H p.1 = some (.tup [.int p.2.1, .int p.2.2])
theorem vx_len (t : TX) : (vx t).length = t.length := List.length_map ..
theorem vx_app (t u : TX) : vx (t ++ u) = vx t ++ vx u := List.map_append
abbrev sWater : Stmt := top 44
def spWater (K : PySem.W.Frag) : Sp := fun vs H Q _ => ∃ (a : Addr) (rows : List (List Nat)), vs = [.ref a] ∧ SqT K H a (rows.map vt) ∧ Vd rows ∧ rows.length ≤ 9 ∧ (rows.headD []).length ≤ 9 ∧
  ∀ (v : Addr) (t : TX) (H' : Hp), Same H H' → H' v = some (.lst (vx t)) → CXs H' t → (∀ p ∈ t, hasC rows p.2.1 p.2.2 = false) → 4 ≤ t.length → t.length ≤ 200 → Q (.ref v) H'
section
variable {P : Program} {w : World} {K : PySem.W.Frag} {mg : Str → Option Value} {base : Heap}
abbrev nWt : List Str := ["_law_rows_here", "_law_found", "_law_row", "_law_column"]
theorem scWt : FnScope nWt ["_law_rows_here"] (defScope sWater) := ⟨rfl, rfl, rfl, by decide +kernel, rfl, by decide +kernel, by decide +kernel⟩
def wtLc : Expr := match asgExpr (inFor ((defBody sWater).getD 1 noS) 0) with
  | .BinOp _ _ r _ => r
  | e => e
theorem blkWt : BlkOk nWt (defScope sWater) (lcScope wtLc) [("_law_column", 3)] := blkOk_by (by decide +kernel)
theorem ok_water {f : Addr} {fd : FuncData} (F : FnP K "_law_water" "_law_water" sWater f fd) (grange : mg "range" = none) (glen : mg "len" = none) : FnOk P w K mg base CX0 1 f fd ["_law_rows_here"] (spWater K) := by
  refine F.ok scWt (fun vs H Q E h => ?_) (fun cdv A outer s H vs Q E hr h => ?_)
  · obtain ⟨a, rows, rfl, _⟩ := h
    rfl
  · obtain ⟨a, rows, rfl, hS, g, h9, w9, k⟩ := h
    have nd := scWt.nd
    refine ⟨_, PSs.nox (pss_cons (ps_set (i := 1) nd rfl (.inl rfl) (pe_lst (pa_cons (pe_tup (pa_cons pe_int (pa_cons pe_int pa_nil))) (pa_cons (pe_tup (pa_cons pe_int (pa_cons pe_int pa_nil))) (pa_cons (pe_tup (pa_cons (pe_op op_sub pe_int pe_int) (pa_cons pe_int pa_nil))) (pa_cons (pe_tup (pa_cons pe_int (pa_cons (pe_op op_sub pe_int pe_int) pa_nil))) pa_nil))))))
      (pss_cons (ps_for PassesOwn.never rfl (pi_range1 rfl grange (pa_cons (pe_callB call_len_seq (by rfl) glen PySem.boot_len (pa_cons (pv 0) pa_nil)) pa_nil)) (pg_name (i := 2) nd rfl (.inr rfl)) (pss_one (ps_set (i := 1) nd rfl (.inl rfl) (pe_op op_cat (pv 1)
          (pe_lc (own := [("_law_column", 3)]) (g := gName 3) rfl nd (pi_range1 rfl grange (pa_cons (pe_callB call_len_str (by rfl) glen PySem.boot_len (pa_cons (pe_ix ix_tup (pv 0) pe_int (fun _ _ => rfl)) pa_nil)) pa_nil)) blkWt (fun _ _ _ _ _ => pg_name (i := 3) nd rfl (.inl rfl)) (fun _ _ _ _ _ => pts_one (pt_cmpR op_eq (pe_ix ix_str (pe_ix (ixtK (K := K) rfl) (pv 0) (pv 2) (fun _ _ => rfl)) (pv 3) (fun _ _ => rfl)) pe_str (nomark _)))
            (fun _ _ _ _ _ => pe_tup (pa_cons (pv 2) (pa_cons (pv 3) pa_nil))))))))
      (pss_one (ps_ret (pv 1))))), ?_⟩
    have hne := g.ne
    have hh := g.hgt
    have at00 : atI (rows.map vt) 0 = some (vt (rows.headD [])) := by
      cases rows with
      | nil => exact absurd rfl hne
      | cons r0 rs => exact at0
    have hr0 : (tx (rows.headD [])).length ≤ sizeLine := by
      rw [tx_len]
      cases rows with
      | nil => exact absurd rfl hne
      | cons r0 rs => exact small_le (by have := (g.wid r0 (List.mem_cons_self ..)).2; show r0.length ≤ _; omega)
    refine ⟨by show 2 ≤ sizeLine; decide, fun t1 ht1 => ⟨by show 2 ≤ sizeLine; decide, fun t2 ht2 => ⟨_, _, rfl, rfl, by show 2 ≤ sizeLine; decide, fun t3 ht3 => ⟨_, _, rfl, rfl, by show 2 ≤ sizeLine; decide, fun t4 ht4 => ⟨by show 4 ≤ sizeLine; decide, fun f0 hf0 => ?_⟩⟩⟩⟩⟩
    have z1 := Same.new (Same.refl H) ht1 (o := .tup [.int 9, .int 0])
    have z2 := Same.new (Same.refl _) ht2 (o := .tup [.int 0, .int 9])
    have z3 := Same.new (Same.refl _) ht3 (o := .tup [.int (-1), .int 0])
    have z4 := Same.new (Same.refl _) ht4 (o := .tup [.int 0, .int (-1)])
    have z5 := Same.new (Same.refl _) hf0 (o := .lst (vx [(t1, (9, 0)), (t2, (0, 9)), (t3, (-1, 0)), (t4, (0, -1))]))
    obtain ⟨H6, hH6⟩ : ∃ H6, H6 = upd (upd (upd (upd (upd H t1 (.tup [.int 9, .int 0])) t2 (.tup [.int 0, .int 9])) t3 (.tup [.int (-1), .int 0])) t4 (.tup [.int 0, .int (-1)])) f0 (.lst (vx [(t1, (9, 0)), (t2, (0, 9)), (t3, (-1, 0)), (t4, (0, -1))])) := ⟨_, rfl⟩
    have s1 : Same H H6 := by rw [hH6]; exact z1.trans (z2.trans (z3.trans (z4.trans z5)))
    have a1 : H6 t1 = some (.tup [.int 9, .int 0]) := by rw [hH6]; exact (z2.trans (z3.trans (z4.trans z5))) t1 (.tup [.int 9, .int 0]) upd_same
    have a2 : H6 t2 = some (.tup [.int 0, .int 9]) := by rw [hH6]; exact (z3.trans (z4.trans z5)) t2 (.tup [.int 0, .int 9]) upd_same
    have a3 : H6 t3 = some (.tup [.int (-1), .int 0]) := by rw [hH6]; exact (z4.trans z5) t3 (.tup [.int (-1), .int 0]) upd_same
    have a4 : H6 t4 = some (.tup [.int 0, .int (-1)]) := by rw [hH6]; exact z5 t4 (.tup [.int 0, .int (-1)]) upd_same
    have a5 : H6 f0 = some (.lst (vx [(t1, (9, 0)), (t2, (0, 9)), (t3, (-1, 0)), (t4, (0, -1))])) := by rw [hH6]; exact upd_same
    have eh : (upd (upd (upd (upd (upd H t1 (.tup [.int 9, .int 0])) t2 (.tup [.int 0, .int 9])) t3 (.tup [(fun i j : Int => V.int (i - j)) 0 1, .int 0])) t4 (.tup [.int 0, (fun i j : Int => V.int (i - j)) 0 1])) f0 (.lst [.ref t1, .ref t2, .ref t3, .ref t4])) = H6 := by rw [hH6]; rfl
    rw [eh]
    have cx0 : CXs H6 [(t1, (9, 0)), (t2, (0, 9)), (t3, (-1, 0)), (t4, (0, -1))] := fun p hp => by
      simp only [List.mem_cons, List.not_mem_nil, or_false] at hp
      rcases hp with rfl | rfl | rfl | rfl
      · exact a1
      · exact a2
      · exact a3
      · exact a4
    have off0 : ∀ p ∈ ([(t1, (9, 0)), (t2, (0, 9)), (t3, (-1, 0)), (t4, (0, -1))] : TX), hasC rows p.2.1 p.2.2 = false := fun p hp => by
      have hw : (rows.headD []).length ≤ 9 := w9
      have ho : insd rows p.2.1 p.2.2 = false := by
        unfold insd inR
        simp only [List.mem_cons, List.not_mem_nil, or_false] at hp
        rcases hp with rfl | rfl | rfl | rfl
        · simp only [Bool.and_eq_false_iff, decide_eq_false_iff_not]; left; right; omega
        · simp only [Bool.and_eq_false_iff, decide_eq_false_iff_not]; right; right; omega
        · simp only [Bool.and_eq_false_iff, decide_eq_false_iff_not]; left; left; omega
        · simp only [Bool.and_eq_false_iff, decide_eq_false_iff_not]; right; left; omega
      unfold hasC
      rw [ho]
      rfl
    clear z1 z2 z3 z4 z5 eh hH6 ht1 ht2 ht3 ht4 a1 a2 a3 a4
    refine ⟨_, rfl, a, _, rfl, .inr (Same.tup s1 hS), _, rfl, by omega, by rw [List.length_map]; omega, ?_⟩
    rw [List.length_map]
    refine for_range (lo := 0) (n := ((rows.length : Nat) : Int).toNat) (fun i σ H' => ∃ (fo : Addr) (t : TX) (v2 : Option V), σ = [some (.ref a), some (.ref fo), v2, none] ∧ H' fo = some (.lst (vx t)) ∧ CXs H' t ∧ (∀ p ∈ t, hasC rows p.2.1 p.2.2 = false) ∧ 4 ≤ t.length ∧ t.length ≤ 4 + 12 * i ∧ Same H H')
      ⟨f0, _, _, rfl, a5, cx0, off0, Nat.le_refl _, Nat.le_refl _, s1⟩ ?_ ?_
    · rintro i σ H8 hi' ⟨fo, t, v2, rfl, ha1, ha2, hoff, ht4, htl, ha3⟩
      have hir : i < rows.length := by omega
      have hri : rows[i]? = some rows[i] := List.getElem?_eq_getElem hir
      have hmr : rows[i] ∈ rows := List.getElem_mem hir
      have hwr := g.rect _ hmr
      have eri : rows.getD i [] = rows[i] := by rw [List.getD_eq_getElem?_getD, hri, Option.getD_some]
      have R8 := Same.tup ha3 hS
      have ei : atI (rows.map vt) (0 + (i : Int)) = some (vt rows[i]) := by
        rw [Int.zero_add]
        exact atI_nat (by rw [List.getElem?_map, hri]; rfl)
      have hw12 := (g.wid _ hmr).2
      have hlr : (tx rows[i]).length ≤ sizeLine := by rw [tx_len]; exact small_le (by omega)
      refine ⟨_, rfl, _, rfl, a, _, 0, _, rfl, rfl, R8, at00, _, rfl, hr0, _, rfl, by omega, by rw [tx_len]; omega, fun D hD => ?_⟩
      rw [tx_len]
      refine lc_range (lo := 0) (n := (((rows.headD []).length : Nat) : Int).toNat) (fun j H' => ∃ u : TX, H' D = some (.lst (vx u)) ∧ CXs H' u ∧ (∀ p ∈ u, hasC rows p.2.1 p.2.2 = false) ∧ u.length ≤ j ∧ Same H8 H')
        ⟨[], upd_same, (fun p hp => by cases hp), (fun p hp => by cases hp), Nat.le_refl _, Same.new (Same.refl _) hD⟩ ?_ ?_
      · rintro j H9 hj ⟨u, g1, g2, g4, gl, g3⟩
        have hjr : j < (rows[i]).length := by omega
        obtain ⟨ch, hch⟩ : ∃ ch, (rows[i])[j]? = some ch := ⟨_, List.getElem?_eq_getElem hjr⟩
        have ech : (rows[i]).getD j 0 = ch := by rw [List.getD_eq_getElem?_getD, hch, Option.getD_some]
        have ej : atI (tx rows[i]).cps.toList (0 + (j : Int)) = some ch := by
          rw [Int.zero_add]
          exact atI_nat (by rw [tx_cps]; exact hch)
        refine ⟨rfl, ?_⟩
        refine ⟨_, rfl, _, rfl, a, _, _, _, rfl, rfl, Same.tup g3 R8, ei, _, rfl, _, _, _, rfl, rfl, hlr, ej, rfl, _, rfl, ?_⟩
        have e2 : decide (V.str ⟨#[ch]⟩ = V.str (Str.ofString "~")) = decide (ch = 126) := by
          rw [show Str.ofString "~" = (⟨#[126]⟩ : Str) from by decide +kernel]
          apply decide_eq_decide.mpr
          simp
        rw [e2]
        by_cases h : ch = 126
        · refine iteT' (decide_eq_true h) ?_
          refine ⟨_, rfl, _, rfl, by show 2 ≤ sizeLine; decide, fun q hq => ?_⟩
          have su := Same.new (Same.refl H9) hq (o := .tup [.int (0 + (i : Int)), .int (0 + (j : Int))])
          have g1' := su _ _ g1
          refine ⟨vx u, g1', Nat.lt_of_le_of_lt (show _ ≤ 100 by rw [vx_len]; omega) (by decide), u ++ [(q, ((i : Int), (j : Int)))], by rw [upd_same, vx_app]; rfl, fun p hp => ?_, fun p hp => ?_, by rw [List.length_append]; show u.length + 1 ≤ j + 1; omega, Same.updN (g3.trans su) hD⟩
          · rcases List.mem_append.mp hp with h | h
            · have := su _ _ (g2 p h)
              rw [upd_ne (ne_of this g1' fun e => by cases e)]
              exact this
            · rw [List.mem_singleton.mp h]
              have e5 : (upd H9 q (.tup [.int (0 + (i : Int)), .int (0 + (j : Int))])) q = some (.tup [.int (i : Int), .int (j : Int)]) := by rw [upd_same, Int.zero_add, Int.zero_add]
              rw [upd_ne (ne_of e5 g1' fun e => by cases e)]
              exact e5
          · rcases List.mem_append.mp hp with h' | h'
            · exact g4 p h'
            · rw [List.mem_singleton.mp h']
              have es : sgAt rows (i : Int) (j : Int) = 126 := by
                unfold sgAt
                rw [show ((i : Int)).toNat = i from rfl, show ((j : Int)).toNat = j from rfl, eri, ech]
                exact h
              show hasC rows (i : Int) (j : Int) = false
              unfold hasC
              rw [es]
              simp
        · refine iteF' (decide_eq_false h) ?_
          exact ⟨u, g1, g2, g4, by omega, g3⟩
      · rintro H9 ⟨u, g1, g2, g4, gl, g3⟩
        have ejn : (((rows.headD []).length : Nat) : Int).toNat = (rows[i]).length := by omega
        rw [ejn] at gl
        refine ⟨fo, D, vx t, vx u, rfl, rfl, g3 _ _ ha1, g1, Nat.le_trans (show _ ≤ 1000 by rw [vx_len, vx_len]; omega) (by decide), fun p hp => ?_⟩
        have s9 := Same.new (Same.refl H9) hp (o := .lst (vx t ++ vx u))
        refine ⟨p, t ++ u, _, rfl, by rw [upd_same, vx_app], fun y hy => ?_, fun y hy => ?_, by rw [List.length_append]; omega, by rw [List.length_append]; omega, (ha3.trans g3).trans s9⟩
        · rcases List.mem_append.mp hy with h | h
          · exact s9 _ _ (g3 _ _ (ha2 y h))
          · exact s9 _ _ (g2 y h)
        · rcases List.mem_append.mp hy with h | h
          · exact hoff y h
          · exact g4 y h
    · rintro σ H8 ⟨fo, t, v2, rfl, ha1, ha2, hoff, ht4, htl, ha3⟩
      exact ⟨_, rfl, k fo t H8 ha3 ha1 ha2 hoff (by omega) (by omega)⟩
end
end Om

/-! sorted(t), t a tuple of pairs of ints -/
namespace Om
open PySem PySem.Spec PyProof.Rows L2 Srt
section
variable {X : Cx}
def rSortedPU (K : PySem.W.Frag) : List V → Hp → VK → Prop := fun vs H Q => ∃ (a : Addr) (xs : List V), vs = [V.ref a] ∧ SqT K H a xs ∧ (∀ x ∈ xs, ∃ (t : Addr) (i j : Int), x = V.ref t ∧ H t = some (.tup [.int i, .int j])) ∧
  ∀ (ys : List V) (p : Addr), ys.Perm xs → H p = none → Q (.ref p) (upd H p (.lst ys))
theorem cr_sortedPU : CallR X (.builtin "sorted") (rSortedPU X.K) := by
  intro pins s σ H vs us Q I r h
  obtain ⟨a, xs, rfl, hs, hx, q⟩ := h
  obtain ⟨its, rv, hl, hz⟩ := I.tuple hs
  obtain ⟨u, rfl, ru⟩ := vals1 r
  obtain rfl : u = Value.ref a := ru
  obtain ⟨e1, e2⟩ := refs_back rv fun x m => by
    obtain ⟨t, _, _, e, _⟩ := hx x m
    exact ⟨t, e⟩
  obtain ⟨o, ho, hc, n, hd⟩ := hl
  have hzi : its.length ≤ sizeLine := by rw [← rv.length]; exact hz
  refine Calls.call_function_entry kind_sorted plain_sorted entry_sorted (args_sorted1 _) ?_
  unfold Builtin.«sorted»
  refine wpAny_bind (m := checkCount "sorted" 1 1 _) (wpAny_pure ?_)
  refine wpAny_bind (wpAny_collect_seq a (.inr rfl) ho hc hd (fun h' hk => ?_) (by rw [List.size_toArray]; exact hzi))
  show wpAny _ _ _ _ _ _
  refine wpAny_bind (wpAny_newList ?_ hzi)
  have hoL : (h'.push (seqObj "list" its.toArray 0)).get? h'.objs.size = some (seqObj "list" its.toArray 0) := Heap.get?_push_size _ rfl
  have hk2 : ∀ b u, s.heap.get? b = some u → (h'.push (seqObj "list" its.toArray 0)).get? b = some u := fun b u e => Heap.get?_push_of_some _ (hk b u e)
  have pr : ∀ v ∈ its, ∃ x y, IsPair (h'.push (seqObj "list" its.toArray 0)) v x y := fun v hv => by
    obtain ⟨t, rfl⟩ := e2 v hv
    have hm : V.ref t ∈ xs := by rw [e1]; exact List.mem_map.mpr ⟨_, hv, rfl⟩
    obtain ⟨t', i, j, e, ht⟩ := hx _ hm
    cases e
    obtain ⟨_, its2, r2, o2, ho2, hc2, n2, hd2⟩ := I.hok _ _ ht
    obtain ⟨u1, u2, rfl, ri, rj⟩ := vals2 r2
    obtain ⟨t1, rfl⟩ := ri
    obtain ⟨t2, rfl⟩ := rj
    exact ⟨i, j, t, o2, t1, t2, n2, rfl, hk2 _ _ ho2, hc2, hd2⟩
  refine wpAny_bind (wpAny_holding (wpAny_call_entry slot_list_sort ⟨_, hoL, rfl⟩ entry_list_sort (list_sort_any hoL hzi (fun h2 => pairs_sortable (s := { s with heap := h'.push (seqObj "list" its.toArray 0) }) (by omega) pr fun o' e => ?_) fun out hp => ⟨_, rfl, ?_⟩) (args_list_sort _)))
  · have e' : some o' = some (seqObj "list" its.toArray 0) := e.symm.trans hoL
    cases e'
    intro c
    exact absurd (Value.type.inj c) (by decide)
  · have h3 : ∀ u ∈ out, ∃ a, u = Value.ref a := fun u hu => e2 u (hp.mem_iff.mp hu)
    obtain ⟨c, hcp⟩ := sortedHeap_at (vs := its) (out := out.toArray) hoL
    have hgone : s.heap.get? h'.objs.size = none := by
      cases eg : s.heap.get? h'.objs.size with
      | none => rfl
      | some u => exact absurd (Heap.lt_size (hk _ _ eg)) (Nat.lt_irrefl _)
    have hn2 : H h'.objs.size = none := I.hok.gone hgone
    have kp : ∀ b u, s.heap.get? b = some u → (sortedHeap (h'.push (seqObj "list" its.toArray 0)) h'.objs.size its out.toArray).get? b = some u := fun b u eb => by
      have hlt := Heap.lt_size (hk b u eb)
      rw [sortedHeap_old (Nat.ne_of_lt hlt) (by rw [size_push']; exact Nat.lt_succ_of_lt hlt)]
      exact hk2 b u eb
    refine wpAny_pure ⟨_, rfl, .ref h'.objs.size, upd H h'.objs.size (.lst (out.map backV)), I.laidN (t' := s.toks) kp hgone hn2 ⟨?_, out, c, vals_back h3, hcp⟩, rfl, q _ _ ?_ hn2⟩
    · rw [List.length_map, hp.length_eq]; exact hzi
    · rw [e1]; exact hp.map _
end
end Om

/-! lambdas in lists: what they are told by; _law_unknown's nine -/
namespace Om
open PySem PySem.Spec PyProof.Rows L2 LamX NdefX
theorem SqT.ext {K : PySem.W.Frag} {H H' : Hp} {a : Addr} {xs : List V} (k : ExtN H H') (h : SqT K H a xs) : SqT K H' a xs := by
  rcases h with (h | ⟨o, h⟩) | h
  · exact .inl (.inl (k _ _ h fun ps e => by cases e))
  · exact .inl (.inr ⟨o, k _ _ h fun ps e => by cases e⟩)
  · exact .inr h
theorem Isl.ext {K : PySem.W.Frag} {CI : Addr} {H H' : Hp} {a : Addr} {rows : List (List Nat)} (h : Isl K CI H a rows) (k : ExtN H H') : Isl K CI H' a rows := by
  obtain ⟨dx, p, hp, hS⟩ := h
  exact ⟨dx, p, k _ _ hp (fun ps e => by cases e), SqT.ext k hS⟩
theorem Same.extN {H H' : Hp} (s : Same H H') : ExtN H H' := fun b o h _ => s _ _ h
theorem opCatAK {X : Cx} {K : PySem.W.Frag} (hK : X.K = K) : OpR X (binaryOp .Add) (rCatA K) := by
  subst hK
  exact op_catA
theorem tupOfK {X : Cx} {K : PySem.W.Frag} (hK : X.K = K) : CallR X (.type "tuple") (fun xs H Q => ∃ p ys, xs = [.ref p] ∧ ((SqL K H p ys ∧ ∀ l, H l = none → Q (.ref l) (upd H l (.tup ys))) ∨ (SqT K H p ys ∧ Q (.ref p) H))) := by
  subst hK
  exact call_tuple_of
theorem sortUK {X : Cx} {K : PySem.W.Frag} (hK : X.K = K) : CallR X (.builtin "sorted") (rSortedPU K) := by
  subst hK
  exact cr_sortedPU
abbrev sUnk : Stmt := top 45
abbrev sLaw : Stmt := top 46
def elE (e : Expr) (i : Nat) : Expr := match e with
  | .List l _ => l.getD i e
  | e => e
def binRt (e : Expr) : Expr := match e with
  | .BinOp _ _ r _ => r
  | e => e
def stArg (s : Stmt) : Expr := match s with
  | .Expr (.Call _ [e] _ _) _ => e
  | _ => .Constant .none 0 ⟨0, 0, 0, 0⟩
def lmP (e : Expr) : Arguments := match e with
  | .Lambda p _ _ _ => p
  | _ => defArgs sLaw
def lmB (e : Expr) : Expr := match e with
  | .Lambda _ b _ _ => b
  | e => e
def lmS (e : Expr) : Scope := match e with
  | .Lambda _ _ s _ => s
  | _ => defScope sLaw
theorem upd_keep {H : Hp} {wk : Addr} {xs : List V} {o' : HO} (hw : H wk = some (.lst xs)) {b : Addr} {o : HO} (h : H b = some o) (n : ∀ ys, o ≠ .lst ys) : (upd H wk o') b = some o := by
  rw [upd_ne (ne_of h hw (n _))]
  exact h
/-- what a lambda comes to -/
inductive Oc where
  | err (j : Nat)
  | dig (i : Nat)
  | ret (v : V)
abbrev LZ := Expr × Option Int × Oc
def OcK (C : Nat → Addr) (H : Hp) (Ex : XK) (Q : VK) : Oc → Prop
  | .err j => ∀ H', Same H H' → Ex (.ref (C j)) none H'
  | .dig i => ∀ d H', H d = none → Same H H' → H' d = some (.xd (xdIM (.int (i : Nat)))) → Ex (.ref (C 3)) (some d) H'
  | .ret v => ∀ H', Same H H' → Q v H'
theorem OcK.same {C : Nat → Addr} {H H' : Hp} {Ex : XK} {Q : VK} {o : Oc} (h : OcK C H Ex Q o) (s : Same H H') : OcK C H' Ex Q o := by
  cases o with
  | err j => exact fun H2 s2 => h H2 (s.trans s2)
  | dig i => exact fun d H2 n s2 e => h d H2 (Same.free s n) (s.trans s2) e
  | ret v => exact fun H2 s2 => h H2 (s.trans s2)
/-- a lambda of X's comes to that, where G stands -/
def LF (X : Cx) (k : Nat) (C : Nat → Addr) (G : L2.St → Hp → Prop) (z : LZ) : Prop := ∃ tb : XK → TE, LamB X k (lmP z.1) (lmB z.1) (lmS z.1) z.2.1 tb ∧ ∀ (σ : L2.St) (H : Hp) (Ex : XK) (Q : VK), G σ H → OcK C H Ex Q z.2.2 → tb Ex σ H Q
abbrev leX (X : Cx) (z : LZ) : Addr → LE := leOf X.env.cells X.env.qual (lmP z.1) (lmB z.1) (lmS z.1)
theorem LamK.app {H : Hp} {wk f : Addr} {F : Addr → LE} {d : Option Int} {xs : List V} {o' : HO} (h : LamK H f F d) (hw : H wk = some (.lst xs)) : LamK (upd H wk o') f F d := by
  obtain ⟨c', h1, h2⟩ := h
  refine ⟨c', ?_, upd_keep hw h2 fun ys e => by unfold CodeO at e; cases e⟩
  cases d with
  | none => exact upd_keep hw h1 fun ys e => by unfold FnE at e; cases e
  | some i =>
    obtain ⟨D, k1, k2⟩ := h1
    exact ⟨D, upd_keep hw k1 (fun ys e => by unfold FnE1 at e; cases e), upd_keep hw k2 fun ys e => by unfold TupI at e; cases e⟩
structure LA (X : Cx) (H : Hp) (fs : List Addr) (zs : List LZ) : Prop where
  len : fs.length = zs.length
  k : ∀ (i : Nat) (f : Addr) (z : LZ), fs[i]? = some f → zs[i]? = some z → LamK H f (leX X z) z.2.1
section
variable {X : Cx} {H H' : Hp} {fs : List Addr} {zs : List LZ}
theorem LA.nil : LA X H [] [] := ⟨rfl, fun i f z h => by cases h⟩
theorem LA.ext (a : LA X H fs zs) (k : ExtN H H') : LA X H' fs zs := ⟨a.len, fun i f z h1 h2 => (a.k i f z h1 h2).ext k⟩
theorem LA.app {wk : Addr} {xs : List V} {o' : HO} (a : LA X H fs zs) (hw : H wk = some (.lst xs)) : LA X (upd H wk o') fs zs := ⟨a.len, fun i f z h1 h2 => (a.k i f z h1 h2).app hw⟩
theorem LA.snoc {f : Addr} {z : LZ} (a : LA X H fs zs) (h : LamK H f (leX X z) z.2.1) : LA X H (fs ++ [f]) (zs ++ [z]) := by
  refine ⟨by rw [List.length_append, List.length_append, a.len]; rfl, fun i f' z' h1 h2 => ?_⟩
  rw [List.getElem?_append] at h1 h2
  rw [a.len] at h1
  split at h1
  · rename_i hi
    rw [if_pos hi] at h2
    exact a.k i f' z' h1 h2
  · rename_i hi
    rw [if_neg hi] at h2
    have e : i - zs.length = 0 := by
      have := (List.getElem?_eq_some_iff.mp h1).1
      rw [List.length_singleton] at this
      omega
    rw [e] at h1 h2
    cases h1
    cases h2
    exact h
end
/-! ### _law_unknown -/
def W12 : List (List Nat) := [List.replicate 12 46]
def lU (i : Nat) : Expr := match i with
  | 1 => elE (asgExpr ((defBody sUnk).getD 1 noS)) 0
  | 2 => elE (binRt (asgExpr ((defBody sUnk).getD 2 noS))) 0
  | 3 => elE (binRt (asgExpr ((defBody sUnk).getD 2 noS))) 1
  | 4 => stArg ((defBody sUnk).getD 3 noS)
  | 5 => elE (asgExpr ((defBody sUnk).getD 5 noS)) 0
  | 6 => elE (asgExpr ((defBody sUnk).getD 5 noS)) 1
  | 7 => elE (binRt (asgExpr ((defBody sUnk).getD 6 noS))) 0
  | 8 => elE (binRt (asgExpr ((defBody sUnk).getD 6 noS))) 1
  | _ => stArg ((defBody sUnk).getD 7 noS)
abbrev nUn : List Str := ["_law_island", "_law_spots", "_law_odd", "_law_bad", "_law_digs", "_law_works", "_law_cell", "_law_ten", "_law_wide", "_law_work", "_law_k"]
abbrev pUn : List Str := ["_law_island", "_law_spots", "_law_odd", "_law_bad", "_law_digs"]
theorem scUn : FnScope nUn pUn (defScope sUnk) := ⟨rfl, rfl, rfl, by decide +kernel, rfl, by decide +kernel, by decide +kernel⟩
theorem lgU1 : LamG nUn (defScope sUnk) (lmS (lU 1)) [] := lamG_by (by decide +kernel)
theorem lgU2 : LamG nUn (defScope sUnk) (lmS (lU 2)) ["_law_a"] := lamG_by (by decide +kernel)
theorem lgU3 : LamG nUn (defScope sUnk) (lmS (lU 3)) ["_law_b"] := lamG_by (by decide +kernel)
theorem lgU4 : LamG nUn (defScope sUnk) (lmS (lU 4)) ["_law_c"] := lamG_by (by decide +kernel)
theorem lgU5 : LamG nUn (defScope sUnk) (lmS (lU 5)) [] := lamG_by (by decide +kernel)
theorem lgU6 : LamG nUn (defScope sUnk) (lmS (lU 6)) ["_law_a"] := lamG_by (by decide +kernel)
theorem lgU7 : LamG nUn (defScope sUnk) (lmS (lU 7)) ["_law_b"] := lamG_by (by decide +kernel)
theorem lgU8 : LamG nUn (defScope sUnk) (lmS (lU 8)) ["_law_c"] := lamG_by (by decide +kernel)
theorem lgU9 : LamG nUn (defScope sUnk) (lmS (lU 9)) ["_law_d"] := lamG_by (by decide +kernel)
def TT2 (Pl Pu : Addr) : List (Addr × Str) := [(Pl, (envOfC "law" (defScope sLaw) 0 0 .none).qual ++ "<lambda>"), (Pu, (envOfC "_law_unknown" (defScope sUnk) 0 0 .none).qual ++ "<lambda>")]
/-- the refusals -/
structure PX (P : Program) (w : World) (K : PySem.W.Frag) (mg : Str → Option Value) (base : Heap) (CI : Addr) (C : Nat → Addr) : Prop where
  lax : Cal P w K mg base (L2.CX P w) 7 "left_after" n4 (spLBX K CI (C 0) (C 1) (C 3))
  fwx : Cal P w K mg base (L2.CX P w) 7 "first_wrong" n4 (spLBX K CI (C 0) (C 1) (C 3))
  ndx : Cal P w K mg base (L2.CX P w) 6 "next_dig" ["island", "places", "rule"] (spNDX K CI (C 0) (C 1))
  fdx : Cal P w K mg base (L2.CX P w) 6 "fewest_digs" ["island", "places", "rule"] (spFDX K CI (C 0) (C 1) (C 2))
  hnx : Cal P w K mg base (L2.CX P w) 3 "hint" ["rule", "cell", "place"] (spHintX K (C 1))
theorem CXs.same {H H' : Hp} {t : TX} (h : CXs H t) (s : Same H H') : CXs H' t := fun p hp => s _ _ (h p hp)
theorem CXs.ext {H H' : Hp} {t : TX} (h : CXs H t) (k : ExtN H H') : CXs H' t := fun p hp => k _ _ (h p hp) fun ps e => by cases e
theorem DTs.ext {K : PySem.W.Frag} {H H' : Hp} {ys : List V} {ds : List ((Int × Int) × Str)} (h : DTs K H ys ds) (k : ExtN H H') : DTs K H' ys ds := ⟨h.1, fun i y hy => by
  obtain ⟨t, ca, d, h1, h2, h3, h4⟩ := h.2 i y hy
  exact ⟨t, ca, d, h1, h2, SqT.ext k h3, SqT.ext k h4⟩⟩
theorem cts_of {K : PySem.W.Frag} {H : Hp} {t : TX} (h : CXs H t) : CTs K H (vx t) (t.map (·.2)) := ⟨by rw [vx_len, List.length_map], fun i x hx => by
  unfold vx at hx
  rw [List.getElem?_map] at hx
  obtain ⟨p, hp, rfl⟩ := Option.map_eq_some_iff.mp hx
  exact ⟨p.1, p.2, by rw [List.getElem?_map, hp]; rfl, rfl, .inl (.inl (h p (List.mem_of_getElem? hp)))⟩⟩
structure UG (K : PySem.W.Frag) (CI Pl Pu : Addr) (H : Hp) (xi sp oa bd dg ca te wi : Addr) (rows : List (List Nat)) (st tt : TX) (o : Int × Int) (n : Nm) (dv : List V) (ds : List ((Int × Int) × Str)) : Prop where
  I : Isl K CI H xi rows
  hs : H sp = some (.tup (vx st))
  cs : CXs H st
  ho : H oa = some (.tup [.int o.1, .int o.2])
  hb : H bd = some (.tup (nrV n))
  hd : H dg = some (.lst dv)
  dd : DTs K H dv ds
  Iw : Isl K CI H wi W12
  ht : H te = some (.tup (vx tt))
  ct : CXs H tt
  T : Tabs (TT2 Pl Pu) H
structure UP (rows : List (List Nat)) (st tt : TX) (o : Int × Int) (n : Nm) : Prop where
  g : Good2 rows
  h9 : rows.length ≤ 9
  land : ∀ p ∈ st, hasC rows p.2.1 p.2.2 = true
  few : st.length ≤ 10
  off : hasC rows o.1 o.2 = false
  bad : inN n 1 22 = false
  tl : ∀ p ∈ tt, hasC W12 p.2.1 p.2.2 = true
  tn : tt.length ≤ 10
theorem good12 : Good2 W12 := ((⟨by decide, by decide, 12, by decide, by decide, by unfold okSign; decide +kernel⟩ : RowsOk 12 W12).vd (by decide)).toGood2
theorem UP.no {rows : List (List Nat)} {st tt : TX} {o : Int × Int} {n : Nm} (p : UP rows st tt o n) : ¬ offC rows (st.map (·.2)) := fun ⟨c, hc, e⟩ => by
  obtain ⟨x, hx, rfl⟩ := List.mem_map.mp hc
  rw [p.land x hx] at e
  cases e
theorem UP.no12 {rows : List (List Nat)} {st tt : TX} {o : Int × Int} {n : Nm} (p : UP rows st tt o n) : ¬ offC W12 (tt.map (·.2)) := fun ⟨c, hc, e⟩ => by
  obtain ⟨x, hx, rfl⟩ := List.mem_map.mp hc
  rw [p.tl x hx] at e
  cases e
section
variable {K : PySem.W.Frag} {CI Pl Pu : Addr} {H H' : Hp} {xi sp oa bd dg ca te wi : Addr} {rows : List (List Nat)} {st tt : TX} {o : Int × Int} {n : Nm} {dv : List V} {ds : List ((Int × Int) × Str)}
theorem UG.ext (g : UG K CI Pl Pu H xi sp oa bd dg ca te wi rows st tt o n dv ds) (T' : Tabs (TT2 Pl Pu) H') (k : ExtN H H') : UG K CI Pl Pu H' xi sp oa bd dg ca te wi rows st tt o n dv ds where
  I := g.I.ext k
  hs := k _ _ g.hs fun ps e => by cases e
  cs := g.cs.ext k
  ho := k _ _ g.ho fun ps e => by cases e
  hb := k _ _ g.hb fun ps e => by cases e
  hd := k _ _ g.hd fun ps e => by cases e
  dd := g.dd.ext k
  Iw := g.Iw.ext k
  ht := k _ _ g.ht fun ps e => by cases e
  ct := g.ct.ext k
  T := T'
theorem UG.same (g : UG K CI Pl Pu H xi sp oa bd dg ca te wi rows st tt o n dv ds) (s : Same H H') : UG K CI Pl Pu H' xi sp oa bd dg ca te wi rows st tt o n dv ds := g.ext (g.T.ext s) (Same.extN s)
end
/-- where the lambdas of _law_unknown are called -/
def GU (K : PySem.W.Frag) (CI Pl Pu : Addr) (σ : L2.St) (H : Hp) : Prop := ∃ (xi sp oa bd dg ca te wi : Addr) (rows : List (List Nat)) (st tt : TX) (o : Int × Int) (n : Nm) (dv : List V) (ds : List ((Int × Int) × Str)) (v5 v9 v10 : Option V),
  σ = [some (.ref xi), some (.ref sp), some (.ref oa), some (.ref bd), some (.ref dg), v5, some (.ref ca), some (.ref te), some (.ref wi), v9, v10] ∧ UG K CI Pl Pu H xi sp oa bd dg ca te wi rows st tt o n dv ds ∧ UP rows st tt o n
section
variable {P : Program} {w : World} {K : PySem.W.Frag} {mg : Str → Option Value} {base : Heap} {CI Pl Pu c f : Addr} {C : Nat → Addr} {A : Around} {outer : List Env} {s : Shared} {H0 : Hp} {E : XK}
abbrev uX (P : Program) (w : World) (K : PySem.W.Frag) (mg : Str → Option Value) (base : Heap) (f c : Addr) (A : Around) (outer : List Env) (s : Shared) (H0 : Hp) (E : XK) : Cx := (cxOf CX0 P w K mg base nUn "_law_unknown" (defScope sUnk) f (.ref c) A outer s H0 E).nox
theorem lu2 (PP : PX P w K mg base CI C) : LF (uX P w K mg base f c A outer s H0 E) 8 C (GU K CI Pl Pu) (lU 2, some 0, .err 0) := by
  refine ⟨fun E => _, ⟨⟨["_law_a"], lgU2, "_law_a", List.mem_cons_self, fun _ _ _ _ _ _ _ => ⟨_, rfl, rfl⟩⟩, fun A outer s H E f c' hrb => pe_cal PP.ndx (hrb.mono (by decide)) (passes_call (W := fun cls d _ H => E cls d H) (takes_of rfl rfl rfl rfl) fun _ _ _ _ h => h) (pa_cons (pv 0) (pa_cons (pe_tup (pa_cons (pv 2) pa_nil)) (pa_cons (pv 3) pa_nil)))⟩, ?_⟩
  rintro σ H Ex Q ⟨xi, sp, oa, bd, dg, ca, te, wi, rows, st, tt, o, n, dv, ds, v5, v9, v10, rfl, g, p⟩ k
  refine ⟨_, rfl, _, rfl, by show 1 ≤ sizeLine; decide, fun t ht => ⟨_, rfl, nilArgs ?_⟩⟩
  have s1 := Same.new (Same.refl H) ht (o := .tup [.ref oa])
  have e1 : (upd H t (.tup [.ref oa])) t = some (.tup (vx [(oa, o)])) := upd_same
  generalize upd H t (.tup [.ref oa]) = H1 at s1 e1 ⊢
  have g1 := g.same s1
  refine ⟨xi, t, bd, rows, vx [(oa, o)], [o], rfl, g1.I, p.g, .inl (.inl e1), cts_of (t := [(oa, o)]) (fun y hy => by rw [List.mem_singleton.mp hy]; exact g1.ho), fun _ H' s' => k H' (s1.trans s'), fun h => absurd ⟨o, List.mem_cons_self, p.off⟩ h⟩
theorem lu3 (PP : PX P w K mg base CI C) : LF (uX P w K mg base f c A outer s H0 E) 8 C (GU K CI Pl Pu) (lU 3, some 0, .err 0) := by
  refine ⟨fun E => _, ⟨⟨["_law_b"], lgU3, "_law_b", List.mem_cons_self, fun _ _ _ _ _ _ _ => ⟨_, rfl, rfl⟩⟩, fun A outer s H E f c' hrb => pe_cal PP.fwx (hrb.mono (by decide)) (passes_call (W := fun cls d _ H => E cls d H) (takes_of rfl rfl rfl rfl) fun _ _ _ _ h => h) (pa_cons (pv 0) (pa_cons (pe_tup (pa_cons (pv 2) pa_nil)) (pa_cons (pv 3) (pa_cons (pv 4) pa_nil))))⟩, ?_⟩
  rintro σ H Ex Q ⟨xi, sp, oa, bd, dg, ca, te, wi, rows, st, tt, o, n, dv, ds, v5, v9, v10, rfl, g, p⟩ k
  refine ⟨_, rfl, _, rfl, by show 1 ≤ sizeLine; decide, fun t ht => ⟨_, rfl, _, rfl, nilArgs ?_⟩⟩
  have s1 := Same.new (Same.refl H) ht (o := .tup [.ref oa])
  have e1 : (upd H t (.tup [.ref oa])) t = some (.tup (vx [(oa, o)])) := upd_same
  generalize upd H t (.tup [.ref oa]) = H1 at s1 e1 ⊢
  have g1 := g.same s1
  refine ⟨xi, t, bd, dg, rfl, rows, vx [(oa, o)], [o], dv, ds, g1.I, p.g, .inl (.inl e1), cts_of (t := [(oa, o)]) (fun y hy => by rw [List.mem_singleton.mp hy]; exact g1.ho), .inl (.inl g1.hd), g1.dd, fun _ H' s' => k H' (s1.trans s'), fun h => absurd ⟨o, List.mem_cons_self, p.off⟩ h⟩
theorem lu6 (PP : PX P w K mg base CI C) : LF (uX P w K mg base f c A outer s H0 E) 8 C (GU K CI Pl Pu) (lU 6, some 0, .err 1) := by
  refine ⟨fun E => _, ⟨⟨["_law_a"], lgU6, "_law_a", List.mem_cons_self, fun _ _ _ _ _ _ _ => ⟨_, rfl, rfl⟩⟩, fun A outer s H E f c' hrb => pe_cal PP.ndx (hrb.mono (by decide)) (passes_call (W := fun cls d _ H => E cls d H) (takes_of rfl rfl rfl rfl) fun _ _ _ _ h => h) (pa_cons (pv 0) (pa_cons (pv 1) (pa_cons (pv 3) pa_nil)))⟩, ?_⟩
  rintro σ H Ex Q ⟨xi, sp, oa, bd, dg, ca, te, wi, rows, st, tt, o, n, dv, ds, v5, v9, v10, rfl, g, p⟩ k
  exact ⟨_, rfl, _, rfl, _, rfl, xi, sp, bd, rows, vx st, st.map (·.2), rfl, g.I, p.g, .inl (.inl g.hs), cts_of g.cs, fun h => absurd h p.no, fun _ => ⟨n, .inl (.inl g.hb), p.bad, k⟩⟩
theorem lu7 (PP : PX P w K mg base CI C) : LF (uX P w K mg base f c A outer s H0 E) 8 C (GU K CI Pl Pu) (lU 7, some 0, .err 1) := by
  refine ⟨fun E => _, ⟨⟨["_law_b"], lgU7, "_law_b", List.mem_cons_self, fun _ _ _ _ _ _ _ => ⟨_, rfl, rfl⟩⟩, fun A outer s H E f c' hrb => pe_cal PP.fdx (hrb.mono (by decide)) (passes_call (W := fun cls d _ H => E cls d H) (takes_of rfl rfl rfl rfl) fun _ _ _ _ h => h) (pa_cons (pv 8) (pa_cons (pv 7) (pa_cons (pv 3) pa_nil)))⟩, ?_⟩
  rintro σ H Ex Q ⟨xi, sp, oa, bd, dg, ca, te, wi, rows, st, tt, o, n, dv, ds, v5, v9, v10, rfl, g, p⟩ k
  exact ⟨_, rfl, _, rfl, _, rfl, wi, te, bd, W12, vx tt, tt.map (·.2), rfl, g.Iw, good12, .inl (.inl g.ht), cts_of g.ct, fun h => absurd h p.no12, fun _ => .inr ⟨n, .inl (.inl g.hb), p.bad, k⟩⟩
theorem lu8 (PP : PX P w K mg base CI C) : LF (uX P w K mg base f c A outer s H0 E) 8 C (GU K CI Pl Pu) (lU 8, some 0, .err 1) := by
  refine ⟨fun E => _, ⟨⟨["_law_c"], lgU8, "_law_c", List.mem_cons_self, fun _ _ _ _ _ _ _ => ⟨_, rfl, rfl⟩⟩, fun A outer s H E f c' hrb => pe_cal PP.hnx (hrb.mono (by decide)) (passes_call (W := fun cls d _ H => E cls d H) (takes_of rfl rfl rfl rfl) fun _ _ _ _ h => h) (pa_cons (pv 3) (pa_cons (pv 2) (pa_cons (pv 6) pa_nil)))⟩, ?_⟩
  rintro σ H Ex Q ⟨xi, sp, oa, bd, dg, ca, te, wi, rows, st, tt, o, n, dv, ds, v5, v9, v10, rfl, g, p⟩ k
  exact ⟨_, rfl, _, rfl, _, rfl, bd, oa, ca, n, rfl, .inl (.inl g.hb), p.bad, k⟩
theorem lu9 (PP : PX P w K mg base CI C) : LF (uX P w K mg base f c A outer s H0 E) 8 C (GU K CI Pl Pu) (lU 9, some 0, .err 1) := by
  refine ⟨fun E => _, ⟨⟨["_law_d"], lgU9, "_law_d", List.mem_cons_self, fun _ _ _ _ _ _ _ => ⟨_, rfl, rfl⟩⟩, fun A outer s H E f c' hrb => pe_cal PP.fwx (hrb.mono (by decide)) (passes_call (W := fun cls d _ H => E cls d H) (takes_of rfl rfl rfl rfl) fun _ _ _ _ h => h) (pa_cons (pv 0) (pa_cons (pv 1) (pa_cons (pv 3) (pa_cons (pv 4) pa_nil))))⟩, ?_⟩
  rintro σ H Ex Q ⟨xi, sp, oa, bd, dg, ca, te, wi, rows, st, tt, o, n, dv, ds, v5, v9, v10, rfl, g, p⟩ k
  exact ⟨_, rfl, _, rfl, _, rfl, _, rfl, xi, sp, bd, dg, rfl, rows, vx st, st.map (·.2), dv, ds, g.I, p.g, .inl (.inl g.hs), cts_of g.cs, .inl (.inl g.hd), g.dd, fun h => absurd h p.no, fun _ => .inl ⟨n, .inl (.inl g.hb), p.bad, k⟩⟩
end
end Om

namespace Om
open PySem PySem.Spec PyProof.Rows L2 LamX NdefX
section
variable {P : Program} {w : World} {K : PySem.W.Frag} {mg : Str → Option Value} {base : Heap} {CI Pl Pu c f : Addr} {C : Nat → Addr} {A : Around} {outer : List Env} {s : Shared} {H0 : Hp} {E : XK}
theorem one_dts {K : PySem.W.Frag} {H : Hp} {dt oa : Addr} {o : Int × Int} {wd : Str} (h1 : H dt = some (.tup [.ref oa, .str wd])) (h2 : H oa = some (.tup [.int o.1, .int o.2])) : DTs K H [.ref dt] [(o, wd)] := ⟨rfl, fun i y hy => by
  cases i with
  | zero =>
    cases hy
    exact ⟨dt, oa, (o, wd), rfl, rfl, .inl (.inl h1), .inl (.inl h2)⟩
  | succ i => cases hy⟩
theorem lu5 (PP : PX P w K mg base CI C) : LF (uX P w K mg base f c A outer s H0 E) 8 C (GU K CI Pl Pu) (lU 5, none, .err 1) := by
  refine ⟨fun E => _, ⟨⟨[], lgU5, fun _ _ _ _ _ => rfl⟩, fun A outer s H E f c' hrb => pe_cal PP.lax (hrb.mono (by decide)) (passes_call (W := fun cls d _ H => E cls d H) (takes_of rfl rfl rfl rfl) fun _ _ _ _ h => h) (pa_cons (pv 0) (pa_cons (pv 1) (pa_cons (pv 3) (pa_cons (pe_lst (pa_cons (pe_tup (pa_cons (pv 2) (pa_cons pe_str pa_nil))) pa_nil)) pa_nil))))⟩, ?_⟩
  rintro σ H Ex Q ⟨xi, sp, oa, bd, dg, ca, te, wi, rows, st, tt, o, n, dv, ds, v5, v9, v10, rfl, g, p⟩ k
  refine ⟨_, rfl, _, rfl, _, rfl, _, rfl, by show 2 ≤ sizeLine; decide, fun dt hdt => ⟨by show 1 ≤ sizeLine; decide, fun dl hdl => nilArgs ?_⟩⟩
  have s1 := Same.new (Same.refl H) hdt (o := .tup [.ref oa, .str "odd"])
  have e1 : (upd H dt (.tup [.ref oa, .str "odd"])) dt = some (.tup [.ref oa, .str "odd"]) := upd_same
  generalize upd H dt (.tup [.ref oa, .str "odd"]) = H1 at s1 e1 hdl ⊢
  have s2 := Same.new (Same.refl H1) hdl (o := .lst [.ref dt])
  have e2 : (upd H1 dl (.lst [.ref dt])) dl = some (.lst [.ref dt]) := upd_same
  generalize upd H1 dl (.lst [.ref dt]) = H2 at s2 e2 ⊢
  have s12 := s1.trans s2
  have g2 := g.same s12
  exact ⟨xi, sp, bd, dl, rfl, rows, vx st, st.map (·.2), [.ref dt], [(o, "odd")], g2.I, p.g, .inl (.inl g2.hs), cts_of g2.cs, .inl (.inl e2), one_dts (s2 _ _ e1) g2.ho, fun h => absurd h p.no, fun _ => .inl ⟨n, .inl (.inl g2.hb), p.bad, fun H' s' => k H' (s12.trans s')⟩⟩
theorem lu1 (PP : PX P w K mg base CI C) (gsorted : mg "sorted" = none) (gtuple : mg "tuple" = none) : LF (uX P w K mg base f c A outer s H0 E) 8 C (GU K CI Pl Pu) (lU 1, none, .err 0) := by
  refine ⟨fun E => _, ⟨⟨[], lgU1, fun _ _ _ _ _ => rfl⟩, fun A outer s H E f c' hrb => pe_cal PP.lax (hrb.mono (by decide)) (passes_call (W := fun cls d _ H => E cls d H) (takes_of rfl rfl rfl rfl) fun _ _ _ _ h => h) (pa_cons (pv 0) (pa_cons
      (pe_callTy (tupOfK (K := K) rfl) (by rfl) gtuple (by decide +kernel) (pa_cons (pe_callB (sortUK (K := K) rfl) (by rfl) gsorted (by decide +kernel) (pa_cons (pe_op (opCatAK (K := K) rfl) (pv 1) (pe_tup (pa_cons (pv 2) pa_nil))) pa_nil)) pa_nil))
      (pa_cons (pv 3) (pa_cons (pe_lst (pa_cons (pe_tup (pa_cons (pv 2) (pa_cons pe_str pa_nil))) pa_nil)) pa_nil))))⟩, ?_⟩
  rintro σ H Ex Q ⟨xi, sp, oa, bd, dg, ca, te, wi, rows, st, tt, o, n, dv, ds, v5, v9, v10, rfl, g, p⟩ k
  have few := p.few
  refine ⟨_, rfl, _, rfl, _, rfl, by show 1 ≤ sizeLine; decide, fun t ht => ?_⟩
  have s1 := Same.new (Same.refl H) ht (o := .tup [.ref oa])
  have e1 : (upd H t (.tup [.ref oa])) t = some (.tup (vx [(oa, o)])) := upd_same
  generalize upd H t (.tup [.ref oa]) = H1 at s1 e1 ⊢
  have g1 := g.same s1
  refine catA_read (.inl (.inl g1.hs)) (.inl (.inl e1)) (Nat.le_of_lt (Nat.lt_of_le_of_lt (show _ ≤ 100 by rw [vx_len]; show st.length + 1 ≤ 100; omega) (by decide))) fun p2 H2 s2 h2 => nilArgs ?_
  rw [← vx_app] at h2
  have s12 := s1.trans s2
  have g2 := g.same s12
  have c2 : CXs H2 (st ++ [(oa, o)]) := fun y hy => by
    rcases List.mem_append.mp hy with h | h
    · exact g2.cs y h
    · rw [List.mem_singleton.mp h]
      exact g2.ho
  refine ⟨p2, _, rfl, h2, fun x hx => ?_, fun ys so hp hso => nilArgs ?_⟩
  · obtain ⟨y, hy, rfl⟩ := List.mem_map.mp hx
    exact ⟨y.1, y.2.1, y.2.2, rfl, c2 y hy⟩
  obtain ⟨st', hp', rfl⟩ := perm_of_map (fun p : Addr × (Int × Int) => V.ref p.1) hp _ rfl
  have s3 := Same.new (Same.refl H2) hso (o := .lst (vx st'))
  have e3 : (upd H2 so (.lst (vx st'))) so = some (.lst (vx st')) := upd_same
  show (fun (Hx : Hp) => _) (upd H2 so (.lst (vx st')))
  have ev : (st'.map fun p : Addr × (Int × Int) => V.ref p.1) = vx st' := rfl
  rw [ev]
  generalize upd H2 so (.lst (vx st')) = H3 at s3 e3 ⊢
  refine ⟨so, vx st', rfl, .inl ⟨.inl (.inl e3), fun tp htp => ?_⟩⟩
  have s4 := (s12.trans s3).trans (Same.new (Same.refl H3) htp (o := .tup (vx st')))
  have e4 : (upd H3 tp (.tup (vx st'))) tp = some (.tup (vx st')) := upd_same
  have c4 : CXs (upd H3 tp (.tup (vx st'))) st' := fun y hy => (Same.new (Same.refl H3) htp) _ _ (s3 _ _ (c2 y (hp'.mem_iff.mp hy)))
  generalize upd H3 tp (.tup (vx st')) = H4 at s4 e4 c4 ⊢
  refine ⟨_, rfl, _, rfl, by show 2 ≤ sizeLine; decide, fun dt hdt => ⟨by show 1 ≤ sizeLine; decide, fun dl hdl => nilArgs ?_⟩⟩
  have s5 := Same.new (Same.refl H4) hdt (o := .tup [.ref oa, .str "odd"])
  have e5 : (upd H4 dt (.tup [.ref oa, .str "odd"])) dt = some (.tup [.ref oa, .str "odd"]) := upd_same
  generalize upd H4 dt (.tup [.ref oa, .str "odd"]) = H5 at s5 e5 hdl ⊢
  have s6 := Same.new (Same.refl H5) hdl (o := .lst [.ref dt])
  have e6 : (upd H5 dl (.lst [.ref dt])) dl = some (.lst [.ref dt]) := upd_same
  generalize upd H5 dl (.lst [.ref dt]) = H6 at s6 e6 ⊢
  have s16 := s4.trans (s5.trans s6)
  have g6 := g.same s16
  have hoff : offC rows (st'.map (·.2)) := ⟨o, List.mem_map.mpr ⟨(oa, o), hp'.mem_iff.mpr (List.mem_append_right _ List.mem_cons_self), rfl⟩, p.off⟩
  exact ⟨xi, tp, bd, dl, rfl, rows, vx st', st'.map (·.2), [.ref dt], [(o, "odd")], g6.I, p.g, .inl (.inl ((s5.trans s6) _ _ e4)), cts_of (c4.same (s5.trans s6)), .inl (.inl e6), one_dts (s6 _ _ e5) g6.ho, fun _ H' s' => k H' (s16.trans s'), fun h => absurd hoff h⟩
theorem lu4 (PP : PX P w K mg base CI C) : LF (uX P w K mg base f c A outer s H0 E) 8 C (GU K CI Pl Pu) (lU 4, some 0, .err 0) := by
  refine ⟨fun E => _, ⟨⟨["_law_c"], lgU4, "_law_c", List.mem_cons_self, fun _ _ _ _ _ _ _ => ⟨_, rfl, rfl⟩⟩, fun A outer s H E f c' hrb => pe_cal PP.fdx (hrb.mono (by decide)) (passes_call (W := fun cls d _ H => E cls d H) (takes_of rfl rfl rfl rfl) fun _ _ _ _ h => h) (pa_cons (pv 0) (pa_cons (pe_op (opCatAK (K := K) rfl) (pv 7) (pe_tup (pa_cons (pe_tup (pa_cons pe_int (pa_cons pe_int pa_nil))) pa_nil))) (pa_cons (pv 3) pa_nil)))⟩, ?_⟩
  rintro σ H Ex Q ⟨xi, sp, oa, bd, dg, ca, te, wi, rows, st, tt, o, n, dv, ds, v5, v9, v10, rfl, g, p⟩ k
  have tn := p.tn
  refine ⟨_, rfl, _, rfl, by show 2 ≤ sizeLine; decide, fun q hq => ⟨by show 1 ≤ sizeLine; decide, fun t ht => ?_⟩⟩
  have s1 := Same.new (Same.refl H) hq (o := .tup [.int 9, .int 9])
  have e1 : (upd H q (.tup [.int 9, .int 9])) q = some (.tup [.int 9, .int 9]) := upd_same
  generalize upd H q (.tup [.int 9, .int 9]) = H1 at s1 e1 ht ⊢
  have s2 := Same.new (Same.refl H1) ht (o := .tup [.ref q])
  have e2 : (upd H1 t (.tup [.ref q])) t = some (.tup (vx [(q, (9, 9))])) := upd_same
  have e12 := s2 _ _ e1
  generalize upd H1 t (.tup [.ref q]) = H2 at s2 e2 e12 ⊢
  have s12 := s1.trans s2
  have g2 := g.same s12
  refine catA_read (.inl (.inl g2.ht)) (.inl (.inl e2)) (Nat.le_of_lt (Nat.lt_of_le_of_lt (show _ ≤ 100 by rw [vx_len]; show tt.length + 1 ≤ 100; omega) (by decide))) fun p2 H3 s3 h3 => ?_
  rw [← vx_app] at h3
  have s13 := s12.trans s3
  have g3 := g.same s13
  have c3 : CXs H3 (tt ++ [(q, (9, 9))]) := fun y hy => by
    rcases List.mem_append.mp hy with h | h
    · exact g3.ct y h
    · rw [List.mem_singleton.mp h]
      exact s3 _ _ e12
  have hoff : offC rows ((tt ++ [(q, ((9 : Int), (9 : Int)))]).map (·.2)) := by
    refine ⟨(9, 9), List.mem_map.mpr ⟨_, List.mem_append_right _ List.mem_cons_self, rfl⟩, ?_⟩
    have h9 := p.h9
    have ho : insd rows 9 9 = false := by
      unfold insd inR
      simp only [Bool.and_eq_false_iff, decide_eq_false_iff_not]
      left; right; omega
    show hasC rows 9 9 = false
    unfold hasC
    rw [ho]
    rfl
  exact ⟨_, rfl, nilArgs ⟨xi, p2, bd, rows, _, _, rfl, g3.I, p.g, h3, cts_of c3, fun _ H' s' => k H' (s13.trans s'), fun h => absurd hoff h⟩⟩
end
/-! ### a list of lambdas, each called -/
def outD : Oc → PyData
  | .err j => .str (nmF j)
  | .dig i => .tuple [.str "InvalidDig", .int (i : Nat)]
  | .ret (.int m) => .int m
  | .ret _ => .none
def OV (H : Hp) (v : V) : Oc → Prop
  | .err j => v = .str (nmF j)
  | .dig i => ∃ p, v = .ref p ∧ H p = some (.tup [.str "InvalidDig", .int (i : Nat)])
  | .ret x => v = x
def OcOk : Oc → Prop
  | .err j => j < 3
  | .dig _ => True
  | .ret x => x = .non ∨ ∃ m, x = .int m
theorem OV.keep {H H' : Hp} {v : V} {o : Oc} (h : OV H v o) (k : ∀ p vs, H p = some (.tup vs) → H' p = some (.tup vs)) : OV H' v o := by
  cases o with
  | err j => exact h
  | dig i =>
    obtain ⟨p, h1, h2⟩ := h
    exact ⟨p, h1, k _ _ h2⟩
  | ret x => exact h
theorem OV.dp {K : PySem.W.Frag} {H : Hp} {v : V} {o : Oc} (h : OV H v o) (ok : OcOk o) : Dp K H v (outD o) := by
  cases o with
  | err j =>
    have h : v = .str (nmF j) := h
    rw [h]
    exact .str _
  | dig i =>
    obtain ⟨p, rfl, h2⟩ := h
    exact .tup (.inl (.inl h2)) (.cons (.str _) (.cons (.int _) .nil))
  | ret x =>
    have h : v = x := h
    subst h
    rcases ok with rfl | ⟨m, rfl⟩
    · exact .non
    · exact .int _
/-- values as outcomes -/
def OVs (H : Hp) : List V → List Oc → Prop
  | [], [] => True
  | v :: vs, o :: os => OV H v o ∧ OVs H vs os
  | _, _ => False
theorem OVs.keep {H H' : Hp} (k : ∀ p vs, H p = some (.tup vs) → H' p = some (.tup vs)) : ∀ {vs : List V} {os : List Oc}, OVs H vs os → OVs H' vs os
  | [], [], _ => trivial
  | _ :: _, _ :: _, ⟨h1, h2⟩ => ⟨h1.keep k, OVs.keep k h2⟩
  | [], _ :: _, h => h.elim
  | _ :: _, [], h => h.elim
theorem OVs.len {H : Hp} : ∀ {vs : List V} {os : List Oc}, OVs H vs os → vs.length = os.length
  | [], [], _ => rfl
  | _ :: _, _ :: _, ⟨_, h2⟩ => by rw [List.length_cons, List.length_cons, OVs.len h2]
  | [], _ :: _, h => h.elim
  | _ :: _, [], h => h.elim
theorem OVs.snoc {H : Hp} {v : V} {o : Oc} (hv : OV H v o) : ∀ {vs : List V} {os : List Oc}, OVs H vs os → OVs H (vs ++ [v]) (os ++ [o])
  | [], [], _ => ⟨hv, trivial⟩
  | _ :: _, _ :: _, ⟨h1, h2⟩ => ⟨h1, OVs.snoc hv h2⟩
  | [], _ :: _, h => h.elim
  | _ :: _, [], h => h.elim
theorem OVs.dp {K : PySem.W.Frag} {H : Hp} : ∀ {vs : List V} {os : List Oc}, OVs H vs os → (∀ o ∈ os, OcOk o) → DpAll K H vs (os.map outD)
  | [], [], _, _ => .nil
  | _ :: _, _ :: _, ⟨h1, h2⟩, ok => .cons (h1.dp (ok _ List.mem_cons_self)) (OVs.dp h2 fun o h => ok o (List.mem_cons_of_mem _ h))
  | [], _ :: _, h, _ => h.elim
  | _ :: _, [], h, _ => h.elim
theorem lf_choose {X : Cx} {k : Nat} {C : Nat → Addr} {G : L2.St → Hp → Prop} {zs : List LZ} (h : ∀ z ∈ zs, LF X k C G z) : ∃ tbs : LZ → XK → TE, ∀ z ∈ zs, LamB X k (lmP z.1) (lmB z.1) (lmS z.1) z.2.1 (tbs z) ∧ ∀ (σ : L2.St) (H : Hp) (Ex : XK) (Q : VK), G σ H → OcK C H Ex Q z.2.2 → tbs z Ex σ H Q := by
  obtain ⟨tbs, htb⟩ := Classical.axiomOfChoice (r := fun (z : LZ) (tb : XK → TE) => z ∈ zs → LamB X k (lmP z.1) (lmB z.1) (lmS z.1) z.2.1 tb ∧ ∀ (σ : L2.St) (H : Hp) (Ex : XK) (Q : VK), G σ H → OcK C H Ex Q z.2.2 → tb Ex σ H Q) (fun z => by
    by_cases hz : z ∈ zs
    · obtain ⟨tb, h1, h2⟩ := h z hz
      exact ⟨tb, fun _ => ⟨h1, h2⟩⟩
    · exact ⟨fun _ _ _ _ => False, fun h' => absurd h' hz⟩)
  exact ⟨tbs, htb⟩
def jsOf (tbs : LZ → XK → TE) (zs : List LZ) : List LamJ := zs.map fun z => ⟨lmP z.1, lmB z.1, lmS z.1, z.2.1, tbs z⟩
theorem fails_wlk {X : Cx} {K : PySem.W.Frag} {C : Nat → Addr} {G : L2.St → Hp → Prop} {zs : List LZ} {tbs : LZ → XK → TE} {σ : L2.St} {H : Hp} {wk D : Addr} {fs : List Addr} {slot : Nat} {Fin : Hp → Prop} (hD : H D = none) (hs : slot < σ.length) (hw : H wk = some (.lst (fs.map V.ref))) (a : LA X H fs zs)
    (htb : ∀ z ∈ zs, ∀ (σ : L2.St) (H : Hp) (Ex : XK) (Q : VK), G σ H → OcK C H Ex Q z.2.2 → tbs z Ex σ H Q) (hG : ∀ H', Same H H' → G σ H') (hok : ∀ z ∈ zs, OcOk z.2.2) (hz : zs.length ≤ 50)
    (cont : ∀ H', Same H H' → Dp K H' (.ref D) (.list (zs.map fun z => outD z.2.2)) → Fin H') :
    ∃ W : Nat → Nat → Hp → Prop, (∃ m, W 0 m (upd H D (.lst []))) ∧ Wlk (Itl K wk) W Fin fun x H' Nx => gName slot x (wipe σ [slot]) H' fun σ2 H2 => wipe σ2 [slot] = wipe σ [slot] ∧ tYes σ2 H2 fun b H3 =>
      if b = true then (tGiveV X (jsOf tbs zs) (TFail C) slot σ σ2 H3 fun y H4 => ∃ acc, H4 D = some (.lst acc) ∧ acc.length < sizeLine ∧ Nx (upd H4 D (.lst (acc ++ [y])))) else Nx H3 := by
  refine wlk_it (walk_list (K := K) (a := wk) (xs := fs.map V.ref)) (fun i H1 => Same H H1 ∧ ∃ vs, H1 D = some (.lst vs) ∧ OVs H1 vs ((zs.take i).map (·.2.2))) ⟨Same.new (Same.refl H) hD, [], upd_same, by rw [List.take_zero]; trivial⟩ (fun i H1 _ z => .inl (.inl (z.1 _ _ hw))) ?_ ?_
  · rintro i x H5 H5' hi ⟨s5, vs, l5, o5⟩ ⟨rfl, hx⟩
    rw [List.getElem?_map] at hx
    obtain ⟨fa, hfa, rfl⟩ := Option.map_eq_some_iff.mp hx
    have hil : i < zs.length := by rw [← a.len]; exact (List.getElem?_eq_some_iff.mp hfa).1
    have hzz := List.getElem?_eq_getElem hil
    have hzm := List.getElem_mem hil
    generalize zs[i] = z at hzz hzm
    have lk := (a.k i fa z hfa hzz).ext (Same.extN s5)
    have lv := OVs.len o5
    rw [List.length_map, List.length_take] at lv
    have e1 : wipe σ [slot] = σ.set slot none := rfl
    refine ⟨by rw [e1]; show ((σ.set slot none).set slot (some (V.ref fa))).set slot none = σ.set slot none; rw [List.set_set, List.set_set], tyes ?_⟩
    refine ⟨fa, ⟨lmP z.1, lmB z.1, lmS z.1, z.2.1, tbs z⟩, by rw [e1]; show ((σ.set slot none).set slot (some (V.ref fa)))[slot]? = _; rw [List.getElem?_set_self (by rw [List.length_set]; exact hs)], List.mem_map.mpr ⟨z, hzm, rfl⟩, lk, ?_⟩
    have etk : (zs.take (i + 1)).map (·.2.2) = (zs.take i).map (·.2.2) ++ [z.2.2] := by
      rw [List.take_succ, hzz, List.map_append]
      rfl
    have put : ∀ (y : V) (H7 : Hp), Same H5' H7 → OV H7 y z.2.2 → ∃ acc, H7 D = some (.lst acc) ∧ acc.length < sizeLine ∧ (Same H (upd H7 D (.lst (acc ++ [y]))) ∧ ∃ vs, (upd H7 D (.lst (acc ++ [y]))) D = some (.lst vs) ∧ OVs (upd H7 D (.lst (acc ++ [y]))) vs ((zs.take (i + 1)).map (·.2.2))) := fun y H7 s7 hy => by
      have l7 := s7 _ _ l5
      refine ⟨vs, l7, Nat.lt_of_le_of_lt (show _ ≤ 100 by omega) (by decide), Same.updN (s5.trans s7) hD, vs ++ [y], upd_same, ?_⟩
      rw [etk]
      have kk : ∀ p us, H7 p = some (.tup us) → (upd H7 D (.lst (vs ++ [y]))) p = some (.tup us) := fun p us h => by
        rw [upd_ne (ne_of h l7 fun e => by cases e)]
        exact h
      exact OVs.snoc (hy.keep kk) ((o5.keep fun p us h => s7 _ _ h).keep kk)
    refine htb z hzm σ H5' _ _ (hG _ s5) ?_
    have okz := hok z hzm
    generalize z.2.2 = o at put okz
    cases o with
    | err j => exact fun H6 s6 => .mk okz fun H7 s7 => put _ H7 (s6.trans s7) rfl
    | dig i => exact fun d H6 hd s6 hx => .dig hx fun p H7 hp s7 h7 => put _ H7 (s6.trans s7) ⟨p, rfl, h7⟩
    | ret v => exact fun H6 s6 => put v H6 s6 rfl
  · rintro H5 ⟨s5, vs, l5, o5⟩
    rw [List.length_map, a.len, List.take_length] at o5
    refine cont H5 s5 (.lst (.inl (.inl l5)) ?_)
    have := OVs.dp (K := K) o5 fun o ho => by
      obtain ⟨z, hz, rfl⟩ := List.mem_map.mp ho
      exact hok z hz
    rw [List.map_map] at this
    exact this
end Om

/-! _law_unknown -/
namespace Om
open PySem PySem.Spec PyProof.Rows L2 LamX NdefX
def notE (e : Expr) : Expr := match e with
  | .UnaryOp _ x _ => x
  | e => e
def testE (s : Stmt) : Expr := match s with
  | .If t _ _ _ => t
  | _ => .Constant .none 0 ⟨0, 0, 0, 0⟩
def uT4L : Expr := arg0 (notE (testE ((defBody sUnk).getD 4 noS)))
def uT8L : Expr := arg0 (retExpr ((defBody sUnk).getD 8 noS))
theorem blkU4 : BlkOk nUn (defScope sUnk) (lcScope uT4L) [("_law_work", 9)] := blkOk_by (by decide +kernel)
theorem blkU8 : BlkOk nUn (defScope sUnk) (lcScope uT8L) [("_law_work", 9)] := blkOk_by (by decide +kernel)
def zsA : List LZ := [(lU 1, none, .err 0), (lU 2, some 0, .err 0), (lU 3, some 0, .err 0), (lU 4, some 0, .err 0)]
def zsB : List LZ := [(lU 5, none, .err 1), (lU 6, some 0, .err 1), (lU 7, some 0, .err 1), (lU 8, some 0, .err 1), (lU 9, some 0, .err 1)]
theorem okzA : ∀ z ∈ zsA, OcOk z.2.2 := by
  intro z hz
  simp only [zsA, List.mem_cons, List.not_mem_nil, or_false] at hz
  rcases hz with rfl | rfl | rfl | rfl <;> exact (by decide : (0 : Nat) < 3)
theorem okzB : ∀ z ∈ zsB, OcOk z.2.2 := by
  intro z hz
  simp only [zsB, List.mem_cons, List.not_mem_nil, or_false] at hz
  rcases hz with rfl | rfl | rfl | rfl | rfl <;> exact (by decide : (1 : Nat) < 3)
structure CalM (P : Program) (w : World) (K : PySem.W.Frag) (mg : Str → Option Value) (base : Heap) (CX : CXT) (k : Nat) (f : Addr) (ps : List Str) (sp : Sp) : Prop where
  ex : ∃ fd : FuncData, FnOk P w K mg base CX k f fd ps sp ∧ Binds K fd ps []
/-- what _law_unknown is told by -/
structure UPr (P : Program) (w : World) (K : PySem.W.Frag) (mg : Str → Option Value) (base : Heap) (CI C0 fN pm gt CM gF : Addr) (C : Nat → Addr) (fdF : FuncData) : Prop where
  px : PX P w K mg base CI C
  alk : Cal P w K mg base CX0 5 "_law_alike" ["_law_found", "_law_due"] (spAlike K 4)
  isl : IslF K mg CI fN
  mkI : CalM P w K mg base (L2.CX P w) 4 fN ["self", "rows"] (spIsl K CI C0)
  FF : FnP K "_law_fail" "_law_fail" sFail gF fdF
  hF : mg "_law_fail" = some (.ref gF)
  bF : Binds K fdF ["_law_work"] []
  fai : FailF K mg C CM
section
variable {P : Program} {w : World} {K : PySem.W.Frag} {mg : Str → Option Value} {base : Heap} {CI C0 fN pm gt CM gF Pl Pu c f : Addr} {C : Nat → Addr} {fdF : FuncData}
theorem allB (PX' : PX P w K mg base CI C) {A : Around} {outer : List Env} {s : Shared} {H0 : Hp} {E : XK} : ∀ z ∈ zsB, LF (uX P w K mg base f c A outer s H0 E) 8 C (GU K CI Pl Pu) z := by
  intro z hz
  simp only [zsB, List.mem_cons, List.not_mem_nil, or_false] at hz
  rcases hz with rfl | rfl | rfl | rfl | rfl
  · exact lu5 PX'
  · exact lu6 PX'
  · exact lu7 PX'
  · exact lu8 PX'
  · exact lu9 PX'
theorem allA (PX' : PX P w K mg base CI C) (gsorted : mg "sorted" = none) (gtuple : mg "tuple" = none) {A : Around} {outer : List Env} {s : Shared} {H0 : Hp} {E : XK} : ∀ z ∈ zsA, LF (uX P w K mg base f c A outer s H0 E) 8 C (GU K CI Pl Pu) z := by
  intro z hz
  simp only [zsA, List.mem_cons, List.not_mem_nil, or_false] at hz
  rcases hz with rfl | rfl | rfl | rfl
  · exact lu1 PX' gsorted gtuple
  · exact lu2 PX'
  · exact lu3 PX'
  · exact lu4 PX'
abbrev sU (xi sp oa bd dg ca te wi : Addr) (v5 v9 v10 : Option V) : L2.St := [some (.ref xi), some (.ref sp), some (.ref oa), some (.ref bd), some (.ref dg), v5, some (.ref ca), some (.ref te), some (.ref wi), v9, v10]
def uD8 : List Stmt := (defBody sUnk).drop 8
theorem unk_d8 (PP : UPr P w K mg base CI C0 fN pm gt CM gF C fdF) {A : Around} {outer : List Env} {s : Shared} {H0 : Hp} {E : XK} (hr : Room 10 (A.deeper (envOfC "_law_unknown" (defScope sUnk) s.heap.objs.size f (.ref c)))) :
    ∃ t, PSs (uX P w K mg base f c A outer s H0 E) uD8 t ∧
      ∀ (Dn : Ends) (xi sp oa bd dg ca te wi wk : Addr) (fs : List Addr) (rows : List (List Nat)) (st tt : TX) (o : Int × Int) (n : Nm) (dv : List V) (ds : List ((Int × Int) × Str)) (v9 v10 : Option V) (H : Hp), UG K CI Pl Pu H xi sp oa bd dg ca te wi rows st tt o n dv ds → UP rows st tt o n →
        H wk = some (.lst (fs.map V.ref)) → LA (uX P w K mg base f c A outer s H0 E) H fs zsB → (∀ H', Same H H' → Dn.rt (.bl true) H') → t Dn (sU xi sp oa bd dg ca te wi (some (.ref wk)) v9 v10) H := by
  have nd := scUn.nd
  have hr3 : Room 3 _ := hr.mono (by decide)
  have hr5 : Room 5 _ := hr.mono (by decide)
  obtain ⟨ocE, odE, dE, kE, docE, pmE, anE, cdE, ctE, oslE, rfl, lkE, hcE, _, _⟩ := PP.FF.ex
  obtain ⟨tbs, htb⟩ := lf_choose (allB (f := f) (c := c) (Pl := Pl) (Pu := Pu) PP.px (A := A) (outer := outer) (s := s) (H0 := H0) (E := E))
  refine ⟨_, pss_one (ps_ret (pe_cal PP.alk hr5 pass0 (pa_cons (pe_lcV (own := [("_law_work", 9)]) (g := gName 9) (te := tGiveV _ (jsOf tbs zsB) (TFail C) 9) rfl nd (pi_listK (K := K) rfl (pv 5)) blkU8 (fun _ _ _ _ _ => pg_name (i := 9) nd rfl (.inl rfl)) (fun _ _ _ _ _ => pts_nil)
        (fun _ _ _ _ _ => pev_give (k := 8) rfl PP.hF PP.FF.kp lkE hcE PP.bF scFail rfl (.inl rfl) (fail_gives PP.fai) hr hr3 (fun j hj => by
          obtain ⟨z, hz, rfl⟩ := List.mem_map.mp hj
          exact (htb z hz).1) rfl (.inl rfl))) (pa_cons (pe_op op_rep (pe_lst (pa_cons pe_str pa_nil)) pe_int) pa_nil)))), ?_⟩
  intro Dn xi sp oa bd dg ca te wi wk fs rows st tt o n dv ds v9 v10 H g p hw a kn
  refine ⟨_, rfl, wk, rfl, ⟨_, .inl (.inl hw)⟩, fun D hD => ?_⟩
  refine fails_wlk (K := K) (slot := 9) (σ := sU xi sp oa bd dg ca te wi (some (.ref wk)) v9 v10) (G := GU K CI Pl Pu) hD (by show 9 < 11; decide) hw a (fun z hz => (htb z hz).2) (fun H' s' => ⟨xi, sp, oa, bd, dg, ca, te, wi, rows, st, tt, o, n, dv, ds, _, _, _, rfl, g.same s', p⟩) okzB (by decide) fun H1 s1 d1 => ?_
  refine ⟨by show 1 ≤ sizeLine; decide, fun u1 hu1 => ?_⟩
  have s2 := Same.new (Same.refl H1) hu1 (o := .lst [.str "InvalidRule"])
  have e2 : (upd H1 u1 (.lst [.str "InvalidRule"])) u1 = some (.lst [.str "InvalidRule"]) := upd_same
  generalize upd H1 u1 (.lst [.str "InvalidRule"]) = H2 at s2 e2 ⊢
  refine ⟨u1, _, _, rfl, rfl, e2, by decide, by decide, by decide, fun u2 hu2 => nilArgs ?_⟩
  have s3 := Same.new (Same.refl H2) hu2 (o := .lst (List.replicate (5 : Int).toNat [V.str "InvalidRule"]).flatten)
  have e3 : (upd H2 u2 (.lst (List.replicate (5 : Int).toNat [V.str "InvalidRule"]).flatten)) u2 = some (.lst [V.str "InvalidRule", V.str "InvalidRule", V.str "InvalidRule", V.str "InvalidRule", V.str "InvalidRule"]) := upd_same
  generalize upd H2 u2 (.lst (List.replicate (5 : Int).toNat [V.str "InvalidRule"]).flatten) = H3 at s3 e3 ⊢
  have s23 := s2.trans s3
  exact ⟨_, _, _, rfl, Same.dp s23 d1, .lst (.inl (.inl e3)) (.cons (.str _) (.cons (.str _) (.cons (.str _) (.cons (.str _) (.cons (.str _) .nil))))), by decide +kernel, fun H4 s4 => kn H4 ((s1.trans s23).trans s4)⟩
end
end Om

namespace Om
open PySem PySem.Spec PyProof.Rows L2 LamX NdefX
theorem sqT_keep {K : PySem.W.Frag} {H : Hp} {wk a : Addr} {xs ys : List V} {o' : HO} (hw : H wk = some (.lst xs)) (h : SqT K H a ys) : SqT K (upd H wk o') a ys := by
  rcases h with (h | ⟨o, h⟩) | h
  · exact .inl (.inl (upd_keep hw h fun ys e => by cases e))
  · exact .inl (.inr ⟨o, upd_keep hw h fun ys e => by cases e⟩)
  · exact .inr h
theorem isl_keep {K : PySem.W.Frag} {CI : Addr} {H : Hp} {wk a : Addr} {xs : List V} {o' : HO} {rows : List (List Nat)} (hw : H wk = some (.lst xs)) (h : Isl K CI H a rows) : Isl K CI (upd H wk o') a rows := by
  obtain ⟨dx, p, hp, hS⟩ := h
  exact ⟨dx, p, upd_keep hw hp (fun ys e => by cases e), sqT_keep hw hS⟩
theorem dts_keep {K : PySem.W.Frag} {H : Hp} {wk : Addr} {xs ys : List V} {o' : HO} {ds : List ((Int × Int) × Str)} (hw : H wk = some (.lst xs)) (h : DTs K H ys ds) : DTs K (upd H wk o') ys ds := ⟨h.1, fun i y hy => by
  obtain ⟨t, ca, d, h1, h2, h3, h4⟩ := h.2 i y hy
  exact ⟨t, ca, d, h1, h2, sqT_keep hw h3, sqT_keep hw h4⟩⟩
theorem tabs_keep {T : List (Addr × Str)} {H : Hp} {wk : Addr} {xs : List V} {o' : HO} (hw : H wk = some (.lst xs)) (h : Tabs T H) : Tabs T (upd H wk o') := fun p hp => by
  obtain ⟨ps, q1, q2, q3⟩ := h p hp
  refine ⟨ps, upd_keep hw q1 (fun ys e => by cases e), q2, fun pos cv hc => ?_⟩
  obtain ⟨c0, w1, w2⟩ := q3 pos cv hc
  exact ⟨c0, w1, upd_keep hw w2 fun ys e => by unfold CodeO at e; cases e⟩
theorem UG.app {K : PySem.W.Frag} {CI Pl Pu : Addr} {H : Hp} {xi sp oa bd dg ca te wi wk : Addr} {rows : List (List Nat)} {st tt : TX} {o : Int × Int} {n : Nm} {dv xs : List V} {ds : List ((Int × Int) × Str)} {o' : HO} (g : UG K CI Pl Pu H xi sp oa bd dg ca te wi rows st tt o n dv ds) (hw : H wk = some (.lst xs)) (ne : wk ≠ dg) : UG K CI Pl Pu (upd H wk o') xi sp oa bd dg ca te wi rows st tt o n dv ds where
  I := isl_keep hw g.I
  hs := upd_keep hw g.hs fun ys e => by cases e
  cs := fun p hp => upd_keep hw (g.cs p hp) fun ys e => by cases e
  ho := upd_keep hw g.ho fun ys e => by cases e
  hb := upd_keep hw g.hb fun ys e => by cases e
  hd := by rw [upd_ne ne.symm]; exact g.hd
  dd := dts_keep hw g.dd
  Iw := isl_keep hw g.Iw
  ht := upd_keep hw g.ht fun ys e => by cases e
  ct := fun p hp => upd_keep hw (g.ct p hp) fun ys e => by cases e
  T := tabs_keep hw g.T
theorem tt2_u {Pl Pu : Addr} (ne : Pl ≠ Pu) : ∀ p ∈ TT2 Pl Pu, p.1 = Pu → p.2 = (envOfC "_law_unknown" (defScope sUnk) 0 0 .none).qual ++ "<lambda>" := fun p hp e => by
  rcases List.mem_cons.mp hp with rfl | hp
  · exact absurd e ne
  · rw [List.mem_singleton.mp hp]
theorem tt2_l {Pl Pu : Addr} (ne : Pl ≠ Pu) : ∀ p ∈ TT2 Pl Pu, p.1 = Pl → p.2 = (envOfC "law" (defScope sLaw) 0 0 .none).qual ++ "<lambda>" := fun p hp e => by
  rcases List.mem_cons.mp hp with rfl | hp
  · rfl
  · rw [List.mem_singleton.mp hp] at e
    exact absurd e.symm ne
theorem tt2_mu {Pl Pu : Addr} : (Pu, (envOfC "_law_unknown" (defScope sUnk) 0 0 .none).qual ++ "<lambda>") ∈ TT2 Pl Pu := List.mem_cons_of_mem _ List.mem_cons_self
theorem tt2_ml {Pl Pu : Addr} : (Pl, (envOfC "law" (defScope sLaw) 0 0 .none).qual ++ "<lambda>") ∈ TT2 Pl Pu := List.mem_cons_self
def uD5 : List Stmt := (defBody sUnk).drop 5
def uD4 : List Stmt := (defBody sUnk).drop 4
def uD1 : List Stmt := (defBody sUnk).drop 1
section
variable {P : Program} {w : World} {K : PySem.W.Frag} {mg : Str → Option Value} {base : Heap} {CI C0 fN pm gt CM gF Pl Pu c f : Addr} {C : Nat → Addr} {fdF : FuncData}
theorem unk_d5 (PP : UPr P w K mg base CI C0 fN pm gt CM gF C fdF) (TB : TabB base mg c Pu) (ne : Pl ≠ Pu) {A : Around} {outer : List Env} {s : Shared} {H0 : Hp} {E : XK} (hr : Room 10 (A.deeper (envOfC "_law_unknown" (defScope sUnk) s.heap.objs.size f (.ref c)))) :
    ∃ t, PSs (uX P w K mg base f c A outer s H0 E) uD5 t ∧
      ∀ (Dn : Ends) (xi sp oa bd dg ca te wi : Addr) (rows : List (List Nat)) (st tt : TX) (o : Int × Int) (n : Nm) (dv : List V) (ds : List ((Int × Int) × Str)) (v5 v9 v10 : Option V) (H : Hp), UG K CI Pl Pu H xi sp oa bd dg ca te wi rows st tt o n dv ds → UP rows st tt o n →
        (∀ H', ExtN H H' → Tabs (TT2 Pl Pu) H' → Dn.rt (.bl true) H') → t Dn (sU xi sp oa bd dg ca te wi v5 v9 v10) H := by
  obtain ⟨t8, q8, r8⟩ := unk_d8 (f := f) (c := c) (Pl := Pl) (Pu := Pu) PP (A := A) (outer := outer) (s := s) (H0 := H0) (E := E) hr
  have nd := scUn.nd
  have hu := tt2_u ne
  have hm := tt2_mu (Pl := Pl) (Pu := Pu)
  refine ⟨_, pss_cons (ps_set (i := 5) nd rfl (.inl rfl) (pe_lst (pa_cons (pe_lamV0 (T := TT2 Pl Pu) TB rfl hm hu rfl lgU5.free) (pa_cons (pe_lamV1 (T := TT2 Pl Pu) TB rfl hm hu rfl lgU6.free) pa_nil))))
    (pss_cons (ps_set (i := 5) nd rfl (.inl rfl) (pe_op op_cat (pv 5) (pe_lst (pa_cons (pe_lamV1 (T := TT2 Pl Pu) TB rfl hm hu rfl lgU7.free) (pa_cons (pe_lamV1 (T := TT2 Pl Pu) TB rfl hm hu rfl lgU8.free) pa_nil)))))
    (pss_cons (ps_expr (pe_bm PySem.F.plainAttrs_list PySem.F.slot_list_append PySem.F.type_list_append mt_append (pv 5) (pa_cons (pe_lamV1 (T := TT2 Pl Pu) TB rfl hm hu rfl lgU9.free) pa_nil))) q8)), ?_⟩
  intro Dn xi sp oa bd dg ca te wi rows st tt o n dv ds v5 v9 v10 H g p kn
  refine ⟨g.T, fun f1 H1 x1 T1 _ k1 => ⟨T1, fun f2 H2 x2 T2 _ k2 => ⟨by show 2 ≤ sizeLine; decide, fun w1 hw1 => ?_⟩⟩⟩
  have g2 := (g.ext T1 x1).ext T2 x2
  have a2 : LA (uX P w K mg base f c A outer s H0 E) H2 [f1, f2] [(lU 5, none, .err 1), (lU 6, some 0, .err 1)] := ((LA.nil.snoc (z := (lU 5, none, .err 1)) k1).ext x2).snoc (z := (lU 6, some 0, .err 1)) k2
  have s3 := Same.new (Same.refl H2) hw1 (o := .lst ([f1, f2].map V.ref))
  have e3 : (upd H2 w1 (.lst ([f1, f2].map V.ref))) w1 = some (.lst ([f1, f2].map V.ref)) := upd_same
  have eh : (upd H2 w1 (.lst [.ref f1, .ref f2])) = upd H2 w1 (.lst ([f1, f2].map V.ref)) := rfl
  rw [eh]
  generalize upd H2 w1 (.lst ([f1, f2].map V.ref)) = H3 at s3 e3 ⊢
  have g3 := g2.same s3
  have a3 := a2.ext (Same.extN s3)
  have x03 := (x1.trans x2).trans (Same.extN s3)
  refine ⟨_, rfl, g3.T, fun f3 H4 x4 T4 _ k3 => ⟨T4, fun f4 H5 x5 T5 _ k4 => ⟨by show 2 ≤ sizeLine; decide, fun l1 hl1 => ?_⟩⟩⟩
  have g5 := (g3.ext T4 x4).ext T5 x5
  have a5 : LA (uX P w K mg base f c A outer s H0 E) H5 [f1, f2, f3, f4] [(lU 5, none, .err 1), (lU 6, some 0, .err 1), (lU 7, some 0, .err 1), (lU 8, some 0, .err 1)] := (((a3.ext x4).snoc (z := (lU 7, some 0, .err 1)) k3).ext x5).snoc (z := (lU 8, some 0, .err 1)) k4
  have e5 := (x4.trans x5) _ _ e3 fun ps e => by cases e
  have s6 := Same.new (Same.refl H5) hl1 (o := .lst [.ref f3, .ref f4])
  have e6 : (upd H5 l1 (.lst [.ref f3, .ref f4])) l1 = some (.lst [.ref f3, .ref f4]) := upd_same
  have e56 := s6 _ _ e5
  generalize upd H5 l1 (.lst [.ref f3, .ref f4]) = H6 at s6 e6 e56 ⊢
  have g6 := g5.same s6
  have a6 := a5.ext (Same.extN s6)
  refine ⟨w1, l1, _, _, rfl, rfl, e56, e6, by show 2 + 2 ≤ sizeLine; decide, fun w2 hw2 => ?_⟩
  have ne2 : w2 ≠ dg := fun e => by rw [e, g6.hd] at hw2; cases hw2
  have x06 := x03.trans ((x4.trans x5).trans (Same.extN s6))
  have nb : ∀ b ob, H b = some ob → (∀ ps, ob ≠ .tbl ps) → b ≠ w2 := fun b ob h n e => by
    have := x06 b ob h n
    rw [e, hw2] at this
    cases this
  have s7 := Same.new (Same.refl H6) hw2 (o := .lst ([f1, f2, f3, f4].map V.ref))
  have e7 : (upd H6 w2 (.lst ([f1, f2, f3, f4].map V.ref))) w2 = some (.lst ([f1, f2, f3, f4].map V.ref)) := upd_same
  have eh : (upd H6 w2 (.lst ([.ref f1, .ref f2] ++ [.ref f3, .ref f4]))) = upd H6 w2 (.lst ([f1, f2, f3, f4].map V.ref)) := rfl
  have g7 := g6.same s7
  have a7 := a6.ext (Same.extN s7)
  show (fun (Hx : Hp) => _) (upd H6 w2 (.lst ([f1, f2, f3, f4].map V.ref)))
  generalize upd H6 w2 (.lst ([f1, f2, f3, f4].map V.ref)) = H7 at s7 e7 eh g7 a7 ⊢
  refine ⟨_, rfl, .inl ⟨rfl, _, .inl (.inl e7)⟩, g7.T, fun f5 H8 x8 T8 _ k5 => nilArgs ?_⟩
  have e8 := x8 _ _ e7 fun ps e => by cases e
  have a8 : LA (uX P w K mg base f c A outer s H0 E) H8 [f1, f2, f3, f4, f5] zsB := (a7.ext x8).snoc (z := (lU 9, some 0, .err 1)) k5
  have g8 := g7.ext T8 x8
  refine ⟨w2, _, _, rfl, rfl, e8, by show 4 < sizeLine; decide, ?_⟩
  have x08 := x06.trans ((Same.extN s7).trans x8)
  exact r8 Dn xi sp oa bd dg ca te wi w2 [f1, f2, f3, f4, f5] rows st tt o n dv ds _ _ _ (g8.app e8 ne2) p upd_same (a8.app e8) fun H' s' => kn H' (fun b ob h nt => s' _ _ (by rw [upd_ne (nb b ob h nt)]; exact x08 b ob h nt)) ((tabs_keep e8 g8.T).ext s')
theorem unk_d4 (PP : UPr P w K mg base CI C0 fN pm gt CM gF C fdF) (TB : TabB base mg c Pu) (ne : Pl ≠ Pu) (gsorted : mg "sorted" = none) (gtuple : mg "tuple" = none) {A : Around} {outer : List Env} {s : Shared} {H0 : Hp} {E : XK} (hr : Room 10 (A.deeper (envOfC "_law_unknown" (defScope sUnk) s.heap.objs.size f (.ref c)))) :
    ∃ t, PSs (uX P w K mg base f c A outer s H0 E) uD4 t ∧
      ∀ (Dn : Ends) (xi sp oa bd dg ca te wi wk : Addr) (fs : List Addr) (rows : List (List Nat)) (st tt : TX) (o : Int × Int) (n : Nm) (dv : List V) (ds : List ((Int × Int) × Str)) (v9 v10 : Option V) (H : Hp), UG K CI Pl Pu H xi sp oa bd dg ca te wi rows st tt o n dv ds → UP rows st tt o n →
        H wk = some (.lst (fs.map V.ref)) → LA (uX P w K mg base f c A outer s H0 E) H fs zsA → (∀ H', ExtN H H' → Tabs (TT2 Pl Pu) H' → Dn.rt (.bl true) H') → t Dn (sU xi sp oa bd dg ca te wi (some (.ref wk)) v9 v10) H := by
  obtain ⟨t5, q5, r5⟩ := unk_d5 (f := f) (c := c) (Pl := Pl) (Pu := Pu) PP TB ne (A := A) (outer := outer) (s := s) (H0 := H0) (E := E) hr
  have nd := scUn.nd
  have hr3 : Room 3 _ := hr.mono (by decide)
  have hr5 : Room 5 _ := hr.mono (by decide)
  obtain ⟨ocE, odE, dE, kE, docE, pmE, anE, cdE, ctE, oslE, rfl, lkE, hcE, _, _⟩ := PP.FF.ex
  obtain ⟨tbs, htb⟩ := lf_choose (allA (f := f) (c := c) (Pl := Pl) (Pu := Pu) PP.px gsorted gtuple (A := A) (outer := outer) (s := s) (H0 := H0) (E := E))
  refine ⟨_, pss_cons (ps_if (pt_not (pt_val (pe_cal PP.alk hr5 pass0 (pa_cons (pe_lcV (own := [("_law_work", 9)]) (g := gName 9) (te := tGiveV _ (jsOf tbs zsA) (TFail C) 9) rfl nd (pi_listK (K := K) rfl (pv 5)) blkU4 (fun _ _ _ _ _ => pg_name (i := 9) nd rfl (.inl rfl)) (fun _ _ _ _ _ => pts_nil)
        (fun _ _ _ _ _ => pev_give (k := 8) rfl PP.hF PP.FF.kp lkE hcE PP.bF scFail rfl (.inl rfl) (fail_gives PP.fai) hr hr3 (fun j hj => by
          obtain ⟨z, hz, rfl⟩ := List.mem_map.mp hj
          exact (htb z hz).1) rfl (.inl rfl))) (pa_cons (pe_op op_rep (pe_lst (pa_cons pe_str pa_nil)) pe_int) pa_nil))))) pss_no pss_nil) q5, ?_⟩
  intro Dn xi sp oa bd dg ca te wi wk fs rows st tt o n dv ds v9 v10 H g p hw a kn
  refine ⟨_, rfl, wk, rfl, ⟨_, .inl (.inl hw)⟩, fun D hD => ?_⟩
  refine fails_wlk (K := K) (slot := 9) (σ := sU xi sp oa bd dg ca te wi (some (.ref wk)) v9 v10) (G := GU K CI Pl Pu) hD (by show 9 < 11; decide) hw a (fun z hz => (htb z hz).2) (fun H' s' => ⟨xi, sp, oa, bd, dg, ca, te, wi, rows, st, tt, o, n, dv, ds, _, _, _, rfl, g.same s', p⟩) okzA (by decide) fun H1 s1 d1 => ?_
  refine ⟨by show 1 ≤ sizeLine; decide, fun u1 hu1 => ?_⟩
  have s2 := Same.new (Same.refl H1) hu1 (o := .lst [.str "UnknownCell"])
  have e2 : (upd H1 u1 (.lst [.str "UnknownCell"])) u1 = some (.lst [.str "UnknownCell"]) := upd_same
  generalize upd H1 u1 (.lst [.str "UnknownCell"]) = H2 at s2 e2 ⊢
  refine ⟨u1, _, _, rfl, rfl, e2, by decide, by decide, by decide, fun u2 hu2 => nilArgs ?_⟩
  have s3 := Same.new (Same.refl H2) hu2 (o := .lst (List.replicate (4 : Int).toNat [V.str "UnknownCell"]).flatten)
  have e3 : (upd H2 u2 (.lst (List.replicate (4 : Int).toNat [V.str "UnknownCell"]).flatten)) u2 = some (.lst [V.str "UnknownCell", V.str "UnknownCell", V.str "UnknownCell", V.str "UnknownCell"]) := upd_same
  generalize upd H2 u2 (.lst (List.replicate (4 : Int).toNat [V.str "UnknownCell"]).flatten) = H3 at s3 e3 ⊢
  have s23 := s2.trans s3
  refine ⟨_, _, _, rfl, Same.dp s23 d1, .lst (.inl (.inl e3)) (.cons (.str _) (.cons (.str _) (.cons (.str _) (.cons (.str _) .nil)))), by decide +kernel, fun H4 s4 => ⟨true, rfl, iteF' rfl ?_⟩⟩
  have s04 := (s1.trans s23).trans s4
  exact r5 Dn xi sp oa bd dg ca te wi rows st tt o n dv ds _ _ _ H4 (g.same s04) p fun H' x' T' => kn H' ((Same.extN s04).trans x') T'
theorem unk_d1 (PP : UPr P w K mg base CI C0 fN pm gt CM gF C fdF) (TB : TabB base mg c Pu) (ne : Pl ≠ Pu) (gsorted : mg "sorted" = none) (gtuple : mg "tuple" = none) {A : Around} {outer : List Env} {s : Shared} {H0 : Hp} {E : XK} (hr : Room 10 (A.deeper (envOfC "_law_unknown" (defScope sUnk) s.heap.objs.size f (.ref c)))) :
    ∃ t, PSs (uX P w K mg base f c A outer s H0 E) uD1 t ∧
      ∀ (Dn : Ends) (xi sp oa bd dg ca te wi : Addr) (rows : List (List Nat)) (st tt : TX) (o : Int × Int) (n : Nm) (dv : List V) (ds : List ((Int × Int) × Str)) (v5 v9 v10 : Option V) (H : Hp), UG K CI Pl Pu H xi sp oa bd dg ca te wi rows st tt o n dv ds → UP rows st tt o n →
        (∀ H', ExtN H H' → Tabs (TT2 Pl Pu) H' → Dn.rt (.bl true) H') → t Dn (sU xi sp oa bd dg ca te wi v5 v9 v10) H := by
  obtain ⟨t4, q4, r4⟩ := unk_d4 (f := f) (c := c) (Pl := Pl) (Pu := Pu) PP TB ne gsorted gtuple (A := A) (outer := outer) (s := s) (H0 := H0) (E := E) hr
  have nd := scUn.nd
  have hu := tt2_u ne
  have hm := tt2_mu (Pl := Pl) (Pu := Pu)
  refine ⟨_, pss_cons (ps_set (i := 5) nd rfl (.inl rfl) (pe_lst (pa_cons (pe_lamV0 (T := TT2 Pl Pu) TB rfl hm hu rfl lgU1.free) pa_nil)))
    (pss_cons (ps_set (i := 5) nd rfl (.inl rfl) (pe_op op_cat (pv 5) (pe_lst (pa_cons (pe_lamV1 (T := TT2 Pl Pu) TB rfl hm hu rfl lgU2.free) (pa_cons (pe_lamV1 (T := TT2 Pl Pu) TB rfl hm hu rfl lgU3.free) pa_nil)))))
    (pss_cons (ps_expr (pe_bm PySem.F.plainAttrs_list PySem.F.slot_list_append PySem.F.type_list_append mt_append (pv 5) (pa_cons (pe_lamV1 (T := TT2 Pl Pu) TB rfl hm hu rfl lgU4.free) pa_nil))) q4)), ?_⟩
  intro Dn xi sp oa bd dg ca te wi rows st tt o n dv ds v5 v9 v10 H g p kn
  refine ⟨g.T, fun f1 H1 x1 T1 _ k1 => ⟨by show 1 ≤ sizeLine; decide, fun w1 hw1 => ?_⟩⟩
  have g1 := g.ext T1 x1
  have a1 : LA (uX P w K mg base f c A outer s H0 E) H1 [f1] [(lU 1, none, .err 0)] := LA.nil.snoc (z := (lU 1, none, .err 0)) k1
  have s3 := Same.new (Same.refl H1) hw1 (o := .lst ([f1].map V.ref))
  have e3 : (upd H1 w1 (.lst ([f1].map V.ref))) w1 = some (.lst ([f1].map V.ref)) := upd_same
  have eh : (upd H1 w1 (.lst [.ref f1])) = upd H1 w1 (.lst ([f1].map V.ref)) := rfl
  rw [eh]
  generalize upd H1 w1 (.lst ([f1].map V.ref)) = H3 at s3 e3 ⊢
  have g3 := g1.same s3
  have a3 := a1.ext (Same.extN s3)
  have x03 := x1.trans (Same.extN s3)
  refine ⟨_, rfl, g3.T, fun f3 H4 x4 T4 _ k3 => ⟨T4, fun f4 H5 x5 T5 _ k4 => ⟨by show 2 ≤ sizeLine; decide, fun l1 hl1 => ?_⟩⟩⟩
  have g5 := (g3.ext T4 x4).ext T5 x5
  have a5 : LA (uX P w K mg base f c A outer s H0 E) H5 [f1, f3, f4] [(lU 1, none, .err 0), (lU 2, some 0, .err 0), (lU 3, some 0, .err 0)] := (((a3.ext x4).snoc (z := (lU 2, some 0, .err 0)) k3).ext x5).snoc (z := (lU 3, some 0, .err 0)) k4
  have e5 := (x4.trans x5) _ _ e3 fun ps e => by cases e
  have s6 := Same.new (Same.refl H5) hl1 (o := .lst [.ref f3, .ref f4])
  have e6 : (upd H5 l1 (.lst [.ref f3, .ref f4])) l1 = some (.lst [.ref f3, .ref f4]) := upd_same
  have e56 := s6 _ _ e5
  generalize upd H5 l1 (.lst [.ref f3, .ref f4]) = H6 at s6 e6 e56 ⊢
  have g6 := g5.same s6
  have a6 := a5.ext (Same.extN s6)
  refine ⟨w1, l1, _, _, rfl, rfl, e56, e6, by show 1 + 2 ≤ sizeLine; decide, fun w2 hw2 => ?_⟩
  have ne2 : w2 ≠ dg := fun e => by rw [e, g6.hd] at hw2; cases hw2
  have x06 := x03.trans ((x4.trans x5).trans (Same.extN s6))
  have nb : ∀ b ob, H b = some ob → (∀ ps, ob ≠ .tbl ps) → b ≠ w2 := fun b ob h n e => by
    have := x06 b ob h n
    rw [e, hw2] at this
    cases this
  have s7 := Same.new (Same.refl H6) hw2 (o := .lst ([f1, f3, f4].map V.ref))
  have e7 : (upd H6 w2 (.lst ([f1, f3, f4].map V.ref))) w2 = some (.lst ([f1, f3, f4].map V.ref)) := upd_same
  have g7 := g6.same s7
  have a7 := a6.ext (Same.extN s7)
  show (fun (Hx : Hp) => _) (upd H6 w2 (.lst ([f1, f3, f4].map V.ref)))
  generalize upd H6 w2 (.lst ([f1, f3, f4].map V.ref)) = H7 at s7 e7 g7 a7 ⊢
  refine ⟨_, rfl, .inl ⟨rfl, _, .inl (.inl e7)⟩, g7.T, fun f5 H8 x8 T8 _ k5 => nilArgs ?_⟩
  have e8 := x8 _ _ e7 fun ps e => by cases e
  have a8 : LA (uX P w K mg base f c A outer s H0 E) H8 [f1, f3, f4, f5] zsA := (a7.ext x8).snoc (z := (lU 4, some 0, .err 0)) k5
  have g8 := g7.ext T8 x8
  refine ⟨w2, _, _, rfl, rfl, e8, by show 3 < sizeLine; decide, ?_⟩
  have x08 := x06.trans ((Same.extN s7).trans x8)
  exact r4 Dn xi sp oa bd dg ca te wi w2 [f1, f3, f4, f5] rows st tt o n dv ds _ _ _ (g8.app e8 ne2) p upd_same (a8.app e8) fun H' x' T' => kn H' (fun b ob h nt => x' _ _ (by rw [upd_ne (nb b ob h nt)]; exact x08 b ob h nt) nt) T'
end
end Om

namespace Om
open PySem PySem.Spec PyProof.Rows L2 LamX NdefX
theorem mk_read {K : PySem.W.Frag} {CI C0 a x dx : Addr} {H : Hp} {W : Hp → Prop} {E : XK} {rows : List (List Nat)} (ok : RowsOk 12 rows) (hS : SqT K H a (rows.map vt)) (hx : H x = none) (hdx : H dx = none) (k : ∀ H', Same H H' → Isl K CI H' x rows → W H') :
    spIsl K CI C0 (.ref x :: ([.ref a] ++ [])) (upd (upd H dx (.own x)) x (.ins CI dx [])) (fun v H2 => v = .non ∧ W H2) E := by
  have g := ok.good (Nat.le_refl _)
  have s2 : Same H (upd (upd H dx (.own x)) x (.ins CI dx [])) := fun c o hc => by
    rw [upd_ne (ne_of_none hc hx), upd_ne (ne_of_none hc hdx)]
    exact hc
  refine ⟨x, dx, a, rows, rfl, upd_same, Same.tup s2 hS, g.le, g.lens, fun e H2 k1 k2 => ⟨rfl, ?_⟩, fun r c e => by rw [chk_rows ok (Nat.le_refl _)] at e; cases e⟩
  have s3 : Same H H2 := fun c o hc => k1 c o (s2 c o hc) (ne_of_none hc hx)
  exact k H2 s3 ⟨dx, a, k2, Same.tup s3 hS⟩
theorem RowsOk.to12 {m : Nat} {rows : List (List Nat)} (h : RowsOk m rows) (hm : m ≤ 12) : RowsOk 12 rows := by
  obtain ⟨h1, h2, wd, w1, w2, hr⟩ := h
  exact ⟨h1, Nat.le_trans h2 hm, wd, w1, Nat.le_trans w2 hm, hr⟩
def tupE0 (e : Expr) (i : Nat) : Expr := match e with
  | .Tuple l _ _ => l.getD i e
  | e => e
def tenLc : Expr := arg0 (tupE0 (asgExpr ((defBody sUnk).getD 0 noS)) 1)
theorem blkTen : BlkOk nUn (defScope sUnk) (lcScope tenLc) [("_law_k", 10)] := blkOk_by (by decide +kernel)
theorem ok12 : RowsOk 12 W12 := ⟨by decide, by decide, 12, by decide, by decide, by unfold okSign; decide +kernel⟩
theorem w12_vt : W12.map vt = [V.str (tx (List.replicate (12 : Int).toNat [46]).flatten)] := by decide +kernel
theorem dot_tx : V.str (Str.ofString ".") = V.str (tx [46]) := congrArg V.str (by decide +kernel)
theorem ten_land (k : Nat) (h : k < 10) : hasC W12 0 (k : Int) = true := by
  have : ∀ k : Fin 10, hasC W12 0 ((k.val : Nat) : Int) = true := by decide +kernel
  exact this ⟨k, h⟩
def spUnk (K : PySem.W.Frag) (CI Pl Pu : Addr) : Sp := fun vs H Q _ => ∃ (xi sp oa bd dg : Addr) (rows : List (List Nat)) (st : TX) (o : Int × Int) (n : Nm) (dv : List V) (ds : List ((Int × Int) × Str)), vs = [.ref xi, .ref sp, .ref oa, .ref bd, .ref dg] ∧
  Isl K CI H xi rows ∧ Vd rows ∧ rows.length ≤ 9 ∧ cellsOf rows ≠ [] ∧ H sp = some (.tup (vx st)) ∧ CXs H st ∧ (∀ p ∈ st, hasC rows p.2.1 p.2.2 = true) ∧ st.length ≤ 10 ∧ H oa = some (.tup [.int o.1, .int o.2]) ∧ hasC rows o.1 o.2 = false ∧
  H bd = some (.tup (nrV n)) ∧ inN n 1 22 = false ∧ H dg = some (.lst dv) ∧ DTs K H dv ds ∧ Tabs (TT2 Pl Pu) H ∧ ∀ H', ExtN H H' → Tabs (TT2 Pl Pu) H' → Q (.bl true) H'
section
variable {P : Program} {w : World} {K : PySem.W.Frag} {mg : Str → Option Value} {base : Heap} {CI C0 fN pm gt CM gF Pl Pu c : Addr} {C : Nat → Addr} {fdF : FuncData}
theorem ok_unk {f : Addr} {fd h3 : FuncData} (F : FnP K "_law_unknown" "_law_unknown" sUnk f fd) (hcd : ∀ cd, fd.code = cd → cd = .ref c) (PP : UPr P w K mg base CI C0 fN pm gt CM gF C fdF) (TB : TabB base mg c Pu) (ne : Pl ≠ Pu) (pC : PropOf K CI "cells" pm gt) (G3 : FnOk P w K mg base CX0 1 gt h3 ["self"] (spICells K CI)) (b3 : Binds K h3 ["self"] [])
    (gsorted : mg "sorted" = none) (gtuple : mg "tuple" = none) (grange : mg "range" = none) : FnOk P w K mg base CX0 11 f fd pUn (spUnk K CI Pl Pu) := by
  obtain ⟨oc, od, dV, kV, doc, pm', an, cdv, ct, osl, rfl, lk, hcdv, _, _⟩ := F.ex
  obtain rfl : cdv = .ref c := hcd _ rfl
  obtain ⟨fI, GI, bI⟩ := PP.mkI.ex
  have TI := PP.isl
  refine fn_of (k := 10) lk hcdv scUn (fun vs H Q E h => ?_) (fun A outer s H vs Q E hr h => ?_)
  · obtain ⟨xi, sp, oa, bd, dg, rows, st, o, n, dv, ds, rfl, _⟩ := h
    rfl
  · obtain ⟨xi, sp, oa, bd, dg, rows, st, o, n, dv, ds, rfl, hI, vd, h9, hne, hs, cs, land, few, ho, off, hb, bad, hd, dd, T, kn⟩ := h
    have nd := scUn.nd
    have hr2 : Room 2 _ := hr.mono (by decide)
    have hr5 : Room 5 _ := hr.mono (by decide)
    obtain ⟨t1, q1, r1⟩ := unk_d1 (f := f) (c := c) (Pl := Pl) (Pu := Pu) PP TB ne gsorted gtuple (A := A) (outer := outer) (s := s) (H0 := H) (E := E) hr
    refine ⟨_, PSs.nox (pss_cons (ps_asg (pe_tup (pa_cons (pe_make TI.made GI hr5 rfl TI.gI bI .nil passE0 (pa_cons (pe_tup (pa_cons (pe_op op_mulS1 pe_str pe_int) pa_nil)) pa_nil))
        (pa_cons (pe_callTy call_tuple_of (by rfl) gtuple (by decide +kernel) (pa_cons (pe_lc (own := [("_law_k", 10)]) (g := gName 10) rfl nd (pi_range1 rfl grange (pa_cons pe_int pa_nil)) blkTen (fun _ _ _ _ _ => pg_name (i := 10) nd rfl (.inl rfl)) (fun _ _ _ _ _ => pts_nil) (fun _ _ _ _ _ => pe_tup (pa_cons pe_int (pa_cons (pv 10) pa_nil)))) pa_nil))
        (pa_cons (pe_ix ix_list (pe_prop (pv 0) TI.cl pC G3 hr2 b3 .nil pass0 rfl) pe_int (fun _ _ => rfl)) pa_nil))))
      (pg_tup rfl (pgs_cons (pg_name (i := 8) nd rfl (.inr rfl)) (pgs_cons (pg_name (i := 7) nd rfl (.inr rfl)) (pgs_cons (pg_name (i := 6) nd rfl (.inr rfl)) pgs_nil))))) q1), ?_⟩
    refine ⟨[46], 12, dot_tx, rfl, by decide, by decide, by decide, by decide, by show 1 ≤ sizeLine; decide, fun pr hpr => nilArgs ?_⟩
    have s1 := Same.new (Same.refl H) hpr (o := .tup [V.str (tx (List.replicate (12 : Int).toNat [46]).flatten)])
    have e1 : (upd H pr (.tup [V.str (tx (List.replicate (12 : Int).toNat [46]).flatten)])) pr = some (.tup (W12.map vt)) := by rw [w12_vt]; exact upd_same
    generalize upd H pr (.tup [V.str (tx (List.replicate (12 : Int).toNat [46]).flatten)]) = H1 at s1 e1 ⊢
    intro wi dxi hwi hdxi _
    refine mk_read ok12 (.inl (.inl e1)) hwi hdxi fun H2 s2 I2 => ?_
    have s02 := s1.trans s2
    -- ten
    refine ⟨10, rfl, by decide, by decide, fun D hD => ?_⟩
    refine lc_range (lo := 0) (n := (10 : Int).toNat) (fun j H' => ∃ u : TX, H' D = some (.lst (vx u)) ∧ CXs H' u ∧ (∀ p ∈ u, hasC W12 p.2.1 p.2.2 = true) ∧ u.length ≤ j ∧ Same H2 H')
      ⟨[], upd_same, (fun p hp => by cases hp), (fun p hp => by cases hp), Nat.le_refl _, Same.new (Same.refl _) hD⟩ ?_ ?_
    · rintro j H9 hj ⟨u, g1, g2, g4, gl, g3⟩
      have hj10 : j < 10 := hj
      refine ⟨rfl, tyes ?_⟩
      refine ⟨_, rfl, by show 2 ≤ sizeLine; decide, fun q hq => ?_⟩
      have su := Same.new (Same.refl H9) hq (o := .tup [.int 0, .int (0 + (j : Int))])
      have g1' := su _ _ g1
      refine ⟨vx u, g1', Nat.lt_of_le_of_lt (show _ ≤ 100 by rw [vx_len]; omega) (by decide), u ++ [(q, (0, (j : Int)))], by rw [upd_same, vx_app]; rfl, fun p hp => ?_, fun p hp => ?_, by rw [List.length_append]; show u.length + 1 ≤ j + 1; omega, Same.updN (g3.trans su) hD⟩
      · rcases List.mem_append.mp hp with h | h
        · have := su _ _ (g2 p h)
          rw [upd_ne (ne_of this g1' fun e => by cases e)]
          exact this
        · rw [List.mem_singleton.mp h]
          have e5 : (upd H9 q (.tup [.int 0, .int (0 + (j : Int))])) q = some (.tup [.int 0, .int (j : Int)]) := by rw [upd_same, Int.zero_add]
          rw [upd_ne (ne_of e5 g1' fun e => by cases e)]
          exact e5
      · rcases List.mem_append.mp hp with h' | h'
        · exact g4 p h'
        · rw [List.mem_singleton.mp h']
          exact ten_land j hj10
    rintro H3 ⟨tt, g1, g2, g4, gl, g3⟩
    refine nilArgs ⟨D, _, rfl, .inl ⟨.inl (.inl g1), fun te hte => ?_⟩⟩
    have s4 := Same.new (Same.refl H3) hte (o := .tup (vx tt))
    have e4 : (upd H3 te (.tup (vx tt))) te = some (.tup (vx tt)) := upd_same
    have c4 := g2.same s4
    generalize upd H3 te (.tup (vx tt)) = H4 at s4 e4 c4 ⊢
    have s24 := g3.trans s4
    have s04 := s02.trans s24
    -- a cell
    have I4 := hI.same s04
    obtain ⟨dx, pr', hpr', _⟩ := id I4
    refine ⟨_, rfl, xi, dx, _, rfl, hpr', xi, rows, rfl, I4, vd, fun v H5 s5 hdp => ?_⟩
    cases hdp with
    | lst hS hA =>
    rename_i L xs
    obtain ⟨c0, cr, ec⟩ := List.exists_cons_of_ne_nil hne
    rw [ec, List.map_cons] at hA
    cases hA with
    | cons hx hA =>
    obtain ⟨ca, rfl, hca⟩ := cell_at hx
    refine ⟨L, _, 0, _, rfl, rfl, hS, at0, by show 3 ≤ sizeLine; decide, fun tp htp => ?_⟩
    refine ⟨tp, _, rfl, .inl (.inl upd_same), rfl, _, _, rfl, _, _, rfl, _, _, rfl, rfl, ?_⟩
    have s6 := s5.trans (Same.new (Same.refl H5) htp (o := .tup [.ref wi, .ref te, .ref ca]))
    have s06 := s04.trans s6
    generalize upd H5 tp (.tup [.ref wi, .ref te, .ref ca]) = H6 at s6 s06 ⊢
    refine r1 _ xi sp oa bd dg ca te wi rows st tt o n dv ds _ _ _ H6 ⟨hI.same s06, s06 _ _ hs, cs.same s06, s06 _ _ ho, s06 _ _ hb, s06 _ _ hd, dd.same s06, I2.same (s24.trans s6), s6 _ _ e4, c4.same s6, T.ext s06⟩ ⟨vd.toGood2, h9, land, few, off, bad, g4, gl⟩ fun H' x' T' => kn H' ((Same.extN s06).trans x') T'
end
end Om

/-! the law: what it has at hand, its five lambdas -/
namespace Om
open PySem PySem.Spec PyProof.Rows L2 LamX NdefX
abbrev nLaw : List Str := ["_law_script", "_law_h", "_law_turn", "_law_rows_here", "_law_cells_here", "_law_water_here", "_law_bad", "_law_cell", "_law_works", "_law_due", "_law_digs", "_law_good", "_law_island", "_law_odd", "_law_place", "_law_rule_here", "_law_spots", "_law_ten", "_law_wide", "_law_word", "_law_k", "_law_work"]
theorem scLaw : FnScope nLaw ["_law_script"] (defScope sLaw) := ⟨rfl, rfl, rfl, by decide +kernel, rfl, by decide +kernel, by decide +kernel⟩
def forBody (s : Stmt) : List Stmt := match s with
  | .For _ _ b _ _ => b
  | _ => []
def turnB : List Stmt := forBody ((defBody sLaw).getD 1 noS)
def lM (i : Nat) : Expr := match i with
  | 1 => elE (asgExpr (turnB.getD 11 noS)) 0
  | 2 => elE (binRt (asgExpr (turnB.getD 12 noS))) 0
  | 3 => stArg (turnB.getD 13 noS)
  | 4 => stArg (turnB.getD 14 noS)
  | _ => stArg (turnB.getD 15 noS)
theorem lgM1 : LamG nLaw (defScope sLaw) (lmS (lM 1)) [] := lamG_by (by decide +kernel)
theorem lgM2 : LamG nLaw (defScope sLaw) (lmS (lM 2)) ["_law_a"] := lamG_by (by decide +kernel)
theorem lgM3 : LamG nLaw (defScope sLaw) (lmS (lM 3)) ["_law_b"] := lamG_by (by decide +kernel)
theorem lgM4 : LamG nLaw (defScope sLaw) (lmS (lM 4)) ["_law_c"] := lamG_by (by decide +kernel)
theorem lgM5 : LamG nLaw (defScope sLaw) (lmS (lM 5)) ["_law_d"] := lamG_by (by decide +kernel)
def ciC (c : Cell) : Int × Int := (((c.1 : Nat) : Int), ((c.2 : Nat) : Int))
def toX (t : TC) : TX := t.map fun p => (p.1, ciC p.2)
theorem toX_vx (t : TC) : vx (toX t) = vz t := by
  unfold vx toX vz
  rw [List.map_map]
  rfl
theorem toX_cx {H : Hp} {t : TC} (h : CA H t) : CXs H (toX t) := fun p hp => by
  obtain ⟨q, hq, rfl⟩ := List.mem_map.mp hp
  exact h q hq
/-- the digs of a turn -/
def dsOf (k : Nat) (c : Cell) (wd : Str) : List ((Int × Int) × Str) := List.replicate k (ciC c, ("found" : Str)) ++ ([(ciC c, wd), (ciC c, "odd")] : List ((Int × Int) × Str))
structure TG (K : PySem.W.Frag) (CI Pl Pu : Addr) (H : Hp) (b l xi ra sp oa ga ca dg wi te ce d1 d2 : Addr) (rows : List (List Nat)) (r : Rl) (us tc : TC) (tt : TX) (o : Int × Int) (c : Cell) (wd : Str) (k : Nat) : Prop where
  B : Bx H b l
  I : Isl K CI H xi rows
  R : SqT K H ra r.vs
  hs : H sp = some (.tup (vz us))
  cs : CA H us
  ho : H oa = some (.tup [.int o.1, .int o.2])
  hg : H ga = some (.tup [.ref ca, .str "found"])
  hc : H ca = some (.tup (cvs c))
  hd : H dg = some (.lst (List.replicate k (.ref ga) ++ [.ref d1, .ref d2]))
  h1 : H d1 = some (.tup [.ref ca, .str wd])
  h2 : H d2 = some (.tup [.ref ca, .str "odd"])
  Iw : Isl K CI H wi W12
  ht : H te = some (.tup (vx tt))
  ct : CXs H tt
  hce : H ce = some (.lst (vz tc))
  cce : CA H tc
  T : Tabs (TT2 Pl Pu) H
structure TP (rows : List (List Nat)) (r : Rl) (us tc : TC) (tt : TX) (o : Int × Int) (c : Cell) (wd : Str) (k : Nat) : Prop where
  vd : Vd rows
  h9 : rows.length ≤ 9
  rok : r.Ok
  inl : ∀ q ∈ us, q.2 ∈ cellsOf rows
  few : us.length ≤ 10
  off : hasC rows o.1 o.2 = false
  inc : c ∈ cellsOf rows
  wno : wd ∉ words r
  k3 : k < 3
  tl : ∀ p ∈ tt, hasC W12 p.2.1 p.2.2 = true
  tn : tt.length = 10
  ctc : cz tc = cellsOf rows
section
variable {K : PySem.W.Frag} {CI Pl Pu : Addr} {H H' : Hp} {b l xi ra sp oa ga ca dg wi te ce d1 d2 : Addr} {rows : List (List Nat)} {r : Rl} {us tc : TC} {tt : TX} {o : Int × Int} {c : Cell} {wd : Str} {k : Nat}
theorem Bx.ext (B : Bx H b l) (k : ExtN H H') : Bx H' b l := by
  obtain ⟨ns, z, j, h1, h2, h3⟩ := B.ex
  exact ⟨ns, z, j, k _ _ h1 (fun ps e => by cases e), k _ _ h2 (fun ps e => by cases e), h3⟩
theorem CA.ext {t : TC} (h : CA H t) (k : ExtN H H') : CA H' t := fun p hp => k _ _ (h p hp) fun ps e => by cases e
theorem TG.ext (g : TG K CI Pl Pu H b l xi ra sp oa ga ca dg wi te ce d1 d2 rows r us tc tt o c wd k) (T' : Tabs (TT2 Pl Pu) H') (x : ExtN H H') : TG K CI Pl Pu H' b l xi ra sp oa ga ca dg wi te ce d1 d2 rows r us tc tt o c wd k where
  B := g.B.ext x
  I := g.I.ext x
  R := SqT.ext x g.R
  hs := x _ _ g.hs fun ps e => by cases e
  cs := g.cs.ext x
  ho := x _ _ g.ho fun ps e => by cases e
  hg := x _ _ g.hg fun ps e => by cases e
  hc := x _ _ g.hc fun ps e => by cases e
  hd := x _ _ g.hd fun ps e => by cases e
  h1 := x _ _ g.h1 fun ps e => by cases e
  h2 := x _ _ g.h2 fun ps e => by cases e
  Iw := g.Iw.ext x
  ht := x _ _ g.ht fun ps e => by cases e
  ct := g.ct.ext x
  hce := x _ _ g.hce fun ps e => by cases e
  cce := g.cce.ext x
  T := T'
theorem TG.same (g : TG K CI Pl Pu H b l xi ra sp oa ga ca dg wi te ce d1 d2 rows r us tc tt o c wd k) (s : Same H H') : TG K CI Pl Pu H' b l xi ra sp oa ga ca dg wi te ce d1 d2 rows r us tc tt o c wd k := g.ext (g.T.ext s) (Same.extN s)
theorem TG.digs (g : TG K CI Pl Pu H b l xi ra sp oa ga ca dg wi te ce d1 d2 rows r us tc tt o c wd k) : DTs K H (List.replicate k (.ref ga) ++ [.ref d1, .ref d2]) (dsOf k c wd) := by
  refine ⟨by unfold dsOf; simp, fun i y hy => ?_⟩
  unfold dsOf
  by_cases hi : i < k
  · rw [List.getElem?_append_left (by simpa using hi), List.getElem?_replicate, if_pos hi] at hy
    cases hy
    exact ⟨ga, ca, (ciC c, "found"), by rw [List.getElem?_append_left (by simpa using hi), List.getElem?_replicate, if_pos hi], rfl, .inl (.inl g.hg), .inl (.inl g.hc)⟩
  · rw [List.getElem?_append_right (by simpa using hi), List.length_replicate] at hy
    rw [List.getElem?_append_right (by simpa using hi), List.length_replicate]
    generalize i - k = j at hy
    match j, hy with
    | 0, hy => cases hy; exact ⟨d1, ca, (ciC c, wd), rfl, rfl, .inl (.inl g.h1), .inl (.inl g.hc)⟩
    | 1, hy => cases hy; exact ⟨d2, ca, (ciC c, "odd"), rfl, rfl, .inl (.inl g.h2), .inl (.inl g.hc)⟩
    | _ + 2, hy => cases hy
theorem TP.has (p : TP rows r us tc tt o c wd k) {q : Cell} (h : q ∈ cellsOf rows) : hasC rows (ciC q).1 (ciC q).2 = true := has_of p.vd.toGood2 h
theorem TP.no (p : TP rows r us tc tt o c wd k) : ¬ offC rows ((toX us).map (·.2)) := fun ⟨x, hx, e⟩ => by
  obtain ⟨y, hy, rfl⟩ := List.mem_map.mp hx
  obtain ⟨q, hq, rfl⟩ := List.mem_map.mp hy
  rw [p.has (p.inl q hq)] at e
  cases e
theorem found_in (r : Rl) : ("found" : Str) ∈ words r := by cases r <;> exact List.mem_cons_self
theorem TP.dall (p : TP rows r us tc tt o c wd k) : ∀ d ∈ dsOf k c wd, hasC rows d.1.1 d.1.2 = true := fun d hd => by
  unfold dsOf at hd
  rcases List.mem_append.mp hd with h | h
  · rw [(List.mem_replicate.mp h).2]
    exact p.has p.inc
  · simp only [List.mem_cons, List.not_mem_nil, or_false] at h
    rcases h with rfl | rfl
    · exact p.has p.inc
    · exact p.has p.inc
theorem TP.dbad (p : TP rows r us tc tt o c wd k) {CU CD : Addr} {B : Value → Option Addr → Hp → Prop} (h : ∀ dx H', H dx = none → Same H H' → H' dx = some (.xd (xdIM (.int (k : Nat)))) → B (.ref CD) (some dx) H') : DBad K CU CD H rows r (dsOf k c wd) B := by
  refine ⟨(fun ⟨d, hd, e⟩ => by rw [p.dall d hd] at e; cases e), fun _ => ⟨k, (ciC c, wd), ?_, p.wno, fun j d' hj hd => ?_, h⟩⟩
  · unfold dsOf
    rw [List.getElem?_append_right (by simp), List.length_replicate, Nat.sub_self]
    rfl
  · unfold dsOf at hd
    rw [List.getElem?_append_left (by simpa using hj), List.getElem?_replicate, if_pos hj] at hd
    cases hd
    exact found_in r
end
abbrev sT (v0 v2 v3 v5 v6 v8 v9 v20 v21 : Option V) (b l xi ra sp oa ga ca dg wi te ce : Addr) (wd : Str) (k : Nat) : L2.St := [v0, some (.ref b), v2, v3, some (.ref ce), v5, v6, some (.ref ca), v8, v9, some (.ref dg), some (.ref ga), some (.ref xi), some (.ref oa), some (.int (k : Nat)), some (.ref ra), some (.ref sp), some (.ref te), some (.ref wi), some (.str wd), v20, v21]
def GL (K : PySem.W.Frag) (CI Pl Pu : Addr) (k : Nat) (σ : L2.St) (H : Hp) : Prop := ∃ (v0 v2 v3 v5 v6 v8 v9 v20 v21 : Option V) (b l xi ra sp oa ga ca dg wi te ce d1 d2 : Addr) (rows : List (List Nat)) (r : Rl) (us tc : TC) (tt : TX) (o : Int × Int) (c : Cell) (wd : Str),
  σ = sT v0 v2 v3 v5 v6 v8 v9 v20 v21 b l xi ra sp oa ga ca dg wi te ce wd k ∧ TG K CI Pl Pu H b l xi ra sp oa ga ca dg wi te ce d1 d2 rows r us tc tt o c wd k ∧ TP rows r us tc tt o c wd k
section
variable {P : Program} {w : World} {K : PySem.W.Frag} {mg : Str → Option Value} {base : Heap} {CI Pl Pu cc f : Addr} {C : Nat → Addr} {A : Around} {outer : List Env} {s : Shared} {H0 : Hp} {E : XK} {k : Nat}
abbrev lX (P : Program) (w : World) (K : PySem.W.Frag) (mg : Str → Option Value) (base : Heap) (f c : Addr) (A : Around) (outer : List Env) (s : Shared) (H0 : Hp) (E : XK) : Cx := (cxOf CX0 P w K mg base nLaw "law" (defScope sLaw) f (.ref c) A outer s H0 E).nox
theorem lm2 (PP : PX P w K mg base CI C) : LF (lX P w K mg base f cc A outer s H0 E) 8 C (GL K CI Pl Pu k) (lM 2, some 0, .dig k) := by
  refine ⟨fun E => _, ⟨⟨["_law_a"], lgM2, "_law_a", List.mem_cons_self, fun _ _ _ _ _ _ _ => ⟨_, rfl, rfl⟩⟩, fun A outer s H E f c' hrb => pe_cal PP.lax (hrb.mono (by decide)) (passes_call (W := fun cls d _ H => E cls d H) (takes_of rfl rfl rfl rfl) fun _ _ _ _ h => h) (pa_cons (pv 12) (pa_cons (pv 16) (pa_cons (pv 15) (pa_cons (pv 10) pa_nil))))⟩, ?_⟩
  rintro σ H Ex Q ⟨v0, v2, v3, v5, v6, v8, v9, v20, v21, b, l, xi, ra, sp, oa, ga, ca, dg, wi, te, ce, d1, d2, rows, r, us, tc, tt, o, c, wd, rfl, g, p⟩ kk
  exact ⟨_, rfl, _, rfl, _, rfl, _, rfl, xi, sp, ra, dg, rfl, rows, vx (toX us), (toX us).map (·.2), _, dsOf k c wd, g.I, p.vd.toGood2, .inl (.inl (by rw [toX_vx]; exact g.hs)), cts_of (toX_cx g.cs), .inl (.inl g.hd), g.digs, fun h => absurd h p.no, fun _ => .inr ⟨r, g.R, p.rok, p.dbad kk⟩⟩
theorem lm3 (PP : PX P w K mg base CI C) : LF (lX P w K mg base f cc A outer s H0 E) 8 C (GL K CI Pl Pu k) (lM 3, some 0, .dig k) := by
  refine ⟨fun E => _, ⟨⟨["_law_b"], lgM3, "_law_b", List.mem_cons_self, fun _ _ _ _ _ _ _ => ⟨_, rfl, rfl⟩⟩, fun A outer s H E f c' hrb => pe_cal PP.fwx (hrb.mono (by decide)) (passes_call (W := fun cls d _ H => E cls d H) (takes_of rfl rfl rfl rfl) fun _ _ _ _ h => h) (pa_cons (pv 12) (pa_cons (pe_tup pa_nil) (pa_cons (pv 15) (pa_cons (pv 10) pa_nil))))⟩, ?_⟩
  rintro σ H Ex Q ⟨v0, v2, v3, v5, v6, v8, v9, v20, v21, b, l, xi, ra, sp, oa, ga, ca, dg, wi, te, ce, d1, d2, rows, r, us, tc, tt, o, c, wd, rfl, g, p⟩ kk
  refine ⟨_, rfl, by show 0 ≤ sizeLine; decide, fun t ht => ⟨_, rfl, _, rfl, nilArgs ?_⟩⟩
  have s1 := Same.new (Same.refl H) ht (o := .tup [])
  have e1 : (upd H t (.tup [])) t = some (.tup (vx [])) := upd_same
  generalize upd H t (.tup []) = H1 at s1 e1 ⊢
  have g1 := g.same s1
  exact ⟨xi, t, ra, dg, rfl, rows, vx [], [], _, dsOf k c wd, g1.I, p.vd.toGood2, .inl (.inl e1), cts_of (t := []) (fun y hy => by cases hy), .inl (.inl g1.hd), g1.digs, fun ⟨x, hx, _⟩ => (by cases hx), fun _ => .inr ⟨r, g1.R, p.rok, p.dbad fun dx H' n s' e => kk dx H' (Same.free s1 n) (s1.trans s') e⟩⟩
theorem lm4 (PP : PX P w K mg base CI C) : LF (lX P w K mg base f cc A outer s H0 E) 8 C (GL K CI Pl Pu k) (lM 4, some 0, .err 2) := by
  refine ⟨fun E => _, ⟨⟨["_law_c"], lgM4, "_law_c", List.mem_cons_self, fun _ _ _ _ _ _ _ => ⟨_, rfl, rfl⟩⟩, fun A outer s H E f c' hrb => pe_cal PP.fdx (hrb.mono (by decide)) (passes_call (W := fun cls d _ H => E cls d H) (takes_of rfl rfl rfl rfl) fun _ _ _ _ h => h) (pa_cons (pv 18) (pa_cons (pv 17) (pa_cons (pv 15) pa_nil)))⟩, ?_⟩
  rintro σ H Ex Q ⟨v0, v2, v3, v5, v6, v8, v9, v20, v21, b, l, xi, ra, sp, oa, ga, ca, dg, wi, te, ce, d1, d2, rows, r, us, tc, tt, o, c, wd, rfl, g, p⟩ kk
  have no : ¬ offC W12 (tt.map (·.2)) := fun ⟨x, hx, e⟩ => by
    obtain ⟨y, hy, rfl⟩ := List.mem_map.mp hx
    rw [p.tl y hy] at e
    cases e
  exact ⟨_, rfl, _, rfl, _, rfl, wi, te, ra, W12, vx tt, tt.map (·.2), rfl, g.Iw, good12, .inl (.inl g.ht), cts_of g.ct, fun h => absurd h no, fun _ => .inl ⟨by rw [vx_len, p.tn]; decide, r, g.R, p.rok, kk⟩⟩
theorem lm1 (PP : PX P w K mg base CI C) : LF (lX P w K mg base f cc A outer s H0 E) 8 C (GL K CI Pl Pu k) (lM 1, none, .err 0) := by
  refine ⟨fun E => _, ⟨⟨[], lgM1, fun _ _ _ _ _ => rfl⟩, fun A outer s H E f c' hrb => pe_cal PP.lax (hrb.mono (by decide)) (passes_call (W := fun cls d _ H => E cls d H) (takes_of rfl rfl rfl rfl) fun _ _ _ _ h => h) (pa_cons (pv 12) (pa_cons (pv 16) (pa_cons (pv 15) (pa_cons (pe_op op_cat (pv 10) (pe_lst (pa_cons (pe_tup (pa_cons (pv 13) (pa_cons (pv 19) pa_nil))) pa_nil))) pa_nil))))⟩, ?_⟩
  rintro σ H Ex Q ⟨v0, v2, v3, v5, v6, v8, v9, v20, v21, b, l, xi, ra, sp, oa, ga, ca, dg, wi, te, ce, d1, d2, rows, r, us, tc, tt, o, c, wd, rfl, g, p⟩ kk
  have k3 := p.k3
  refine ⟨_, rfl, _, rfl, _, rfl, _, rfl, _, rfl, _, rfl, by show 2 ≤ sizeLine; decide, fun t ht => ⟨by show 1 ≤ sizeLine; decide, fun l1 hl1 => ?_⟩⟩
  have s1 := Same.new (Same.refl H) ht (o := .tup [.ref oa, .str wd])
  have e1 : (upd H t (.tup [.ref oa, .str wd])) t = some (.tup [.ref oa, .str wd]) := upd_same
  generalize upd H t (.tup [.ref oa, .str wd]) = H1 at s1 e1 hl1 ⊢
  have s2 := Same.new (Same.refl H1) hl1 (o := .lst [.ref t])
  have e2 : (upd H1 l1 (.lst [.ref t])) l1 = some (.lst [.ref t]) := upd_same
  have e12 := s2 _ _ e1
  generalize upd H1 l1 (.lst [.ref t]) = H2 at s2 e2 e12 ⊢
  have s12 := s1.trans s2
  refine ⟨dg, l1, _, _, rfl, rfl, s12 _ _ g.hd, e2, Nat.le_trans (show _ ≤ 100 by simp; omega) (by decide), fun l2 hl2 => nilArgs ?_⟩
  have s3 := s12.trans (Same.new (Same.refl H2) hl2 (o := .lst ((List.replicate k (.ref ga) ++ [.ref d1, .ref d2]) ++ [.ref t])))
  have e3 : (upd H2 l2 (.lst ((List.replicate k (.ref ga) ++ [.ref d1, .ref d2]) ++ [.ref t]))) l2 = some (.lst ((List.replicate k (.ref ga) ++ [.ref d1, .ref d2]) ++ [.ref t])) := upd_same
  have e13 := (Same.new (Same.refl H2) hl2 (o := .lst ((List.replicate k (.ref ga) ++ [.ref d1, .ref d2]) ++ [.ref t]))) _ _ e12
  generalize upd H2 l2 (.lst ((List.replicate k (.ref ga) ++ [.ref d1, .ref d2]) ++ [.ref t])) = H3 at s3 e3 e13 ⊢
  have g3 := g.same s3
  have dd : DTs K H3 ((List.replicate k (.ref ga) ++ [.ref d1, .ref d2]) ++ [.ref t]) (dsOf k c wd ++ [(o, wd)]) := by
    have d0 := g3.digs
    refine ⟨by rw [List.length_append (as := List.replicate k (V.ref ga) ++ [V.ref d1, V.ref d2]), d0.1, List.length_append]; rfl, fun i y hy => ?_⟩
    rw [List.getElem?_append] at hy
    split at hy
    · rename_i hi
      obtain ⟨t', ca', d', z1, z2, z3, z4⟩ := d0.2 i y hy
      exact ⟨t', ca', d', by rw [List.getElem?_append_left (by rw [← d0.1]; exact hi)]; exact z1, z2, z3, z4⟩
    · rename_i hi
      have hj : i - (List.replicate k (V.ref ga) ++ [V.ref d1, V.ref d2]).length = 0 := by
        have := (List.getElem?_eq_some_iff.mp hy).1
        rw [List.length_singleton] at this
        omega
      rw [hj] at hy
      cases hy
      refine ⟨t, oa, (o, wd), ?_, rfl, .inl (.inl e13), .inl (.inl g3.ho)⟩
      rw [List.getElem?_append_right (by rw [← d0.1]; omega), ← d0.1, hj]
      rfl
  refine ⟨xi, sp, ra, l2, rfl, rows, vx (toX us), (toX us).map (·.2), _, _, g3.I, p.vd.toGood2, .inl (.inl (by rw [toX_vx]; exact g3.hs)), cts_of (toX_cx g3.cs), .inl (.inl e3), dd, fun h => absurd h p.no, fun _ => .inr ⟨r, g3.R, p.rok, fun _ H' s' => kk H' (s3.trans s'), fun h => ?_⟩⟩
  have := h (o, wd) (List.mem_append_right _ List.mem_cons_self)
  rw [p.off] at this
  cases this
end
end Om

namespace Om
open PySem PySem.Spec PyProof.Rows L2 LamX NdefX
/-! ### with no place, with one -/
theorem worst_nil (r : Rl) (cs : List Cell) : worstOf r cs [] = cs.map fun _ => 0 := rfl
theorem first_nil {r : Rl} {cs : List Cell} {j : Nat} (hne : cs ≠ []) (h : FirstMin (worstOf r cs []) j) : j = 0 := by
  obtain ⟨m, h1, _, h3⟩ := h
  rw [worst_nil] at h1 h3
  rcases Nat.eq_zero_or_pos j with e | e
  · exact e
  · exfalso
    obtain ⟨c0, cr, rfl⟩ := List.exists_cons_of_ne_nil hne
    have hm : m = 0 := by
      rw [List.getElem?_map] at h1
      obtain ⟨_, _, e⟩ := Option.map_eq_some_iff.mp h1
      exact e.symm
    exact h3 0 0 e rfl hm.symm
theorem splits_nil (r : Rl) (cs : List Cell) : ∀ m ∈ splitsOf r cs [], m = [] := fun m hm => by
  unfold splitsOf at hm
  obtain ⟨c, _, rfl⟩ := List.mem_map.mp hm
  rfl
theorem splitW_one (w : Str) : splitW [w] = if w = ("found" : Str) then [] else [1] := by
  unfold splitW
  show ([w].filter fun w => !decide (w = ("found" : Str))).map (maskOf [w]) = _
  by_cases e : w = ("found" : Str)
  · rw [if_pos e]
    simp [e]
  · rw [if_neg e]
    have hm : maskOf [w] w = 1 := by
      apply Nat.eq_of_testBit_eq
      intro j
      rw [maskOf_bit]
      cases j with
      | zero => simp
      | succ j =>
        rw [show ([w] : List Str)[j + 1]? = none from rfl]
        simp [Nat.testBit_succ]
    simp [e, hm]
theorem splits_one {r : Rl} {cs : List Cell} {c : Cell} (h : c ∈ cs) : (∀ m ∈ splitsOf r cs [c], m = [] ∨ m = [1]) ∧ [] ∈ splitsOf r cs [c] := by
  unfold splitsOf
  constructor
  · intro m hm
    obtain ⟨d, _, rfl⟩ := List.mem_map.mp hm
    show splitW [told r d c] = [] ∨ splitW [told r d c] = [1]
    rw [splitW_one]
    split
    · exact .inl rfl
    · exact .inr rfl
  · refine List.mem_map.mpr ⟨c, h, ?_⟩
    show splitW [told r c c] = []
    rw [splitW_one, if_pos]
    unfold told
    rw [if_pos rfl]
theorem foldl_min0 : ∀ l : List Nat, (∀ x ∈ l, x = 0) → l.foldl min 0 = 0
  | [], _ => rfl
  | x :: l, h => by
    rw [List.foldl_cons, h x List.mem_cons_self]
    exact foldl_min0 l fun y hy => h y (List.mem_cons_of_mem _ hy)
theorem tab_one {S : List (List Nat)} (h : ∀ m ∈ S, m = [] ∨ m = [1]) : (tab S 1).getD 1 0 = 1 := by
  have e : tab S 1 = [0] ++ [1 + mnN (worstL [0] S 1)] := rfl
  rw [e]
  show 1 + mnN (worstL [0] S 1) = 1
  have hz : ∀ x ∈ worstL [0] S 1, x = 0 := fun x hx => by
    unfold worstL goodP at hx
    obtain ⟨p, hp, rfl⟩ := List.mem_map.mp hx
    obtain ⟨hp1, hp2⟩ := List.mem_filter.mp hp
    obtain ⟨m, hm, rfl⟩ := List.mem_map.mp hp1
    rcases h m hm with rfl | rfl
    · rfl
    · simp [partsOf] at hp2
  cases hw : worstL [0] S 1 with
  | nil => rfl
  | cons n l =>
    rw [hw] at hz
    show 1 + l.foldl min n = 1
    rw [hz n List.mem_cons_self, foldl_min0 l fun y hy => hz y (List.mem_cons_of_mem _ hy)]
theorem rep_one {α : Type} (x : α) : ∀ k : Nat, (List.replicate k [x]).flatten = List.replicate k x
  | 0 => rfl
  | k + 1 => by rw [List.replicate_succ, List.flatten_cons, rep_one x k, List.replicate_succ]; rfl
theorem firstW_rep (r : Rl) (d : Dig) {k : Nat} (h : k < 3) : firstW r [] (List.replicate k d) = if 0 < k then some 0 else none := by
  have e : k = 0 ∨ k = 1 ∨ k = 2 := by omega
  rcases e with rfl | rfl | rfl <;> rfl
structure LPr (P : Program) (w : World) (K : PySem.W.Frag) (mg : Str → Option Value) (base : Heap) (CI C0 fN pm gt CM gF Pl Pu : Addr) (C : Nat → Addr) (fdF : FuncData) : Prop where
  u : UPr P w K mg base CI C0 fN pm gt CM gF C fdF
  mix : Cal P w K mg base CX0 1 "_law_mix" ["_law_script", "_law_seed"] (spMix K)
  nxt : Cal P w K mg base CX0 1 "_law_next" ["_law_h", "_law_limit"] spNext
  row : Cal P w K mg base CX0 2 "_law_rows" ["_law_h", "_law_most"] (spLRows K)
  rul : Cal P w K mg base CX0 2 "_law_rule" ["_law_h"] (spLRule K)
  cel : Cal P w K mg base CX0 1 "_law_cells" ["_law_rows_here"] (spLCells K)
  wat : Cal P w K mg base CX0 1 "_law_water" ["_law_rows_here"] (spWater K)
  som : Cal P w K mg base CX0 2 "_law_some" ["_law_h", "_law_cells_here", "_law_most"] spLSome
  unk : Cal P w K mg base CX0 11 "_law_unknown" pUn (spUnk K CI Pl Pu)
  fwk : Cal P w K mg base CX0 7 "first_wrong" n4 (spFirstW K CI)
  ndk : Cal P w K mg base CX0 6 "next_dig" ["island", "places", "rule"] (spNextD K CI)
  fdk : Cal P w K mg base CX0 6 "fewest_digs" ["island", "places", "rule"] (spFewest K CI)
  hnt : Cal P w K mg base CX0 3 "hint" ["rule", "cell", "place"] (spHint K)
  ne : Pl ≠ Pu
def retOf (k : Nat) : V := if 0 < k then .int 0 else .non
section
variable {P : Program} {w : World} {K : PySem.W.Frag} {mg : Str → Option Value} {base : Heap} {CI C0 fN pm gt CM gF Pl Pu cc f : Addr} {C : Nat → Addr} {fdF : FuncData} {A : Around} {outer : List Env} {s : Shared} {H0 : Hp} {E : XK} {k : Nat}
theorem lm5 (PP : LPr P w K mg base CI C0 fN pm gt CM gF Pl Pu C fdF) : LF (lX P w K mg base f cc A outer s H0 E) 8 C (GL K CI Pl Pu k) (lM 5, some 0, .ret (retOf k)) := by
  refine ⟨fun E => _, ⟨⟨["_law_d"], lgM5, "_law_d", List.mem_cons_self, fun _ _ _ _ _ _ _ => ⟨_, rfl, rfl⟩⟩, fun A outer s H E f c' hrb => pe_cal PP.fwk (hrb.mono (by decide)) pass0 (pa_cons (pv 12) (pa_cons (pe_tup pa_nil) (pa_cons (pv 15) (pa_cons (pe_op op_rep (pe_lst (pa_cons (pv 11) pa_nil)) (pv 14)) pa_nil))))⟩, ?_⟩
  rintro σ H Ex Q ⟨v0, v2, v3, v5, v6, v8, v9, v20, v21, b, l, xi, ra, sp, oa, ga, ca, dg, wi, te, ce, d1, d2, rows, r, us, tc, tt, o, c, wd, rfl, g, p⟩ kk
  have k3 := p.k3
  refine ⟨_, rfl, by show 0 ≤ sizeLine; decide, fun t ht => ⟨_, rfl, _, rfl, by show 1 ≤ sizeLine; decide, fun l1 hl1 => ⟨_, rfl, ?_⟩⟩⟩
  have s1 := Same.new (Same.refl H) ht (o := .tup [])
  have e1 : (upd H t (.tup [])) t = some (.tup []) := upd_same
  generalize upd H t (.tup []) = H1 at s1 e1 hl1 ⊢
  have s2 := Same.new (Same.refl H1) hl1 (o := .lst [.ref ga])
  have e2 : (upd H1 l1 (.lst [.ref ga])) l1 = some (.lst [.ref ga]) := upd_same
  have e12 := s2 _ _ e1
  generalize upd H1 l1 (.lst [.ref ga]) = H2 at s2 e2 e12 ⊢
  have s12 := s1.trans s2
  refine ⟨l1, _, _, rfl, rfl, e2, by omega, by omega, by rw [show ((k : Int)).toNat = k from rfl, List.length_singleton, sizeLine_eq]; omega, fun l2 hl2 => nilArgs ?_⟩
  rw [show ((k : Int)).toNat = k from rfl, rep_one]
  have s3 := s12.trans (Same.new (Same.refl H2) hl2 (o := .lst (List.replicate k (.ref ga))))
  have e3 : (upd H2 l2 (.lst (List.replicate k (.ref ga)))) l2 = some (.lst (List.replicate k (.ref ga))) := upd_same
  have e13 := (Same.new (Same.refl H2) hl2 (o := .lst (List.replicate k (.ref ga)))) _ _ e12
  generalize upd H2 l2 (.lst (List.replicate k (.ref ga))) = H3 at s3 e3 e13 ⊢
  have g3 := g.same s3
  have dG : Dp K H3 (.ref ga) (digD (c, "found")) := .tup (.inl (.inl g3.hg)) (.cons (cell_dp (.inl (.inl g3.hc))) (.cons (.str _) .nil))
  have dA : DpAll K H3 (List.replicate k (.ref ga)) ((List.replicate k ((c, "found") : Dig)).map digD) := by
    rw [List.map_replicate]
    have all : ∀ n : Nat, DpAll K H3 (List.replicate n (V.ref ga)) (List.replicate n (digD (c, "found"))) := fun n => by
      induction n with
      | zero => exact .nil
      | succ n ih => exact .cons dG ih
    exact all k
  refine ⟨xi, t, ra, l2, rows, [], r, List.replicate k (c, "found"), rfl, ⟨g3.I, p.vd.toGood2, .tup (.inl (.inl e13)) .nil, (fun q hq => by cases hq), g3.R, p.rok, .lst (.inl (.inl e3)) dA, (fun d hd => by rw [(List.mem_replicate.mp hd).2]; exact ⟨p.inc, found_in r⟩), by decide, by rw [List.length_replicate]; omega⟩, fun H' s' => ?_⟩
  rw [firstW_rep r _ k3]
  have := kk H' (s3.trans s')
  unfold retOf at this
  by_cases h : 0 < k
  · rw [if_pos h] at this ⊢
    exact this
  · rw [if_neg h] at this ⊢
    exact this
end
end Om

namespace Om
open PySem PySem.Spec PyProof.Rows L2 LamX NdefX
def b18 : List Stmt := turnB.drop 18
def b16 : List Stmt := turnB.drop 16
def zsM (k : Nat) : List LZ := [(lM 1, none, .err 0), (lM 2, some 0, .dig k), (lM 3, some 0, .dig k), (lM 4, some 0, .err 2), (lM 5, some 0, .ret (retOf k))]
theorem okzM (k : Nat) : ∀ z ∈ zsM k, OcOk z.2.2 := by
  intro z hz
  simp only [zsM, List.mem_cons, List.not_mem_nil, or_false] at hz
  rcases hz with rfl | rfl | rfl | rfl | rfl
  · exact (by decide : (0 : Nat) < 3)
  · trivial
  · trivial
  · exact (by decide : (2 : Nat) < 3)
  · show retOf k = .non ∨ ∃ m, retOf k = .int m
    unfold retOf
    split
    · exact .inr ⟨0, rfl⟩
    · exact .inl rfl
theorem okD_M (k : Nat) : okD 4 (.list ((zsM k).map fun z => outD z.2.2)) = true := by
  have h : ∀ m : Int, okD 3 (.tuple [.str "InvalidDig", .int m]) = true := fun m => by
    show (decide (2 ≤ 10000) && (okD 2 (.str "InvalidDig") && (okD 2 (.int m) && true))) = true
    rw [show okD 2 (.str "InvalidDig") = true from by decide +kernel]
    rfl
  have h5 : okD 3 (outD (.ret (retOf k))) = true := by
    unfold retOf
    split <;> rfl
  show (decide (5 ≤ 10000) && (okD 3 (.str (nmF 0)) && (okD 3 (.tuple [.str "InvalidDig", .int (k : Nat)]) && (okD 3 (.tuple [.str "InvalidDig", .int (k : Nat)]) && (okD 3 (.str (nmF 2)) && (okD 3 (outD (.ret (retOf k))) && true)))))) = true
  rw [h, h5, show okD 3 (.str (nmF 0)) = true from by decide +kernel, show okD 3 (.str (nmF 2)) = true from by decide +kernel]
  rfl
def worMl : Expr := arg0 (notE (testE (turnB.getD 17 noS)))
theorem blkWM : BlkOk nLaw (defScope sLaw) (lcScope worMl) [("_law_work", 21)] := blkOk_by (by decide +kernel)
section
variable {P : Program} {w : World} {K : PySem.W.Frag} {mg : Str → Option Value} {base : Heap} {CI C0 fN pm gt CM gF Pl Pu cc f : Addr} {C : Nat → Addr} {fdF : FuncData}
theorem allM (PP : LPr P w K mg base CI C0 fN pm gt CM gF Pl Pu C fdF) {A : Around} {outer : List Env} {s : Shared} {H0 : Hp} {E : XK} (k : Nat) : ∀ z ∈ zsM k, LF (lX P w K mg base f cc A outer s H0 E) 8 C (GL K CI Pl Pu k) z := by
  intro z hz
  simp only [zsM, List.mem_cons, List.not_mem_nil, or_false] at hz
  rcases hz with rfl | rfl | rfl | rfl | rfl
  · exact lm1 PP.u.px
  · exact lm2 PP.u.px
  · exact lm3 PP.u.px
  · exact lm4 PP.u.px
  · exact lm5 PP
theorem law_b18 (PP : LPr P w K mg base CI C0 fN pm gt CM gF Pl Pu C fdF) {A : Around} {outer : List Env} {s : Shared} {H0 : Hp} {E : XK} (hr : Room 11 (A.deeper (envOfC "law" (defScope sLaw) s.heap.objs.size f (.ref cc)))) :
    ∃ t, PSs (lX P w K mg base f cc A outer s H0 E) b18 t ∧
      ∀ (Dn : Ends) (v0 v2 v3 v5 v6 v8 v9 v20 v21 : Option V) (b l xi ra sp oa ga ca dg wi te ce d1 d2 : Addr) (rows : List (List Nat)) (r : Rl) (us tc : TC) (tt : TX) (o : Int × Int) (c : Cell) (wd : Str) (k : Nat) (H : Hp),
        TG K CI Pl Pu H b l xi ra sp oa ga ca dg wi te ce d1 d2 rows r us tc tt o c wd k → TP rows r us tc tt o c wd k → (∀ H', Bx H' b l → Tabs (TT2 Pl Pu) H' → Dn.nx (sT v0 v2 v3 v5 v6 v8 v9 v20 v21 b l xi ra sp oa ga ca dg wi te ce wd k) H') →
        t Dn (sT v0 v2 v3 v5 v6 v8 v9 v20 v21 b l xi ra sp oa ga ca dg wi te ce wd k) H := by
  have nd := scLaw.nd
  have hu := hr.units
  have hr3 : Room 3 _ := hr.mono (by decide)
  have hr6 : Room 6 _ := hr.mono (by decide)
  refine ⟨_, pss_cons (ps_if (PW.pt (pw_or (pt_cmpR (op_neD hu) (pe_cal PP.ndk hr6 pass0 (pa_cons (pv 12) (pa_cons (pe_tup pa_nil) (pa_cons (pv 15) pa_nil)))) (pe_ix ix_list (pv 4) pe_int (fun _ _ => rfl)) (nomark _))
      (pw_or1 (pt_cmpR op_ne (pe_cal PP.fdk hr6 pass0 (pa_cons (pv 12) (pa_cons (pe_tup pa_nil) (pa_cons (pv 15) pa_nil)))) pe_int (nomark _))))) pss_no pss_nil)
    (pss_one (ps_if (PW.pt (pw_or (pt_cmpR op_ne (pe_cal PP.hnt hr3 pass0 (pa_cons (pe_tup (pa_cons pe_str (pa_cons pe_int pa_nil))) (pa_cons (pe_tup (pa_cons pe_int (pa_cons pe_int pa_nil))) (pa_cons (pe_tup (pa_cons pe_int (pa_cons pe_int pa_nil))) pa_nil)))) pe_str (nomark _))
      (pw_or1 (pt_cmpR op_ne (pe_cal PP.fdk hr6 pass0 (pa_cons (pv 12) (pa_cons (pe_tup (pa_cons (pv 7) pa_nil)) (pa_cons (pv 15) pa_nil)))) pe_int (nomark _))))) pss_no pss_nil)), ?_⟩
  intro Dn v0 v2 v3 v5 v6 v8 v9 v20 v21 b l xi ra sp oa ga ca dg wi te ce d1 d2 rows r us tc tt o c wd k H g p kn
  have hne : cellsOf rows ≠ [] := fun e => by have := p.inc; rw [e] at this; cases this
  -- the first dig without places
  refine ⟨_, rfl, by show 0 ≤ sizeLine; decide, fun t ht => ⟨_, rfl, nilArgs ?_⟩⟩
  have s1 := Same.new (Same.refl H) ht (o := .tup [])
  have e1 : (upd H t (.tup [])) t = some (.tup []) := upd_same
  generalize upd H t (.tup []) = H1 at s1 e1 ⊢
  have g1 := g.same s1
  refine ⟨xi, t, ra, rows, [], r, rfl, g1.I, p.vd, hne, .tup (.inl (.inl e1)) .nil, (fun q hq => by cases hq), g1.R, p.rok, by decide, fun x j c0 H2 s2 hf hj hx => ?_⟩
  obtain rfl := first_nil hne hf
  have g2 := g1.same s2
  obtain ⟨q0, tr, rfl⟩ : ∃ q0 tr, tc = q0 :: tr := by
    cases tc with
    | nil => exact absurd p.ctc.symm hne
    | cons q0 tr => exact ⟨q0, tr, rfl⟩
  have ec : q0.2 = c0 := by
    have := p.ctc
    rw [← this] at hj
    exact Option.some.inj hj
  refine ⟨_, rfl, ce, _, 0, _, rfl, rfl, .inl (.inl g2.hce), at0, cdp c0, cdp q0.2, hx, cell_dp (.inl (.inl (g2.cce q0 List.mem_cons_self))), sh_cell _, sh_cell _, _, rfl, ?_⟩
  rw [eqv_cells, ec]
  refine iteF' (by rw [decide_eq_true rfl]; rfl) ?_
  -- no dig for no place
  refine ⟨_, rfl, by show 0 ≤ sizeLine; decide, fun t2 ht2 => ⟨_, rfl, nilArgs ?_⟩⟩
  have s3 := Same.new (Same.refl H2) ht2 (o := .tup [])
  have e3 : (upd H2 t2 (.tup [])) t2 = some (.tup []) := upd_same
  generalize upd H2 t2 (.tup []) = H3 at s3 e3 ⊢
  have g3 := g2.same s3
  refine ⟨xi, t2, ra, rows, [], r, rfl, g3.I, p.vd, .tup (.inl (.inl e3)) .nil, (fun q hq => by cases hq), g3.R, p.rok, by decide, ⟨[[]], by decide, fun m hm => by rw [splits_nil r _ m hm]; exact List.mem_cons_self⟩, fun S H4 s4 hS => ⟨rfl, _, rfl, iteF' rfl ?_⟩⟩
  have g4 := g3.same s4
  -- a hint
  refine ⟨by show 2 ≤ sizeLine; decide, fun q1 h1 => ⟨by show 2 ≤ sizeLine; decide, fun q2 h2 => ⟨by show 2 ≤ sizeLine; decide, fun q3 h3 => nilArgs ?_⟩⟩⟩
  have s5 := Same.new (Same.refl H4) h1 (o := .tup [.str "near", .int 22])
  have e5 : (upd H4 q1 (.tup [.str "near", .int 22])) q1 = some (.tup (Rl.near 22).vs) := upd_same
  generalize upd H4 q1 (.tup [.str "near", .int 22]) = H5 at s5 e5 h2 h3 ⊢
  have s6 := Same.new (Same.refl H5) h2 (o := .tup [.int 0, .int 0])
  have e6 : (upd H5 q2 (.tup [.int 0, .int 0])) q2 = some (.tup (cvs (0, 0))) := upd_same
  generalize upd H5 q2 (.tup [.int 0, .int 0]) = H6 at s6 e6 h3 ⊢
  have s7 := Same.new (Same.refl H6) h3 (o := .tup [.int 11, .int 11])
  have e7 : (upd H6 q3 (.tup [.int 11, .int 11])) q3 = some (.tup (cvs (11, 11))) := upd_same
  generalize upd H6 q3 (.tup [.int 11, .int 11]) = H7 at s7 e7 ⊢
  refine ⟨q1, q2, q3, .near 22, (0, 0), (11, 11), rfl, .inl (.inl ((s6.trans s7) _ _ e5)), .inl (.inl (s7 _ _ e6)), .inl (.inl e7), ⟨by decide, by decide⟩, fun H8 s8 => ⟨rfl, _, rfl, iteF' ?_ ?_⟩⟩
  · rw [show told (.near 22) (0, 0) (11, 11) = ("near" : Str) from by decide +kernel, eqS]
    rfl
  have g8 := g4.same (s5.trans (s6.trans (s7.trans s8)))
  -- one dig for one place
  refine ⟨_, rfl, _, rfl, by show 1 ≤ sizeLine; decide, fun t9 ht9 => ⟨_, rfl, nilArgs ?_⟩⟩
  have s9 := Same.new (Same.refl H8) ht9 (o := .tup [.ref ca])
  have e9 : (upd H8 t9 (.tup [.ref ca])) t9 = some (.tup [.ref ca]) := upd_same
  generalize upd H8 t9 (.tup [.ref ca]) = H9 at s9 e9 ⊢
  have g9 := g8.same s9
  obtain ⟨so1, so2⟩ := splits_one (r := r) p.inc
  refine ⟨xi, t9, ra, rows, [c], r, rfl, g9.I, p.vd, .tup (.inl (.inl e9)) (.cons (cell_dp (.inl (.inl g9.hc))) .nil), (fun q hq => by rw [List.mem_singleton.mp hq]; exact p.inc), g9.R, p.rok, by rw [List.length_singleton]; decide, ⟨[[], [1]], by decide, fun m hm => ?_⟩, fun S Ha sa hS => ⟨rfl, _, rfl, iteF' ?_ ?_⟩⟩
  · rcases so1 m hm with rfl | rfl
    · exact List.mem_cons_self
    · exact List.mem_cons_of_mem _ List.mem_cons_self
  · have := tab_one (S := S) fun m hm => so1 m ((hS m).mp hm)
    show (!decide (V.int (((tab S 1).getD 1 0 : Nat) : Int) = V.int 1)) = false
    rw [this]
    rfl
  · exact kn Ha (g9.same sa).B (g9.same sa).T
theorem law_b16 (PP : LPr P w K mg base CI C0 fN pm gt CM gF Pl Pu C fdF) {A : Around} {outer : List Env} {s : Shared} {H0 : Hp} {E : XK} (hr : Room 11 (A.deeper (envOfC "law" (defScope sLaw) s.heap.objs.size f (.ref cc)))) :
    ∃ t : Nat → TS, (∀ k, PSs (lX P w K mg base f cc A outer s H0 E) b16 (t k)) ∧
      ∀ (Dn : Ends) (v0 v2 v3 v5 v6 v9 v20 v21 : Option V) (b l xi ra sp oa ga ca dg wi te ce d1 d2 wk : Addr) (fs : List Addr) (rows : List (List Nat)) (r : Rl) (us tc : TC) (tt : TX) (o : Int × Int) (c : Cell) (wd : Str) (k : Nat) (H : Hp),
        TG K CI Pl Pu H b l xi ra sp oa ga ca dg wi te ce d1 d2 rows r us tc tt o c wd k → TP rows r us tc tt o c wd k → H wk = some (.lst (fs.map V.ref)) → LA (lX P w K mg base f cc A outer s H0 E) H fs (zsM k) → (∀ H' v9, Bx H' b l → Tabs (TT2 Pl Pu) H' → Dn.nx (sT v0 v2 v3 v5 v6 (some (.ref wk)) v9 v20 v21 b l xi ra sp oa ga ca dg wi te ce wd k) H') →
        t k Dn (sT v0 v2 v3 v5 v6 (some (.ref wk)) v9 v20 v21 b l xi ra sp oa ga ca dg wi te ce wd k) H := by
  obtain ⟨t8, q8, r8⟩ := law_b18 (f := f) (cc := cc) PP (A := A) (outer := outer) (s := s) (H0 := H0) (E := E) hr
  have nd := scLaw.nd
  have hr3 : Room 3 _ := hr.mono (by decide)
  have hr5 : Room 5 _ := hr.mono (by decide)
  have hr10 : Room 10 _ := hr.mono (by decide)
  obtain ⟨ocE, odE, dE, kE, docE, pmE, anE, cdE, ctE, oslE, rfl, lkE, hcE, _, _⟩ := PP.u.FF.ex
  have hk := fun k => lf_choose (allM (f := f) (cc := cc) (Pl := Pl) (Pu := Pu) PP (A := A) (outer := outer) (s := s) (H0 := H0) (E := E) k)
  obtain ⟨tbs, htb⟩ := Classical.axiomOfChoice hk
  refine ⟨fun k => _, fun k => pss_cons (ps_set (i := 9) nd rfl (.inl rfl) (pe_lst (pa_cons pe_str (pa_cons (pe_tup (pa_cons pe_str (pa_cons (pv 14) pa_nil))) (pa_cons (pe_tup (pa_cons pe_str (pa_cons (pv 14) pa_nil))) (pa_cons pe_str (pa_cons (pe_ifExp (pt_cmpR op_gt (pv 14) pe_int (nomark _)) pe_int pe_non) pa_nil)))))))
    (pss_cons (ps_if (pt_not (pt_val (pe_cal PP.u.alk hr5 pass0 (pa_cons (pe_lcV (own := [("_law_work", 21)]) (g := gName 21) (te := tGiveV _ (jsOf (tbs k) (zsM k)) (TFail C) 21) rfl nd (pi_listK (K := K) rfl (pv 8)) blkWM (fun _ _ _ _ _ => pg_name (i := 21) nd rfl (.inl rfl)) (fun _ _ _ _ _ => pts_nil)
        (fun _ _ _ _ _ => pev_give (k := 8) rfl PP.u.hF PP.u.FF.kp lkE hcE PP.u.bF scFail rfl (.inl rfl) (fail_gives PP.u.fai) hr10 hr3 (fun j hj => by
          obtain ⟨z, hz, rfl⟩ := List.mem_map.mp hj
          exact (htb k z hz).1) rfl (.inl rfl))) (pa_cons (pv 9) pa_nil))))) pss_no pss_nil) q8), ?_⟩
  intro Dn v0 v2 v3 v5 v6 v9 v20 v21 b l xi ra sp oa ga ca dg wi te ce d1 d2 wk fs rows r us tc tt o c wd k H g p hw a kn
  refine ⟨_, rfl, by show 2 ≤ sizeLine; decide, fun u1 h1 => ⟨_, rfl, by show 2 ≤ sizeLine; decide, fun u2 h2 => ?_⟩⟩
  have s1 := Same.new (Same.refl H) h1 (o := .tup [.str "InvalidDig", .int (k : Nat)])
  have e1 : (upd H u1 (.tup [.str "InvalidDig", .int (k : Nat)])) u1 = some (.tup [.str "InvalidDig", .int (k : Nat)]) := upd_same
  generalize upd H u1 (.tup [.str "InvalidDig", .int (k : Nat)]) = H1 at s1 e1 h2 ⊢
  have s2 := Same.new (Same.refl H1) h2 (o := .tup [.str "InvalidDig", .int (k : Nat)])
  have e2 : (upd H1 u2 (.tup [.str "InvalidDig", .int (k : Nat)])) u2 = some (.tup [.str "InvalidDig", .int (k : Nat)]) := upd_same
  have e12 := s2 _ _ e1
  generalize upd H1 u2 (.tup [.str "InvalidDig", .int (k : Nat)]) = H2 at s2 e2 e12 ⊢
  have s12 := s1.trans s2
  have due : ∀ (u3 : Addr), H2 u3 = none → Same H2 (upd H2 u3 (.lst [.str "UnknownCell", .ref u1, .ref u2, .str "TooMany", retOf k])) ∧ Dp K (upd H2 u3 (.lst [.str "UnknownCell", .ref u1, .ref u2, .str "TooMany", retOf k])) (.ref u3) (.list ((zsM k).map fun z => outD z.2.2)) := fun u3 h3 => by
    have s3 := Same.new (Same.refl H2) h3 (o := .lst [.str "UnknownCell", .ref u1, .ref u2, .str "TooMany", retOf k])
    refine ⟨s3, .lst (.inl (.inl upd_same)) (.cons (.str _) (.cons (.tup (.inl (.inl (s3 _ _ e12))) (.cons (.str _) (.cons (.int _) .nil))) (.cons (.tup (.inl (.inl (s3 _ _ e2))) (.cons (.str _) (.cons (.int _) .nil))) (.cons (.str _) (.cons ?_ .nil)))))⟩
    show Dp K _ (retOf k) (outD (.ret (retOf k)))
    unfold retOf
    split
    · exact .int _
    · exact .non
  have fin : ∀ (u3 : Addr), H2 u3 = none → ∀ H3, H3 = (upd H2 u3 (.lst [.str "UnknownCell", .ref u1, .ref u2, .str "TooMany", retOf k])) →
      ∀ D, H3 D = none → ∀ Fin : Hp → Prop, (∀ H4, Same H3 H4 → Dp K H4 (.ref D) (.list ((zsM k).map fun z => outD z.2.2)) → Dp K H4 (.ref u3) (.list ((zsM k).map fun z => outD z.2.2)) → (∀ H5, Same H4 H5 → t8 Dn (sT v0 v2 v3 v5 v6 (some (.ref wk)) (some (.ref u3)) v20 v21 b l xi ra sp oa ga ca dg wi te ce wd k) H5) → Fin H4) →
      ∃ W : Nat → Nat → Hp → Prop, (∃ m, W 0 m (upd H3 D (.lst []))) ∧ Wlk (Itl K wk) W Fin fun x H' Nx => gName 21 x (wipe (sT v0 v2 v3 v5 v6 (some (.ref wk)) (some (.ref u3)) v20 v21 b l xi ra sp oa ga ca dg wi te ce wd k) [21]) H' fun σ2 H2 => wipe σ2 [21] = wipe (sT v0 v2 v3 v5 v6 (some (.ref wk)) (some (.ref u3)) v20 v21 b l xi ra sp oa ga ca dg wi te ce wd k) [21] ∧ tYes σ2 H2 fun b' H3 =>
      if b' = true then (tGiveV (lX P w K mg base f cc A outer s H0 E) (jsOf (tbs k) (zsM k)) (TFail C) 21 (sT v0 v2 v3 v5 v6 (some (.ref wk)) (some (.ref u3)) v20 v21 b l xi ra sp oa ga ca dg wi te ce wd k) σ2 H3 fun y H4 => ∃ acc, H4 D = some (.lst acc) ∧ acc.length < sizeLine ∧ Nx (upd H4 D (.lst (acc ++ [y])))) else Nx H3 := by
    intro u3 h3 H3 eH D hD Fin cont
    obtain ⟨s3, d3⟩ := due u3 h3
    rw [← eH] at s3 d3
    have s03 := s12.trans s3
    have g3 := g.same s03
    refine fails_wlk (K := K) (slot := 21) (G := GL K CI Pl Pu k) hD (by show 21 < 22; decide) (s03 _ _ hw) (a.ext (Same.extN s03)) (fun z hz => (htb k z hz).2) (fun H' s' => ⟨_, _, _, _, _, _, _, _, _, _, _, _, _, _, _, _, _, _, _, _, _, _, _, _, _, _, _, _, _, _, _, rfl, g3.same s', p⟩) (okzM k) (by show 5 ≤ 50; decide) fun H4 s4 d4 => cont H4 s4 d4 (Same.dp s4 d3) fun H5 s5 => ?_
    have g5 := g3.same (s4.trans s5)
    exact r8 Dn _ _ _ _ _ _ _ _ _ b l xi ra sp oa ga ca dg wi te ce d1 d2 rows r us tc tt o c wd k H5 g5 p fun H' B' T' => kn H' _ B' T'
  have go : ∀ (u3 : Addr), H2 u3 = none → ∀ H3, H3 = (upd H2 u3 (.lst [.str "UnknownCell", .ref u1, .ref u2, .str "TooMany", retOf k])) → H3 wk = some (.lst (fs.map V.ref)) := fun u3 h3 H3 eH => by
    rw [eH]
    exact (due u3 h3).1 _ _ (s12 _ _ hw)
  refine ⟨_, rfl, _, _, rfl, rfl, _, rfl, ?_⟩
  by_cases hk0 : 0 < k
  · have er : retOf k = .int 0 := if_pos hk0
    refine iteT' (decide_eq_true (by omega)) ⟨by show 5 ≤ sizeLine; decide, fun u3 h3 => ?_⟩
    have eH : (upd H2 u3 (.lst [.str "UnknownCell", .ref u1, .ref u2, .str "TooMany", .int 0])) = (upd H2 u3 (.lst [.str "UnknownCell", .ref u1, .ref u2, .str "TooMany", retOf k])) := by rw [er]
    refine ⟨_, rfl, wk, rfl, ⟨_, .inl (.inl (go u3 h3 _ eH))⟩, fun D hD => ?_⟩
    exact fin u3 h3 _ eH D hD _ fun H4 s4 dD dU k5 => ⟨_, rfl, nilArgs ⟨_, _, _, rfl, dD, dU, okD_M k, fun H5 s5 => ⟨true, rfl, iteF' rfl (k5 H5 s5)⟩⟩⟩
  · have er : retOf k = .non := if_neg hk0
    refine iteF' (decide_eq_false (by omega)) ⟨by show 5 ≤ sizeLine; decide, fun u3 h3 => ?_⟩
    have eH : (upd H2 u3 (.lst [.str "UnknownCell", .ref u1, .ref u2, .str "TooMany", .non])) = (upd H2 u3 (.lst [.str "UnknownCell", .ref u1, .ref u2, .str "TooMany", retOf k])) := by rw [er]
    refine ⟨_, rfl, wk, rfl, ⟨_, .inl (.inl (go u3 h3 _ eH))⟩, fun D hD => ?_⟩
    exact fin u3 h3 _ eH D hD _ fun H4 s4 dD dU k5 => ⟨_, rfl, nilArgs ⟨_, _, _, rfl, dD, dU, okD_M k, fun H5 s5 => ⟨true, rfl, iteF' rfl (k5 H5 s5)⟩⟩⟩
end
end Om

namespace Om
open PySem PySem.Spec PyProof.Rows L2 LamX NdefX
theorem Bx.updO {b l D : Addr} {H : Hp} {o : HO} (B : Bx H b l) (h1 : D ≠ b) (h2 : D ≠ l) : Bx (upd H D o) b l := by
  obtain ⟨ns, z, j, k1, k2, k3⟩ := B.ex
  exact ⟨ns, z, j, by rw [upd_ne h1.symm]; exact k1, by rw [upd_ne h2.symm]; exact k2, k3⟩
/-- a list of the law's own, none of those that stand -/
structure WN (wk b l dg ce : Addr) : Prop where
  nb : wk ≠ b
  nl : wk ≠ l
  nd : wk ≠ dg
  nc : wk ≠ ce
section
variable {K : PySem.W.Frag} {CI Pl Pu : Addr} {H H' : Hp} {b l xi ra sp oa ga ca dg wi te ce d1 d2 wk : Addr} {rows : List (List Nat)} {r : Rl} {us tc : TC} {tt : TX} {o : Int × Int} {c : Cell} {wd : Str} {k : Nat}
theorem TG.wn (g : TG K CI Pl Pu H b l xi ra sp oa ga ca dg wi te ce d1 d2 rows r us tc tt o c wd k) (h : H wk = none) : WN wk b l dg ce := by
  obtain ⟨_, _, _, h1, h2, _⟩ := g.B.ex
  exact ⟨(fun e => by rw [e, h1] at h; cases h), (fun e => by rw [e, h2] at h; cases h), (fun e => by rw [e, g.hd] at h; cases h), (fun e => by rw [e, g.hce] at h; cases h)⟩
theorem TG.app {xs : List V} {o' : HO} (g : TG K CI Pl Pu H b l xi ra sp oa ga ca dg wi te ce d1 d2 rows r us tc tt o c wd k) (hw : H wk = some (.lst xs)) (n : WN wk b l dg ce) : TG K CI Pl Pu (upd H wk o') b l xi ra sp oa ga ca dg wi te ce d1 d2 rows r us tc tt o c wd k where
  B := g.B.updO n.nb n.nl
  I := isl_keep hw g.I
  R := sqT_keep hw g.R
  hs := upd_keep hw g.hs fun ys e => by cases e
  cs := fun p hp => upd_keep hw (g.cs p hp) fun ys e => by cases e
  ho := upd_keep hw g.ho fun ys e => by cases e
  hg := upd_keep hw g.hg fun ys e => by cases e
  hc := upd_keep hw g.hc fun ys e => by cases e
  hd := by rw [upd_ne n.nd.symm]; exact g.hd
  h1 := upd_keep hw g.h1 fun ys e => by cases e
  h2 := upd_keep hw g.h2 fun ys e => by cases e
  Iw := isl_keep hw g.Iw
  ht := upd_keep hw g.ht fun ys e => by cases e
  ct := fun p hp => upd_keep hw (g.ct p hp) fun ys e => by cases e
  hce := by rw [upd_ne n.nc.symm]; exact g.hce
  cce := fun p hp => upd_keep hw (g.cce p hp) fun ys e => by cases e
  T := tabs_keep hw g.T
end
def b11 : List Stmt := turnB.drop 11
def b10 : List Stmt := turnB.drop 10
section
variable {P : Program} {w : World} {K : PySem.W.Frag} {mg : Str → Option Value} {base : Heap} {CI C0 fN pm gt CM gF Pl Pu cc f : Addr} {C : Nat → Addr} {fdF : FuncData}
theorem law_b11 (PP : LPr P w K mg base CI C0 fN pm gt CM gF Pl Pu C fdF) (TB : TabB base mg cc Pl) {A : Around} {outer : List Env} {s : Shared} {H0 : Hp} {E : XK} (hr : Room 11 (A.deeper (envOfC "law" (defScope sLaw) s.heap.objs.size f (.ref cc)))) :
    ∃ t : Nat → TS, (∀ k, PSs (lX P w K mg base f cc A outer s H0 E) b11 (t k)) ∧
      ∀ (Dn : Ends) (v0 v2 v3 v5 v6 v8 v9 v20 v21 : Option V) (b l xi ra sp oa ga ca dg wi te ce d1 d2 : Addr) (rows : List (List Nat)) (r : Rl) (us tc : TC) (tt : TX) (o : Int × Int) (c : Cell) (wd : Str) (k : Nat) (H : Hp),
        TG K CI Pl Pu H b l xi ra sp oa ga ca dg wi te ce d1 d2 rows r us tc tt o c wd k → TP rows r us tc tt o c wd k → (∀ H' v8 v9, Bx H' b l → Tabs (TT2 Pl Pu) H' → Dn.nx (sT v0 v2 v3 v5 v6 v8 v9 v20 v21 b l xi ra sp oa ga ca dg wi te ce wd k) H') →
        t k Dn (sT v0 v2 v3 v5 v6 v8 v9 v20 v21 b l xi ra sp oa ga ca dg wi te ce wd k) H := by
  obtain ⟨t6, q6, r6⟩ := law_b16 (f := f) (cc := cc) PP (A := A) (outer := outer) (s := s) (H0 := H0) (E := E) hr
  have nd := scLaw.nd
  have hu := tt2_l PP.ne
  have hm := tt2_ml (Pl := Pl) (Pu := Pu)
  refine ⟨fun k => _, fun k => pss_cons (ps_set (i := 8) nd rfl (.inl rfl) (pe_lst (pa_cons (pe_lamV0 (T := TT2 Pl Pu) TB rfl hm hu rfl lgM1.free) pa_nil)))
    (pss_cons (ps_set (i := 8) nd rfl (.inl rfl) (pe_op op_cat (pv 8) (pe_lst (pa_cons (pe_lamV1 (T := TT2 Pl Pu) TB rfl hm hu rfl lgM2.free) pa_nil))))
    (pss_cons (ps_expr (pe_bm PySem.F.plainAttrs_list PySem.F.slot_list_append PySem.F.type_list_append mt_append (pv 8) (pa_cons (pe_lamV1 (T := TT2 Pl Pu) TB rfl hm hu rfl lgM3.free) pa_nil)))
    (pss_cons (ps_expr (pe_bm PySem.F.plainAttrs_list PySem.F.slot_list_append PySem.F.type_list_append mt_append (pv 8) (pa_cons (pe_lamV1 (T := TT2 Pl Pu) TB rfl hm hu rfl lgM4.free) pa_nil)))
    (pss_cons (ps_expr (pe_bm PySem.F.plainAttrs_list PySem.F.slot_list_append PySem.F.type_list_append mt_append (pv 8) (pa_cons (pe_lamV1 (T := TT2 Pl Pu) TB rfl hm hu rfl lgM5.free) pa_nil))) (q6 k))))), ?_⟩
  intro Dn v0 v2 v3 v5 v6 v8 v9 v20 v21 b l xi ra sp oa ga ca dg wi te ce d1 d2 rows r us tc tt o c wd k H g p kn
  refine ⟨g.T, fun f1 H1 x1 T1 _ k1 => ⟨by show 1 ≤ sizeLine; decide, fun w1 hw1 => ?_⟩⟩
  have g1 := g.ext T1 x1
  have a1 : LA (lX P w K mg base f cc A outer s H0 E) H1 [f1] [(lM 1, none, .err 0)] := LA.nil.snoc (z := (lM 1, none, .err 0)) k1
  have s3 := Same.new (Same.refl H1) hw1 (o := .lst ([f1].map V.ref))
  have e3 : (upd H1 w1 (.lst ([f1].map V.ref))) w1 = some (.lst ([f1].map V.ref)) := upd_same
  have eh : (upd H1 w1 (.lst [.ref f1])) = upd H1 w1 (.lst ([f1].map V.ref)) := rfl
  rw [eh]
  generalize upd H1 w1 (.lst ([f1].map V.ref)) = H3 at s3 e3 ⊢
  have g3 := g1.same s3
  have a3 := a1.ext (Same.extN s3)
  refine ⟨_, rfl, g3.T, fun f2 H4 x4 T4 _ k2 => ⟨by show 1 ≤ sizeLine; decide, fun l1 hl1 => ?_⟩⟩
  have g4 := g3.ext T4 x4
  have a4 : LA (lX P w K mg base f cc A outer s H0 E) H4 [f1, f2] [(lM 1, none, .err 0), (lM 2, some 0, .dig k)] := (a3.ext x4).snoc (z := (lM 2, some 0, .dig k)) k2
  have e4 := x4 _ _ e3 fun ps e => by cases e
  have s6 := Same.new (Same.refl H4) hl1 (o := .lst [.ref f2])
  have e6 : (upd H4 l1 (.lst [.ref f2])) l1 = some (.lst [.ref f2]) := upd_same
  have e46 := s6 _ _ e4
  generalize upd H4 l1 (.lst [.ref f2]) = H6 at s6 e6 e46 ⊢
  have g6 := g4.same s6
  have a6 := a4.ext (Same.extN s6)
  refine ⟨w1, l1, _, _, rfl, rfl, e46, e6, by show 1 + 1 ≤ sizeLine; decide, fun w2 hw2 => ?_⟩
  have nn := g6.wn hw2
  have s7 := Same.new (Same.refl H6) hw2 (o := .lst ([f1, f2].map V.ref))
  have e7 : (upd H6 w2 (.lst ([f1, f2].map V.ref))) w2 = some (.lst ([f1, f2].map V.ref)) := upd_same
  have g7 := g6.same s7
  have a7 := a6.ext (Same.extN s7)
  show (fun (Hx : Hp) => _) (upd H6 w2 (.lst ([f1, f2].map V.ref)))
  generalize upd H6 w2 (.lst ([f1, f2].map V.ref)) = H7 at s7 e7 g7 a7 ⊢
  -- the third
  refine ⟨_, rfl, .inl ⟨rfl, _, .inl (.inl e7)⟩, g7.T, fun f3 H8 x8 T8 _ k3 => nilArgs ?_⟩
  have e8 := x8 _ _ e7 fun ps e => by cases e
  refine ⟨w2, _, _, rfl, rfl, e8, by show 2 < sizeLine; decide, ?_⟩
  have g9 := (g7.ext T8 x8).app (o' := .lst ([f1, f2, f3].map V.ref)) e8 nn
  have a9 : LA (lX P w K mg base f cc A outer s H0 E) (upd H8 w2 (.lst ([f1, f2, f3].map V.ref))) [f1, f2, f3] [(lM 1, none, .err 0), (lM 2, some 0, .dig k), (lM 3, some 0, .dig k)] := ((a7.ext x8).snoc (z := (lM 3, some 0, .dig k)) k3).app e8
  have e9 : (upd H8 w2 (.lst ([f1, f2, f3].map V.ref))) w2 = some (.lst ([f1, f2, f3].map V.ref)) := upd_same
  show (fun (Hx : Hp) => _) (upd H8 w2 (.lst ([f1, f2, f3].map V.ref)))
  generalize upd H8 w2 (.lst ([f1, f2, f3].map V.ref)) = H9 at g9 a9 e9 ⊢
  -- the fourth
  refine ⟨_, rfl, .inl ⟨rfl, _, .inl (.inl e9)⟩, g9.T, fun f4 Ha xa Ta _ k4 => nilArgs ?_⟩
  have ea := xa _ _ e9 fun ps e => by cases e
  refine ⟨w2, _, _, rfl, rfl, ea, by show 3 < sizeLine; decide, ?_⟩
  have gb := (g9.ext Ta xa).app (o' := .lst ([f1, f2, f3, f4].map V.ref)) ea nn
  have ab : LA (lX P w K mg base f cc A outer s H0 E) (upd Ha w2 (.lst ([f1, f2, f3, f4].map V.ref))) [f1, f2, f3, f4] [(lM 1, none, .err 0), (lM 2, some 0, .dig k), (lM 3, some 0, .dig k), (lM 4, some 0, .err 2)] := ((a9.ext xa).snoc (z := (lM 4, some 0, .err 2)) k4).app ea
  have eb : (upd Ha w2 (.lst ([f1, f2, f3, f4].map V.ref))) w2 = some (.lst ([f1, f2, f3, f4].map V.ref)) := upd_same
  show (fun (Hx : Hp) => _) (upd Ha w2 (.lst ([f1, f2, f3, f4].map V.ref)))
  generalize upd Ha w2 (.lst ([f1, f2, f3, f4].map V.ref)) = Hb at gb ab eb ⊢
  -- the fifth
  refine ⟨_, rfl, .inl ⟨rfl, _, .inl (.inl eb)⟩, gb.T, fun f5 Hc xc Tc _ k5 => nilArgs ?_⟩
  have ec := xc _ _ eb fun ps e => by cases e
  refine ⟨w2, _, _, rfl, rfl, ec, by show 4 < sizeLine; decide, ?_⟩
  have gd := (gb.ext Tc xc).app (o' := .lst ([f1, f2, f3, f4, f5].map V.ref)) ec nn
  have ad : LA (lX P w K mg base f cc A outer s H0 E) (upd Hc w2 (.lst ([f1, f2, f3, f4, f5].map V.ref))) [f1, f2, f3, f4, f5] (zsM k) := ((ab.ext xc).snoc (z := (lM 5, some 0, .ret (retOf k))) k5).app ec
  exact r6 Dn _ _ _ _ _ _ _ _ b l xi ra sp oa ga ca dg wi te ce d1 d2 w2 [f1, f2, f3, f4, f5] rows r us tc tt o c wd k _ gd p upd_same ad fun H' v9 B' T' => kn H' _ _ B' T'
theorem law_b10 (PP : LPr P w K mg base CI C0 fN pm gt CM gF Pl Pu C fdF) (TB : TabB base mg cc Pl) {A : Around} {outer : List Env} {s : Shared} {H0 : Hp} {E : XK} (hr : Room 11 (A.deeper (envOfC "law" (defScope sLaw) s.heap.objs.size f (.ref cc)))) :
    ∃ t : Nat → TS, (∀ k, PSs (lX P w K mg base f cc A outer s H0 E) b10 (t k)) ∧
      ∀ (Dn : Ends) (v0 v2 v3 v5 v8 v9 v20 v21 : Option V) (b l xi ra sp oa ga ca dg wi te ce d1 d2 bd : Addr) (rows : List (List Nat)) (r : Rl) (us tc : TC) (tt : TX) (o : Int × Int) (c : Cell) (wd : Str) (k : Nat) (n : Nm) (H : Hp),
        TG K CI Pl Pu H b l xi ra sp oa ga ca dg wi te ce d1 d2 rows r us tc tt o c wd k → TP rows r us tc tt o c wd k → H bd = some (.tup (nrV n)) → inN n 1 22 = false → (∀ H' v8 v9, Bx H' b l → Tabs (TT2 Pl Pu) H' → Dn.nx (sT v0 v2 v3 v5 (some (.ref bd)) v8 v9 v20 v21 b l xi ra sp oa ga ca dg wi te ce wd k) H') →
        t k Dn (sT v0 v2 v3 v5 (some (.ref bd)) v8 v9 v20 v21 b l xi ra sp oa ga ca dg wi te ce wd k) H := by
  obtain ⟨t6, q6, r6⟩ := law_b11 (f := f) (cc := cc) PP TB (A := A) (outer := outer) (s := s) (H0 := H0) (E := E) hr
  refine ⟨fun k => _, fun k => pss_cons (ps_if (pt_not (pt_val (pe_cal PP.unk hr pass0 (pa_cons (pv 12) (pa_cons (pv 16) (pa_cons (pv 13) (pa_cons (pv 6) (pa_cons (pv 10) pa_nil)))))))) pss_no pss_nil) (q6 k), ?_⟩
  intro Dn v0 v2 v3 v5 v8 v9 v20 v21 b l xi ra sp oa ga ca dg wi te ce d1 d2 bd rows r us tc tt o c wd k n H g p hb bad kn
  have hne : cellsOf rows ≠ [] := fun e => by have := p.inc; rw [e] at this; cases this
  refine ⟨_, rfl, _, rfl, _, rfl, _, rfl, _, rfl, nilArgs ?_⟩
  refine ⟨xi, sp, oa, bd, dg, rows, toX us, o, n, _, dsOf k c wd, rfl, g.I, p.vd, p.h9, hne, by rw [toX_vx]; exact g.hs, toX_cx g.cs, fun q hq => ?_, by unfold toX; rw [List.length_map]; exact p.few, g.ho, p.off, hb, bad, g.hd, g.digs, g.T, fun H' x' T' => ⟨true, rfl, iteF' rfl ?_⟩⟩
  · obtain ⟨y, hy, rfl⟩ := List.mem_map.mp hq
    exact p.has (p.inl y hy)
  · exact r6 Dn _ _ _ _ _ _ _ _ _ b l xi ra sp oa ga ca dg wi te ce d1 d2 rows r us tc tt o c wd k H' (g.ext T' x') p kn
end
end Om

namespace Om
open PySem PySem.Spec PyProof.Rows L2 LamX NdefX
theorem Bx.free {b l a : Addr} {H : Hp} (B : Bx H b l) (h : H a = none) : a ≠ b ∧ a ≠ l := by
  obtain ⟨ns, z, j, h1, h2, _⟩ := B.ex
  exact ⟨(fun e => by rw [e, h1] at h; cases h), (fun e => by rw [e, h2] at h; cases h)⟩
/-- all but the box's two lists -/
theorem kp_at {b l : Addr} {H H' : Hp} (B : Bx H b l) (k : Kp b l H H') {a : Addr} {x : HO} (h : H a = some x) (n : ∀ xs, x ≠ .lst xs) : H' a = some x := by
  obtain ⟨ns, z, j, h1, h2, _⟩ := B.ex
  exact k _ _ h (ne_of h h1 (n _)) (ne_of h h2 (n _))
theorem tabs_kpb {T : List (Addr × Str)} {b l : Addr} {H H' : Hp} (t : Tabs T H) (B : Bx H b l) (k : Kp b l H H') : Tabs T H' := by
  intro p hp
  obtain ⟨ps, q1, q2, q3⟩ := t p hp
  refine ⟨ps, kp_at B k q1 (fun xs e => by cases e), q2, fun pos cv hc => ?_⟩
  obtain ⟨c0, w1, w2⟩ := q3 pos cv hc
  exact ⟨c0, w1, kp_at B k w2 fun xs e => by unfold CodeO at e; cases e⟩
theorem CXs.kp {b l : Addr} {H H' : Hp} {t : TX} (h : CXs H t) (B : Bx H b l) (k : Kp b l H H') : CXs H' t := fun p hp => kp_at B k (h p hp) fun xs e => by cases e
theorem ne_refs {b l D : Addr} {H : Hp} {as : List Addr} (B : Bx H b l) (h : H D = some (.lst (as.map V.ref))) (hp : 0 < as.length) : D ≠ b ∧ D ≠ l := by
  obtain ⟨ns, z, kc, y1, y2, _⟩ := B.ex
  obtain ⟨a0, ar, rfl⟩ := List.exists_cons_of_length_pos hp
  refine ⟨fun e => ?_, fun e => ?_⟩
  · rw [e, y1] at h
    have e2 := HO.lst.inj (Option.some.inj h)
    cases e2
  · rw [e, y2] at h
    have e2 := HO.lst.inj (Option.some.inj h)
    cases ns with
    | nil => cases e2
    | cons n0 nr =>
      injection e2 with e3 _
      cases e3
theorem exPS {X : Cx} {st : List Stmt} {t : Nat → TS} (q : ∀ k, PSs X st (t k)) : PSs X st (fun D σ H => ∃ k, t k D σ H) := ⟨fun pins s σ H D I ⟨k, h⟩ => (q k).run pins s σ H D I h⟩
def tenLm : Expr := arg0 (tupE0 (asgExpr (turnB.getD 3 noS)) 1)
theorem blkTenL : BlkOk nLaw (defScope sLaw) (lcScope tenLm) [("_law_k", 20)] := blkOk_by (by decide +kernel)
def oddW : List Nm := [.i 0, .i 23, .b true, .i (-1)]
theorem oddW_bad : ∀ n ∈ oddW, inN n 1 22 = false := by decide +kernel
def wdsV : List V := [.str "north", .str "near", .str "empty", .str "warm", .str ""]
def wds : List Str := ["north", "near", "empty", "warm", ""]
/-- the word that the rule would tell -/
def rwd : Rl → Str
  | .plain => "empty"
  | .rows => "north"
  | .near _ => "near"
def ruleD : List (L2.Key × V) := mergeK [] [(.inr "plain", .str "empty"), (.inr "rows", .str "north"), (.inr "near", .str "near")]
theorem ruleD_at (r : Rl) : valV ruleD (.inr r.word) = some (.str (rwd r)) := by cases r <;> rfl
def wordsK : Rl → List Str
  | .plain => ["found", "empty"]
  | .rows => ["found", "north", "south", "same"]
  | .near _ => ["found", "near", "far"]
theorem wds_no (r : Rl) : ∀ x ∈ wds, x ≠ rwd r → x ∉ words r := by
  cases r with
  | near m => show ∀ x ∈ wds, x ≠ "near" → x ∉ (["found", "near", "far"] : List Str); decide +kernel
  | plain => decide +kernel
  | rows => decide +kernel
theorem out_no (r : Rl) : ("found out" : Str) ∉ words r := by
  cases r with
  | near m => show ("found out" : Str) ∉ (["found", "near", "far"] : List Str); decide +kernel
  | plain => decide +kernel
  | rows => decide +kernel
theorem four' {n : Int} (h0 : 0 ≤ n) (h4 : n < 4) : n = 0 ∨ n = 1 ∨ n = 2 ∨ n = 3 := by omega
theorem five' {n : Int} (h0 : 0 ≤ n) (h4 : n < 5) : n = 0 ∨ n = 1 ∨ n = 2 ∨ n = 3 ∨ n = 4 := by omega
section
variable {P : Program} {w : World} {K : PySem.W.Frag} {mg : Str → Option Value} {base : Heap} {CI C0 fN pm gt CM gF Pl Pu cc f : Addr} {C : Nat → Addr} {fdF : FuncData}
theorem law_turn (PP : LPr P w K mg base CI C0 fN pm gt CM gF Pl Pu C fdF) (TB : TabB base mg cc Pl) (gtuple : mg "tuple" = none) (grange : mg "range" = none) (glen : mg "len" = none) {A : Around} {outer : List Env} {s : Shared} {H0 : Hp} {E : XK} (hr : Room 11 (A.deeper (envOfC "law" (defScope sLaw) s.heap.objs.size f (.ref cc)))) :
    ∃ t : TS, PSs (lX P w K mg base f cc A outer s H0 E) turnB t ∧
      ∀ (Dn : Ends) (b l : Addr) (H : Hp) (v0 v2 v3 v4 v5 v6 v7 v8 v9 v10 v11 v12 v13 v14 v15 v16 v17 v18 v19 v20 v21 : Option V), Bx H b l → Tabs (TT2 Pl Pu) H →
        (∀ H' v3 v4 v5 v6 v7 v8 v9 v10 v11 v12 v13 v14 v15 v16 v17 v18 v19 v20 v21, Bx H' b l → Tabs (TT2 Pl Pu) H' → Dn.nx [v0, some (.ref b), v2, v3, v4, v5, v6, v7, v8, v9, v10, v11, v12, v13, v14, v15, v16, v17, v18, v19, v20, v21] H') →
        t Dn [v0, some (.ref b), v2, v3, v4, v5, v6, v7, v8, v9, v10, v11, v12, v13, v14, v15, v16, v17, v18, v19, v20, v21] H := by
  obtain ⟨t10, q10, r10⟩ := law_b10 (f := f) (cc := cc) PP TB (A := A) (outer := outer) (s := s) (H0 := H0) (E := E) hr
  obtain ⟨fI, GI, bI⟩ := PP.u.mkI.ex
  have TI := PP.u.isl
  have nd := scLaw.nd
  have hu := hr.units
  have hu1 : _ + 1 < cLine := Nat.lt_of_le_of_lt (Nat.add_le_add_left (show 1 ≤ 64 by decide) _) hu
  have hr1 : Room 1 _ := hr.mono (by decide)
  have hr2 : Room 2 _ := hr.mono (by decide)
  have hr5 : Room 5 _ := hr.mono (by decide)
  refine ⟨_, pss_cons (ps_asg (pe_tup (pa_cons (pe_cal PP.row hr2 pass0 (pa_cons (pv 1) (pa_cons pe_int pa_nil))) (pa_cons (pe_cal PP.rul hr2 pass0 (pa_cons (pv 1) pa_nil)) pa_nil))) (pg_tup rfl (pgs_cons (pg_name (i := 3) nd rfl (.inl rfl)) (pgs_cons (pg_name (i := 15) nd rfl (.inr rfl)) pgs_nil))))
    (pss_cons (ps_asg (pe_tup (pa_cons (pe_make TI.made GI hr5 rfl TI.gI bI .nil passE0 (pa_cons (pv 3) pa_nil)) (pa_cons (pe_cal PP.cel hr1 pass0 (pa_cons (pv 3) pa_nil)) pa_nil))) (pg_tup rfl (pgs_cons (pg_name (i := 12) nd rfl (.inr rfl)) (pgs_cons (pg_name (i := 4) nd rfl (.inl rfl)) pgs_nil))))
    (pss_cons (ps_set (i := 5) nd rfl (.inl rfl) (pe_cal PP.wat hr1 pass0 (pa_cons (pv 3) pa_nil)))
    (pss_cons (ps_asg (pe_tup (pa_cons (pe_make TI.made GI hr5 rfl TI.gI bI .nil passE0 (pa_cons (pe_tup (pa_cons (pe_op op_mulS1 pe_str pe_int) pa_nil)) pa_nil))
        (pa_cons (pe_callTy call_tuple_of (by rfl) gtuple (by decide +kernel) (pa_cons (pe_lc (own := [("_law_k", 20)]) (g := gName 20) rfl nd (pi_range1 rfl grange (pa_cons pe_int pa_nil)) blkTenL (fun _ _ _ _ _ => pg_name (i := 20) nd rfl (.inl rfl)) (fun _ _ _ _ _ => pts_nil) (fun _ _ _ _ _ => pe_tup (pa_cons pe_int (pa_cons (pv 20) pa_nil)))) pa_nil)) pa_nil))) (pg_tup rfl (pgs_cons (pg_name (i := 18) nd rfl (.inr rfl)) (pgs_cons (pg_name (i := 17) nd rfl (.inr rfl)) pgs_nil))))
    (pss_cons (ps_asg (pe_tup (pa_cons (pe_ix ix_list (pv 5) (pe_cal PP.nxt hr1 pass0 (pa_cons (pv 1) (pa_cons (pe_callB call_len_seq (by rfl) glen PySem.boot_len (pa_cons (pv 5) pa_nil)) pa_nil))) (fun _ _ => rfl))
        (pa_cons (pe_tup (pa_cons pe_str (pa_cons (pe_ix ix_list (pe_lst (pa_cons pe_int (pa_cons pe_int (pa_cons pe_bl (pa_cons (pe_op op_sub pe_int pe_int) pa_nil))))) (pe_cal PP.nxt hr1 pass0 (pa_cons (pv 1) (pa_cons pe_int pa_nil))) (fun _ _ => rfl)) pa_nil))) pa_nil))) (pg_tup rfl (pgs_cons (pg_name (i := 13) nd rfl (.inr rfl)) (pgs_cons (pg_name (i := 6) nd rfl (.inl rfl)) pgs_nil))))
    (pss_cons (ps_asg (pe_tup (pa_cons (pe_cal PP.som hr2 pass0 (pa_cons (pv 1) (pa_cons (pv 4) (pa_cons pe_int pa_nil)))) (pa_cons (pe_ix ix_list (pv 4) (pe_cal PP.nxt hr1 pass0 (pa_cons (pv 1) (pa_cons (pe_callB call_len_seq (by rfl) glen PySem.boot_len (pa_cons (pv 4) pa_nil)) pa_nil))) (fun _ _ => rfl)) pa_nil))) (pg_tup rfl (pgs_cons (pg_name (i := 16) nd rfl (.inr rfl)) (pgs_cons (pg_name (i := 7) nd rfl (.inl rfl)) pgs_nil))))
    (pss_cons (ps_asg (pe_tup (pa_cons (pe_tup (pa_cons (pv 7) (pa_cons pe_str pa_nil))) (pa_cons (pe_ix ix_list (pe_lst (pa_cons pe_str (pa_cons pe_str (pa_cons pe_str (pa_cons pe_str (pa_cons pe_str pa_nil)))))) (pe_cal PP.nxt hr1 pass0 (pa_cons (pv 1) (pa_cons pe_int pa_nil))) (fun _ _ => rfl)) pa_nil))) (pg_tup rfl (pgs_cons (pg_name (i := 11) nd rfl (.inr rfl)) (pgs_cons (pg_name (i := 19) nd rfl (.inr rfl)) pgs_nil))))
    (pss_cons (ps_if (pt_cmpR op_eq (pv 19) (pe_dget hu1 (pe_disp (pps_cons pe_str pe_str (pps_cons pe_str pe_str (pps_cons pe_str pe_str pps_nil))) rfl rfl (by simp) (by decide)) (pe_ix ix_tup (pv 15) pe_int (fun _ _ => rfl)) (fun _ _ => rfl)) (nomark _)) (pss_one (ps_set (i := 19) nd rfl (.inr rfl) pe_str)) pss_nil)
    (pss_cons (ps_set (i := 14) nd rfl (.inr rfl) (pe_cal PP.nxt hr1 pass0 (pa_cons (pv 1) (pa_cons pe_int pa_nil))))
    (pss_cons (ps_set (i := 10) nd rfl (.inr rfl) (pe_op op_cat (pe_op op_cat (pe_op op_rep (pe_lst (pa_cons (pv 11) pa_nil)) (pv 14)) (pe_lst (pa_cons (pe_tup (pa_cons (pv 7) (pa_cons (pv 19) pa_nil))) pa_nil))) (pe_lst (pa_cons (pe_tup (pa_cons (pv 7) (pa_cons pe_str pa_nil))) pa_nil))))
    (exPS q10)))))))))), ?_⟩
  intro Dn b l H v0 v2 v3 v4 v5 v6 v7 v8 v9 v10 v11 v12 v13 v14 v15 v16 v17 v18 v19 v20 v21 B T kn
  -- the rows, the rule
  refine ⟨_, rfl, b, l, 4, rfl, B, by decide, by decide, fun pr rows H1 okr hne hR B1 K1 => ⟨_, rfl, b, l, rfl, B1, fun ra r H2 hRok hRl B2 K2 => ⟨by show 2 ≤ sizeLine; decide, fun tp htp => ?_⟩⟩⟩
  refine ⟨tp, _, rfl, .inl (.inl upd_same), rfl, _, _, rfl, _, _, rfl, rfl, ?_⟩
  have T2 := tabs_kpb (tabs_kpb T B K1) B1 K2
  have R2 := SqT.kp B1 K2 hR
  have s3 := Same.new (Same.refl H2) htp (o := .tup [.ref pr, .ref ra])
  generalize upd H2 tp (.tup [.ref pr, .ref ra]) = H3 at s3 ⊢
  have B3 := B2.same s3
  have T3 := T2.ext s3
  have R3 := Same.tup s3 R2
  have Rl3 := Same.tup s3 hRl
  have vd := okr.vd (by decide)
  -- the island, its cells
  refine ⟨_, rfl, nilArgs ?_⟩
  intro xi dxi hxi hdxi _
  refine mk_read (okr.to12 (by decide)) R3 hxi hdxi fun H4 s4 I4 => ?_
  refine ⟨_, rfl, pr, rows, rfl, Same.tup s4 R3, vd, fun ce tc H5 s5 hC hCA hct => ⟨by show 2 ≤ sizeLine; decide, fun tp2 htp2 => ?_⟩⟩
  refine ⟨tp2, _, rfl, .inl (.inl upd_same), rfl, _, _, rfl, _, _, rfl, rfl, ?_⟩
  have s6 := Same.new (Same.refl H5) htp2 (o := .tup [.ref xi, .ref ce])
  have C6 := s6 _ _ hC
  have CA6 := hCA.same s6
  generalize upd H5 tp2 (.tup [.ref xi, .ref ce]) = H6 at s6 C6 CA6 ⊢
  have s46 := s5.trans s6
  have s36 := s4.trans s46
  have B6 := B3.same s36
  have T6 := T3.ext s36
  have R6 := Same.tup s36 R3
  have Rl6 := Same.tup s36 Rl3
  have I6 := I4.same s46
  have ltc : tc.length = (cellsOf rows).length := by rw [← hct, cz_len]
  have hpos : 0 < tc.length := by rw [ltc]; exact List.length_pos_iff.mpr hne
  -- the water
  have h9 : rows.length ≤ 9 := by have := okr.hm; omega
  have w9 : (rows.headD []).length ≤ 9 := by
    obtain ⟨wd0, _, hw2, hw3⟩ := okr.w
    cases rows with
    | nil => exact Nat.zero_le _
    | cons r0 rs => have := (hw3 r0 List.mem_cons_self).1; show r0.length ≤ 9; omega
  refine ⟨_, rfl, pr, rows, rfl, R6, vd, h9, w9, fun wl wt H7 s7 hW hWX hoff hw4 hw200 => ?_⟩
  -- wide
  refine ⟨[46], 12, dot_tx, rfl, by decide, by decide, by decide, by decide, by show 1 ≤ sizeLine; decide, fun pw hpw => nilArgs ?_⟩
  have s8 := Same.new (Same.refl H7) hpw (o := .tup [V.str (tx (List.replicate (12 : Int).toNat [46]).flatten)])
  have e8 : (upd H7 pw (.tup [V.str (tx (List.replicate (12 : Int).toNat [46]).flatten)])) pw = some (.tup (W12.map vt)) := by rw [w12_vt]; exact upd_same
  generalize upd H7 pw (.tup [V.str (tx (List.replicate (12 : Int).toNat [46]).flatten)]) = H8 at s8 e8 ⊢
  intro wi dxw hwi hdxw _
  refine mk_read ok12 (.inl (.inl e8)) hwi hdxw fun H9 s9 Iw9 => ?_
  have s79 := s8.trans s9
  -- ten
  refine ⟨10, rfl, by decide, by decide, fun D hD => ?_⟩
  refine lc_range (lo := 0) (n := (10 : Int).toNat) (fun j H' => ∃ u : TX, H' D = some (.lst (vx u)) ∧ CXs H' u ∧ (∀ p ∈ u, hasC W12 p.2.1 p.2.2 = true) ∧ u.length = j ∧ Same H9 H')
    ⟨[], upd_same, (fun p hp => by cases hp), (fun p hp => by cases hp), rfl, Same.new (Same.refl _) hD⟩ ?_ ?_
  · rintro j Hx hj ⟨u, g1, g2, g4, gl, g3⟩
    have hj10 : j < 10 := hj
    refine ⟨rfl, tyes ?_⟩
    refine ⟨_, rfl, by show 2 ≤ sizeLine; decide, fun q hq => ?_⟩
    have su := Same.new (Same.refl Hx) hq (o := .tup [.int 0, .int (0 + (j : Int))])
    have g1' := su _ _ g1
    refine ⟨vx u, g1', Nat.lt_of_le_of_lt (show _ ≤ 100 by rw [vx_len]; omega) (by decide), u ++ [(q, (0, (j : Int)))], by rw [upd_same, vx_app]; rfl, fun p hp => ?_, fun p hp => ?_, by rw [List.length_append]; show u.length + 1 = j + 1; omega, Same.updN (g3.trans su) hD⟩
    · rcases List.mem_append.mp hp with h | h
      · have := su _ _ (g2 p h)
        rw [upd_ne (ne_of this g1' fun e => by cases e)]
        exact this
      · rw [List.mem_singleton.mp h]
        have e5 : (upd Hx q (.tup [.int 0, .int (0 + (j : Int))])) q = some (.tup [.int 0, .int (j : Int)]) := by rw [upd_same, Int.zero_add]
        rw [upd_ne (ne_of e5 g1' fun e => by cases e)]
        exact e5
    · rcases List.mem_append.mp hp with h' | h'
      · exact g4 p h'
      · rw [List.mem_singleton.mp h']
        exact ten_land j hj10
  rintro H10 ⟨tt, g1, g2, g4t, gl, g3⟩
  refine nilArgs ⟨D, _, rfl, .inl ⟨.inl (.inl g1), fun te hte => ⟨by show 2 ≤ sizeLine; decide, fun tp3 htp3 => ?_⟩⟩⟩
  have s11 := Same.new (Same.refl H10) hte (o := .tup (vx tt))
  have e11 : (upd H10 te (.tup (vx tt))) te = some (.tup (vx tt)) := upd_same
  have c11 := g2.same s11
  generalize upd H10 te (.tup (vx tt)) = H11 at s11 e11 c11 htp3 ⊢
  refine ⟨tp3, _, rfl, .inl (.inl upd_same), rfl, _, _, rfl, _, _, rfl, rfl, ?_⟩
  have s12 := Same.new (Same.refl H11) htp3 (o := .tup [.ref wi, .ref te])
  have e12 := s12 _ _ e11
  have c12 := c11.same s12
  generalize upd H11 tp3 (.tup [.ref wi, .ref te]) = H12 at s12 e12 c12 ⊢
  have s912 := g3.trans (s11.trans s12)
  have Iw12 := Iw9.same s912
  have s612 := s7.trans (s79.trans s912)
  have s712 := s79.trans s912
  have B12' := B6.same s612
  have T12 := T6.ext s612
  have R12 := Same.tup s612 R6
  have Rl12 := Same.tup s612 Rl6
  have I12 := I6.same s612
  have C12 := s612 _ _ C6
  have CA12 := CA6.same s612
  have W12' := s712 _ _ hW
  have WX12 := hWX.same s712
  clear s8 e8 s9 Iw9 s79 g1 g2 g3 hD hwi hdxw hpw hte htp3 s11 e11 c11 s12 s912 s612 s712 B6 T6 R6 Rl6 I6 C6 CA6 hW hWX B3 T3 R3 Rl3 s36 s46 I4 s4 s5 s7 hC hCA htp htp2 hxi hdxi B1 K1 B2 K2 T2 R2 hR hRl s3 B T
  -- the odd place
  refine ⟨_, rfl, _, rfl, _, rfl, wl, _, rfl, .inl (.inl (.inl W12')), ?_⟩
  refine ⟨b, l, (wt.length : Nat), by rw [vx_len]; rfl, B12', by omega, by omega, fun n H13 n0 n1 B13 K13 => ?_⟩
  have wlb := ne_refs (as := wt.map (·.1)) B12' (by rw [List.map_map]; exact W12') (by rw [List.length_map]; omega)
  have ceb := ne_refs (as := tc.map (·.1)) B12' (by rw [List.map_map]; exact C12) (by rw [List.length_map]; omega)
  obtain ⟨k0, rfl⟩ := Int.eq_ofNat_of_zero_le n0
  have hk0 : k0 < wt.length := by omega
  obtain ⟨ow, how⟩ : ∃ q, wt[k0]? = some q := ⟨wt[k0], List.getElem?_eq_getElem hk0⟩
  have mow : ow ∈ wt := List.mem_of_getElem? how
  have off := hoff ow mow
  have W13 := K13 _ _ W12' wlb.1 wlb.2
  have ho13 := kp_at B12' K13 (WX12 ow mow) fun xs e => by cases e
  have C13 := K13 _ _ C12 ceb.1 ceb.2
  have CA13 := CA12.kp B12' K13
  have Iw13 := Iw12.kp B12' K13
  have e13 := kp_at B12' K13 e12 fun xs e => by cases e
  have c13 := c12.kp B12' K13
  have T13 := tabs_kpb T12 B12' K13
  have R13 := SqT.kp B12' K13 R12
  have Rl13 := SqT.kp B12' K13 Rl12
  have I13 := I12.kp B12' K13
  refine ⟨wl, _, _, .ref ow.1, rfl, rfl, .inl (.inl W13), atI_nat (by unfold vx; rw [List.getElem?_map, how]; rfl), ?_⟩
  clear K13 W12' WX12 C12 CA12 Iw12 e12 c12 T12 R12 Rl12 I12 B12'
  -- the bad rule
  refine ⟨_, _, rfl, rfl, by show 4 ≤ sizeLine; decide, fun lo hlo => ?_⟩
  have nlo := B13.free hlo
  have s14 := Same.new (Same.refl H13) hlo (o := .lst [.int 0, .int 23, .bl true, .int (-1)])
  have e14 : (upd H13 lo (.lst [.int 0, .int 23, .bl true, .int (-1)])) lo = some (.lst [.int 0, .int 23, .bl true, .int (-1)]) := upd_same
  have eh : (upd H13 lo (.lst [.int 0, .int 23, .bl true, (fun i j : Int => V.int (i - j)) 0 1])) = upd H13 lo (.lst [.int 0, .int 23, .bl true, .int (-1)]) := rfl
  first | rw [eh] | skip
  have B14 := B13.same s14
  have C14 := s14 _ _ C13
  have CA14 := CA13.same s14
  have T14 := T13.ext s14
  have R14 := Same.tup s14 R13
  have Rl14 := Same.tup s14 Rl13
  have I14 := I13.same s14
  have Iw14 := Iw13.same s14
  have ho14 := s14 _ _ ho13
  have et14 := s14 _ _ e13
  have c14 := c13.same s14
  generalize upd H13 lo (.lst [.int 0, .int 23, .bl true, .int (-1)]) = H14 at B14 C14 CA14 T14 R14 Rl14 I14 Iw14 ho14 et14 c14 e14 ⊢
  clear s14 hlo W13 C13 CA13 Iw13 e13 c13 T13 R13 Rl13 I13 B13 ho13 eh
  refine ⟨_, rfl, b, l, 4, rfl, B14, by decide, by decide, fun n2 H15 m0 m1 B15 K15 => ?_⟩
  obtain ⟨nm, hat, hbad⟩ : ∃ nm : Nm, atI [V.int 0, .int 23, .bl true, .int (-1)] n2 = some nm.v ∧ inN nm 1 22 = false := by
    rcases four' m0 m1 with rfl | rfl | rfl | rfl
    · exact ⟨.i 0, rfl, by decide⟩
    · exact ⟨.i 23, rfl, by decide⟩
    · exact ⟨.b true, rfl, by decide⟩
    · exact ⟨.i (-1), rfl, by decide⟩
  refine ⟨lo, _, _, nm.v, rfl, rfl, .inl (.inl (K15 _ _ e14 nlo.1 nlo.2)), hat, by show 2 ≤ sizeLine; decide, fun bd hbd => ⟨by show 2 ≤ sizeLine; decide, fun tp4 htp4 => ?_⟩⟩
  have B15' := B15
  have s16 := (Same.new (Same.refl H15) hbd (o := .tup (nrV nm))).trans (Same.new (Same.refl _) htp4 (o := .tup [.ref ow.1, .ref bd]))
  have e16 : (upd (upd H15 bd (.tup (nrV nm))) tp4 (.tup [.ref ow.1, .ref bd])) bd = some (.tup (nrV nm)) := (Same.new (Same.refl _) htp4 (o := .tup [.ref ow.1, .ref bd])) _ _ upd_same
  refine ⟨tp4, _, rfl, .inl (.inl upd_same), rfl, _, _, rfl, _, _, rfl, rfl, ?_⟩
  have C16 := s16 _ _ (K15 _ _ C14 ceb.1 ceb.2)
  have CA16 := (CA14.kp B14 K15).same s16
  have T16 := (tabs_kpb T14 B14 K15).ext s16
  have Rl16 := Same.tup s16 (SqT.kp B14 K15 Rl14)
  have I16 := (I14.kp B14 K15).same s16
  have Iw16 := (Iw14.kp B14 K15).same s16
  have ho16 := s16 _ _ (kp_at B14 K15 ho14 fun xs e => by cases e)
  have et16 := s16 _ _ (kp_at B14 K15 et14 fun xs e => by cases e)
  have c16 := (c14.kp B14 K15).same s16
  have B16 := B15.same s16
  have eg : (upd (upd H15 bd (.tup [.str "near", nm.v])) tp4 (.tup [.ref ow.1, .ref bd])) = upd (upd H15 bd (.tup (nrV nm))) tp4 (.tup [.ref ow.1, .ref bd]) := rfl
  try rw [eg]
  generalize upd (upd H15 bd (.tup (nrV nm))) tp4 (.tup [.ref ow.1, .ref bd]) = H16 at B16 C16 CA16 T16 Rl16 I16 Iw16 ho16 et16 c16 e16 ⊢
  clear s16 eg hbd htp4 C14 CA14 T14 R14 Rl14 I14 Iw14 ho14 et14 c14 e14 B14 K15 B15 B15' nlo
  -- some cells
  have ltm : tc.length ≤ 1000 := by
    rw [ltc]
    have h1 := cellsTo_len (rows := rows) (w := 12) (fun r hr => (vd.wid r hr).2) rows.length (Nat.le_refl _)
    have h2 := vd.hgt
    show (cellsTo rows rows.length).length ≤ _
    omega
  refine ⟨_, rfl, _, rfl, b, l, ce, tc, 4, rfl, B16, C16, CA16, by omega, by decide, fun sp us H17 hS17 hCA17 husm hul B17 K17 => ?_⟩
  have C17 := K17 _ _ C16 ceb.1 ceb.2
  refine ⟨_, rfl, _, rfl, _, rfl, ce, _, rfl, .inl (.inl (.inl C17)), ?_⟩
  refine ⟨b, l, (tc.length : Nat), by rw [vz_len]; rfl, B17, by omega, by omega, fun n3 H18 p0 p1 B18 K18 => ?_⟩
  obtain ⟨k1, rfl⟩ := Int.eq_ofNat_of_zero_le p0
  have hk1 : k1 < tc.length := by omega
  obtain ⟨cq, hcq⟩ : ∃ q, tc[k1]? = some q := ⟨tc[k1], List.getElem?_eq_getElem hk1⟩
  have mcq : cq ∈ tc := List.mem_of_getElem? hcq
  have C18 := K18 _ _ C17 ceb.1 ceb.2
  have CA18 := (CA16.kp B16 K17).kp B17 K18
  refine ⟨ce, _, _, .ref cq.1, rfl, rfl, .inl (.inl C18), atI_nat (by unfold vz; rw [List.getElem?_map, hcq]; rfl), by show 2 ≤ sizeLine; decide, fun tp5 htp5 => ?_⟩
  refine ⟨tp5, _, rfl, .inl (.inl upd_same), rfl, _, _, rfl, _, _, rfl, rfl, ?_⟩
  have s19 := Same.new (Same.refl H18) htp5 (o := .tup [.ref sp, .ref cq.1])
  have C19 := s19 _ _ C18
  have CA19 := CA18.same s19
  have T19 := (tabs_kpb (tabs_kpb T16 B16 K17) B17 K18).ext s19
  have Rl19 := Same.tup s19 (SqT.kp B17 K18 (SqT.kp B16 K17 Rl16))
  have I19 := ((I16.kp B16 K17).kp B17 K18).same s19
  have Iw19 := ((Iw16.kp B16 K17).kp B17 K18).same s19
  have ho19 := s19 _ _ (kp_at B17 K18 (kp_at B16 K17 ho16 fun xs e => by cases e) fun xs e => by cases e)
  have et19 := s19 _ _ (kp_at B17 K18 (kp_at B16 K17 et16 fun xs e => by cases e) fun xs e => by cases e)
  have c19 := ((c16.kp B16 K17).kp B17 K18).same s19
  have e19 := s19 _ _ (kp_at B17 K18 (kp_at B16 K17 e16 fun xs e => by cases e) fun xs e => by cases e)
  have hS19 := s19 _ _ (kp_at B17 K18 hS17 fun xs e => by cases e)
  have hCA19 := (hCA17.kp B17 K18).same s19
  have B19 := B18.same s19
  generalize upd H18 tp5 (.tup [.ref sp, .ref cq.1]) = H19 at B19 C19 CA19 T19 Rl19 I19 Iw19 ho19 et19 c19 e19 hS19 hCA19 ⊢
  clear s19 C18 CA18 htp5 C16 CA16 T16 Rl16 I16 Iw16 ho16 et16 c16 e16 hS17 hCA17 K17 K18 C17 B16 B17 B18
  -- the good dig, a word
  refine ⟨_, rfl, by show 2 ≤ sizeLine; decide, fun ga hga => ?_⟩
  have s20 := Same.new (Same.refl H19) hga (o := .tup [.ref cq.1, .str "found"])
  have e20 : (upd H19 ga (.tup [.ref cq.1, .str "found"])) ga = some (.tup [.ref cq.1, .str "found"]) := upd_same
  have B20 := B19.same s20
  generalize upd H19 ga (.tup [.ref cq.1, .str "found"]) = H20 at s20 e20 B20 ⊢
  refine ⟨by show 5 ≤ sizeLine; decide, fun wo hwo => ?_⟩
  have nwo := B20.free hwo
  have s21 := Same.new (Same.refl H20) hwo (o := .lst wdsV)
  have e21 : (upd H20 wo (.lst wdsV)) wo = some (.lst wdsV) := upd_same
  have eg : (upd H20 wo (.lst [.str "north", .str "near", .str "empty", .str "warm", .str ""])) = upd H20 wo (.lst wdsV) := rfl
  first | rw [eg] | skip
  have B21 := B20.same s21
  have f21 := s21 _ _ e20
  generalize upd H20 wo (.lst wdsV) = H21 at s21 e21 B21 f21 ⊢
  refine ⟨_, rfl, b, l, 5, rfl, B21, by decide, by decide, fun n4 H22 y0 y1 B22 K22 => ?_⟩
  obtain ⟨wd, hwd, mwd⟩ : ∃ wd : Str, atI wdsV n4 = some (.str wd) ∧ wd ∈ wds := by
    rcases five' y0 y1 with rfl | rfl | rfl | rfl | rfl
    · exact ⟨"north", rfl, by decide⟩
    · exact ⟨"near", rfl, by decide⟩
    · exact ⟨"empty", rfl, by decide⟩
    · exact ⟨"warm", rfl, by decide⟩
    · exact ⟨"", rfl, by decide⟩
  refine ⟨wo, _, _, .str wd, rfl, rfl, .inl (.inl (K22 _ _ e21 nwo.1 nwo.2)), hwd, by show 2 ≤ sizeLine; decide, fun tp6 htp6 => ?_⟩
  refine ⟨tp6, _, rfl, .inl (.inl upd_same), rfl, _, _, rfl, _, _, rfl, rfl, ?_⟩
  have s23 := Same.new (Same.refl H22) htp6 (o := .tup [.ref ga, .str wd])
  have C23 := s23 _ _ (K22 _ _ (s21 _ _ (s20 _ _ C19)) ceb.1 ceb.2)
  have s021 := s20.trans s21
  have CA23 := ((CA19.same s021).kp B21 K22).same s23
  have T23 := (tabs_kpb (T19.ext s021) B21 K22).ext s23
  have Rl23 := Same.tup s23 (SqT.kp B21 K22 (Same.tup s021 Rl19))
  have I23 := ((I19.same s021).kp B21 K22).same s23
  have Iw23 := ((Iw19.same s021).kp B21 K22).same s23
  have ho23 := s23 _ _ (kp_at B21 K22 (s021 _ _ ho19) fun xs e => by cases e)
  have et23 := s23 _ _ (kp_at B21 K22 (s021 _ _ et19) fun xs e => by cases e)
  have c23 := ((c19.same s021).kp B21 K22).same s23
  have e23 := s23 _ _ (kp_at B21 K22 (s021 _ _ e19) fun xs e => by cases e)
  have hS23 := s23 _ _ (kp_at B21 K22 (s021 _ _ hS19) fun xs e => by cases e)
  have hCA23 := ((hCA19.same s021).kp B21 K22).same s23
  have f23 := s23 _ _ (kp_at B21 K22 f21 fun xs e => by cases e)
  have B23 := B22.same s23
  generalize upd H22 tp6 (.tup [.ref ga, .str wd]) = H23 at B23 C23 CA23 T23 Rl23 I23 Iw23 ho23 et23 c23 e23 hS23 hCA23 f23 ⊢
  clear s021 s23 s21 s20 hga hwo htp6 C19 CA19 T19 Rl19 I19 Iw19 ho19 et19 c19 e19 hS19 hCA19 B19 f21 e20 e21 K22 B20 B21 B22 nwo eg
  -- the word that the rule would tell
  refine ⟨_, rfl, fun dD hdD => ⟨upd_same, [(.inr "plain", .str "empty"), (.inr "rows", .str "north"), (.inr "near", .str "near")], rfl, by decide, ?_⟩⟩
  have s24 : Same H23 (upd (upd H23 dD (.dK [])) dD (.dK ruleD)) := fun c o hc => by
    rw [upd_ne (ne_of_none hc hdD), upd_ne (ne_of_none hc hdD)]
    exact hc
  have d24 : (upd (upd H23 dD (.dK [])) dD (.dK ruleD)) dD = some (.dK ruleD) := upd_same
  have eg : (upd (upd H23 dD (.dK [])) dD (.dK (mergeK [] [(.inr "plain", .str "empty"), (.inr "rows", .str "north"), (.inr "near", .str "near")]))) = upd (upd H23 dD (.dK [])) dD (.dK ruleD) := rfl
  first | rw [eg] | skip
  have B24 := B23.same s24
  generalize upd (upd H23 dD (.dK [])) dD (.dK ruleD) = H24 at s24 d24 B24 ⊢
  have dg24 : DGet H24 dD (.str r.word) (some (.str (rwd r))) := ruleD_at r ▸ DGet.k (k := Sum.inr r.word) d24
  refine ⟨_, rfl, ra, _, _, .str r.word, rfl, rfl, Same.tup s24 Rl23, by cases r <;> rfl, ?_⟩
  refine ⟨dD, .str (rwd r), rfl, dg24, rfl, _, rfl, ?_⟩
  have hinl : ∀ q ∈ us, q.2 ∈ cellsOf rows := fun q hq => hct ▸ husm q hq
  have hinc : cq.2 ∈ cellsOf rows := hct ▸ List.mem_map_of_mem mcq
  rcases Decidable.em (V.str wd = V.str (rwd r)) with hq | hq
  · refine iteT' (decide_eq_true hq) ?_
    have hno := out_no r
    refine ⟨_, rfl, b, l, 3, rfl, B24, by decide, by decide, fun n5 H25 z0 z1 B25 K25 => ?_⟩
    obtain ⟨k, rfl⟩ := Int.eq_ofNat_of_zero_le z0
    refine ⟨_, rfl, by show 1 ≤ sizeLine; decide, fun l1 hl1 => ⟨_, rfl, ?_⟩⟩
    have s26 := Same.new (Same.refl H25) hl1 (o := .lst [.ref ga])
    have e26 : (upd H25 l1 (.lst [.ref ga])) l1 = some (.lst [.ref ga]) := upd_same
    generalize upd H25 l1 (.lst [.ref ga]) = H26 at s26 e26 ⊢
    refine ⟨l1, _, _, rfl, rfl, e26, by omega, by omega, by rw [show ((k : Int)).toNat = k from rfl, List.length_singleton, sizeLine_eq]; omega, fun l2 hl2 => ?_⟩
    rw [show ((k : Int)).toNat = k from rfl, rep_one]
    have s27 := s26.trans (Same.new (Same.refl H26) hl2 (o := .lst (List.replicate k (.ref ga))))
    have e27 : (upd H26 l2 (.lst (List.replicate k (.ref ga)))) l2 = some (.lst (List.replicate k (.ref ga))) := upd_same
    generalize upd H26 l2 (.lst (List.replicate k (.ref ga))) = H27 at s27 e27 ⊢
    refine ⟨_, rfl, _, rfl, by show 2 ≤ sizeLine; decide, fun d1 hd1 => ⟨by show 1 ≤ sizeLine; decide, fun l3 hl3 => ?_⟩⟩
    have a1 := Same.new (Same.refl H27) hd1 (o := .tup [.ref cq.1, .str ("found out" : Str)])
    have g1 : (upd H27 d1 (.tup [.ref cq.1, .str ("found out" : Str)])) d1 = some (.tup [.ref cq.1, .str ("found out" : Str)]) := upd_same
    generalize upd H27 d1 (.tup [.ref cq.1, .str ("found out" : Str)]) = H28 at a1 g1 hl3 ⊢
    have a2 := Same.new (Same.refl H28) hl3 (o := .lst [.ref d1])
    have g2 : (upd H28 l3 (.lst [.ref d1])) l3 = some (.lst [.ref d1]) := upd_same
    generalize upd H28 l3 (.lst [.ref d1]) = H29 at a2 g2 ⊢
    refine ⟨l2, l3, _, _, rfl, rfl, a2 _ _ (a1 _ _ e27), g2, by rw [List.length_replicate, List.length_singleton, sizeLine_eq]; omega, fun l4 hl4 => ?_⟩
    have a3 := Same.new (Same.refl H29) hl4 (o := .lst (List.replicate k (.ref ga) ++ [.ref d1]))
    have g3 : (upd H29 l4 (.lst (List.replicate k (.ref ga) ++ [.ref d1]))) l4 = some (.lst (List.replicate k (.ref ga) ++ [.ref d1])) := upd_same
    generalize upd H29 l4 (.lst (List.replicate k (.ref ga) ++ [.ref d1])) = H30 at a3 g3 ⊢
    refine ⟨_, rfl, by show 2 ≤ sizeLine; decide, fun d2 hd2 => ⟨by show 1 ≤ sizeLine; decide, fun l5 hl5 => ?_⟩⟩
    have a4 := Same.new (Same.refl H30) hd2 (o := .tup [.ref cq.1, .str "odd"])
    have g4 : (upd H30 d2 (.tup [.ref cq.1, .str "odd"])) d2 = some (.tup [.ref cq.1, .str "odd"]) := upd_same
    generalize upd H30 d2 (.tup [.ref cq.1, .str "odd"]) = H31 at a4 g4 hl5 ⊢
    have a5 := Same.new (Same.refl H31) hl5 (o := .lst [.ref d2])
    have g5 : (upd H31 l5 (.lst [.ref d2])) l5 = some (.lst [.ref d2]) := upd_same
    generalize upd H31 l5 (.lst [.ref d2]) = H32 at a5 g5 ⊢
    refine ⟨l4, l5, _, _, rfl, rfl, a5 _ _ (a4 _ _ g3), g5, by rw [List.length_append, List.length_replicate, List.length_singleton, List.length_singleton, sizeLine_eq]; omega, fun dg hdg => ?_⟩
    have a6 := Same.new (Same.refl H32) hdg (o := .lst (List.replicate k (.ref ga) ++ [.ref d1] ++ [.ref d2]))
    have g6 : (upd H32 dg (.lst (List.replicate k (.ref ga) ++ [.ref d1] ++ [.ref d2]))) dg = some (.lst (List.replicate k (.ref ga) ++ [.ref d1, .ref d2])) := by rw [upd_same, List.append_assoc]; rfl
    generalize upd H32 dg (.lst (List.replicate k (.ref ga) ++ [.ref d1] ++ [.ref d2])) = H33 at a6 g6 ⊢
    have sA := s27.trans (a1.trans (a2.trans (a3.trans (a4.trans (a5.trans a6)))))
    have g1' := a6 _ _ (a5 _ _ (a4 _ _ (a3 _ _ (a2 _ _ g1))))
    have g4' := a6 _ _ (a5 _ _ g4)
    have KT : ∀ {a : Addr} {xs : List V}, H23 a = some (.tup xs) → H33 a = some (.tup xs) := fun h => sA _ _ (kp_at B24 K25 (s24 _ _ h) fun xs e => by cases e)
    refine ⟨k, r10 Dn _ _ _ _ _ _ _ _ b l xi ra sp ow.1 ga cq.1 dg wi te ce d1 d2 bd rows r us tc tt ow.2 cq.2 ("found out" : Str) k nm H33 ⟨B25.same sA, ((I23.same s24).kp B24 K25).same sA, Same.tup sA (SqT.kp B24 K25 (Same.tup s24 Rl23)), KT hS23, ((hCA23.same s24).kp B24 K25).same sA, KT ho23, KT f23, KT (CA23 cq mcq), g6, g1', g4', ((Iw23.same s24).kp B24 K25).same sA, KT et23, ((c23.same s24).kp B24 K25).same sA, sA _ _ (K25 _ _ (s24 _ _ C23) ceb.1 ceb.2), ((CA23.same s24).kp B24 K25).same sA, (tabs_kpb (T23.ext s24) B24 K25).ext sA⟩ ⟨vd, h9, hRok, hinl, by omega, off, hinc, hno, by omega, g4t, gl, hct⟩ (KT e23) hbad fun H' v8 v9 B' T' => kn H' _ _ _ _ _ _ _ _ _ _ _ _ _ _ _ _ _ _ _ B' T'⟩
  · refine iteF' (decide_eq_false hq) ?_
    have hno := wds_no r wd mwd fun e => hq (congrArg V.str e)
    refine ⟨_, rfl, b, l, 3, rfl, B24, by decide, by decide, fun n5 H25 z0 z1 B25 K25 => ?_⟩
    obtain ⟨k, rfl⟩ := Int.eq_ofNat_of_zero_le z0
    refine ⟨_, rfl, by show 1 ≤ sizeLine; decide, fun l1 hl1 => ⟨_, rfl, ?_⟩⟩
    have s26 := Same.new (Same.refl H25) hl1 (o := .lst [.ref ga])
    have e26 : (upd H25 l1 (.lst [.ref ga])) l1 = some (.lst [.ref ga]) := upd_same
    generalize upd H25 l1 (.lst [.ref ga]) = H26 at s26 e26 ⊢
    refine ⟨l1, _, _, rfl, rfl, e26, by omega, by omega, by rw [show ((k : Int)).toNat = k from rfl, List.length_singleton, sizeLine_eq]; omega, fun l2 hl2 => ?_⟩
    rw [show ((k : Int)).toNat = k from rfl, rep_one]
    have s27 := s26.trans (Same.new (Same.refl H26) hl2 (o := .lst (List.replicate k (.ref ga))))
    have e27 : (upd H26 l2 (.lst (List.replicate k (.ref ga)))) l2 = some (.lst (List.replicate k (.ref ga))) := upd_same
    generalize upd H26 l2 (.lst (List.replicate k (.ref ga))) = H27 at s27 e27 ⊢
    refine ⟨_, rfl, _, rfl, by show 2 ≤ sizeLine; decide, fun d1 hd1 => ⟨by show 1 ≤ sizeLine; decide, fun l3 hl3 => ?_⟩⟩
    have a1 := Same.new (Same.refl H27) hd1 (o := .tup [.ref cq.1, .str wd])
    have g1 : (upd H27 d1 (.tup [.ref cq.1, .str wd])) d1 = some (.tup [.ref cq.1, .str wd]) := upd_same
    generalize upd H27 d1 (.tup [.ref cq.1, .str wd]) = H28 at a1 g1 hl3 ⊢
    have a2 := Same.new (Same.refl H28) hl3 (o := .lst [.ref d1])
    have g2 : (upd H28 l3 (.lst [.ref d1])) l3 = some (.lst [.ref d1]) := upd_same
    generalize upd H28 l3 (.lst [.ref d1]) = H29 at a2 g2 ⊢
    refine ⟨l2, l3, _, _, rfl, rfl, a2 _ _ (a1 _ _ e27), g2, by rw [List.length_replicate, List.length_singleton, sizeLine_eq]; omega, fun l4 hl4 => ?_⟩
    have a3 := Same.new (Same.refl H29) hl4 (o := .lst (List.replicate k (.ref ga) ++ [.ref d1]))
    have g3 : (upd H29 l4 (.lst (List.replicate k (.ref ga) ++ [.ref d1]))) l4 = some (.lst (List.replicate k (.ref ga) ++ [.ref d1])) := upd_same
    generalize upd H29 l4 (.lst (List.replicate k (.ref ga) ++ [.ref d1])) = H30 at a3 g3 ⊢
    refine ⟨_, rfl, by show 2 ≤ sizeLine; decide, fun d2 hd2 => ⟨by show 1 ≤ sizeLine; decide, fun l5 hl5 => ?_⟩⟩
    have a4 := Same.new (Same.refl H30) hd2 (o := .tup [.ref cq.1, .str "odd"])
    have g4 : (upd H30 d2 (.tup [.ref cq.1, .str "odd"])) d2 = some (.tup [.ref cq.1, .str "odd"]) := upd_same
    generalize upd H30 d2 (.tup [.ref cq.1, .str "odd"]) = H31 at a4 g4 hl5 ⊢
    have a5 := Same.new (Same.refl H31) hl5 (o := .lst [.ref d2])
    have g5 : (upd H31 l5 (.lst [.ref d2])) l5 = some (.lst [.ref d2]) := upd_same
    generalize upd H31 l5 (.lst [.ref d2]) = H32 at a5 g5 ⊢
    refine ⟨l4, l5, _, _, rfl, rfl, a5 _ _ (a4 _ _ g3), g5, by rw [List.length_append, List.length_replicate, List.length_singleton, List.length_singleton, sizeLine_eq]; omega, fun dg hdg => ?_⟩
    have a6 := Same.new (Same.refl H32) hdg (o := .lst (List.replicate k (.ref ga) ++ [.ref d1] ++ [.ref d2]))
    have g6 : (upd H32 dg (.lst (List.replicate k (.ref ga) ++ [.ref d1] ++ [.ref d2]))) dg = some (.lst (List.replicate k (.ref ga) ++ [.ref d1, .ref d2])) := by rw [upd_same, List.append_assoc]; rfl
    generalize upd H32 dg (.lst (List.replicate k (.ref ga) ++ [.ref d1] ++ [.ref d2])) = H33 at a6 g6 ⊢
    have sA := s27.trans (a1.trans (a2.trans (a3.trans (a4.trans (a5.trans a6)))))
    have g1' := a6 _ _ (a5 _ _ (a4 _ _ (a3 _ _ (a2 _ _ g1))))
    have g4' := a6 _ _ (a5 _ _ g4)
    have KT : ∀ {a : Addr} {xs : List V}, H23 a = some (.tup xs) → H33 a = some (.tup xs) := fun h => sA _ _ (kp_at B24 K25 (s24 _ _ h) fun xs e => by cases e)
    refine ⟨k, r10 Dn _ _ _ _ _ _ _ _ b l xi ra sp ow.1 ga cq.1 dg wi te ce d1 d2 bd rows r us tc tt ow.2 cq.2 wd k nm H33 ⟨B25.same sA, ((I23.same s24).kp B24 K25).same sA, Same.tup sA (SqT.kp B24 K25 (Same.tup s24 Rl23)), KT hS23, ((hCA23.same s24).kp B24 K25).same sA, KT ho23, KT f23, KT (CA23 cq mcq), g6, g1', g4', ((Iw23.same s24).kp B24 K25).same sA, KT et23, ((c23.same s24).kp B24 K25).same sA, sA _ _ (K25 _ _ (s24 _ _ C23) ceb.1 ceb.2), ((CA23.same s24).kp B24 K25).same sA, (tabs_kpb (T23.ext s24) B24 K25).ext sA⟩ ⟨vd, h9, hRok, hinl, by omega, off, hinc, hno, by omega, g4t, gl, hct⟩ (KT e23) hbad fun H' v8 v9 B' T' => kn H' _ _ _ _ _ _ _ _ _ _ _ _ _ _ _ _ _ _ _ B' T'⟩
end
end Om

namespace Om
open PySem PySem.Spec PyProof.Rows L2 LamX NdefX
def spLaw (K : PySem.W.Frag) (Pl Pu : Addr) : Sp := fun vs H Q _ => ∃ (a : Addr) (ns : List Int), vs = [.ref a] ∧ SqL K H a (ns.map V.int) ∧ ns.length ≤ 63 ∧ H Pl = some (.tbl #[]) ∧ H Pu = some (.tbl #[]) ∧ ∀ H', Q (.bl true) H'
section
variable {P : Program} {w : World} {K : PySem.W.Frag} {mg : Str → Option Value} {base : Heap} {CI C0 fN pm gt CM gF c Pl Pu : Addr} {C : Nat → Addr} {fdF : FuncData}
theorem ok_law {f : Addr} {fd : FuncData} (F : FnP K "law" "law" sLaw f fd) (hcd : ∀ cd, fd.code = cd → cd = .ref c) (PP : LPr P w K mg base CI C0 fN pm gt CM gF Pl Pu C fdF) (TB : TabB base mg c Pl)
    (gtuple : mg "tuple" = none) (grange : mg "range" = none) (glen : mg "len" = none) : FnOk P w K mg base CX0 12 f fd ["_law_script"] (spLaw K Pl Pu) := by
  obtain ⟨oc, od, dV, kV, doc, pm', an, cdv, ct, osl, rfl, lk, hcdv, _, _⟩ := F.ex
  obtain rfl : cdv = .ref c := hcd _ rfl
  refine fn_of (k := 11) lk hcdv scLaw (fun vs H Q E h => ?_) (fun A outer s H vs Q E hr h => ?_)
  · obtain ⟨a, ns, rfl, _⟩ := h
    rfl
  · obtain ⟨a, ns, rfl, hS, hlen, hP1, hP2, k⟩ := h
    have nd := scLaw.nd
    have hr1 : Room 1 _ := hr.mono (by decide)
    obtain ⟨tT, qT, rT⟩ := law_turn (f := f) (cc := c) (H0 := H) (E := E) (s := s) (A := A) (outer := outer) PP TB gtuple grange glen hr
    refine ⟨_, PSs.nox (pss_cons (ps_set (i := 1) nd rfl (.inl rfl) (pe_cal PP.mix hr1 pass0 (pa_cons (pv 0) (pa_cons pe_int pa_nil))))
      (pss_cons (ps_for PassesOwn.never rfl (pi_range1 rfl grange (pa_cons pe_int pa_nil)) (pg_name (i := 2) nd rfl (.inl rfl)) qT)
      (pss_one (ps_ret pe_bl)))), ?_⟩
    refine ⟨_, rfl, a, ns, 33, rfl, hS, hlen, fun b l H1 hb hl s1 B1 => ?_⟩
    have T1 : Tabs (TT2 Pl Pu) H1 := fun p hp => by
      rcases List.mem_cons.mp hp with rfl | hp
      · exact TabS.nil (s1 _ _ hP1)
      · rw [List.mem_singleton.mp hp]
        exact TabS.nil (s1 _ _ hP2)
    refine ⟨3, rfl, by decide, by decide, ?_⟩
    refine for_range (lo := 0) (n := (3 : Int).toNat) (fun i σ H' => Bx H' b l ∧ Tabs (TT2 Pl Pu) H' ∧ ∃ v2 v3 v4 v5 v6 v7 v8 v9 v10 v11 v12 v13 v14 v15 v16 v17 v18 v19 v20 v21, σ = [some (.ref a), some (.ref b), v2, v3, v4, v5, v6, v7, v8, v9, v10, v11, v12, v13, v14, v15, v16, v17, v18, v19, v20, v21])
      ⟨B1, T1, _, _, _, _, _, _, _, _, _, _, _, _, _, _, _, _, _, _, _, _, rfl⟩ ?_ ?_
    · rintro i σ H6 hi ⟨B6, T6, v2, v3, v4, v5, v6, v7, v8, v9, v10, v11, v12, v13, v14, v15, v16, v17, v18, v19, v20, v21, rfl⟩
      exact rT _ b l H6 _ _ _ _ _ _ _ _ _ _ _ _ _ _ _ _ _ _ _ _ _ B6 T6 fun H' v3 v4 v5 v6 v7 v8 v9 v10 v11 v12 v13 v14 v15 v16 v17 v18 v19 v20 v21 B' T' => ⟨B', T', _, _, _, _, _, _, _, _, _, _, _, _, _, _, _, _, _, _, _, _, rfl⟩
    · rintro σ H6 ⟨B6, T6, v2, v3, v4, v5, v6, v7, v8, v9, v10, v11, v12, v13, v14, v15, v16, v17, v18, v19, v20, v21, rfl⟩
      exact k H6
end
end Om

/-! a head that tells function objects by paths of one's own: the getters of properties -/
namespace OmH
open PySem PySem.Spec PyProof.Rows L2 He
structure DefA where
  adr : PySem.W.Frag → Addr
  name : Str
  qual : Str
  params : Arguments
  body : List Stmt
  scope : Scope
def fnWA (K : PySem.W.Frag) (a : Addr) : FnW := match K.lookup a with
  | some ⟨_, _, .func fd, _⟩ => some (fd.name, fd.qualname, fd.params, fd.body, fd.scope, fd.globals, fd.closure, fd.builtins)
  | _ => none
def DefA.val (d : DefA) : FnW := some (d.name, d.qual, d.params, .stmts d.body, d.scope, mainGlobals, [], builtinsNs)
def DefA.ok (K : PySem.W.Frag) (d : DefA) : Bool := PySem.W.keepIn K (.ref (d.adr K)) && (match K.lookup (d.adr K) with
  | some ⟨_, _, .func fd, _⟩ => PySem.W.codeIn K fd.code d.qual && (dflB K fd.defaults [] && kwdB K fd.kwdefaults [])
  | _ => false)
theorem DefA.funD {K : PySem.W.Frag} {d : DefA} (e : fnWA K (d.adr K) = d.val) (c : d.ok K = true) : ∃ fd, FunD K d.name d.qual d.params d.body d.scope [] [] (d.adr K) fd := by
  obtain ⟨kp, c2⟩ := ba c
  unfold fnWA at e
  cases q : K.lookup (d.adr K) with
  | none =>
    rw [q] at c2
    cases c2
  | some o =>
    obtain ⟨oc, od, dt, osl⟩ := o
    rw [q] at c2 e
    cases dt with
    | func fd =>
      obtain ⟨n1, n2, n3, n4, n5, n6, n7, n8, n9, n10, n11, n12, n13, n14, n15⟩ := fd
      have e2 : (some (n1, n2, n3, n4, n5, n6, n7, n15) : FnW) = some (d.name, d.qual, d.params, .stmts d.body, d.scope, mainGlobals, [], builtinsNs) := e
      simp only [Option.some.injEq, Prod.mk.injEq] at e2
      obtain ⟨h1, h2, h3, h4, h5, h6, h7, h8⟩ := e2
      subst h1 h2 h3 h4 h5 h6 h7 h8
      have c3 : (PySem.W.codeIn K n13 d.qual && (dflB K n8 [] && kwdB K n9 [])) = true := c2
      obtain ⟨k1, k2⟩ := ba c3
      obtain ⟨k3, k4⟩ := ba k2
      exact ⟨_, ⟨oc, od, n8, n9, n10, n11, n12, n13, n14, osl, rfl, q, k1, dflB_ok k3, kwdB_ok k4⟩, kp⟩
    | _ => cases c2
/-- the getter of C's property x -/
def getA (K : PySem.W.Frag) (C : Addr) (x : Str) : Addr := match PySem.W.recIn K (ma K C x) "property" with
  | some (.ref g :: _) => g
  | _ => 0
def propB (K : PySem.W.Frag) (C : Addr) (x : Str) : Bool := eqO (PySem.W.findIn K (.ref C) x) (some (some (.ref (ma K C x)))) && (eqO (PySem.W.specialIn K (.ref (ma K C x)) "__get__") (some (some (.builtin "property.__get__"))) &&
  (decide (PySem.W.takesIn K (.ref (ma K C x)) = some true) && (match PySem.W.recIn K (ma K C x) "property" with
  | some (.ref _ :: _) => true
  | _ => false)))
theorem propB_ok {K : PySem.W.Frag} {C : Addr} {x : Str} (h : propB K C x = true) : PropOf K C x (ma K C x) (getA K C x) := by
  obtain ⟨h1, h2⟩ := ba h
  obtain ⟨h2, h3⟩ := ba h2
  obtain ⟨h3, h4⟩ := ba h3
  refine ⟨eqO_ok h1, eqO_ok h2, of_decide_eq_true h3, ?_⟩
  unfold getA
  cases e : PySem.W.recIn K (ma K C x) "property" with
  | none => rw [e] at h4; cases h4
  | some vs =>
    rw [e] at h4
    cases vs with
    | nil => cases h4
    | cons v r =>
      cases v with
      | ref g => exact ⟨r, rfl⟩
      | _ => cases h4
abbrev AlY : Type := AlX × (Bool × List FnW)
def obsA (gs : List DefA) (K : PySem.W.Frag) : Bool × List FnW := (gs.all fun d => d.ok K, gs.map fun d => fnWA K (d.adr K))
def valA (gs : List DefA) : Bool × List FnW := (true, gs.map DefA.val)
def obsY (n : Nat) (fa : List Fa) (fn : List DefD) (ts : List Tab) (tf : List Defn) (gs : List DefA) (ex : PySem.W.Frag → Bool) (g : Addr → Option Obj) : AlY := (obsX n fa fn ts tf ex g, obsA gs (frT g (asD g n)))
def hookY (n : Nat) (fa : List Fa) (fn : List DefD) (ts : List Tab) (tf : List Defn) (gs : List DefA) (ex : PySem.W.Frag → Bool) : PySem.W.Hook where
  α := AlY
  obs := fun s => obsY n fa fn ts tf gs ex s.heap.get?
  val := fun w => (valX fn ts w, valA gs)
  says := fun w h => ∃ K : PySem.W.Frag, K.In h ∧ SaysX fa fn ts tf ex w h K ∧ obsA gs K = valA gs
  of := fun _ _ e => ⟨_, frT_in, saysX_of (congrArg (fun z : AlY => z.1) e), congrArg (fun z : AlY => z.2) e⟩
  keeps := fun _ _ _ ⟨K, hK, c, d⟩ k => ⟨K, PySem.W.Frag.In.keeps hK k, ⟨c.t, c.more, c.hd, c.out, fun p hp => k _ _ (c.empty p hp)⟩, d⟩
theorem obsY_eq {n : Nat} {fa : List Fa} {fn : List DefD} {ts : List Tab} {tf : List Defn} {gs : List DefA} {ex : PySem.W.Frag → Bool} {g : Addr → Option Obj} {s : Shared} (h : ∀ a, g a = s.heap.get? a) : obsY n fa fn ts tf gs ex g = (hookY n fa fn ts tf gs ex).obs s := by
  have e : g = s.heap.get? := funext h
  rw [e] <;> rfl
theorem getter {gs : List DefA} {K : PySem.W.Frag} (c : obsA gs K = valA gs) (i : Nat) {d : DefA} (h : gs[i]? = some d := by rfl) : ∃ fd, FunD K d.name d.qual d.params d.body d.scope [] [] (d.adr K) fd := by
  have c2 : (gs.all fun d => d.ok K) = true := congrArg (fun z : Bool × List FnW => z.1) c
  have e : gs.map (fun d => fnWA K (d.adr K)) = gs.map DefA.val := congrArg (fun z : Bool × List FnW => z.2) c
  have e2 : (gs.map fun d => fnWA K (d.adr K))[i]? = (gs.map DefA.val)[i]? := by rw [e]
  rw [List.getElem?_map, List.getElem?_map, h] at e2
  exact DefA.funD (Option.some.inj e2) (List.all_eq_true.mp c2 d (List.mem_of_getElem? h))
end OmH

namespace Om
open PySem PySem.Spec PyProof.Rows L2 LamX He OmH
/-! ### facts of the top by own Bools -/
def oexB (K : PySem.W.Frag) (C : Addr) : Bool := (match K.lookup C with
  | some ⟨.type t, _, .cls cd, sl⟩ => decide (t = "type") && (cd.hasDict && (!cd.hasDel && ((match cd.mro with
    | .ref c :: bm => decide (c = C) && PySem.HandSPX.refsVE bm
    | _ => false) && (match sl.toList with
    | [_, _, _, _, some (.builtin n), _] => decide (n = "ValueError.__new__")
    | _ => false))))
  | _ => false) && (eqO (PySem.W.findIn K (.ref C) "__setattr__") (some (some (.builtin "object.__setattr__"))) && (decide (PySem.W.subIn K (.ref C) (.type "BaseException") = some true) && (decide (PySem.W.typeIn K (.ref C) = some (.type "type")) && PySem.W.keepIn K (.ref C))))
theorem oexB_ok {K : PySem.W.Frag} {C : Addr} (h : oexB K C = true) : OexC K C := by
  obtain ⟨h1, h2⟩ := ba h
  obtain ⟨h2, h3⟩ := ba h2
  obtain ⟨h3, h4⟩ := ba h3
  obtain ⟨h4, h5⟩ := ba h4
  refine ⟨?_, eqO_ok h2, of_decide_eq_true h3, of_decide_eq_true h4, h5⟩
  clear h h2 h3 h4 h5
  cases e : K.lookup C with
  | none => rw [e] at h1; cases h1
  | some o =>
    rw [e] at h1
    obtain ⟨oc, od, dt, sl⟩ := o
    cases oc with
    | type t =>
      cases dt with
      | cls cd =>
        obtain ⟨a1, a2⟩ := ba h1
        obtain ⟨a2, a3⟩ := ba a2
        obtain ⟨a3, a4⟩ := ba a3
        obtain ⟨a4, a5⟩ := ba a4
        obtain ⟨nm, bs, mro, ns, qn, hd, sn, sb, ab, col, del⟩ := cd
        have e1 : t = "type" := of_decide_eq_true a1
        have e2 : hd = true := a2
        have e3 : del = false := by
          have a3 : (!del) = true := a3
          cases del with
          | true => cases a3
          | false => rfl
        clear a1 a2 a3 h1
        subst e1 e2 e3
        cases mro with
        | nil => cases a4
        | cons v bm =>
          cases v with
          | ref c =>
            obtain ⟨b1, b2⟩ := ba (show (decide (c = C) && PySem.HandSPX.refsVE bm) = true from a4)
            have e4 : c = C := of_decide_eq_true b1
            clear b1 a4
            subst e4
            obtain ⟨sl⟩ := sl
            split at a5
            · rename_i q
              have e5 := of_decide_eq_true a5
              have e6 : sl = _ := q
              subst e5 e6
              exact ⟨_, _, _, _, _, _, _, _, _, _, _, _, _, _, _, rfl, b2⟩
            · cases a5
          | _ => cases a4
      | _ => cases h1
    | _ => cases dt <;> cases h1
def errIB (K : PySem.W.Frag) (x : Str) : Bool := oexB K (ga K x) && (eqO (PySem.W.findIn K (.ref (ga K x)) "__init__") (some (some (.ref (ma K (ga K x) "__init__")))) && decide (PySem.W.typeIn K (.ref (ma K (ga K x) "__init__")) = some (.type "function")))
/-- an own special method -/
def ownB (K : PySem.W.Frag) (C : Addr) (n : Str) : Bool := eqO (PySem.W.findIn K (.ref C) n) (some (some (.ref (ma K C n)))) && (PySem.W.isFn K (.ref (ma K C n)) && PySem.W.fnIn K (ma K C n))
theorem ownB_ok {K : PySem.W.Frag} {C : Addr} {n : Str} (h : ownB K C n = true) : OwnM K C n (ma K C n) := by
  obtain ⟨h1, h2⟩ := ba h
  obtain ⟨h2, h3⟩ := ba h2
  exact ⟨eqO_ok h1, h2, h3⟩
def errUB (K : PySem.W.Frag) (C : Addr) : Bool := PySem.W.excIn K C [.type "ValueError", .type "Exception", .type "BaseException", .type "object"] "ValueError.__new__" && (PySem.W.keepIn K (.ref C) && (decide (PySem.W.subIn K (.ref C) (.type "BaseException") = some true) && decide (PySem.W.typeIn K (.ref C) = some (.type "type"))))
/-- a written tuple of ints, whatever their tokens -/
def intsB : List Value → List Int → Bool
  | [], [] => true
  | .int x _ :: r, y :: q => decide (x = y) && intsB r q
  | _, _ => false
theorem intsB_ok : ∀ {vs : List Value} {ws : List Int}, intsB vs ws = true → Vals (ws.map V.int) vs
  | [], [], _ => .nil
  | .int x t :: r, y :: q, h => by
    obtain ⟨h1, h2⟩ := ba h
    have e : x = y := of_decide_eq_true h1
    subst e
    exact .cons ⟨t, rfl⟩ (intsB_ok h2)
def tupB (K : PySem.W.Frag) (x : Str) (ws : List Int) : Bool := match K.lookup (ga K x) with
  | some ⟨.type t, _, .seq its _, _⟩ => decide (t = "tuple") && (decide (its.size ≤ sizeLine) && intsB its.toList ws)
  | _ => false
theorem tupB_ok {K : PySem.W.Frag} {x : Str} {ws : List Int} (h : tupB K x ws = true) : ∀ H, SqT K H (ga K x) (ws.map V.int) := by
  intro H
  unfold tupB at h
  split at h
  · rename_i t od its n sl e2
    obtain ⟨h1, h2⟩ := ba h
    obtain ⟨h2, h3⟩ := ba h2
    have e3 : t = "tuple" := of_decide_eq_true h1
    subst e3
    exact .inr ⟨_, its, n, e2, rfl, rfl, of_decide_eq_true h2, intsB_ok h3⟩
  · cases h
def excCB (K : PySem.W.Frag) (D : Addr) : Bool := xfB K D && (eqO (PySem.W.findIn K (.ref D) "__class__") (some (some (.builtin "object.__class__"))) && (eqO (PySem.W.specialIn K (.builtin "object.__class__") "__get__") (some (some (.builtin "getset_descriptor.__get__"))) &&
  (decide (PySem.W.takesIn K (.builtin "object.__class__") = some true) && decide (PySem.W.mroIn K D (.type "object") = some true))))
theorem excCB_ok {K : PySem.W.Frag} {D : Addr} (h : excCB K D = true) : ExcC K D := by
  obtain ⟨h1, h2⟩ := ba h
  obtain ⟨h2, h3⟩ := ba h2
  obtain ⟨h3, h4⟩ := ba h3
  obtain ⟨h4, h5⟩ := ba h4
  obtain ⟨x1, x2, x3, x4⟩ := xfB_ok h1
  exact ⟨x1, x2, x3, x4, eqO_ok h2, eqO_ok h3, of_decide_eq_true h4, of_decide_eq_true h5⟩
def strsB : List Value → List Str → Bool
  | [], [] => true
  | .str x _ :: r, y :: q => decide (x = y) && strsB r q
  | _, _ => false
theorem strsB_ok : ∀ {vs : List Value} {ws : List Str}, strsB vs ws = true → Vals (ws.map V.str) vs
  | [], [], _ => .nil
  | .str x t :: r, y :: q, h => by
    obtain ⟨h1, h2⟩ := ba h
    have e : x = y := of_decide_eq_true h1
    subst e
    exact .cons ⟨t, rfl⟩ (strsB_ok h2)
def wordB (K : PySem.W.Frag) (x : Str) (ws : List Str) : Bool := match PySem.W.nsIn K (ga K "WORDS") x with
  | some (some (.ref p)) => (match K.lookup p with
    | some ⟨.type t, _, .seq its _, _⟩ => decide (t = "tuple") && (decide (its.size ≤ sizeLine) && strsB its.toList ws)
    | _ => false)
  | _ => false
theorem wordB_ok {K : PySem.W.Frag} {x : Str} {ws : List Str} (h : wordB K x ws = true) : ∃ p, PySem.W.nsIn K (ga K "WORDS") x = some (some (.ref p)) ∧ ∀ H, SqT K H p (ws.map V.str) := by
  unfold wordB at h
  split at h
  · rename_i p e
    refine ⟨p, e, fun H => ?_⟩
    split at h
    · rename_i t od its n sl e2
      obtain ⟨h1, h2⟩ := ba h
      obtain ⟨h2, h3⟩ := ba h2
      have e3 : t = "tuple" := of_decide_eq_true h1
      subst e3
      exact .inr ⟨_, its, n, e2, rfl, rfl, of_decide_eq_true h2, strsB_ok h3⟩
    · cases h
  · cases h
abbrev C4 (K : PySem.W.Frag) (i : Nat) : Addr := ga K (nmF i)
def kitB4 (K : PySem.W.Frag) : Bool := (List.range 4).all fun i => excCB K (C4 K i) && (decide (PySem.W.exmOne K (.ref (C4 K i)) (.ref (ga K "MapError")) = some true) && (List.range 4).all fun j => decide (PySem.W.kitOne K (.ref (C4 K i)) (.ref (C4 K j)) = some (decide (j = i))))
def tblNe (K : PySem.W.Frag) : Bool := decide ((cT K ("law", none)).2 ≠ (cT K ("_law_unknown", none)).2)
def tsD : List He.Tab := [(fun K => ga K "WORDS", ["plain", "rows", "near"])]
def exB (K : PySem.W.Frag) : Bool := kitB4 K && (errIB K "InvalidIsland" && (errIB K "InvalidDig" && (errUB K (ga K "UnknownCell") && (errUB K (ga K "InvalidRule") && (errUB K (ga K "TooMany") && (ownB K (ga K "Island") "__contains__" && (propB K (ga K "Island") "cells" && (wordB K "plain" (words .plain) && (wordB K "rows" (words .rows) && (wordB K "near" (words (.near 0)) && tblNe K))))))))))
def fa : List Fa := [.free "int", .free "list", .free "len", .free "range", .free "tuple", .free "max", .free "min", .free "enumerate", .free "isinstance", .free "bool", .free "str", .free "sorted", .free "abs", .free "dict", .str "ALL_SIGNS" allSigns, .str "WATER" (Str.ofString "~"), .int "LARGEST" 12, .int "MOST_AWAY" 22, .int "MOST_PLACES" 9, .glo "WORDS", .glo "MapError", .glo "InvalidIsland", .glo "InvalidDig", .glo "InvalidRule", .glo "TooMany", .glo "UnknownCell", .glo "Island",
  .glo "in_range", .glo "require_land", .glo "_lies_within", .glo "_check_rows", .glo "_first_wrong_column", .glo "hint", .glo "left_after", .glo "first_wrong", .glo "next_dig", .glo "fewest_digs", .glo "require_rule", .glo "_require_places", .glo "_told", .glo "_told_of_rows", .glo "_left_behind", .glo "_most_left", .glo "_split"]
def fa2 : List Fa := [.glo "_law_mix", .glo "_law_next", .glo "_law_alike", .glo "_law_rows", .glo "_law_cells", .glo "_law_rule", .glo "_law_some", .glo "_law_fail", .glo "_law_water", .glo "_law_unknown", .glo "law", .cls "Island", .mkr "Island", .noat "Island" "_rows", .noat "InvalidIsland" "row", .noat "InvalidIsland" "column", .noat "InvalidDig" "index"]
def dG (x : Str) (st : Stmt) : He.DefD := ⟨(x, none), x, x, defArgs st, defBody st, defScope st, [], []⟩
def dM (c x q : Str) (st : Stmt) : He.DefD := ⟨(c, some x), x, q, defArgs st, defBody st, defScope st, [], []⟩
def fnD : List He.DefD := [dG "_law_mix" (top 36), dG "_law_next" (top 37), dG "_law_alike" (top 38), dG "_law_rows" (top 39), dG "_law_cells" (top 40), dG "_law_rule" (top 41), dG "_law_some" (top 42), dG "_law_fail" (top 43), dG "_law_water" (top 44), dG "_law_unknown" (top 45), dG "law" (top 46), dG "in_range" (top 4), dG "require_land" (top 16), dG "_lies_within" (top 17), dG "_check_rows" (top 18), dG "_first_wrong_column" (top 19), dG "hint" (top 23), dG "left_after" (top 24), dG "first_wrong" (top 25), dG "next_dig" (top 26), dG "fewest_digs" (top 27), dG "require_rule" (top 28), dG "_require_places" (top 29), dG "_told" (top 30), dG "_told_of_rows" (top 31), dG "_left_behind" (top 32), dG "_most_left" (top 33), dG "_split" (top 34), dM "Island" "__init__" "Island.__init__" sIslI, dM "Island" "__contains__" "Island.__contains__" (sIslM 8), dM "InvalidIsland" "__init__" "InvalidIsland.__init__" sII, dM "InvalidDig" "__init__" "InvalidDig.__init__" sIM]
def gG (c x q : Str) (st : Stmt) : OmH.DefA := ⟨fun K => getA K (ga K c) x, x, q, defArgs st, defBody st, defScope st⟩
def gsD : List OmH.DefA := [gG "Island" "cells" "Island.cells" (sIslM 4)]
def tfD : List He.Defn := [("law", none), ("_law_unknown", none)]
abbrev R : PySem.W.OpenRow := PySem.W.OpenLaw.row PySem.Challenge.rw_oldmap_k33_digs_refused
abbrev hk : PySem.W.Hook := OmH.hookY 6 (fa ++ fa2) fnD tsD tfD gsD exB
def ob (s : PySem.W.SharedT) : OmH.AlY := OmH.obsY 6 (fa ++ fa2) fnD tsD tfD gsD exB (HandSHeadRun.getT s)
theorem ob_eq (s : PySem.W.SharedT) : ob s = hk.obs s.abs := OmH.obsY_eq (HandSHeadRun.getT_eq s)
def loose1 : List Str := ["_wall", "WATER", "ALL_SIGNS", "in_range", "MapError", "InvalidIsland", "UnknownCell", "TooMany", "InvalidRule", "InvalidDig", "MOST_AWAY", "LARGEST", "Island", "require_land", "_lies_within", "_check_rows"]
def loose2 : List Str := ["_first_wrong_column", "WORDS", "MOST_PLACES", "hint", "left_after", "first_wrong", "next_dig", "fewest_digs", "require_rule", "_require_places", "_told", "_told_of_rows", "_left_behind", "_most_left", "_split", "_law_mix"]
def loose3 : List Str := ["_law_next", "_law_alike", "_law_rows", "_law_cells", "_law_rule", "_law_some", "_law_fail", "_law_water", "_law_unknown"]
def loose : List Str := loose1 ++ loose2 ++ loose3
theorem run (w : World) : HandSHeadRun.RunEq R (PySem.W.view R.prog [46]) hk ob 9000 loose w := by
  refine PySem.W.byRow2 "special-get-raises" (P := fun w => HandSHeadRun.RunEq R (PySem.W.view R.prog [46]) hk ob 9000 loose w) (fun w os => ?_) (fun w os => ?_) w
  · kernel_rfl
  · kernel_rfl
end Om

namespace Om
open PySem PySem.Spec PyProof.Rows L2
section
variable {P : Program} {w : World} {K : PySem.W.Frag} {mg : Str → Option Value} {base : Heap} {CI CU fN : Addr}
def cellsLc : Expr := retExpr ((defBody (sIslM 4)).getD 0 (.Pass ⟨0, 0, 0, 0⟩))
abbrev nCells : List Str := ["self", "row", "signs", "column", "sign"]
theorem scCells : FnScope nCells ["self"] (defScope (sIslM 4)) := ⟨rfl, rfl, rfl, by decide +kernel, rfl, by decide +kernel, by decide +kernel⟩
theorem blkCells : BlkOk nCells (defScope (sIslM 4)) (lcScope cellsLc) [("row", 1), ("signs", 2), ("column", 3), ("sign", 4)] := blkOk_by (by decide +kernel)
theorem ok_icells {f : Addr} {fd : FuncData} (F : FnP K "cells" "Island.cells" (sIslM 4) f fd) (T : IslF K mg CI fN) (genum : mg "enumerate" = none) (gw : ∃ t, mg "WATER" = some (.str (Str.ofString "~") t)) : FnOk P w K mg base CX0 1 f fd ["self"] (spICells K CI) := by
  obtain ⟨t0, gw⟩ := gw
  refine F.ok scCells (fun vs H Q E h => ?_) (fun cdv A outer s H vs Q E hr h => ?_)
  · obtain ⟨a, rows, rfl, _⟩ := h
    rfl
  · obtain ⟨a, rows, rfl, ⟨dx, p, hp, hS⟩, vd, k⟩ := h
    have nd := scCells.nd
    refine ⟨_, PSs.nox (pss_one (ps_ret (pe_lc2 (own := [("row", 1), ("signs", 2), ("column", 3), ("sign", 4)]) (vs1 := [3, 4]) (g := gTup K 2 (gCons (gName 1) (gCons (gName 2) gNil))) (g1 := gTup K 2 (gCons (gName 3) (gCons (gName 4) gNil))) rfl nd (pi_enumT rfl genum (pa_cons (pe_fld (pv 0) rfl) pa_nil)) blkCells (by decide)
      (fun _ _ _ _ _ => pg_tup rfl (pgs_cons (pg_name (i := 1) nd rfl (.inl rfl)) (pgs_cons (pg_name (i := 2) nd rfl (.inl rfl)) pgs_nil))) (fun _ _ _ _ _ => pts_nil)
      (fun _ _ _ _ _ => pi_enumS rfl genum (pa_cons (pv 2) pa_nil))
      (fun _ _ _ _ _ => pg_tup rfl (pgs_cons (pg_name (i := 3) nd rfl (.inl rfl)) (pgs_cons (pg_name (i := 4) nd rfl (.inl rfl)) pgs_nil)))
      (fun _ _ _ _ _ => pts_one (pt_cmpR op_ne (pv 4) (pe_glob (v := .str (Str.ofString "~")) rfl gw ⟨_, rfl⟩) (nomark _)))
      (fun _ _ _ _ _ => pe_tup (pa_cons (pv 1) (pa_cons (pv 3) pa_nil)))))), ?_⟩
    refine ⟨_, rfl, a, CI, dx, _, .ref p, rfl, hp, T.cl, T.nR, rfl, p, _, rfl, hS, fun D hD => ?_⟩
    have ez : Str.ofString "~" = (⟨#[126]⟩ : Str) := by decide +kernel
    refine out_it (walk_enumT (K := K) (a := p) (xs := rows.map vt)) (fun i H' => ∃ acc, H' D = some (.lst acc) ∧ DpAll K H' acc ((cellsTo rows i).map cdp) ∧ Same H H') ⟨[], upd_same, .nil, Same.new (Same.refl H) hD⟩
      (fun i H' _ q => by obtain ⟨_, _, _, q⟩ := q; exact Same.tup q hS) ?_ ?_
    · rintro i x H1 H2 hi ⟨acc, h1, h2, h3⟩ ⟨T1, y, rfl, hT, rfl, hy⟩
      rw [List.length_map] at hi
      obtain ⟨r, hr1⟩ : ∃ r, rows[i]? = some r := ⟨rows[i], by simp [hi]⟩
      have hy2 : y = vt r := by
        have hy : (rows.map vt)[i]? = some y := hy
        rw [List.getElem?_map, hr1] at hy
        exact (Option.some.inj hy).symm
      subst hy2
      have hm : r ∈ rows := List.mem_of_getElem? hr1
      have hDT : D ≠ T1 := fun e => by rw [← e, h1] at hT; cases hT
      have s1 : Same H1 (upd H1 T1 (.tup [.int (i : Nat), vt r])) := Same.new (Same.refl H1) hT
      refine ⟨T1, _, rfl, .inl (.inl upd_same), rfl, _, _, rfl, _, _, rfl, rfl, rfl, tyes ?_⟩
      refine ⟨_, rfl, tx r, rfl, in_it (walk_enumS (x := tx r)) (fun j H' => ∃ acc, H' D = some (.lst acc) ∧ DpAll K H' acc ((cellsTo rows i ++ rowCells r i j).map cdp) ∧ Same H H')
        ⟨acc, s1 _ _ h1, by simp only [rowCells, List.range_zero, List.filter_nil, List.map_nil, List.append_nil]; exact Same.dpAll s1 h2, h3.trans s1⟩ (fun _ _ _ _ => trivial) ?_ ?_⟩
      · rintro j x H3 H4 hj ⟨acc2, g1, g2, g3⟩ ⟨T2, y2, rfl, hT2, rfl, hy2⟩
        have hj' : j < r.length := by
          have e : (tx r).cps.size = r.length := by rw [← Array.length_toList, tx_cps]
          rwa [e] at hj
        obtain ⟨c, hc⟩ : ∃ c, r[j]? = some c := ⟨r[j], by simp [hj']⟩
        have hy3 : y2 = .str ⟨#[c]⟩ := by
          have hy2 : ((tx r).cps[j]?).map (fun c => V.str ⟨#[c]⟩) = some y2 := hy2
          have e : (tx r).cps[j]? = some c := by
            rw [← Array.getElem?_toList, tx_cps]
            exact hc
          rw [e] at hy2
          exact (Option.some.inj hy2).symm
        subst hy3
        have s2 : Same H3 (upd H3 T2 (.tup [.int (j : Nat), .str ⟨#[c]⟩])) := Same.new (Same.refl H3) hT2
        have hcd : r.getD j 0 = c := by rw [List.getD_eq_getElem?_getD, hc, Option.getD_some]
        refine ⟨T2, _, rfl, .inl (.inl upd_same), rfl, _, _, rfl, _, _, rfl, rfl, rfl, ?_⟩
        refine ⟨_, rfl, rfl, _, rfl, ?_⟩
        have e2 : (decide (V.str ⟨#[c]⟩ = V.str (Str.ofString "~"))) = decide (c = 126) := by
          rw [ez]
          apply decide_eq_decide.mpr
          simp
        show if (!decide (V.str ⟨#[c]⟩ = V.str (Str.ofString "~"))) = true then _ else _
        rw [e2, rowCells_succ, hcd]
        have w1 : (cellsTo rows i).length ≤ i * 12 := cellsTo_len (fun r hr => (vd.wid r hr).2) i (by omega)
        have w2 := rowCells_len r i j
        have w3 := (vd.wid r hm).2
        have w4 := vd.hgt
        have hlen := dpAll_len g2
        rw [List.length_map, List.length_append] at hlen
        by_cases h126 : c = 126
        · rw [if_pos h126]
          refine iteF' (by rw [decide_eq_true h126]; rfl) ?_
          exact ⟨acc2, s2 _ _ g1, Same.dpAll s2 g2, g3.trans s2⟩
        · rw [if_neg h126]
          refine iteT' (by rw [decide_eq_false h126]; rfl) ?_
          refine ⟨_, rfl, _, rfl, (by show 2 ≤ sizeLine; decide), fun q hq => ?_⟩
          have s3 : Same H3 (upd (upd H3 T2 (.tup [.int (j : Nat), .str ⟨#[c]⟩])) q (.tup [.int (i : Nat), .int (j : Nat)])) := s2.trans (Same.new (Same.refl _) hq)
          have g4 := s3 _ _ g1
          have hqD : D ≠ q := fun e => by rw [← e, s2 _ _ g1] at hq; cases hq
          refine ⟨acc2, g4, Nat.lt_of_lt_of_le (show acc2.length < 1000 by omega) (by decide), acc2 ++ [.ref q], upd_same, ?_, ?_⟩
          · rw [← List.append_assoc, List.map_append]
            refine dpAll_app (pairs_other g4 (Same.dpAll s3 g2)) (.cons ?_ .nil)
            exact .tup (.inl (.inl (by rw [upd_ne (Ne.symm hqD)]; exact upd_same))) (.cons (.int _) (.cons (.int _) .nil))
          · intro b o hb
            have hne : b ≠ D := ne_of_none hb hD
            rw [upd_ne hne]
            exact s3 _ _ (g3 b o hb)
      · rintro H3 ⟨acc2, g1, g2, g3⟩
        have e : (tx r).cps.size = r.length := by rw [← Array.length_toList, tx_cps]
        rw [e] at g2
        refine ⟨acc2, g1, ?_, g3⟩
        rw [cellsTo_succ, getD_at hr1]
        exact g2
    · rintro H1 ⟨acc, h1, h2, h3⟩
      rw [List.length_map] at h2
      exact k _ H1 h3 (.lst (.inl (.inl h1)) h2)
end
end Om

namespace Om
open PySem PySem.Spec PyProof.Rows L2 LamX He OmH
theorem errIB_ok {K : PySem.W.Frag} {x : Str} (h : errIB K x = true) : OexC K (ga K x) ∧ PySem.W.findIn K (.ref (ga K x)) "__init__" = some (some (.ref (ma K (ga K x) "__init__"))) ∧ PySem.W.typeIn K (.ref (ma K (ga K x) "__init__")) = some (.type "function") := by
  obtain ⟨h1, h2⟩ := ba h
  obtain ⟨h2, h3⟩ := ba h2
  exact ⟨oexB_ok h1, eqO_ok h2, of_decide_eq_true h3⟩
theorem b1 {K : PySem.W.Frag} {x q a : Str} {st : Stmt} {f : Addr} {fd : FuncData} (F : FnP K x q st f fd) (h : ∀ (kV doc pm : Value) (an : Option Addr) (cdv ct : Value) (u : Value), bindArgs (PySem.W.fnOf x q (defArgs st) (defBody st) (defScope st) .none kV doc pm an cdv ct) ⟨[u], []⟩ = pure [(a, u)]) : Binds K fd [a] [] :=
  FunD.bindsN F fun _ _ _ _ _ _ us hl => match us, hl with | [_], _ => h ..
theorem b2 {K : PySem.W.Frag} {x q a b : Str} {st : Stmt} {f : Addr} {fd : FuncData} (F : FnP K x q st f fd) (h : ∀ (kV doc pm : Value) (an : Option Addr) (cdv ct : Value) (u v : Value), bindArgs (PySem.W.fnOf x q (defArgs st) (defBody st) (defScope st) .none kV doc pm an cdv ct) ⟨[u, v], []⟩ = pure [(a, u), (b, v)]) : Binds K fd [a, b] [] :=
  FunD.bindsN F fun _ _ _ _ _ _ us hl => match us, hl with | [_, _], _ => h ..
theorem b3 {K : PySem.W.Frag} {x q a b c : Str} {st : Stmt} {f : Addr} {fd : FuncData} (F : FnP K x q st f fd) (h : ∀ (kV doc pm : Value) (an : Option Addr) (cdv ct : Value) (u v z : Value), bindArgs (PySem.W.fnOf x q (defArgs st) (defBody st) (defScope st) .none kV doc pm an cdv ct) ⟨[u, v, z], []⟩ = pure [(a, u), (b, v), (c, z)]) : Binds K fd [a, b, c] [] :=
  FunD.bindsN F fun _ _ _ _ _ _ us hl => match us, hl with | [_, _, _], _ => h ..
theorem b4 {K : PySem.W.Frag} {x q a b c d : Str} {st : Stmt} {f : Addr} {fd : FuncData} (F : FnP K x q st f fd) (h : ∀ (kV doc pm : Value) (an : Option Addr) (cdv ct : Value) (u v z y : Value), bindArgs (PySem.W.fnOf x q (defArgs st) (defBody st) (defScope st) .none kV doc pm an cdv ct) ⟨[u, v, z, y], []⟩ = pure [(a, u), (b, v), (c, z), (d, y)]) : Binds K fd [a, b, c, d] [] :=
  FunD.bindsN F fun _ _ _ _ _ _ us hl => match us, hl with | [_, _, _, _], _ => h ..
abbrev gI (K : PySem.W.Frag) : Addr := ga K "Island"
theorem kit4 {K : PySem.W.Frag} (h : kitB4 K = true) {i : Nat} (hi : i < 4) : ExcC K (C4 K i) ∧ PySem.W.exmOne K (.ref (C4 K i)) (.ref (ga K "MapError")) = some true ∧ ∀ j, j < 4 → PySem.W.kitOne K (.ref (C4 K i)) (.ref (C4 K j)) = some (decide (j = i)) := by
  have h1 := List.all_eq_true.mp h i (List.mem_range.mpr hi)
  obtain ⟨b, c⟩ := ba h1
  obtain ⟨c, d⟩ := ba c
  exact ⟨excCB_ok b, of_decide_eq_true c, fun j hj => of_decide_eq_true (List.all_eq_true.mp d j (List.mem_range.mpr hj))⟩
theorem in4 : ∀ i, i < 4 → Fa.glo (nmF i) ∈ fa ++ fa2 := fun i hi => by
  have e : i = 0 ∨ i = 1 ∨ i = 2 ∨ i = 3 := by omega
  rcases e with rfl | rfl | rfl | rfl <;> simp [fa, nmF]
theorem code_at {K : PySem.W.Frag} {x : Str} {st : Stmt} {f : Addr} {fd : FuncData} (F : FnP K x x st f fd) (e : ∀ {oc : Value} {od : Option Addr} {dV kV doc pm : Value} {an : Option Addr} {c' : Addr} {ct : Value} {osl : Array (Option Value)}, K.lookup f = some ⟨oc, od, .func (PySem.W.fnOf x x (defArgs st) (defBody st) (defScope st) dV kV doc pm an (.ref c') ct), osl⟩ → codeOf K (x, none) = c') : ∀ cd, fd.code = cd → cd = .ref (cT K (x, none)).1 := by
  obtain ⟨oc, od, dV, kV, doc, pm, an, cdv, ct, osl, rfl, lk, hcdv, _, _⟩ := F.ex
  obtain ⟨c', rfl⟩ := codeIn_ref hcdv
  intro cd hcd
  have e1 := e lk
  subst hcd
  show Value.ref c' = .ref (codeOf K (x, none))
  rw [e1]
theorem parts_at {P : Program} {w : World} {K : PySem.W.Frag} {h base : Heap} {mg : Str → Option Value} (X : K.In h) (G : h.Ns mainGlobals mg) (c : He.SaysX (fa ++ fa2) fnD tsD tfD exB w h K) (cg : obsA gsD K = valA gsD) (TBu : TabB base mg (cT K ("_law_unknown", none)).1 (cT K ("_law_unknown", none)).2) : ∃ fdF, LPr P w K mg base (gI K) (ga K "InvalidIsland") (ma K (gI K) "__init__") (ma K (gI K) "cells") (getA K (gI K) "cells") (ga K "MapError") (ga K "_law_fail") (cT K ("law", none)).2 (cT K ("_law_unknown", none)).2 (C4 K) fdF := by
  have d := c.t.d
  obtain ⟨f0, F0⟩ := d.def_ 0 (d := dG "_law_mix" (top 36)) rfl
  have F0 : FnP K "_law_mix" "_law_mix" (top 36) _ f0 := F0
  obtain ⟨f1, F1⟩ := d.def_ 1 (d := dG "_law_next" (top 37)) rfl
  have F1 : FnP K "_law_next" "_law_next" (top 37) _ f1 := F1
  obtain ⟨f2, F2⟩ := d.def_ 2 (d := dG "_law_alike" (top 38)) rfl
  have F2 : FnP K "_law_alike" "_law_alike" (top 38) _ f2 := F2
  obtain ⟨f3, F3⟩ := d.def_ 3 (d := dG "_law_rows" (top 39)) rfl
  have F3 : FnP K "_law_rows" "_law_rows" (top 39) _ f3 := F3
  obtain ⟨f4, F4⟩ := d.def_ 4 (d := dG "_law_cells" (top 40)) rfl
  have F4 : FnP K "_law_cells" "_law_cells" (top 40) _ f4 := F4
  obtain ⟨f5, F5⟩ := d.def_ 5 (d := dG "_law_rule" (top 41)) rfl
  have F5 : FnP K "_law_rule" "_law_rule" (top 41) _ f5 := F5
  obtain ⟨f6, F6⟩ := d.def_ 6 (d := dG "_law_some" (top 42)) rfl
  have F6 : FnP K "_law_some" "_law_some" (top 42) _ f6 := F6
  obtain ⟨f7, F7⟩ := d.def_ 7 (d := dG "_law_fail" (top 43)) rfl
  have F7 : FnP K "_law_fail" "_law_fail" (top 43) _ f7 := F7
  obtain ⟨f8, F8⟩ := d.def_ 8 (d := dG "_law_water" (top 44)) rfl
  have F8 : FnP K "_law_water" "_law_water" (top 44) _ f8 := F8
  obtain ⟨f9, F9⟩ := d.def_ 9 (d := dG "_law_unknown" (top 45)) rfl
  have F9 : FnP K "_law_unknown" "_law_unknown" (top 45) _ f9 := F9
  obtain ⟨f11, F11⟩ := d.def_ 11 (d := dG "in_range" (top 4)) rfl
  have F11 : FnP K "in_range" "in_range" (top 4) _ f11 := F11
  obtain ⟨f12, F12⟩ := d.def_ 12 (d := dG "require_land" (top 16)) rfl
  have F12 : FnP K "require_land" "require_land" (top 16) _ f12 := F12
  obtain ⟨f13, F13⟩ := d.def_ 13 (d := dG "_lies_within" (top 17)) rfl
  have F13 : FnP K "_lies_within" "_lies_within" (top 17) _ f13 := F13
  obtain ⟨f14, F14⟩ := d.def_ 14 (d := dG "_check_rows" (top 18)) rfl
  have F14 : FnP K "_check_rows" "_check_rows" (top 18) _ f14 := F14
  obtain ⟨f15, F15⟩ := d.def_ 15 (d := dG "_first_wrong_column" (top 19)) rfl
  have F15 : FnP K "_first_wrong_column" "_first_wrong_column" (top 19) _ f15 := F15
  obtain ⟨f16, F16⟩ := d.def_ 16 (d := dG "hint" (top 23)) rfl
  have F16 : FnP K "hint" "hint" (top 23) _ f16 := F16
  obtain ⟨f17, F17⟩ := d.def_ 17 (d := dG "left_after" (top 24)) rfl
  have F17 : FnP K "left_after" "left_after" (top 24) _ f17 := F17
  obtain ⟨f18, F18⟩ := d.def_ 18 (d := dG "first_wrong" (top 25)) rfl
  have F18 : FnP K "first_wrong" "first_wrong" (top 25) _ f18 := F18
  obtain ⟨f19, F19⟩ := d.def_ 19 (d := dG "next_dig" (top 26)) rfl
  have F19 : FnP K "next_dig" "next_dig" (top 26) _ f19 := F19
  obtain ⟨f20, F20⟩ := d.def_ 20 (d := dG "fewest_digs" (top 27)) rfl
  have F20 : FnP K "fewest_digs" "fewest_digs" (top 27) _ f20 := F20
  obtain ⟨f21, F21⟩ := d.def_ 21 (d := dG "require_rule" (top 28)) rfl
  have F21 : FnP K "require_rule" "require_rule" (top 28) _ f21 := F21
  obtain ⟨f22, F22⟩ := d.def_ 22 (d := dG "_require_places" (top 29)) rfl
  have F22 : FnP K "_require_places" "_require_places" (top 29) _ f22 := F22
  obtain ⟨f23, F23⟩ := d.def_ 23 (d := dG "_told" (top 30)) rfl
  have F23 : FnP K "_told" "_told" (top 30) _ f23 := F23
  obtain ⟨f24, F24⟩ := d.def_ 24 (d := dG "_told_of_rows" (top 31)) rfl
  have F24 : FnP K "_told_of_rows" "_told_of_rows" (top 31) _ f24 := F24
  obtain ⟨f25, F25⟩ := d.def_ 25 (d := dG "_left_behind" (top 32)) rfl
  have F25 : FnP K "_left_behind" "_left_behind" (top 32) _ f25 := F25
  obtain ⟨f26, F26⟩ := d.def_ 26 (d := dG "_most_left" (top 33)) rfl
  have F26 : FnP K "_most_left" "_most_left" (top 33) _ f26 := F26
  obtain ⟨f27, F27⟩ := d.def_ 27 (d := dG "_split" (top 34)) rfl
  have F27 : FnP K "_split" "_split" (top 34) _ f27 := F27
  obtain ⟨f28, F28⟩ := d.def_ 28 (d := dM "Island" "__init__" "Island.__init__" sIslI) rfl
  have F28 : FnP K "__init__" "Island.__init__" sIslI _ f28 := F28
  obtain ⟨f29, F29⟩ := d.def_ 29 (d := dM "Island" "__contains__" "Island.__contains__" (sIslM 8)) rfl
  have F29 : FnP K "__contains__" "Island.__contains__" (sIslM 8) _ f29 := F29
  obtain ⟨f30, F30⟩ := d.def_ 30 (d := dM "InvalidIsland" "__init__" "InvalidIsland.__init__" sII) rfl
  have F30 : FnP K "__init__" "InvalidIsland.__init__" sII _ f30 := F30
  obtain ⟨f31, F31⟩ := d.def_ 31 (d := dM "InvalidDig" "__init__" "InvalidDig.__init__" sIM) rfl
  have F31 : FnP K "__init__" "InvalidDig.__init__" sIM _ f31 := F31
  obtain ⟨g0, P0⟩ := getter cg 0 (d := gG "Island" "cells" "Island.cells" (sIslM 4)) rfl
  have P0 : FnP K "cells" "Island.cells" (sIslM 4) _ g0 := P0
  have fr : ∀ {x : Str}, Fa.free x ∈ fa ++ fa2 → mg x = none := fun hx => free_ok X G (d.facts hx)
  have gl : ∀ {x : Str}, Fa.glo x ∈ fa ++ fa2 → mg x = some (.ref (ga K x)) := fun hx => glo_ok X G (d.facts hx)
  have fact : ∀ {f : Fa}, f ∈ fa ++ fa2 → f.ok K = true := fun hf => d.facts hf
  have gint : mg "int" = none := fr (by simp [fa])
  have glist : mg "list" = none := fr (by simp [fa])
  have glen : mg "len" = none := fr (by simp [fa])
  have grange : mg "range" = none := fr (by simp [fa])
  have gtuple : mg "tuple" = none := fr (by simp [fa])
  have gmax : mg "max" = none := fr (by simp [fa])
  have gmin : mg "min" = none := fr (by simp [fa])
  have genum : mg "enumerate" = none := fr (by simp [fa])
  have gisi : mg "isinstance" = none := fr (by simp [fa])
  have gbool : mg "bool" = none := fr (by simp [fa])
  have gstr : mg "str" = none := fr (by simp [fa])
  have gsorted : mg "sorted" = none := fr (by simp [fa])
  have gabs : mg "abs" = none := fr (by simp [fa])
  have gdict : mg "dict" = none := fr (by simp [fa])
  have sall := str_ok X G (fact (f := .str "ALL_SIGNS" allSigns) (by simp [fa]))
  have swat := str_ok X G (fact (f := .str "WATER" (Str.ofString "~")) (by simp [fa]))
  have slarge := int_ok X G (fact (f := .int "LARGEST" 12) (by simp [fa]))
  have saway := int_ok X G (fact (f := .int "MOST_AWAY" 22) (by simp [fa]))
  have smost := int_ok X G (fact (f := .int "MOST_PLACES" 9) (by simp [fa]))
  obtain ⟨x1, x2⟩ := ba c.more
  obtain ⟨x2, x3⟩ := ba x2
  obtain ⟨x3, x4⟩ := ba x3
  obtain ⟨x4, x5⟩ := ba x4
  obtain ⟨x5, x6⟩ := ba x5
  obtain ⟨x6, x7⟩ := ba x6
  obtain ⟨x7, x8⟩ := ba x7
  obtain ⟨x8, x9⟩ := ba x8
  obtain ⟨x9, x10⟩ := ba x9
  obtain ⟨x10, x11⟩ := ba x10
  obtain ⟨x11, x12⟩ := ba x11
  obtain ⟨oII, iII, tII⟩ := errIB_ok x2
  obtain ⟨oIM, iIM, tIM⟩ := errIB_ok x3
  have nR := noat_ok (fact (f := .noat "InvalidIsland" "row") (by simp [fa, fa2]))
  have nC := noat_ok (fact (f := .noat "InvalidIsland" "column") (by simp [fa, fa2]))
  have nI := noat_ok (fact (f := .noat "InvalidDig" "index") (by simp [fa, fa2]))
  have isi : IsI K mg (ga K "InvalidIsland") (ma K (ga K "InvalidIsland") "__init__") := ⟨oII, nR, nC, iII, tII, gl (by simp [fa])⟩
  have ism : IsM K mg (ga K "InvalidDig") (ma K (ga K "InvalidDig") "__init__") := ⟨oIM, nI, iIM, tIM, gl (by simp [fa])⟩
  have isl : IslF K mg (gI K) (ma K (gI K) "__init__") := ⟨cls_ok (fact (f := .cls "Island") (by simp [fa, fa2])), noat_ok (fact (f := .noat "Island" "_rows") (by simp [fa, fa2])), mkr_ok (fact (f := .mkr "Island") (by simp [fa, fa2])), gl (by simp [fa])⟩
  have eu : ErrU K mg "UnknownCell" (ga K "UnknownCell") := by
    obtain ⟨y1, y2⟩ := ba x4
    obtain ⟨y2, y3⟩ := ba y2
    obtain ⟨y3, y4⟩ := ba y3
    exact ⟨y1, y2, of_decide_eq_true y3, of_decide_eq_true y4, gl (by simp [fa])⟩
  have eR : ErrU K mg "InvalidRule" (ga K "InvalidRule") := by
    obtain ⟨y1, y2⟩ := ba x5
    obtain ⟨y2, y3⟩ := ba y2
    obtain ⟨y3, y4⟩ := ba y3
    exact ⟨y1, y2, of_decide_eq_true y3, of_decide_eq_true y4, gl (by simp [fa])⟩
  have eT : ErrU K mg "TooMany" (ga K "TooMany") := by
    obtain ⟨y1, y2⟩ := ba x6
    obtain ⟨y2, y3⟩ := ba y2
    obtain ⟨y3, y4⟩ := ba y3
    exact ⟨y1, y2, of_decide_eq_true y3, of_decide_eq_true y4, gl (by simp [fa])⟩
  obtain ⟨es, n, kd⟩ := c.t.tab 0 (t := (fun K => ga K "WORDS", ["plain", "rows", "near"])) rfl
  have wf : WF K w mg (ga K "WORDS") := by
    refine ⟨gl (by simp [fa]), fun r => ?_⟩
    have key : ∀ {x : Str} {ws : List Str}, wordB K x ws = true → ∃ p, KDct K w (ga K "WORDS") x (.ref p) ∧ ∀ H, SqT K H p (ws.map V.str) := fun h => by
      obtain ⟨p, e, hS⟩ := wordB_ok h
      exact ⟨p, ⟨es, n, _, kd.at_, kd.lit, e, rfl⟩, hS⟩
    cases r with
    | plain => exact key x9
    | rows => exact key x10
    | near m => exact key x11
  have hne : (cT K ("law", none)).2 ≠ (cT K ("_law_unknown", none)).2 := of_decide_eq_true x12
  have e3 := (kit4 x1 (i := 3) (by decide)).1
  have fai : FailF K mg (C4 K) (ga K "MapError") := ⟨gl (by simp [fa]), fun i hi => glo_ok X G (d.facts (in4 i hi)), fun i hi => (kit4 x1 hi).2.1, fun i hi => (kit4 x1 hi).1, fun i j hi hj => (kit4 x1 hi).2.2 j hj, ⟨e3.hg, e3.hk, e3.hs, e3.hd⟩, nI, gisi⟩
  have kNx : Cal P w K mg base CX0 1 "_law_next" ["_law_h", "_law_limit"] spNext := ⟨_, _, ok_next F1 gint gmax glen, gl (by simp [fa, fa2]), F1.kp, b2 F1 fun _ _ _ _ _ _ _ _ => rfl⟩
  have kRg : Cal P w K mg base CX0 1 "in_range" nInR spInR := ⟨_, _, ok_inR F11 gisi gint gbool, gl (by simp [fa, fa2]), F11.kp, b3 F11 fun _ _ _ _ _ _ _ _ _ => rfl⟩
  have kRn : Cal P w K mg base CX0 1 "in_range" nInR spInN := ⟨_, _, ok_inN F11 gisi gint gbool, gl (by simp [fa, fa2]), F11.kp, b3 F11 fun _ _ _ _ _ _ _ _ _ => rfl⟩
  have kLi : Cal P w K mg base CX0 2 "_lies_within" ["rows", "cell"] (spLies K) := ⟨_, _, ok_lies F13 kRg glen, gl (by simp [fa, fa2]), F13.kp, b2 F13 fun _ _ _ _ _ _ _ _ => rfl⟩
  have kFw : Cal P w K mg base CX0 1 "_first_wrong_column" ["signs", "width"] spFwc := ⟨_, _, ok_fwc F15 grange glen sall, gl (by simp [fa, fa2]), F15.kp, b2 F15 fun _ _ _ _ _ _ _ _ => rfl⟩
  have bII : Binds K f30 ["self", "row", "column"] [] := b3 F30 fun _ _ _ _ _ _ _ _ _ => rfl
  have bIM : Binds K f31 ["self", "index"] [] := b2 F31 fun _ _ _ _ _ _ _ _ => rfl
  have kCk : Cal P w K mg base (L2.CX P w) 3 "_check_rows" ["rows"] (spChk K (ga K "InvalidIsland")) := ⟨_, _, ok_chk F14 isi (ok_II F30 isi) bII kFw glen gmax gmin genum slarge, gl (by simp [fa, fa2]), F14.kp, b1 F14 fun _ _ _ _ _ _ _ => rfl⟩
  have bAl : Binds K f2 ["_law_found", "_law_due"] [] := b2 F2 fun _ _ _ _ _ _ _ _ => rfl
  have gAl : mg "_law_alike" = some (.ref (ga K "_law_alike")) := gl (by simp [fa, fa2])
  have bN : Binds K f28 ["self", "rows"] [] := b2 F28 fun _ _ _ _ _ _ _ _ => rfl
  have okN : FnOk P w K mg base (L2.CX P w) 4 (ma K (gI K) "__init__") f28 ["self", "rows"] (spIsl K (gI K) (ga K "InvalidIsland")) := ok_isl F28 isl kCk gtuple
  have okC : FnOk P w K mg base CX0 1 (getA K (gI K) "cells") g0 ["self"] (spICells K (gI K)) := ok_icells P0 isl genum swat
  have bC : Binds K g0 ["self"] [] := b1 P0 fun _ _ _ _ _ _ _ => rfl
  have pC := propB_ok x8
  have okH : FnOk P w K mg base CX0 3 (ma K (gI K) "__contains__") f29 ["self", "cell"] (spHas K (gI K)) := ok_has F29 isl kLi swat
  have bH : Binds K f29 ["self", "cell"] [] := b2 F29 fun _ _ _ _ _ _ _ _ => rfl
  have oH := ownB_ok x7
  have kLa : Cal P w K mg base CX0 4 "require_land" ["island", "cell"] (spLand K (gI K)) := ⟨_, _, ok_land F12 oH okH bH, gl (by simp [fa, fa2]), F12.kp, b2 F12 fun _ _ _ _ _ _ _ _ => rfl⟩
  have kRr : Cal P w K mg base CX0 2 "require_rule" ["rule"] (spReqR K) := ⟨_, _, ok_reqR F21 kRg glen saway, gl (by simp [fa, fa2]), F21.kp, b1 F21 fun _ _ _ _ _ _ _ => rfl⟩
  have kPl : Cal P w K mg base CX0 5 "_require_places" ["island", "places", "rule"] (spPlaces K (gI K)) := ⟨_, _, ok_places F22 kLa kRr, gl (by simp [fa, fa2]), F22.kp, b3 F22 fun _ _ _ _ _ _ _ _ _ => rfl⟩
  have kTr : Cal P w K mg base CX0 1 "_told_of_rows" ["row", "place_row"] spToldR := ⟨_, _, ok_toldR F24, gl (by simp [fa, fa2]), F24.kp, b2 F24 fun _ _ _ _ _ _ _ _ => rfl⟩
  have kTo : Cal P w K mg base CX0 2 "_told" ["rule", "cell", "place"] (spTold K) := ⟨_, _, ok_told F23 kTr gabs, gl (by simp [fa, fa2]), F23.kp, b3 F23 fun _ _ _ _ _ _ _ _ _ => rfl⟩
  have kLb : Cal P w K mg base CX0 6 "_left_behind" n4 (spLeftB K (gI K)) := ⟨_, _, ok_leftB F25 kPl kLa kTo wf genum glist, gl (by simp [fa, fa2]), F25.kp, b4 F25 fun _ _ _ _ _ _ _ _ _ _ => rfl⟩
  have kMl : Cal P w K mg base CX0 3 "_most_left" ["rule", "cell", "places"] (spMostL K) := ⟨_, _, ok_mostL F26 kTo gmax, gl (by simp [fa, fa2]), F26.kp, b3 F26 fun _ _ _ _ _ _ _ _ _ => rfl⟩
  have kSp : Cal P w K mg base CX0 3 "_split" ["rule", "cell", "places"] (spSplit K) := ⟨_, _, ok_split F27 kTo genum gtuple, gl (by simp [fa, fa2]), F27.kp, b3 F27 fun _ _ _ _ _ _ _ _ _ => rfl⟩
  have kLf : Cal P w K mg base (L2.CX P w) 4 "require_land" ["island", "cell"] (spLandF K (gI K) (C4 K 0)) := ⟨_, _, ok_landF F12 eu oH okH bH, gl (by simp [fa, fa2]), F12.kp, b2 F12 fun _ _ _ _ _ _ _ _ => rfl⟩
  have kRx : Cal P w K mg base (L2.CX P w) 2 "require_rule" ["rule"] (spReqX K (C4 K 1)) := ⟨_, _, ok_reqX F21 eR kRn glen saway, gl (by simp [fa, fa2]), F21.kp, b1 F21 fun _ _ _ _ _ _ _ => rfl⟩
  have kPx : Cal P w K mg base (L2.CX P w) 5 "_require_places" ["island", "places", "rule"] (spPlX K (gI K) (C4 K 0) (C4 K 1)) := ⟨_, _, ok_plX F22 kLf kRx, gl (by simp [fa, fa2]), F22.kp, b3 F22 fun _ _ _ _ _ _ _ _ _ => rfl⟩
  have kBx : Cal P w K mg base (L2.CX P w) 6 "_left_behind" n4 (spLBX K (gI K) (C4 K 0) (C4 K 1) (C4 K 3)) := ⟨_, _, ok_lbX F25 kPx kLf ism (ok_IM F31 ism) bIM wf genum, gl (by simp [fa, fa2]), F25.kp, b4 F25 fun _ _ _ _ _ _ _ _ _ _ => rfl⟩
  have px : PX P w K mg base (gI K) (C4 K) := {
    lax := ⟨_, _, ok_laX F17 kBx, gl (by simp [fa, fa2]), F17.kp, b4 F17 fun _ _ _ _ _ _ _ _ _ _ => rfl⟩
    fwx := ⟨_, _, ok_fwX F18 kBx genum, gl (by simp [fa, fa2]), F18.kp, b4 F18 fun _ _ _ _ _ _ _ _ _ _ => rfl⟩
    ndx := ⟨_, _, ok_ndX F19 kPx, gl (by simp [fa, fa2]), F19.kp, b3 F19 fun _ _ _ _ _ _ _ _ _ => rfl⟩
    fdx := ⟨_, _, ok_fdX F20 kPx eT glen smost, gl (by simp [fa, fa2]), F20.kp, b3 F20 fun _ _ _ _ _ _ _ _ _ => rfl⟩
    hnx := ⟨_, _, ok_hintX F16 kRx, gl (by simp [fa, fa2]), F16.kp, b3 F16 fun _ _ _ _ _ _ _ _ _ => rfl⟩ }
  have uu : UPr P w K mg base (gI K) (ga K "InvalidIsland") (ma K (gI K) "__init__") (ma K (gI K) "cells") (getA K (gI K) "cells") (ga K "MapError") (ga K "_law_fail") (C4 K) f7 := {
    px := px
    alk := ⟨_, _, ok_alike F2 gAl F2.kp bAl gisi gint gbool gstr gtuple glist gdict glen grange 4, gAl, F2.kp, bAl⟩
    isl := isl
    mkI := ⟨_, okN, bN⟩
    FF := F7
    hF := gl (by simp [fa, fa2])
    bF := b1 F7 fun _ _ _ _ _ _ _ => rfl
    fai := fai }
  have hcu : ∀ cd, f9.code = cd → cd = .ref (cT K ("_law_unknown", none)).1 := code_at F9 fun lk => codeOf_eq (p := ("_law_unknown", none)) lk rfl
  refine ⟨f7, {
    u := uu
    mix := ⟨_, _, ok_mix F0 gint glist, gl (by simp [fa, fa2]), F0.kp, b2 F0 fun _ _ _ _ _ _ _ _ => rfl⟩
    nxt := kNx
    row := ⟨_, _, ok_lrows F3 kNx grange gtuple, gl (by simp [fa, fa2]), F3.kp, b2 F3 fun _ _ _ _ _ _ _ _ => rfl⟩
    rul := ⟨_, _, ok_lrule F5 kNx, gl (by simp [fa, fa2]), F5.kp, b1 F5 fun _ _ _ _ _ _ _ => rfl⟩
    cel := ⟨_, _, ok_lcells F4 grange glen, gl (by simp [fa, fa2]), F4.kp, b1 F4 fun _ _ _ _ _ _ _ => rfl⟩
    wat := ⟨_, _, ok_water F8 grange glen, gl (by simp [fa, fa2]), F8.kp, b1 F8 fun _ _ _ _ _ _ _ => rfl⟩
    som := ⟨_, _, ok_lsome F6 kNx grange glen glist gtuple gsorted, gl (by simp [fa, fa2]), F6.kp, b3 F6 fun _ _ _ _ _ _ _ _ _ => rfl⟩
    unk := ⟨_, _, ok_unk F9 hcu uu TBu hne pC okC bC gsorted gtuple grange, gl (by simp [fa, fa2]), F9.kp, FunD.bindsN F9 fun _ _ _ _ _ _ us hl => match us, hl with | [_, _, _, _, _], _ => rfl⟩
    fwk := ⟨_, _, ok_firstW F18 kLb genum glen, gl (by simp [fa, fa2]), F18.kp, b4 F18 fun _ _ _ _ _ _ _ _ _ _ => rfl⟩
    ndk := ⟨_, _, ok_nextD F19 kPl kMl isl pC okC bC glen gmin, gl (by simp [fa, fa2]), F19.kp, b3 F19 fun _ _ _ _ _ _ _ _ _ => rfl⟩
    fdk := ⟨_, _, ok_fewest F20 kPl kSp isl pC okC bC glen gmin gmax gsorted grange smost, gl (by simp [fa, fa2]), F20.kp, b3 F20 fun _ _ _ _ _ _ _ _ _ => rfl⟩
    hnt := ⟨_, _, ok_hint F16 kRr kTo, gl (by simp [fa, fa2]), F16.kp, b3 F16 fun _ _ _ _ _ _ _ _ _ => rfl⟩
    ne := hne }⟩
theorem law_at {w : World} {K : PySem.W.Frag} {h : Heap} {mg : Str → Option Value} {f : Addr} (X : K.In h) (G : h.Ns mainGlobals mg) (hfa : mg ("law" : Str) = some (.ref f)) (c : He.SaysX (fa ++ fa2) fnD tsD tfD exB w h K) (cg : obsA gsD K = valA gsD) :
    LawAtS PySem.Challenge.rw_oldmap_k33_digs_refused w K CX0 12 63 "_law_script" mg f h := by
  have d := c.t.d
  have fr : ∀ {x : Str}, Fa.free x ∈ fa ++ fa2 → mg x = none := fun hx => free_ok X G (d.facts hx)
  have gl : ∀ {x : Str}, Fa.glo x ∈ fa ++ fa2 → mg x = some (.ref (ga K x)) := fun hx => glo_ok X G (d.facts hx)
  have e := hfa.symm.trans (gl (x := "law") (by simp [fa, fa2]))
  cases e
  obtain ⟨fd, F⟩ := d.def_ 10 (d := dG "law" (top 46)) rfl
  have F : FnP K "law" "law" sLaw _ fd := F
  have bL := FunD.bindsA (ps := ["_law_script"]) F fun _ _ _ _ _ _ us hl => match us, hl with | [_], _ => rfl
  have hcd : ∀ cd, fd.code = cd → cd = .ref (cT K ("law", none)).1 := code_at F fun lk => codeOf_eq (p := ("law", none)) lk rfl
  have hm1 : (("law", none) : He.Defn) ∈ tfD := List.mem_cons_self
  have hm2 : (("_law_unknown", none) : He.Defn) ∈ tfD := List.mem_cons_of_mem _ List.mem_cons_self
  have each : ∀ {φ : Addr × Addr → Prop}, φ (cT K ("law", none)) → φ (cT K ("_law_unknown", none)) → ∀ p ∈ [cT K ("law", none), cT K ("_law_unknown", none)], φ p := fun {φ} h1 h2 p hp => by
    rcases List.mem_cons.mp hp with rfl | hp
    · exact h1
    · rw [List.mem_singleton.mp hp]
      exact h2
  refine ⟨fd, [cT K ("law", none), cT K ("_law_unknown", none)], spLaw K (cT K ("law", none)).2 (cT K ("_law_unknown", none)).2, each (c.empty _ hm1) (c.empty _ hm2), each (c.out _ hm1) (c.out _ hm2), each (PySem.W.codeHd_of_K X (c.hd _ hm1)) (PySem.W.codeHd_of_K X (c.hd _ hm2)), fun s u => bL s [u] rfl, fun H a ns hl _ hT hS => ⟨a, ns, rfl, hS, hl, hT _ List.mem_cons_self, hT _ (List.mem_cons_of_mem _ List.mem_cons_self), fun _ => rfl⟩, fun base KB GB TB => ?_⟩
  obtain ⟨fdF, PP⟩ := parts_at (P := PySem.Challenge.rw_oldmap_k33_digs_refused.prog) (w := w) (base := base) X G c cg (TB _ (List.mem_cons_of_mem _ List.mem_cons_self))
  exact ok_law F hcd PP (TB _ List.mem_cons_self) (fr (x := "tuple") (by simp [fa])) (fr (x := "range") (by simp [fa])) (fr (x := "len") (by simp [fa]))
end Om
open PySem PySem.W PySem.Calls PyProof.Rows
theorem PySem.Challenge.cw_oldmap_k33_digs_refused_holds : PySem.Challenge.rw_oldmap_k33_digs_refused.Holds := by
  w_on; o_law
  refine HandSHeadRun.head_any (r := OpenLaw.row PySem.Challenge.rw_oldmap_k33_digs_refused) (q := view (OpenLaw.row PySem.Challenge.rw_oldmap_k33_digs_refused).prog [46]) (H := Om.hk) (ob := Om.ob) (M := 9000) (loose := Om.loose) (d := HandSHeadRun.topDef (OpenLaw.row PySem.Challenge.rw_oldmap_k33_digs_refused).prog 46) (kwd := []) Om.ob_eq
    (by kernel_rfl) (fun s => by kernel_rfl) Om.run (by kernel_rfl) (by kernel_rfl) (by kernel_rfl) (by rfl) (by first | assumption | decide +kernel) (by decide +kernel) ⟨rfl, rfl, rfl, rfl, rfl, by decide +kernel⟩ ?hw ?hc
  case hw => w_witness2
  case hc =>
    refine LamX.walk_ofTsE (l := PySem.Challenge.rw_oldmap_k33_digs_refused) (n := 63) (k := 12) (x := "_law_script") (CX := fun _ => L2.CX0) rfl (by decide) (by kernel_rfl) ⟨rfl, by decide, by decide⟩ ?F (fun _ _ _ _ _ z => z)
    intro w mg fa h Y G hmg0
    obtain ⟨K, KX, c, cg⟩ := Y
    have hmg : mg ("law" : PySem.Str) = some (.ref fa) := by
      have e : (HandSHeadRun.topDef (OpenLaw.row PySem.Challenge.rw_oldmap_k33_digs_refused).prog 46).name = ("law" : PySem.Str) := by kernel_rfl
      rw [← e]
      exact hmg0
    exact ⟨K, KX, Om.law_at KX G hmg c cg⟩
