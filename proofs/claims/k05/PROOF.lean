import PyProof.Rows.All
import HandS.TupSets
import HandS.SetBool
import Wide.All
import OpenK.AllK
import Wide.FinOn
import HandS.ForMost
import KE.SortData
import HandS.Defaults
import HandS.More
import HandS.TupAny
import HandS.TupMul
import HandS.Exc
import HandS.ExcInit
import HandS.ExcField
import HandS.ExcIs
import HandS.TryOnly
import HandS.WordsExc
import HandS.Lambda
import HandS.EndTab
import HandS.HeadWalk
import HandS.HeadHook4
import PySem.Challenge.RW_oldmap_k05_whole_places_at_the_end
import KE.GoesMore
import KE.GoesEnum
import HandS.Property
import HandS.OwnEq
import HandS.IsInst
import HandS.Walk
import HandS.ExcOwn
import PyProof.ExcBaseAll.ValueError
import HandS.SetTxt0
import HandS.Deep
import HandS.Sort
import PyProof.CollectIter
import PyProof.WalksMore
import PyProof.MakeMany
import HandS.Zip
import HandS.Head0
import HandS.Head1
import HandS.Head2
import KE.KDictKeyed
import KE.KeyNested
import KE.KDictLaw
import KE.KDictCopyH
import HandS.Style
import HandS.ExcValue
import HandS.Dict
import KE.KDictSum
import KE.KDictPairs
import PyProof.Rows.TupDisplay
import HandS.Set
import PyProof.CollectStr
import PyProof.Rows.SortStr
set_option Elab.async false
set_option linter.all false
set_option maxRecDepth 100000
set_option maxHeartbeats 0
namespace Om
open PySem PySem.Spec PyProof.Rows L2
def top (i : Nat) : Stmt := PySem.Challenge.pw_oldmap_k05_whole_places_at_the_end.main.body.getD i (.Pass ⟨0, 0, 0, 0⟩)
def allSigns : Str := Str.ofString ".ABCDEFGHIJKLMNOPQRSTUVWXYZ~"
def rsL : List Int := [-1, 0, 1, 0]
def csL : List Int := [0, 1, 0, -1]
abbrev sIslI : Stmt := inClass (top 15) 0
abbrev sIslM (i : Nat) : Stmt := inClass (top 15) i
abbrev sII : Stmt := inClass (top 10) 0
abbrev sIM : Stmt := inClass (top 11) 0
abbrev sMapM (i : Nat) : Stmt := inClass (top 52) i
abbrev sStp (i : Nat) : Stmt := inClass (top 37) i
end Om

/-! a head that tells function objects by paths of one's own: the getters of properties -/
namespace OmH
open PySem PySem.Spec PyProof.Rows L2 He
structure DefA where
  adr : PySem.W.Frag → Addr
  name : Str
  qual : Str
  params : Arguments
  body : List Stmt
  scope : Scope
def fnWA (K : PySem.W.Frag) (a : Addr) : FnW := match K.lookup a with
  | some ⟨_, _, .func fd, _⟩ => some (fd.name, fd.qualname, fd.params, fd.body, fd.scope, fd.globals, fd.closure, fd.builtins)
  | _ => none
def DefA.val (d : DefA) : FnW := some (d.name, d.qual, d.params, .stmts d.body, d.scope, mainGlobals, [], builtinsNs)
def DefA.ok (K : PySem.W.Frag) (d : DefA) : Bool := PySem.W.keepIn K (.ref (d.adr K)) && (match K.lookup (d.adr K) with
  | some ⟨_, _, .func fd, _⟩ => PySem.W.codeIn K fd.code d.qual && (dflB K fd.defaults [] && kwdB K fd.kwdefaults [])
  | _ => false)
theorem DefA.funD {K : PySem.W.Frag} {d : DefA} (e : fnWA K (d.adr K) = d.val) (c : d.ok K = true) : ∃ fd, FunD K d.name d.qual d.params d.body d.scope [] [] (d.adr K) fd := by
  obtain ⟨kp, c2⟩ := ba c
  unfold fnWA at e
  cases q : K.lookup (d.adr K) with
  | none =>
    rw [q] at c2
    cases c2
  | some o =>
    obtain ⟨oc, od, dt, osl⟩ := o
    rw [q] at c2 e
    cases dt with
    | func fd =>
      obtain ⟨n1, n2, n3, n4, n5, n6, n7, n8, n9, n10, n11, n12, n13, n14, n15⟩ := fd
      have e2 : (some (n1, n2, n3, n4, n5, n6, n7, n15) : FnW) = some (d.name, d.qual, d.params, .stmts d.body, d.scope, mainGlobals, [], builtinsNs) := e
      simp only [Option.some.injEq, Prod.mk.injEq] at e2
      obtain ⟨h1, h2, h3, h4, h5, h6, h7, h8⟩ := e2
      subst h1 h2 h3 h4 h5 h6 h7 h8
      have c3 : (PySem.W.codeIn K n13 d.qual && (dflB K n8 [] && kwdB K n9 [])) = true := c2
      obtain ⟨k1, k2⟩ := ba c3
      obtain ⟨k3, k4⟩ := ba k2
      exact ⟨_, ⟨oc, od, n8, n9, n10, n11, n12, n13, n14, osl, rfl, q, k1, dflB_ok k3, kwdB_ok k4⟩, kp⟩
    | _ => cases c2
/-- the getter of C's property x -/
def getA (K : PySem.W.Frag) (C : Addr) (x : Str) : Addr := match PySem.W.recIn K (ma K C x) "property" with
  | some (.ref g :: _) => g
  | _ => 0
def propB (K : PySem.W.Frag) (C : Addr) (x : Str) : Bool := eqO (PySem.W.findIn K (.ref C) x) (some (some (.ref (ma K C x)))) && (eqO (PySem.W.specialIn K (.ref (ma K C x)) "__get__") (some (some (.builtin "property.__get__"))) &&
  (decide (PySem.W.takesIn K (.ref (ma K C x)) = some true) && (match PySem.W.recIn K (ma K C x) "property" with
  | some (.ref _ :: _) => true
  | _ => false)))
theorem propB_ok {K : PySem.W.Frag} {C : Addr} {x : Str} (h : propB K C x = true) : PropOf K C x (ma K C x) (getA K C x) := by
  obtain ⟨h1, h2⟩ := ba h
  obtain ⟨h2, h3⟩ := ba h2
  obtain ⟨h3, h4⟩ := ba h3
  refine ⟨eqO_ok h1, eqO_ok h2, of_decide_eq_true h3, ?_⟩
  unfold getA
  cases e : PySem.W.recIn K (ma K C x) "property" with
  | none => rw [e] at h4; cases h4
  | some vs =>
    rw [e] at h4
    cases vs with
    | nil => cases h4
    | cons v r =>
      cases v with
      | ref g => exact ⟨r, rfl⟩
      | _ => cases h4
abbrev AlY : Type := AlX × (Bool × List FnW)
def obsA (gs : List DefA) (K : PySem.W.Frag) : Bool × List FnW := (gs.all fun d => d.ok K, gs.map fun d => fnWA K (d.adr K))
def valA (gs : List DefA) : Bool × List FnW := (true, gs.map DefA.val)
def obsY (n : Nat) (fa : List Fa) (fn : List DefD) (ts : List Tab) (tf : List Defn) (gs : List DefA) (ex : PySem.W.Frag → Bool) (g : Addr → Option Obj) : AlY := (obsX n fa fn ts tf ex g, obsA gs (frT g (asD g n)))
def hookY (n : Nat) (fa : List Fa) (fn : List DefD) (ts : List Tab) (tf : List Defn) (gs : List DefA) (ex : PySem.W.Frag → Bool) : PySem.W.Hook where
  α := AlY
  obs := fun s => obsY n fa fn ts tf gs ex s.heap.get?
  val := fun w => (valX fn ts w, valA gs)
  says := fun w h => ∃ K : PySem.W.Frag, K.In h ∧ SaysX fa fn ts tf ex w h K ∧ obsA gs K = valA gs
  of := fun _ _ e => ⟨_, frT_in, saysX_of (congrArg (fun z : AlY => z.1) e), congrArg (fun z : AlY => z.2) e⟩
  keeps := fun _ _ _ ⟨K, hK, c, d⟩ k => ⟨K, PySem.W.Frag.In.keeps hK k, ⟨c.t, c.more, c.hd, c.out, fun p hp => k _ _ (c.empty p hp)⟩, d⟩
theorem obsY_eq {n : Nat} {fa : List Fa} {fn : List DefD} {ts : List Tab} {tf : List Defn} {gs : List DefA} {ex : PySem.W.Frag → Bool} {g : Addr → Option Obj} {s : Shared} (h : ∀ a, g a = s.heap.get? a) : obsY n fa fn ts tf gs ex g = (hookY n fa fn ts tf gs ex).obs s := by
  have e : g = s.heap.get? := funext h
  rw [e] <;> rfl
theorem getter {gs : List DefA} {K : PySem.W.Frag} (c : obsA gs K = valA gs) (i : Nat) {d : DefA} (h : gs[i]? = some d := by rfl) : ∃ fd, FunD K d.name d.qual d.params d.body d.scope [] [] (d.adr K) fd := by
  have c2 : (gs.all fun d => d.ok K) = true := congrArg (fun z : Bool × List FnW => z.1) c
  have e : gs.map (fun d => fnWA K (d.adr K)) = gs.map DefA.val := congrArg (fun z : Bool × List FnW => z.2) c
  have e2 : (gs.map fun d => fnWA K (d.adr K))[i]? = (gs.map DefA.val)[i]? := by rw [e]
  rw [List.getElem?_map, List.getElem?_map, h] at e2
  exact DefA.funD (Option.some.inj e2) (List.all_eq_true.mp c2 d (List.mem_of_getElem? h))
end OmH

namespace Om
open PySem PySem.Spec PyProof.Rows L2 LamX He OmH
/-! ### facts of the top by own Bools -/
def oexB (K : PySem.W.Frag) (C : Addr) : Bool := (match K.lookup C with
  | some ⟨.type t, _, .cls cd, sl⟩ => decide (t = "type") && (cd.hasDict && (!cd.hasDel && ((match cd.mro with
    | .ref c :: bm => decide (c = C) && PySem.HandSPX.refsVE bm
    | _ => false) && (match sl.toList with
    | [_, _, _, _, some (.builtin n), _] => decide (n = "ValueError.__new__")
    | _ => false))))
  | _ => false) && (eqO (PySem.W.findIn K (.ref C) "__setattr__") (some (some (.builtin "object.__setattr__"))) && (decide (PySem.W.subIn K (.ref C) (.type "BaseException") = some true) && (decide (PySem.W.typeIn K (.ref C) = some (.type "type")) && PySem.W.keepIn K (.ref C))))
theorem oexB_ok {K : PySem.W.Frag} {C : Addr} (h : oexB K C = true) : OexC K C := by
  obtain ⟨h1, h2⟩ := ba h
  obtain ⟨h2, h3⟩ := ba h2
  obtain ⟨h3, h4⟩ := ba h3
  obtain ⟨h4, h5⟩ := ba h4
  refine ⟨?_, eqO_ok h2, of_decide_eq_true h3, of_decide_eq_true h4, h5⟩
  clear h h2 h3 h4 h5
  cases e : K.lookup C with
  | none => rw [e] at h1; cases h1
  | some o =>
    rw [e] at h1
    obtain ⟨oc, od, dt, sl⟩ := o
    cases oc with
    | type t =>
      cases dt with
      | cls cd =>
        obtain ⟨a1, a2⟩ := ba h1
        obtain ⟨a2, a3⟩ := ba a2
        obtain ⟨a3, a4⟩ := ba a3
        obtain ⟨a4, a5⟩ := ba a4
        obtain ⟨nm, bs, mro, ns, qn, hd, sn, sb, ab, col, del⟩ := cd
        have e1 : t = "type" := of_decide_eq_true a1
        have e2 : hd = true := a2
        have e3 : del = false := by
          have a3 : (!del) = true := a3
          cases del with
          | true => cases a3
          | false => rfl
        clear a1 a2 a3 h1
        subst e1 e2 e3
        cases mro with
        | nil => cases a4
        | cons v bm =>
          cases v with
          | ref c =>
            obtain ⟨b1, b2⟩ := ba (show (decide (c = C) && PySem.HandSPX.refsVE bm) = true from a4)
            have e4 : c = C := of_decide_eq_true b1
            clear b1 a4
            subst e4
            obtain ⟨sl⟩ := sl
            split at a5
            · rename_i q
              have e5 := of_decide_eq_true a5
              have e6 : sl = _ := q
              subst e5 e6
              exact ⟨_, _, _, _, _, _, _, _, _, _, _, _, _, _, _, rfl, b2⟩
            · cases a5
          | _ => cases a4
      | _ => cases h1
    | _ => cases dt <;> cases h1
def errIB (K : PySem.W.Frag) (x : Str) : Bool := oexB K (ga K x) && (eqO (PySem.W.findIn K (.ref (ga K x)) "__init__") (some (some (.ref (ma K (ga K x) "__init__")))) && decide (PySem.W.typeIn K (.ref (ma K (ga K x) "__init__")) = some (.type "function")))
/-- an own special method -/
def ownB (K : PySem.W.Frag) (C : Addr) (n : Str) : Bool := eqO (PySem.W.findIn K (.ref C) n) (some (some (.ref (ma K C n)))) && (PySem.W.isFn K (.ref (ma K C n)) && PySem.W.fnIn K (ma K C n))
def errUB (K : PySem.W.Frag) (C : Addr) : Bool := PySem.W.excIn K C [.type "ValueError", .type "Exception", .type "BaseException", .type "object"] "ValueError.__new__" && (PySem.W.keepIn K (.ref C) && (decide (PySem.W.subIn K (.ref C) (.type "BaseException") = some true) && decide (PySem.W.typeIn K (.ref C) = some (.type "type"))))
/-- a written tuple of ints, whatever their tokens -/
def intsB : List Value → List Int → Bool
  | [], [] => true
  | .int x _ :: r, y :: q => decide (x = y) && intsB r q
  | _, _ => false
theorem intsB_ok : ∀ {vs : List Value} {ws : List Int}, intsB vs ws = true → Vals (ws.map V.int) vs
  | [], [], _ => .nil
  | .int x t :: r, y :: q, h => by
    obtain ⟨h1, h2⟩ := ba h
    have e : x = y := of_decide_eq_true h1
    subst e
    exact .cons ⟨t, rfl⟩ (intsB_ok h2)
def tupB (K : PySem.W.Frag) (x : Str) (ws : List Int) : Bool := match K.lookup (ga K x) with
  | some ⟨.type t, _, .seq its _, _⟩ => decide (t = "tuple") && (decide (its.size ≤ sizeLine) && intsB its.toList ws)
  | _ => false
theorem tupB_ok {K : PySem.W.Frag} {x : Str} {ws : List Int} (h : tupB K x ws = true) : ∀ H, SqT K H (ga K x) (ws.map V.int) := by
  intro H
  unfold tupB at h
  split at h
  · rename_i t od its n sl e2
    obtain ⟨h1, h2⟩ := ba h
    obtain ⟨h2, h3⟩ := ba h2
    have e3 : t = "tuple" := of_decide_eq_true h1
    subst e3
    exact .inr ⟨_, its, n, e2, rfl, rfl, of_decide_eq_true h2, intsB_ok h3⟩
  · cases h
def exB (K : PySem.W.Frag) : Bool := errIB K "InvalidIsland" && (errIB K "InvalidMap" && (errUB K (ga K "UnknownCell") && (ownB K (ga K "Island") "__getitem__" && (ownB K (ga K "Map") "__add__" && (PySem.W.selfFirst K (ga K "Map") && (propB K (ga K "Map") "island" && (propB K (ga K "Map") "signs" && (propB K (ga K "Map") "facings" && (propB K (ga K "Map") "instructions" && (propB K (ga K "Island") "rows" && (propB K (ga K "Island") "cells" && (tupB K "ROW_STEPS" rsL && (tupB K "COLUMN_STEPS" csL && (ownB K (ga K "Map") "__len__" && ownB K (ga K "Map") "__getitem__"))))))))))))))
def fa : List Fa := [.free "int", .free "list", .free "len", .free "range", .free "tuple", .free "max", .free "min", .free "enumerate", .free "isinstance", .free "bool", .free "str", .free "sorted", .free "all", .free "zip", .free "dict", .free "set", .free "abs", .str "ALL_SIGNS" allSigns, .str "LAND_SIGNS" (Str.ofString ".ABCDEFGHIJKLMNOPQRSTUVWXYZ"), .str "WATER" (Str.ofString "~"), .int "LARGEST" 12, .int "MOST_PACES" 20, .int "MOST_AWAY" 22, .int "MOST_INSTRUCTIONS" 20, .glo "ROW_STEPS", .glo "COLUMN_STEPS", .glo "InvalidIsland", .glo "InvalidMap", .glo "UnknownCell", .glo "Island", .glo "Map", .glo "Steps",
  .glo "in_range", .glo "ascending_numbers", .glo "ascending_signs", .glo "_lies_within", .glo "_check_rows", .glo "_first_wrong_column", .glo "sign_at", .glo "next_cell", .glo "sign_ahead", .glo "facing_by", .glo "paces_ahead", .glo "paces_along", .glo "_pace", .glo "_looked", .glo "led_to", .glo "_until", .glo "_all_sides", .glo "_is_ahead", .glo "_is_near", .glo "begin_states", .glo "final_states", .glo "is_instruction", .glo "_is_side", .glo "_are_paces", .glo "_check_instructions", .glo "places", .glo "impossible_at", .glo "cells_of"]
def fa2 : List Fa := [.glo "_law_begun", .glo "_law_take", .glo "_law_alike", .glo "_law_rows", .glo "_law_sign", .glo "_law_next", .glo "_law_signs", .glo "_law_turns", .glo "_law_instruction", .glo "_law_shore", .glo "_law_paced", .glo "_law_lead", .glo "_law_sees", .glo "_law_begins", .glo "_law_behind", .glo "_law_ends", .glo "_law_chart", .glo "_law_cells", .glo "law", .cls "Island", .mkr "Island", .noat "Island" "_rows", .cls "Map", .mkr "Map", .noat "Map" "_island", .noat "Map" "_signs", .noat "Map" "_facings", .noat "Map" "_instructions", .cls "Steps", .mkr "Steps", .noat "Steps" "_rows", .noat "Steps" "_known", .meth "Steps" "behind", .meth "Steps" "layers", .meth "Steps" "ends", .noat "InvalidIsland" "row", .noat "InvalidIsland" "column", .noat "InvalidMap" "index", .meth "Map" "until", .meth "Map" "with_instructions"]
def dG (x : Str) (st : Stmt) : He.DefD := ⟨(x, none), x, x, defArgs st, defBody st, defScope st, [], []⟩
def dM (c x q : Str) (st : Stmt) : He.DefD := ⟨(c, some x), x, q, defArgs st, defBody st, defScope st, [], []⟩
def fnD : List He.DefD := [dG "_law_begun" (top 55), dG "_law_take" (top 56), dG "_law_alike" (top 57), dG "_law_rows" (top 58), dG "_law_sign" (top 59), dG "_law_next" (top 60), dG "_law_signs" (top 61), dG "_law_turns" (top 62), dG "_law_instruction" (top 63), dG "_law_shore" (top 64), dG "_law_paced" (top 65), dG "_law_lead" (top 66), dG "_law_sees" (top 67), dG "_law_begins" (top 68), dG "_law_behind" (top 69), dG "_law_ends" (top 70), dG "_law_chart" (top 72), dG "_law_cells" (top 71), dG "law" (top 73), dG "in_range" (top 5), dG "ascending_numbers" (top 6), dG "ascending_signs" (top 7), dG "_lies_within" (top 16), dG "_check_rows" (top 17), dG "_first_wrong_column" (top 18), dG "sign_at" (top 22), dG "next_cell" (top 23), dG "sign_ahead" (top 24), dG "facing_by" (top 25), dG "paces_ahead" (top 26), dG "paces_along" (top 27), dG "_pace" (top 28), dG "_looked" (top 29), dG "led_to" (top 31), dG "_until" (top 32), dG "_all_sides" (top 33), dG "_is_ahead" (top 34), dG "_is_near" (top 35), dG "begin_states" (top 39), dG "final_states" (top 40), dG "is_instruction" (top 47), dG "_is_side" (top 48), dG "_are_paces" (top 49), dG "_check_instructions" (top 53), dG "places" (top 41), dG "impossible_at" (top 42), dG "cells_of" (top 43), dM "Island" "__init__" "Island.__init__" sIslI, dM "Island" "__getitem__" "Island.__getitem__" (sIslM 7), dM "InvalidIsland" "__init__" "InvalidIsland.__init__" sII, dM "InvalidMap" "__init__" "InvalidMap.__init__" sIM, dM "Map" "__init__" "Map.__init__" (sMapM 0), dM "Map" "__add__" "Map.__add__" (sMapM 12), dM "Steps" "__init__" "Steps.__init__" (sStp 0), dM "Steps" "behind" "Steps.behind" (sStp 1), dM "Steps" "layers" "Steps.layers" (sStp 2), dM "Steps" "ends" "Steps.ends" (sStp 3), dM "Map" "__len__" "Map.__len__" (sMapM 9), dM "Map" "__getitem__" "Map.__getitem__" (sMapM 10), dM "Map" "until" "Map.until" (sMapM 5), dM "Map" "with_instructions" "Map.with_instructions" (sMapM 7)]
def gG (c x q : Str) (st : Stmt) : OmH.DefA := ⟨fun K => getA K (ga K c) x, x, q, defArgs st, defBody st, defScope st⟩
def gsD : List OmH.DefA := [gG "Map" "island" "Map.island" (sMapM 1), gG "Map" "signs" "Map.signs" (sMapM 2), gG "Map" "facings" "Map.facings" (sMapM 3), gG "Map" "instructions" "Map.instructions" (sMapM 4), gG "Island" "rows" "Island.rows" (sIslM 1), gG "Island" "cells" "Island.cells" (sIslM 4)]
def tfD : List He.Defn := []
abbrev R : PySem.W.OpenRow := PySem.W.OpenLaw.row PySem.Challenge.rw_oldmap_k05_whole_places_at_the_end
abbrev hk : PySem.W.Hook := OmH.hookY 6 (fa ++ fa2) fnD [] tfD gsD exB
def ob (s : PySem.W.SharedT) : OmH.AlY := OmH.obsY 6 (fa ++ fa2) fnD [] tfD gsD exB (HandSHeadRun.getT s)
theorem ob_eq (s : PySem.W.SharedT) : ob s = hk.obs s.abs := OmH.obsY_eq (HandSHeadRun.getT_eq s)
def loose1 : List Str := ["_wall", "WATER", "LAND_SIGNS", "ALL_SIGNS", "in_range", "ascending_numbers", "ascending_signs", "MapError", "InvalidIsland", "InvalidMap", "UnknownCell", "LARGEST", "Island", "_lies_within", "_check_rows", "_first_wrong_column"]
def loose2 : List Str := ["ROW_STEPS", "COLUMN_STEPS", "sign_at", "next_cell", "sign_ahead", "facing_by", "paces_ahead", "paces_along", "_pace", "_looked", "led_to", "_until", "_all_sides", "_is_ahead", "_is_near", "Steps"]
def loose3 : List Str := ["begin_states", "final_states", "places", "impossible_at", "cells_of", "MOST_PACES", "MOST_AWAY", "is_instruction", "_is_side", "_are_paces", "MOST_INSTRUCTIONS", "Map", "_check_instructions", "_law_begun", "_law_take", "_law_alike"]
def loose4 : List Str := ["_law_rows", "_law_sign", "_law_next", "_law_signs", "_law_turns", "_law_instruction", "_law_shore", "_law_paced", "_law_lead", "_law_sees", "_law_begins", "_law_behind", "_law_ends", "_law_cells", "_law_chart"]
def loose : List Str := loose1 ++ loose2 ++ loose3 ++ loose4
theorem run (w : World) : HandSHeadRun.RunEq R (PySem.W.view R.prog [73]) hk ob 12000 loose w := by
  intro os
  kernel_rfl
end Om

/-! tables of sets with masks up to 2047: the way meets every slot, one more is put in, all is laid anew -/
namespace Om
open PySem PySem.Spec PyProof.Rows L2
def MQ (m : Nat) : Prop := m = 7 ∨ m = 31 ∨ m = 127 ∨ m = 511 ∨ m = 2047
/-! ### i -> 5 i + 1 meets all -/
/-- the numbers met in k steps from x, as bits -/
def vis (m : Nat) : Nat → Nat → Nat → Nat
  | 0, _, acc => acc
  | k + 1, x, acc => bif (Nat.ble x m && Nat.ble acc (2 ^ (m + 1))) then vis m k ((x * 5 + 1) % (m + 1)) (acc ||| 2 ^ x) else 0
theorem vis_of {m j : Nat} : ∀ (k i acc : Nat), (vis m k (lcgN m i) acc).testBit j = true → acc.testBit j = true ∨ ∃ b, i ≤ b ∧ b < i + k ∧ lcgN m b = j
  | 0, i, acc, h => .inl h
  | k + 1, i, acc, h => by
    unfold vis at h
    cases hc : (Nat.ble (lcgN m i) m && Nat.ble acc (2 ^ (m + 1))) with
    | false =>
      rw [hc, cond_false, Nat.zero_testBit] at h
      cases h
    | true =>
      rw [hc, cond_true] at h
      have h : (vis m k (lcgN m (i + 1)) (acc ||| 2 ^ lcgN m i)).testBit j = true := h
      rcases vis_of k (i + 1) _ h with z | ⟨b, b1, b2, b3⟩
      · rw [Nat.testBit_or, Bool.or_eq_true] at z
        rcases z with z | z
        · exact .inl z
        · rw [Nat.testBit_two_pow] at z
          exact .inr ⟨i, Nat.le_refl _, by omega, of_decide_eq_true z⟩
      · exact .inr ⟨b, by omega, by omega, b3⟩
theorem vis_7 : vis 7 8 0 0 = 2 ^ 8 - 1 := by decide +kernel
theorem vis_31 : vis 31 32 0 0 = 2 ^ 32 - 1 := by decide +kernel
theorem vis_127 : vis 127 128 0 0 = 2 ^ 128 - 1 := by decide +kernel
theorem vis_511 : vis 511 512 0 0 = 2 ^ 512 - 1 := by decide +kernel
theorem vis_2047 : vis 2047 2048 0 0 = 2 ^ 2048 - 1 := by decide +kernel
theorem all_met {m : Nat} (hm : MQ m) {j : Nat} (hj : j ≤ m) : ∃ b, b ≤ m ∧ lcgN m b = j := by
  have e : vis m (m + 1) 0 0 = 2 ^ (m + 1) - 1 := by
    rcases hm with rfl | rfl | rfl | rfl | rfl
    · exact vis_7
    · exact vis_31
    · exact vis_127
    · exact vis_511
    · exact vis_2047
  have t : (vis m (m + 1) (lcgN m 0) 0).testBit j = true := by
    show (vis m (m + 1) 0 0).testBit j = true
    rw [e, Nat.testBit_two_pow_sub_one]
    exact decide_eq_true (by omega)
  rcases vis_of (m + 1) 0 0 t with z | ⟨b, _, b2, b3⟩
  · rw [Nat.zero_testBit] at z
    cases z
  · exact ⟨b, by omega, b3⟩
/-- the steps from a number on, forced -/
def stp (m : Nat) : Nat → Nat → Nat
  | 0, x => x
  | k + 1, x => bif Nat.ble x m then stp m k ((x * 5 + 1) % (m + 1)) else x
theorem stp_of {m : Nat} : ∀ k i, lcgN m i ≤ m → stp m k (lcgN m i) = lcgN m (i + k)
  | 0, i, _ => rfl
  | k + 1, i, h => by
    unfold stp
    have hb : Nat.ble (lcgN m i) m = true := Nat.ble_eq.mpr h
    rw [hb, cond_true]
    have h2 : lcgN m (i + 1) ≤ m := Nat.le_of_lt_succ (Nat.mod_lt _ (Nat.succ_pos _))
    have q := stp_of k (i + 1) h2
    rw [show i + 1 + k = i + (k + 1) by omega] at q
    exact q
theorem stp_7 : stp 7 8 0 = 0 := by decide +kernel
theorem stp_31 : stp 31 32 0 = 0 := by decide +kernel
theorem stp_127 : stp 127 128 0 = 0 := by decide +kernel
theorem stp_511 : stp 511 512 0 = 0 := by decide +kernel
theorem stp_2047 : stp 2047 2048 0 = 0 := by decide +kernel
theorem round_q {m : Nat} (hm : MQ m) : lcgN m (m + 1) = 0 := by
  have q := stp_of (m := m) (m + 1) 0 (Nat.zero_le _)
  rw [Nat.zero_add] at q
  rw [← q]
  show stp m (m + 1) 0 = 0
  rcases hm with rfl | rfl | rfl | rfl | rfl
  · exact stp_7
  · exact stp_31
  · exact stp_127
  · exact stp_511
  · exact stp_2047
theorem again_q {m : Nat} (hm : MQ m) : ∀ k, lcgN m (m + 1 + k) = lcgN m k
  | 0 => round_q hm
  | k + 1 => by
    have ih := again_q hm k
    show (lcgN m (m + 1 + k) * 5 + 1) % (m + 1) = (lcgN m k * 5 + 1) % (m + 1)
    rw [ih]
theorem from_any {m : Nat} (hm : MQ m) {i j : Nat} (hi : i ≤ m) (hj : j ≤ m) : ∃ k, k ≤ m ∧ lcgI m i k = j := by
  obtain ⟨u, hu, rfl⟩ := all_met hm hi
  obtain ⟨v, hv, rfl⟩ := all_met hm hj
  by_cases c : u ≤ v
  · exact ⟨v - u, by omega, by rw [lcgN_add, show u + (v - u) = v by omega]⟩
  · refine ⟨v + (m + 1) - u, by omega, ?_⟩
    rw [lcgN_add, show u + (v + (m + 1) - u) = m + 1 + v by omega]
    exact again_q hm v
theorem run_at {m : Nat} (hm : MQ m) (h : Int) {j : Nat} (hj : j ≤ m) : ∃ n, n ≤ m + 12 ∧ runI m (SetTable.bits h) n = j := by
  obtain ⟨k, k1, k2⟩ := from_any hm (runI_le m (SetTable.bits h) 12) hj
  refine ⟨12 + k, by omega, ?_⟩
  rw [runI_tail (bits_lt h), k2]
theorem way_at {m : Nat} (hm : MQ m) (h : Int) {j : Nat} (hj : j ≤ m) : ∃ k, k < 10 * SetTable.turns m ∧ way m h k = j := by
  obtain ⟨n, n1, n2⟩ := run_at hm h hj
  obtain ⟨k, k1, k2⟩ := run_nth m (SetTable.bits h) n
  refine ⟨k, ?_, ?_⟩
  · show k < 10 * (m + 15)
    omega
  · show (nth m (runAt m (SetTable.bits h % (m + 1)) (SetTable.bits h)) k).j = j
    rw [k2]
    exact n2
theorem way_in (m : Nat) (h : Int) (k : Nat) : way m h k ≤ m := by
  have b0 : SetTable.bits h % (m + 1) < m + 1 := Nat.mod_lt _ (Nat.succ_pos _)
  obtain ⟨b1, b2, _⟩ := runEnd_bd (m := m) (i := SetTable.bits h % (m + 1)) (by omega)
  have q := nth_in (m := m) k (runAt m (SetTable.bits h % (m + 1)) (SetTable.bits h)) (by unfold runAt; dsimp only; omega)
  exact Nat.le_trans (Nat.le_add_right _ _) q
theorem odd_q {m : Nat} (hm : MQ m) : m % 2 = 1 := by
  rcases hm with rfl | rfl | rfl | rfl | rfl <;> rfl
theorem big_q {m : Nat} (hm : MQ m) : m ≤ 2047 := by
  rcases hm with rfl | rfl | rfl | rfl | rfl <;> decide
/-! ### a table from whose hashes its slots are found -/
structure TQ (t : SetTable) (hs : List Int) : Prop where
  up : Ris t.place.toList
  none : t.dummies = #[]
  len : t.place.size = hs.length
  mq : MQ t.mask
  low : ∀ x ∈ t.place.toList, x ≤ t.mask
  found : ∀ (i : Nat) (h : Int) (j : Nat), hs[i]? = some h → t.place.toList[i]? = some j → ∃ k, way t.mask h k = j ∧ ∀ k', k' < k → way t.mask h k' ∈ t.place.toList
theorem TQ.gap {t : SetTable} {hs : List Int} (T : TQ t hs) (hl : hs.length ≤ t.mask) (h : Int) : ∃ K, K < 10 * SetTable.turns t.mask ∧ way t.mask h K ∉ t.place.toList ∧ ∀ k, k < K → way t.mask h k ∈ t.place.toList := by
  obtain ⟨j, j1, j2⟩ := st_missing t.place.toList (t.mask + 1) (by have := T.len; rw [Array.length_toList]; omega)
  obtain ⟨k, k1, k2⟩ := way_at T.mq h (show j ≤ t.mask by omega)
  obtain ⟨K, q1, q2, q3⟩ := st_least (p := fun c => way t.mask h c ∉ t.place.toList) k (by show way t.mask h k ∉ t.place.toList; rw [k2]; exact j2)
  exact ⟨K, by omega, q2, fun c hc => Classical.byContradiction fun z => q3 c hc z⟩
theorem TQ.ahead {t : SetTable} {hs : List Int} (T : TQ t hs) {h : Int} {K i j : Nat} (hK : way t.mask h K ∉ t.place.toList) (hi : hs[i]? = some h) (hj : t.place.toList[i]? = some j) : ∃ k, k < K ∧ way t.mask h k = j := by
  obtain ⟨k, k1, k2⟩ := T.found i h j hi hj
  refine ⟨k, Nat.lt_of_not_le fun c => hK ?_, k1⟩
  rcases Nat.lt_or_eq_of_le c with c | rfl
  · exact k2 K c
  · rw [k1]
    exact List.mem_of_getElem? hj
/-- one more, at the first gap of its way -/
structure PutQ (t t' : SetTable) (hs : List Int) (h : Int) (p : Nat) : Prop where
  le : p ≤ hs.length
  tab : TQ t' (hs.take p ++ h :: hs.drop p)
  mask : t'.mask = t.mask
  led : t'.led = t.led
  plain : t'.plain = t.plain
  moves : t'.moves = t.moves
  fill : t'.fill = hs.length + 1
theorem TQ.more {t : SetTable} {hs : List Int} (T : TQ t hs) {h : Int} {K : Nat} (hK : way t.mask h K ∉ t.place.toList) (hb : ∀ k, k < K → way t.mask h k ∈ t.place.toList) :
    PutQ t (t.put (way t.mask h K)).1 hs h (SetTable.below t.place (way t.mask h K)) := by
  have kin := way_in t.mask h K
  generalize hw : way t.mask h K = j at hK kin
  obtain ⟨cut, _, _⟩ := below_cut T.up j
  have lp : SetTable.below t.place j ≤ t.place.toList.length := by rw [Array.length_toList]; exact cut
  have lh : SetTable.below t.place j ≤ hs.length := by rw [← T.len]; exact cut
  have pl := put_place t j
  have inn : ∀ {x : Nat}, x ∈ t.place.toList → x ∈ (t.put j).1.place.toList := fun hx => by rw [pl]; exact mem_ins.mpr (.inr hx)
  have no : (t.put j).1.dummies = #[] := put_dm T.none j
  have sz : (t.put j).1.place.size = hs.length + 1 := by
    have := congrArg List.length pl
    rw [len_ins _ lp, Array.length_toList, Array.length_toList, T.len] at this
    exact this
  refine ⟨lh, ⟨?_, no, by rw [len_ins _ lh]; exact sz, T.mq, fun x hx => ?_, fun i g y gi yi => ?_⟩, rfl, rfl, rfl, rfl, ?_⟩
  · refine ris_insert T.up fun e => hK (List.mem_of_getElem? (i := SetTable.below t.place j) ?_)
    rw [Array.getElem?_toList]
    exact e
  · rw [pl] at hx
    exact (mem_ins.mp hx).elim (fun e => e ▸ kin) (T.low x)
  · rw [tins_get hs lh] at gi
    rw [pl, tins_get _ lp] at yi
    show ∃ k, way t.mask g k = y ∧ ∀ k', k' < k → way t.mask g k' ∈ (t.put j).1.place.toList
    rcases Nat.lt_trichotomy i (SetTable.below t.place j) with c | c | c
    · rw [if_pos c] at gi yi
      obtain ⟨k, a, z⟩ := T.found i g y gi yi
      exact ⟨k, a, fun k' l => inn (z k' l)⟩
    · rw [if_neg (by omega), if_pos c] at gi yi
      cases gi
      cases yi
      exact ⟨K, hw, fun k' l => inn (hb k' l)⟩
    · rw [if_neg (by omega), if_neg (by omega)] at gi yi
      obtain ⟨k, a, z⟩ := T.found (i - 1) g y gi yi
      exact ⟨k, a, fun k' l => inn (z k' l)⟩
  · show (t.put j).1.place.size + (t.put j).1.dummies.size = hs.length + 1
    rw [sz, no]
    rfl
/-! ### all laid anew -/
theorem gap_own {m : Nat} (hm : MQ m) (ow : Array (Option Nat)) (h : Int) {j : Nat} (hj : j ≤ m) (hf : oAt ow j = none) :
    ∃ K, SetTable.layClean.free m ow (SetTable.turns m) (SetTable.bits h % (m + 1)) (SetTable.bits h) = some (way m h K) ∧ oAt ow (way m h K) = none ∧ ∀ k, k < K → oAt ow (way m h k) ≠ none := by
  obtain ⟨n, n1, n2⟩ := run_at hm h hj
  have e : way m h (off m (SetTable.bits h % (m + 1)) (SetTable.bits h) n) = j := by
    show (nth m (runAt m _ _) (off m _ _ n)).j = j
    rw [nth_off, itL_run]
    exact n2
  obtain ⟨K, q1, q2, q3⟩ := st_least (p := fun c => oAt ow (way m h c) = none) (off m (SetTable.bits h % (m + 1)) (SetTable.bits h) n) (by show oAt ow (way m h _) = none; rw [e]; exact hf)
  have tr : n < SetTable.turns m := by show n < m + 15; omega
  exact ⟨K, free_spec m ow (SetTable.turns m) n _ _ K tr q1 (fun k hk => by
    have z := q3 k hk
    show (oAt ow (way m h k)).isNone = false
    cases y : oAt ow (way m h k) with
    | none => exact absurd y z
    | some v => rfl) (congrArg Option.isNone q2), q2, q3⟩
theorem own_more {m : Nat} (hm : MQ m) {done : List Int} {ow : Array (Option Nat)} (W : Own m done ow) (hl : done.length ≤ m) (h : Int) :
    ∃ j, SetTable.layClean.free m ow (SetTable.turns m) (SetTable.bits h % (m + 1)) (SetTable.bits h) = some j ∧ Own m (done ++ [h]) (ow.setIfInBounds j (some done.length)) := by
  obtain ⟨ps, lps, hps⟩ := W.ps
  obtain ⟨j0, j1, j2⟩ := st_missing ps (m + 1) (by omega)
  have free0 : oAt ow j0 = none := Classical.byContradiction fun z => j2 (hps j0 (by omega) z)
  obtain ⟨K, f1, f2, f3⟩ := gap_own hm ow h (show j0 ≤ m by omega) free0
  have win := way_in m h K
  generalize hw : way m h K = y at f1 f2 win
  have ysz : y < ow.size := by rw [W.sz]; omega
  have me : oAt (ow.setIfInBounds y (some done.length)) y = some done.length := oAt_set_self _ ysz
  have ot : ∀ {i : Nat}, i ≠ y → oAt (ow.setIfInBounds y (some done.length)) i = oAt ow i := fun n => oAt_set_ne _ n
  have still : ∀ {i : Nat}, oAt ow i ≠ none → oAt (ow.setIfInBounds y (some done.length)) i ≠ none := fun {i} hi => by
    by_cases c : i = y
    · subst c; rw [me]; exact Option.some_ne_none _
    · rw [ot c]; exact hi
  have app : ∀ {k : Nat} {g : Int}, done[k]? = some g → (done ++ [h])[k]? = some g := fun hk => by
    rw [List.getElem?_append_left (List.getElem?_eq_some_iff.mp hk).1]
    exact hk
  refine ⟨y, f1, { sz := by rw [Array.size_setIfInBounds, W.sz], at_ := fun i k hi hk => ?_, all := fun k hk => ?_, ps := ⟨y :: ps, by rw [List.length_cons, lps, List.length_append]; rfl, fun i hi ne => ?_⟩ }⟩
  · by_cases c : i = y
    · subst c
      rw [me] at hk
      cases hk
      exact ⟨h, K, by rw [List.getElem?_append_right (Nat.le_refl _), Nat.sub_self]; rfl, hw, fun k' l => still (f3 k' l)⟩
    · rw [ot c] at hk
      obtain ⟨g, K', a1, a2, a3⟩ := W.at_ i k hi hk
      exact ⟨g, K', app a1, a2, fun k' l => still (a3 k' l)⟩
  · rw [List.length_append, List.length_singleton] at hk
    rcases Nat.lt_or_ge k done.length with c | c
    · obtain ⟨i, i1, i2⟩ := W.all k c
      refine ⟨i, i1, ?_⟩
      rw [ot fun z => by rw [z, f2] at i2; cases i2]
      exact i2
    · obtain rfl : k = done.length := by omega
      exact ⟨y, win, me⟩
  · by_cases c : i = y
    · rw [c]; exact List.mem_cons_self
    · rw [ot c] at ne
      exact List.mem_cons_of_mem _ (hps i hi ne)
theorem lay_on {m : Nat} (hm : MQ m) : ∀ (rest done : List Int) (ow : Array (Option Nat)), Own m done ow → done.length + rest.length ≤ m →
    ∃ ow', rest.foldl (stepF m) (some (ow, done.length)) = some (ow', (done ++ rest).length) ∧ Own m (done ++ rest) ow'
  | [], done, ow, W, _ => ⟨ow, by simp, by rw [List.append_nil]; exact W⟩
  | h :: rest, done, ow, W, hl => by
    rw [List.length_cons] at hl
    obtain ⟨j, e, W1⟩ := own_more hm W (by omega) h
    obtain ⟨ow', f, W2⟩ := lay_on hm rest (done ++ [h]) _ W1 (by rw [List.length_append, List.length_singleton]; omega)
    rw [List.append_assoc, List.singleton_append] at f W2
    refine ⟨ow', ?_, W2⟩
    rw [List.foldl_cons, stepF_some e, ← f, List.length_append, List.length_singleton]
theorem lay_q {m : Nat} (hm : MQ m) {hs : Array Int} (hn : hs.size ≤ m) : ∃ ow, SetTable.layClean m hs = some ow ∧ Own m hs.toList ow := by
  obtain ⟨ow, f, W⟩ := lay_on hm hs.toList [] _ (Own.init m) (by show 0 + hs.toList.length ≤ m; rw [Array.length_toList]; omega)
  rw [List.nil_append] at f W
  have f : hs.toList.foldl (stepF m) (some (Array.replicate (m + 1) none, 0)) = some (ow, hs.toList.length) := f
  exact ⟨ow, by rw [layClean_eq, f]; rfl, W⟩
theorem relaid_q (t : SetTable) {hs : Array Int} {wanted M : Nat} (hw : SetTable.sizeAbove wanted - 1 = M) (hM : MQ M) (hn : hs.size ≤ M) :
    ∃ t' order, t.relaid hs wanted = some (t', order) ∧ order.toList.Perm (List.range hs.size) ∧ TQ t' (order.toList.map fun i => hs.getD i 0) ∧ t'.mask = M ∧ t'.led = t.led ∧ t'.plain = t.plain ∧ t'.dummies = #[] := by
  obtain ⟨ow, e, W⟩ := lay_q hM hn
  obtain ⟨asc, inr⟩ := ris_live (fun j => ow.getD j none) (List.range (M + 1)) List.pairwise_lt_range
  have asc : Ris ((liveOf M ow).map (·.1)) := asc
  have inr : ∀ x ∈ (liveOf M ow).map (·.1), x ∈ List.range (M + 1) := inr
  have lv : ∀ {j k : Nat}, (j, k) ∈ liveOf M ow ↔ j ≤ M ∧ oAt ow j = some k := mem_live W.sz
  have one : ∀ k, k < hs.size → k ∈ (liveOf M ow).map (·.2) := fun k hk => by
    obtain ⟨j, j1, j2⟩ := W.all k (by rw [Array.length_toList]; exact hk)
    exact List.mem_map.mpr ⟨(j, k), lv.mpr ⟨j1, j2⟩, rfl⟩
  have cnt : (liveOf M ow).length = hs.size := by
    obtain ⟨ps, p1, p2⟩ := W.ps
    have p1 : ps.length = hs.size := by rw [p1]; exact Array.length_toList
    have nd : ((liveOf M ow).map (·.1)).Nodup := List.Pairwise.imp (fun h => Nat.ne_of_lt h) asc
    have up := nat_nodup_len ((liveOf M ow).map (·.1)) ps nd fun x hx => by
      obtain ⟨⟨y, k⟩, hq, rfl⟩ := List.mem_map.mp hx
      obtain ⟨b1, b2⟩ := lv.mp hq
      exact p2 y b1 (by rw [b2]; exact Option.some_ne_none k)
    have dn := nat_nodup_len (List.range hs.size) ((liveOf M ow).map (·.2)) List.nodup_range fun k hk => one k (List.mem_range.mp hk)
    rw [List.length_map] at up dn
    rw [List.length_range] at dn
    omega
  refine ⟨tabOf t M ow, ((liveOf M ow).map (·.2)).toArray, by rw [relaid_eq, hw, e]; rfl, perm_range hs.size _ (by rw [← cnt]; exact List.length_map ..) one, ⟨asc, rfl, ?_, hM, fun x hx => Nat.le_of_lt_succ (List.mem_range.mp (inr x hx)), fun i g y gi yi => ?_⟩, rfl, rfl, rfl, rfl⟩
  · show ((liveOf M ow).map (·.1)).toArray.size = _
    simp
  · have yi : ((liveOf M ow).map (·.1))[i]? = some y := yi
    rw [List.getElem?_map] at yi
    obtain ⟨⟨y', k⟩, hq, rfl⟩ := Option.map_eq_some_iff.mp yi
    have gi : (((liveOf M ow).map (·.2)).map fun i => hs.getD i 0)[i]? = some g := gi
    rw [List.getElem?_map, List.getElem?_map, hq] at gi
    have gi : hs.getD k 0 = g := Option.some.inj gi
    obtain ⟨b1, b2⟩ := lv.mp (List.mem_of_getElem? hq)
    obtain ⟨g0, K, a1, a2, a3⟩ := W.at_ y' k b1 b2
    have eg : g0 = g := by
      rw [← gi, Array.getD_eq_getD_getElem?, ← Array.getElem?_toList, a1]
      rfl
    subst eg
    refine ⟨K, a2, fun k' l => ?_⟩
    obtain ⟨v, hv⟩ := Option.ne_none_iff_exists'.mp (a3 k' l)
    exact List.mem_map.mpr ⟨(way M g0 k', v), lv.mpr ⟨way_in M g0 k', hv⟩, rfl⟩
theorem grow_5 : SetTable.sizeAbove (SetTable.grown 5) = 32 := by decide +kernel
theorem grow_19 : SetTable.sizeAbove (SetTable.grown 19) = 128 := by decide +kernel
theorem grow_77 : SetTable.sizeAbove (SetTable.grown 77) = 512 := by decide +kernel
theorem grow_307 : SetTable.sizeAbove (SetTable.grown 307) = 2048 := by decide +kernel
end Om

/-! sets of tuples of ints, fewer than a thousand: sought, put in -/
namespace Om
open PySem PySem.Spec PyProof.Rows L2
/-- where a search begins -/
abbrev p0 (m : Nat) (h : Int) : SetTable.Probe := runAt m (SetTable.bits h % (m + 1)) (SetTable.bits h)
theorem nth_dn (m : Nat) : ∀ (n : Nat) (p : SetTable.Probe), p.dummy = none → (nth m p n).dummy = none
  | 0, _, h => h
  | n + 1, p, h => nth_dn m n (adv m p) (by unfold adv; split <;> exact h)
structure SetQ (P : Program) (w : World) (h : Heap) (a : Addr) (L : List (Addr × List Int)) (es : Array (Int × Value)) (ep : Nat) (t : SetTable) : Prop where
  obj : ∃ o, h.get? a = some o ∧ o.ExactSet ∧ o.data = .set es ep t
  es_ : es.toList = rowsOf P w L
  tab : TQ t (L.map fun p => thash P w p.2)
  nd : (L.map (·.2)).Nodup
  tups : ∀ p ∈ L, IsT P w h p.2 p.1
  plain : t.plain = true
  led : w.params.followText "set-order" = true ∨ t.led = true
  room : L.length * 5 < t.mask * 3
  few : L.length < 1000
section
variable {P : Program} {w : World} {A : Around} {E : Value → Shared → Prop} {s : Shared} {a : Addr} {L : List (Addr × List Int)} {es : Array (Int × Value)} {ep : Nat} {t : SetTable}
theorem rows_len {es : Array (Int × Value)} {L : List (Addr × List Int)} (e : es.toList = rowsOf P w L) : es.size = L.length := by
  rw [← Array.length_toList, e]
  exact List.length_map ..
theorem rows_at {es : Array (Int × Value)} {L : List (Addr × List Int)} (e : es.toList = rowsOf P w L) {i : Nat} {p : Addr × List Int} (h : L[i]? = some p) : es[i]? = some (thash P w p.2, Value.ref p.1) := by
  have q : es.toList[i]? = some (thash P w p.2, Value.ref p.1) := by
    rw [e]
    show (L.map _)[i]? = _
    rw [List.getElem?_map, h]
    rfl
  rwa [Array.getElem?_toList] at q
theorem SetQ.psz (R : SetQ P w s.heap a L es ep t) : t.place.size = L.length := by
  have := R.tab.len
  rwa [List.length_map] at this
theorem fits_of {es : Array (Int × Value)} {t : SetTable} (h1 : t.place.size = es.size) (h2 : t.dummies = #[]) (h3 : es.size ≤ t.mask) : t.fits es.size = true := by
  have f : t.fill = es.size := by
    show t.place.size + t.dummies.size = _
    rw [h1, h2]
    rfl
  unfold SetTable.fits
  rw [f]
  simp only [h1, beq_self_eq_true, Bool.true_and]
  exact decide_eq_true h3
theorem SetQ.fits (R : SetQ P w s.heap a L es ep t) : t.fits es.size = true := by
  have e := rows_len R.es_
  have r := R.room
  exact fits_of (by rw [R.psz, e]) R.tab.none (by omega)
theorem SetQ.stays (R : SetQ P w s.heap a L es ep t) : ¬ t.gaveWay = true := by
  unfold SetTable.gaveWay
  rw [odd_q R.tab.mq]
  decide
/-- the search from the c-th place of its way on -/
theorem seek (R : SetQ P w s.heap a L es ep t) {x : Addr} {k : List Int} (hx : IsT P w s.heap k x) (hu : A.units < cLine) {K : Nat} (kf : K < 10 * SetTable.turns t.mask)
    (kn : way t.mask (thash P w k) K ∉ t.place.toList) (kb : ∀ c, c < K → way t.mask (thash P w k) c ∈ t.place.toList) {Q : SetFound → Shared → Prop}
    (yes : k ∈ L.map (·.2) → Q (.there none) s) (no : k ∉ L.map (·.2) → Q (.free (way t.mask (thash P w k) K) false) s) :
    ∀ (f c : Nat) (stand : Option SetTable.Probe), stand.getD (t.probeStart (thash P w k)) = nth t.mask (p0 t.mask (thash P w k)) c → c ≤ K → K < f + c →
      (∀ (i : Nat) p, L[i]? = some p → p.2 = k → ∃ c', c ≤ c' ∧ c' < K ∧ t.place.toList[i]? = some (way t.mask (thash P w k) c')) →
      wpAny (model P w) A (setSearchFrom a (.ref x) (thash P w k) true f stand) Q E s
  | 0, c, stand, _, c1, c2, _ => by omega
  | f + 1, c, stand, hs, c1, c2, rem => by
    obtain ⟨o, ob, oe, od⟩ := R.obj
    have wy : ∀ q, (nth t.mask (nth t.mask (p0 t.mask (thash P w k)) c) q).j = way t.mask (thash P w k) (c + q) := fun q => by rw [← nth_add]
    have hsh : ∀ (i : Nat) p, L[i]? = some p → (es[i]?.map (·.1)).getD 0 = thash P w p.2 := fun i p hp => by rw [rows_at R.es_ hp]; rfl
    have word := go_spec t R.tab.up R.tab.none (fun i => (es[i]?.map (·.1)).getD 0) (thash P w k) (10 * SetTable.turns t.mask) (K - c) (nth t.mask (p0 t.mask (thash P w k)) c) (nth_dn _ c _ rfl) (by omega)
      (fun q hq => by rw [wy]; exact kb _ (by omega)) (by rw [wy, show c + (K - c) = K by omega]; exact kn)
    -- what equals the key isn't ahead of what was met
    have beyond : ∀ (q : Nat), (∀ k' i', k' < q → t.place.toList[i']? = some (nth t.mask (nth t.mask (p0 t.mask (thash P w k)) c) k').j → (es[i']?.map fun e : Int × Value => e.1).getD 0 ≠ thash P w k) → ∀ (i : Nat) p, L[i]? = some p → p.2 = k →
        ∃ c', c + q ≤ c' ∧ c' < K ∧ t.place.toList[i]? = some (way t.mask (thash P w k) c') := fun q hq i p hp hk => by
      obtain ⟨c', r1, r2, r3⟩ := rem i p hp hk
      refine ⟨c', Nat.le_of_not_lt fun z => ?_, r2, r3⟩
      have e2 : c + (c' - c) = c' := by omega
      exact hq (c' - c) i (by omega) (by rw [wy, e2]; exact r3) (by rw [hsh i p hp, hk])
    rw [setSearchFrom_succ]
    refine wpAny_bind (wpAny_setState_of ob od R.fits ?_)
    dsimp only
    refine wp_if_neg R.stays ?_
    try refine wpAny_bind (wpAny_pure ?_)
    rcases word with ⟨q, i, q1, qi, qh, qn, pr⟩ | ⟨qn, pr⟩
    case inr =>
      have pr2 : t.probe (fun i => (es[i]?.map (·.1)).getD 0) (thash P w k) (stand.getD (t.probeStart (thash P w k))) = some (.empty (way t.mask (thash P w k) K) none) := by
        have ek : c + (K - c) = K := by omega
        rw [wy, ek] at pr
        rw [hs]
        exact pr
      rw [pr2]
      dsimp only
      refine wpAny_pure (no fun hm => ?_)
      obtain ⟨p, hp, hk⟩ := List.mem_map.mp hm
      obtain ⟨i, hi⟩ := List.getElem?_of_mem hp
      obtain ⟨c', r1, r2, _⟩ := beyond (K - c) qn i p hi hk
      omega
    case inl =>
      rw [wy] at qi
      have pr2 : t.probe (fun i => (es[i]?.map (·.1)).getD 0) (thash P w k) (stand.getD (t.probeStart (thash P w k))) = some (.candidate (way t.mask (thash P w k) (c + q)) i (nth t.mask (p0 t.mask (thash P w k)) (c + (q + 1)))) := by
        rw [wy, ← nth_add] at pr
        rw [hs]
        exact pr
      rw [pr2]
      dsimp only
      have il : i < L.length := by
        have := (List.getElem?_eq_some_iff.mp qi).1
        rw [Array.length_toList, R.psz] at this
        exact this
      obtain ⟨p, hp⟩ : ∃ p, L[i]? = some p := ⟨_, List.getElem?_eq_getElem il⟩
      have pm := List.mem_of_getElem? hp
      have live : t.slot (way t.mask (thash P w k) (c + q)) = .live i := slot_live R.tab.up qi
      have rest : wpAny (model P w) A (searchRest a (.ref x) (thash P w k) true f es t (way t.mask (thash P w k) (c + q)) i (nth t.mask (p0 t.mask (thash P w k)) (c + (q + 1)))) Q E s := by
        unfold searchRest
        rw [rows_at R.es_ hp]
        dsimp only
        refine wpAny_bind (wpAny_holding (wpAny_eqBool_tuple hu (R.tups p pm) hx (wpAny_bind (wpAny_setState_of ob od R.fits ?_))))
        dsimp only
        by_cases same : p.2 = k
        · exact wp_if_pos (by simp [same]) (wpAny_pure (yes (List.mem_map.mpr ⟨p, pm, same⟩)))
        · refine wp_if_neg (by simp [same]) ?_
          try refine wpAny_bind (wpAny_pure ?_)
          rw [sameMem]
          dsimp only
          simp only [if_true, live, rows_at R.es_ hp]
          refine wpAny_bind (wpAny_isSame_ref_self (wpAny_bind (wpAny_pure ?_)))
          simp only [if_true]
          refine wp_if_neg (by simp [same]) ?_
          refine seek R hx hu kf kn kb yes no f (c + (q + 1)) _ rfl (by omega) (by omega) fun i0 r h0 hk => ?_
          obtain ⟨c', r1, r2, r3⟩ := beyond q qn i0 r h0 hk
          refine ⟨c', Nat.lt_of_le_of_ne r1 fun e => ?_, r2, r3⟩
          have e : c' = c + q := e.symm
          rw [e] at r3
          have l2 := slot_live R.tab.up r3
          rw [live] at l2
          cases l2
          rw [hp] at h0
          cases h0
          exact same hk
      by_cases hl : t.led = true
      · refine wp_if_neg (by simp [hl]) ?_
        try refine wpAny_bind (wpAny_pure ?_)
        exact rest
      · refine wp_if_pos (by simp [hl]) (wpAny_bind (seen_tup hx (fun y hy => ?_) ?_))
        · obtain ⟨e, he, rfl⟩ := List.mem_map.mp hy
          have he : e ∈ es.toList := by simpa using (show e ∈ es ∧ e.1 = thash P w k by simpa using he).1
          rw [R.es_] at he
          obtain ⟨r, hr, rfl⟩ := List.mem_map.mp he
          exact ⟨r.2, r.1, rfl, R.tups r hr⟩
        · refine wp_if_neg (by decide) ?_
          try refine wpAny_bind (wpAny_pure ?_)
          exact rest
theorem seek_all (R : SetQ P w s.heap a L es ep t) {x : Addr} {k : List Int} (hx : IsT P w s.heap k x) (hu : A.units < cLine) {Q : SetFound → Shared → Prop} (yes : k ∈ L.map (·.2) → Q (.there none) s)
    (no : ∀ K, k ∉ L.map (·.2) → way t.mask (thash P w k) K ∉ t.place.toList → (∀ c, c < K → way t.mask (thash P w k) c ∈ t.place.toList) → Q (.free (way t.mask (thash P w k) K) false) s) :
    wpAny (model P w) A (setSearch a (.ref x) (thash P w k) true) Q E s := by
  have r := R.room
  have b := big_q R.tab.mq
  obtain ⟨K, k1, k2, k3⟩ := R.tab.gap (by rw [List.length_map]; omega) (thash P w k)
  have kl : K < 10 * (t.mask + 15) := k1
  unfold setSearch
  refine seek R hx hu k1 k2 k3 yes (fun hn => no K hn k2 k3) 100000 0 none rfl (Nat.zero_le _) (by omega) fun i p hp hk => ?_
  have il := (List.getElem?_eq_some_iff.mp hp).1
  have ip : i < t.place.toList.length := by rw [Array.length_toList, R.psz]; exact il
  obtain ⟨c, c1, c2⟩ := R.tab.ahead k2 (i := i) (by rw [List.getElem?_map, hp]; exact congrArg some (congrArg (thash P w) hk)) (List.getElem?_eq_getElem ip)
  exact ⟨c, Nat.zero_le _, c1, by rw [c2]; exact List.getElem?_eq_getElem ip⟩
/-! ### laid anew, put in -/
theorem relay_q {o : Obj} (ob : s.heap.get? a = some o) (oe : o.ExactSet) (od : o.data = .set es ep t) (er : es.toList = rowsOf P w L) (sz : t.place.size = es.size) (dm : t.dummies = #[]) (fl : es.size ≤ t.mask) (nd : (L.map (·.2)).Nodup) (tp : ∀ p ∈ L, IsT P w s.heap p.2 p.1)
    (pl : t.plain = true) (ld : w.params.followText "set-order" = true ∨ t.led = true) (few : L.length < 1000) {wanted M : Nat} (hw : SetTable.sizeAbove wanted = M + 1) (hM : MQ M) (hn : L.length * 5 < M * 3) {Q : Unit → Shared → Prop}
    (k : ∀ h' L' es' ep' t', Heap.SameBut a s.heap h' → SetQ P w h' a L' es' ep' t' → L'.Perm L → Q () { s with heap := h' }) : wpAny (model P w) A (setRelay a wanted) Q E s := by
  have el := rows_len er
  have mb := big_q hM
  obtain ⟨t', order, e, pm, T, m1, m2, m3, m4⟩ := relaid_q t (hs := es.map (·.1)) (wanted := wanted) (by rw [hw]; rfl) hM (by rw [Array.size_map, el]; omega)
  rw [Array.size_map, el] at pm
  obtain ⟨L2, r1, r2, r3⟩ := order_rows L es order er pm
  rw [← r3] at T
  have el2 : (order.filterMap (es[·]?)).size = es.size := by rw [rows_len r1, r2.length_eq, el]
  have line : sizeLine = 67108864 ∨ 10000 ≤ sizeLine := .inr (by rw [sizeLine_eq]; decide)
  rw [setRelay_eq]
  refine wpAny_bind (wpAny_setState_of ob od (fits_of sz dm fl) ?_)
  dsimp only
  refine wp_if_neg (by rw [hw, sizeLine_eq]; omega) ?_
  try refine wpAny_bind (wpAny_pure ?_)
  rw [e]
  dsimp only
  refine wpAny_bind (wp_if_neg (by rw [el2]; simp) ?_)
  try refine wpAny_bind (wpAny_pure ?_)
  refine wpAny_pure ?_
  dsimp only
  refine wpAny_storeSet_of ob od ?_ (by rw [el2, el, sizeLine_eq]; omega)
  have sb : Heap.SameBut a s.heap (s.heap.update a (Obj.putSet (order.filterMap (es[·]?)) t')) := Heap.SameBut.update ..
  exact k _ L2 _ (ep + 1) t' sb
    { obj := ⟨_, store_at ob od, ⟨oe.1, oe.2.1, oe.2.2⟩, rfl⟩, es_ := r1, tab := T, nd := (r2.map (·.2)).nodup_iff.mpr nd, tups := fun p hp => isT_same (tp p (r2.mem_iff.mp hp)) ob od sb, plain := by rw [m3]; exact pl, led := by rw [m2]; exact ld,
      room := by rw [r2.length_eq, m1]; exact hn, few := by rw [r2.length_eq]; exact few } r2
theorem add_q (R : SetQ P w s.heap a L es ep t) {x : Addr} {k : List Int} (hx : IsT P w s.heap k x) (hu : A.units < cLine) (few : L.length + 1 < 1000) {Q : Bool → Shared → Prop}
    (h : ∀ b h' L' es' ep' t', Heap.SameBut a s.heap h' → SetQ P w h' a L' es' ep' t' → (k ∈ L.map (·.2) → L' = L) → (k ∉ L.map (·.2) → L'.Perm ((x, k) :: L)) → Q b { s with heap := h' }) :
    wpAny (model P w) A (setAddHashed a (.ref x) (thash P w k)) Q E s := by
  obtain ⟨o, ob, oe, od⟩ := R.obj
  have el := rows_len R.es_
  have rm := R.room
  unfold setAddHashed
  refine wpAny_holding ?_
  rw [show (100000 : Nat) = Nat.succ 99999 from rfl, setAddHashedIn_succ]
  refine wpAny_bind (wpAny_setState_of ob od R.fits ?_)
  dsimp only
  refine wp_if_neg (by simp [byScan, Value.scannable]) ?_
  try refine wpAny_bind (wpAny_pure ?_)
  refine wpAny_bind (seek_all R hx hu (fun hm => ?_) fun K hm hK hb => ?_)
  · dsimp only
    exact wpAny_pure (h false s.heap L es ep t (Heap.SameBut.refl a s.heap) R (fun _ => rfl) fun z => absurd hm z)
  dsimp only
  refine wpAny_bind (wpAny_setState_of ob od R.fits ?_)
  dsimp only
  have pq := R.tab.more hK hb
  have p2 : (t.put (way t.mask (thash P w k) K)).2 = SetTable.below t.place (way t.mask (thash P w k) K) := rfl
  generalize hpt : t.put (way t.mask (thash P w k) K) = pt at pq p2 ⊢
  obtain ⟨t1, pp⟩ := pt
  dsimp only at pq p2 ⊢
  subst p2
  have pl1 : t1.plain = true := by rw [pq.plain]; exact R.plain
  have ins : (SetTable.insertAt es (SetTable.below t.place (way t.mask (thash P w k) K)) (thash P w k, Value.ref x)).toList = rowsOf P w (L.take (SetTable.below t.place (way t.mask (thash P w k) K)) ++ (x, k) :: L.drop (SetTable.below t.place (way t.mask (thash P w k) K))) := by
    rw [rows_put, ← R.es_]
    exact SetTable.toList_insertAt _ _ _
  generalize SetTable.below t.place (way t.mask (thash P w k) K) = p at pq ins ⊢
  have pm := put_perm L p (x, k)
  have tab1 : TQ t1 ((L.take p ++ (x, k) :: L.drop p).map fun p => thash P w p.2) := by
    rw [List.map_append, List.map_cons, List.map_take, List.map_drop]
    exact pq.tab
  have fill1 : t1.fill = L.length + 1 := by rw [pq.fill, List.length_map]
  have nd1 : ((L.take p ++ (x, k) :: L.drop p).map (·.2)).Nodup := (pm.map (·.2)).nodup_iff.mpr (List.nodup_cons.mpr ⟨hm, R.nd⟩)
  have led1 : w.params.followText "set-order" = true ∨ t1.led = true := by rw [pq.led]; exact R.led
  have mask1 := pq.mask
  generalize SetTable.insertAt es p (thash P w k, Value.ref x) = es1 at ins ⊢
  generalize L.take p ++ (x, k) :: L.drop p = L1 at pm tab1 nd1 ins
  have l1 : L1.length = L.length + 1 := pm.length_eq
  have el1 : es1.size = L.length + 1 := by rw [rows_len ins, l1]
  clear pq
  have goal : wpAny (model P w) A (do
      storeSet a es1 t1
      if !false && t1.tooFull then setRelay a (SetTable.grown (es.size + 1))
      return true) Q E s := by
    refine wpAny_bind (wpAny_storeSet_of ob od ?_ (by rw [el1, sizeLine_eq]; omega))
    have sb : Heap.SameBut a s.heap (s.heap.update a (Obj.putSet es1 t1)) := Heap.SameBut.update ..
    have ob1 := store_at (es' := es1) (t' := t1) ob od
    generalize s.heap.update a (Obj.putSet es1 t1) = h1 at sb ob1 ⊢
    have tp1 : ∀ p ∈ L1, IsT P w h1 p.2 p.1 := fun p hp => by
      rcases List.mem_cons.mp (pm.mem_iff.mp hp) with rfl | hp
      · exact isT_same hx ob od sb
      · exact isT_same (R.tups p hp) ob od sb
    have done : ∀ (h2 : Heap) L2 es2 ep2 t2, Heap.SameBut a h1 h2 → SetQ P w h2 a L2 es2 ep2 t2 → L2.Perm L1 → Q true { s with heap := h2 } := fun h2 L2 es2 ep2 t2 sb2 R2 pm2 =>
      h true h2 L2 es2 ep2 t2 (sb.trans sb2) R2 (fun z => absurd z hm) fun _ => pm2.trans pm
    have full : t1.tooFull = decide ((L.length + 1) * 5 ≥ t.mask * 3) := by
      unfold SetTable.tooFull
      rw [fill1, mask1]
    by_cases hf : (L.length + 1) * 5 ≥ t.mask * 3
    · have tf : t1.tooFull = true := by rw [full, decide_eq_true hf]
      first
        | (refine wp_if_pos (by simp [tf]) ?_; refine wpAny_bind ?_)
        | (refine wpAny_bind ?_; refine wp_if_pos (by simp [tf]) ?_)
      rw [el]
      have next : ∃ M, SetTable.sizeAbove (SetTable.grown (L.length + 1)) = M + 1 ∧ MQ M ∧ (L.length + 1) * 5 < M * 3 ∧ L.length + 1 ≤ t.mask := by
        rcases R.tab.mq with e | e | e | e | e
        · obtain e5 : L.length + 1 = 5 := by rw [e] at hf rm; omega
          rw [e5]; exact ⟨31, grow_5, .inr (.inl rfl), by decide, by rw [e]; decide⟩
        · obtain e5 : L.length + 1 = 19 := by rw [e] at hf rm; omega
          rw [e5]; exact ⟨127, grow_19, .inr (.inr (.inl rfl)), by decide, by rw [e]; decide⟩
        · obtain e5 : L.length + 1 = 77 := by rw [e] at hf rm; omega
          rw [e5]; exact ⟨511, grow_77, .inr (.inr (.inr (.inl rfl))), by decide, by rw [e]; decide⟩
        · obtain e5 : L.length + 1 = 307 := by rw [e] at hf rm; omega
          rw [e5]; exact ⟨2047, grow_307, .inr (.inr (.inr (.inr rfl))), by decide, by rw [e]; decide⟩
        · exfalso; rw [e] at hf; omega
      obtain ⟨M, n1, n2, n3, n4⟩ := next
      have psz : t1.place.size = es1.size := by
        have := tab1.len
        rw [List.length_map, l1] at this
        rw [this, el1]
      refine relay_q (s := { s with heap := h1 }) ob1 ⟨oe.1, oe.2.1, oe.2.2⟩ rfl ins psz tab1.none (by rw [el1, mask1]; exact n4) nd1 tp1 pl1 led1 (by rw [l1]; exact few) n1 n2 (by rw [l1]; exact n3) fun h2 L2 es2 ep2 t2 sb2 R2 pm2 => ?_
      exact wpAny_pure (done h2 L2 es2 ep2 t2 sb2 R2 pm2)
    · have tf : t1.tooFull = false := by rw [full, decide_eq_false hf]
      first
        | (refine wpAny_bind ?_; refine wp_if_neg (by simp [tf]) ?_; refine wpAny_pure ?_)
        | refine wp_if_neg (by simp [tf]) ?_
      refine wpAny_pure (done h1 L1 es1 (ep + 1) t1 (Heap.SameBut.refl a h1) { obj := ⟨_, ob1, ⟨oe.1, oe.2.1, oe.2.2⟩, rfl⟩, es_ := ins, tab := tab1, nd := nd1, tups := tp1, plain := pl1, led := led1, room := by rw [l1, mask1]; omega, few := by rw [l1]; exact few } (List.Perm.refl _))
  first
    | (refine wpAny_bind (wp_if_pos pl1 (hashBy_tup hx ?_)); simp only [if_true]; exact goal)
    | (refine wp_if_pos pl1 (wpAny_bind (hashBy_tup hx ?_)); simp only [if_true]; exact goal)
end
end Om

/-! the set as a tracked object -/
namespace Om
open PySem PySem.Spec PyProof.Rows L2
/-- the set at a, whatever has become of its tuples -/
structure SetQ0 (P : Program) (w : World) (h : Heap) (a : Addr) (L : List (Addr × List Int)) : Prop where
  ex : ∃ (es : Array (Int × Value)) (ep : Nat) (t : SetTable), (∃ o, h.get? a = some o ∧ o.ExactSet ∧ o.data = .set es ep t) ∧ es.toList = rowsOf P w L ∧ TQ t (L.map fun p => thash P w p.2) ∧ (L.map (·.2)).Nodup ∧ t.plain = true ∧
    (w.params.followText "set-order" = true ∨ t.led = true) ∧ L.length * 5 < t.mask * 3 ∧ L.length < 1000
def SetQO (P : Program) (w : World) (a : Addr) (L : List (Addr × List Int)) : HO := .ext fun h => SetQ0 P w h a L
section
variable {P : Program} {w : World} {H : Hp} {h : Heap} {a : Addr} {L : List (Addr × List Int)} {es : Array (Int × Value)} {ep : Nat} {t : SetTable}
theorem SetQ.q0 (R : SetQ P w h a L es ep t) : SetQ0 P w h a L := ⟨⟨es, ep, t, R.obj, R.es_, R.tab, R.nd, R.plain, R.led, R.room, R.few⟩⟩
theorem SetQ0.all (R : SetQ0 P w h a L) (ht : ∀ p ∈ L, IsT P w h p.2 p.1) : ∃ es ep t, SetQ P w h a L es ep t := by
  obtain ⟨es, ep, t, r1, r2, r3, r4, r5, r6, r7, r8⟩ := R.ex
  exact ⟨es, ep, t, { obj := r1, es_ := r2, tab := r3, nd := r4, tups := ht, plain := r5, led := r6, room := r7, few := r8 }⟩
theorem qo_new (R : SetQ0 P w h a L) : ObjOk P w H h a (SetQO P w a L) := by
  have ⟨_, _, _, ⟨o, ho, _⟩, _⟩ := R.ex
  refine ⟨R, ⟨o, ho⟩, fun g1 g2 q keep => ?_⟩
  obtain ⟨⟨es, ep, t, ⟨o2, q1, q2⟩, q3⟩⟩ := q
  exact ⟨⟨es, ep, t, ⟨o2, keep o2 q1, q2⟩, q3⟩⟩
theorem fresh_q (ho : h.get? a = some { cls := .type "set", dict := none, data := .set #[] 0 (.fresh 0 0 (!w.params.followText "set-order")) }) : SetQ P w h a [] #[] 0 (.fresh 0 0 (!w.params.followText "set-order")) where
  obj := ⟨_, ho, ⟨rfl, rfl, rfl⟩, rfl⟩
  es_ := rfl
  tab := { up := List.Pairwise.nil, none := rfl, len := rfl, mq := .inl rfl, low := (fun x hx => by cases hx), found := (fun i h j hi => by simp at hi) }
  nd := List.nodup_nil
  tups := fun p hp => by cases hp
  plain := rfl
  led := by
    cases hf : w.params.followText "set-order" with
    | true => exact .inl rfl
    | false => exact .inr rfl
  room := show 0 * 5 < 7 * 3 by decide
  few := show 0 < 1000 by decide
end
end Om

/-! sets of tuples of ints made by a comprehension: one clause, two clauses -/
namespace Om.Bg
open Om PySem PySem.Spec PyProof.Rows L2
/-! ### one tuple put in -/
section
variable {P : Program} {w : World} {A : Around} {E : Value → Shared → Prop} {s : Shared} {a : Addr} {L : List (Addr × List Int)} {es : Array (Int × Value)} {ep : Nat} {t : SetTable}
theorem setT_add {x : Addr} {k : List Int} {Q : Value → Shared → Prop} (R : SetQ P w s.heap a L es ep t) (hx : IsT P w s.heap k x) (hu : A.units + 3 < cLine) (hfew : L.length + 1 < 1000)
    (hQ : ∀ h' tk L', Heap.SameBut a s.heap h' → SetQ0 P w h' a L' → (k ∈ L.map (·.2) → L' = L) → (k ∉ L.map (·.2) → L'.Perm ((x, k) :: L)) → Q .none { s with heap := h', toks := tk }) :
    wpAny (model P w) A (call (.builtin "set.add") [.ref a, .ref x]) Q E s := by
  obtain ⟨o, ho, hex, hd⟩ := R.obj
  refine wpAny_call_entry F.slot_set_add ⟨o, ho, hex.1⟩ F.entry_set_add ?_ (F.args_set_add_2 _ _)
  unfold Builtin.«set.add» Builtin.Frozenset.oneOther
  simp only [List.isEmpty_nil, bind_assoc]
  unfold Builtin.Frozenset.addrOf setAdd
  refine wpAny_bind (wpAny_pure ?_)
  try dsimp only
  refine wpAny_bind (wpAny_pure ?_)
  try dsimp only
  refine wpAny_bind (wpAny_holding (wpAny_bind (wpAny_pyHash_tuple (by first | (show A.units + _ < _; omega) | omega) hx ?_)))
  refine add_q (s := { s with toks := s.toks + (k.length + 1) }) R hx (by first | (show A.units + _ < _; omega) | omega) hfew fun b h' L' es' ep' t' sb R' c1 c2 => ?_
  exact wpAny_pure ⟨_, rfl, hQ h' _ L' sb R'.q0 c1 c2⟩
end

/-! ### over the layer: what is put in -/
section
variable {X : Cx}
theorem addT_ok {pins : List (Addr × Obj)} {σ : L2.St} {H : Hp} {s : Shared} {E : Value → Shared → Prop} {D b : Addr} {k : List Int} {L : List (Addr × List Int)} {Q : Value → Shared → Prop} (I : Inv X pins σ H s) (hu : X.A.units + 3 < cLine)
    (hD : H D = some (SetQO X.prog X.w D L)) (hL : ∀ p ∈ L, SqT X.K H p.1 (p.2.map V.int)) (hb : SqT X.K H b (k.map V.int)) (hfew : L.length + 1 < 1000)
    (h : ∀ s' L', (k ∈ L.map (·.2) → L' = L) → (k ∉ L.map (·.2) → L'.Perm ((b, k) :: L)) → Inv X pins σ (upd H D (SetQO X.prog X.w D L')) s' → Q .none s') :
    wpAny (model X.prog X.w) X.A (call (.builtin "set.add") [.ref D, .ref b]) Q E s := by
  have R0 : SetQ0 X.prog X.w s.heap D L := (I.hok D _ hD).1
  obtain ⟨es, ep, t, R⟩ := R0.all fun p hp => I.isT (hL p hp)
  refine setT_add R (I.isT hb) hu hfew fun h' tk L' sb R' c1 c2 => ?_
  have he : ∃ u, h'.get? D = some u := by
    have ⟨_, _, _, ⟨o, ho, _⟩, _⟩ := R'.ex
    exact ⟨o, ho⟩
  exact h _ L' c1 c2 (I.write (e := D) (t' := tk) (by rw [hD]; trivial) (.inl rfl) (fun c u hc hu => (sb.2 c hc).trans hu) he (qo_new R'))
end

/-! ### a clause's loop, whatever it does with an item -/
def clauseTurn (node : Expr) (k : Nat) (tg iter : Expr) (ifs : List Expr) (it acc : Value) (env : Env) (act : Sem PySem.Fin → Sem PySem.Fin) : Sem PySem.Fin := do
  standAt iter.pos
  match ← pyNext it with
  | none => pure (.done .next)
  | some v =>
    letOwnedTupleGo tg it v
    assign tg env v
    let mut ok := true
    for c in ifs do
      if ok then ok ← isTrue c env (eval c env)
    if ok then act (again (.compLoop node k it acc env)) else again (.compLoop node k it acc env)
/-- slots that know at least as much -/
def Knows (σ0 σ' : L2.St) : Prop := σ0.length = σ'.length ∧ ∀ (j : Nat) v, σ0[j]? = some (some v) → σ'[j]? = some (some v)
theorem thnE {α : Type} {t : Sem α} {Q Q' : α → Shared → Prop} {M : Model} {A : Around} {E E' : Value → Shared → Prop} {s : Shared} (hE : ∀ e s, ¬ E e s) (h : wpAny M A t Q E s) (hQ : ∀ a s, Q a s → Q' a s) : wpAny M A t Q' E' s := wpAny_mono h hQ fun e s z => (hE e s z).elim
theorem clause_loop {X : Cx} (hc : X.calm = true) (hxe : ∀ e s, ¬ X.xe e s) {elt : Expr} {cs : List Comprehension} {scope : Scope} {pos : Pos} {node : Expr} (en : node = .SetComp elt cs scope pos) {k : Nat} {tg iter : Expr} {ifs : List Expr} {it : Addr} {acc : Value} {act : Sem PySem.Fin → Sem PySem.Fin} {R : PySem.Result → Shared → Prop}
    (hturn : compTurn node k (.ref it) acc X.env = clauseTurn node k tg iter ifs (.ref it) acc X.env act)
    {pins : List (Addr × Obj)} {σ0 : L2.St} {fp : List Addr} {tn : Nat → Heap → Prop} {J : It} (T : Turn X.prog X.w X.K tg J fp it tn) {g : TG} {tt : TT} (pg : PG X tg g) (pt : PTs X ifs tt)
    (stat : ∀ {H' : Hp}, (∀ b ∈ fp, H' b = none) → ∀ b ∈ fp, FpOk X pins H' b)
    {Fin : Hp → Prop} {ok : L2.St → Prop} {Body : L2.St → Hp → (Hp → Prop) → Prop}
    (body : ∀ {σ2 : L2.St} {Hx : Heap} {s : Shared} {H : Hp} {Nx : Hp → Prop}, ok σ2 → Inv X (pins ++ pinsAt fp Hx) σ2 H s → Body σ2 H Nx → ∀ (kont : Sem PySem.Fin) (P : PySem.Fin → Shared → Prop) (E : Value → Shared → Prop), (∀ s', (∃ σ' H', Inv X (pins ++ pinsAt fp Hx) σ' H' s' ∧ Knows σ0 σ' ∧ Nx H') → wpAny (model X.prog X.w) X.A kont P E s') → wpAny (model X.prog X.w) X.A (act kont) P E s)
    (hok : ∀ {σ2 : L2.St}, ok σ2 → Knows σ0 σ2) {W : Nat → Nat → Hp → Prop}
    (turn : ∀ i m H, W i m H → (J.stop i H ∧ Fin H) ∨ (J.go i H ∧ ∃ Nx : Hp → Prop, (∀ H', Nx H' → ∃ m', m' < m ∧ W (i + 1) m' H') ∧ ∀ x H', J.yld i H x H' → g x σ0 H' fun σ2 H2 => ok σ2 ∧ tt σ2 H2 fun b H3 => if b = true then Body σ2 H3 Nx else Nx H3))
    (hend : ∀ H' s', Inv X pins σ0 H' s' → Fin H' → R (.ok .next) s')
    {s : Shared} {H : Hp} {m0 : Nat} (I : Inv X pins σ0 H s) (st : tn 0 s.heap) (nfp : ∀ b ∈ fp, H b = none) (w0 : W 0 m0 H) :
    codeAny (model X.prog X.w) X.A (.compLoop node k (.ref it) acc X.env) R s := by
  subst en
  refine codeAny_loop rfl (fun n s' => ∃ i H', Inv X pins σ0 H' s' ∧ tn i s'.heap ∧ (∀ b ∈ fp, H' b = none) ∧ W i n H') ?_ m0 ⟨0, H, I, st, nfp, w0⟩
  rintro n s5 ⟨i, H5, I5, st5, n5, w5⟩
  show wpAny _ X.A ((compTurn (.SetComp elt cs scope pos) k (.ref it) acc X.env).onRaise (fun x => do noteFrame x X.env; theTreesLotGoes x)) _ _ s5
  refine wpAny_noted ?_
  rw [hturn]
  unfold clauseTurn
  refine wpAny_bind (wpAny_standAt (wpAny_bind ?_))
  rcases turn i n H5 w5 with ⟨stop, qq⟩ | ⟨go, Nx, hNx, step⟩
  · refine thnF (T.done X rfl rfl rfl hc i pins s5 σ0 H5 (fun _ _ => False) I5 (stat n5) st5 stop) fun r s6 ⟨hr, I6⟩ => ?_
    subst hr
    exact wpAny_pure (hend H5 s6 I6 qq)
  · refine thnF (T.item X rfl rfl rfl hc i pins s5 σ0 H5 (fun _ _ => False) I5 (stat n5) st5 go) fun r s6 ⟨u, hr, h6⟩ => ?_
    subst hr
    dsimp only
    refine wpAny_bind (thnF h6 fun _ s7 ⟨x, H7, I7, r7, y7, st7, n7⟩ => ?_)
    have I7' := I7.pinned (stat n7) (T.obj _ _ st7)
    have fin : ∀ {σ' : L2.St} {s' : Shared} {H' : Hp}, Inv X (pins ++ pinsAt fp s7.heap) σ' H' s' → Knows σ0 σ' → Nx H' → ∃ m, m < n ∧ ∃ i H', Inv X pins σ0 H' s' ∧ tn i s'.heap ∧ (∀ b ∈ fp, H' b = none) ∧ W i m H' := fun {σ' s' H'} I' kn nx => by
      obtain ⟨m', hm, w'⟩ := hNx H' nx
      have held : ∀ b ∈ fp, ∀ o, s7.heap.get? b = some o → s'.heap.get? b = some o ∧ H' b = none := fun b hb o e =>
        ⟨(I'.pin (b, o) (List.mem_append_right _ (List.mem_append_right _ (mem_pinsAt hb e)))).1, (I'.pin (b, o) (List.mem_append_right _ (List.mem_append_right _ (mem_pinsAt hb e)))).2.1⟩
      refine ⟨m', hm, i + 1, H', I'.unpinned.weak kn.1 kn.2, T.keep _ _ _ st7 fun b hb o e => (held b hb o e).1, fun b hb => ?_, w'⟩
      obtain ⟨o, e, _⟩ := T.obj _ _ st7 b hb
      exact (held b hb o e).2
    refine wpAny_bind (thnE hxe (pg.run _ s7 σ0 H7 x u _ I7' r7 (step x H7 y7)) fun _ s8 ⟨σ8, H8, I8, k8, q8⟩ => ?_)
    refine wpAny_bind (thnE hxe (pt.run _ s8 σ8 H8 _ I8 q8) fun b s9 ⟨H9, I9, q9⟩ => ?_)
    cases b with
    | false => exact wpAny_pure ⟨rfl, fin I9 (hok k8) q9⟩
    | true => exact body k8 I9 q9 _ _ _ fun s' ⟨σ', H', I', kn, nx⟩ => wpAny_pure ⟨rfl, fin I' kn nx⟩
end Om.Bg

namespace Om.Bg
open Om PySem PySem.Spec PyProof.Rows L2
section
variable {X : Cx}
abbrev newSetObj (w : World) : Obj := { cls := .type "set", dict := none, data := .set #[] 0 (.fresh 0 0 (!w.params.followText "set-order")) }
/-- the block of a set comprehension is entered: D the new set, Rd what is known of it -/
theorem sc_enter {pins : List (Addr × Obj)} {s : Shared} {σ : L2.St} {H : Hp} {Q : VK} {elt tg iter : Expr} {ifs : List Expr} {rest : List Comprehension} {scope : Scope} {own : List (Str × Nat)} {pos pos' : Pos} {wi : TI} {use : Option (Value → Sem Unit)} {Qf : Value → Shared → Prop} {Rd : It → Addr → Hp → Prop}
    (hc : X.calm = true) (hN : X.N.Nodup) (I : Inv X pins σ H s) (hi : PI X tg iter wi) (ok : BlkOk X.N X.env.scope scope own) (hs : ∀ x, foldedSetIterable iter X.env x = pure x) (h : wi σ H fun J H1 => ∀ D, H1 D = none → Rd J D (upd H1 D (SetQO X.prog X.w D [])))
    (hRR : ∀ D C s' m H', Inv X pins σ H' s' → Q (.ref D) H' → s'.heap.Ns C m → FpOk X pins H' C → compPost (model X.prog X.w) X.A X.xe use Qf (.ref D) C (.ok .next) s')
    (loop : ∀ (it : Addr) (fp : List Addr) (tn : Nat → Heap → Prop) (J : It) (D C : Addr) (cl : List (Str × Addr)) (s3 s4 : Shared) (H3 : Hp), Rd J D H3 → Inv (X.blk s3 H3 scope (compEnvC scope cl C X.env) fp) [] (wipe σ (own.map (·.2))) H3 s4 → Turn X.prog X.w X.K tg J fp it tn → tn 0 s4.heap → (∀ b ∈ fp, H3 b = none) →
      (∀ {H' : Hp}, (∀ b ∈ fp, H' b = none) → ∀ b ∈ fp, FpOk (X.blk s3 H3 scope (compEnvC scope cl C X.env) fp) [] H' b) →
      (∀ H5 s6, Inv (X.blk s3 H3 scope (compEnvC scope cl C X.env) fp) [] (wipe σ (own.map (·.2))) H5 s6 → Q (.ref D) H5 → compPost (model X.prog X.w) X.A X.xe use Qf (.ref D) C (.ok .next) s6) →
      codeAny (model X.prog X.w) X.A (.compLoop (.SetComp elt (⟨tg, iter, ifs, 0⟩ :: rest) scope pos) 0 (.ref it) (.ref D) (compEnvC scope cl C X.env)) (compPost (model X.prog X.w) X.A X.xe use Qf (.ref D) C) s4) :
    wpAny (model X.prog X.w) X.A (comprehension (.SetComp elt (⟨tg, iter, ifs, 0⟩ :: rest) scope pos) scope X.env pos' (newSet (.type "set")) false (eval iter X.env) use) Qf X.xe s := by
  have cells : ∀ y ∈ scope.names, y.2 = .free → ∃ c, X.env.cells.lookup y.1 = some c := fun y hy e => (ok.free y hy e).elim (fun k => I.ok.has _ (.inl k)) fun k => I.ok.has _ (.inr k)
  refine wpAny_comprehension_free (use := use) rfl hs (closure_ok cells) ok.kind (fun y hy e => by rw [ok.uniq y hy, e])
    (thn (hi.run pins s σ H _ I h) fun xv s1 hx => thn hx fun itv s2 h2 => ?_)
  obtain ⟨it, fp, tn, J, H2, rfl, I2, T, st2, f2, q⟩ := h2
  refine PpSet.newSet_ok (newEnv_comp ?_)
  have hn2 : H2 s2.heap.objs.size = none := I2.hok.fresh (Nat.le_refl _)
  have rd := q _ hn2
  have I3 : Inv X pins σ (upd H2 s2.heap.objs.size (SetQO X.prog X.w s2.heap.objs.size [])) { s2 with heap := s2.heap.push (newSetObj X.w) } :=
    I2.laid (t' := s2.toks) (fun b o e => Heap.get?_push_of_some _ e) (Nat.le_refl _) (qo_new (fresh_q (Heap.get?_push_size _ rfl)).q0)
  have below : ∀ b ∈ fp, b < s2.heap.objs.size := fun b hb => by
    obtain ⟨o, e, _⟩ := T.obj _ _ st2 b hb
    exact Heap.lt_size e
  have st3 : tn 0 (s2.heap.push (newSetObj X.w)) := T.keep _ _ _ st2 fun b _ o e => Heap.get?_push_of_some _ e
  have f3 : ∀ b ∈ fp, FpOk X pins (upd H2 s2.heap.objs.size (SetQO X.prog X.w s2.heap.objs.size [])) b ∧ b < (s2.heap.push (newSetObj X.w)).objs.size := fun b hb =>
    ⟨⟨by rw [upd_ne (Nat.ne_of_lt (below b hb))]; exact (f2 b hb).1, (f2 b hb).2⟩, by rw [Heap.size_push]; exact Nat.lt_succ_of_lt (below b hb)⟩
  generalize hS3 : ({ s2 with heap := s2.heap.push (newSetObj X.w) } : Shared) = s3 at I3
  have hh3 : s2.heap.push (newSetObj X.w) = s3.heap := by rw [← hS3]
  rw [hh3] at st3 f3
  generalize s2.heap.objs.size = D at I3 f3 rd hn2 ⊢
  generalize hH3 : upd H2 D (SetQO X.prog X.w D []) = H3 at I3 f3 rd
  have I4 := block_start I3 ok hN f3
  have st4 : tn 0 (pushCells (s3.heap.push { cls := .type "dict", data := .dict #[] }) scope.names) := T.keep _ _ _ st3 fun b _ o e => pushCells_keeps _ _ _ _ (Heap.get?_push_of_some _ e)
  have nfp : ∀ b ∈ fp, H3 b = none := fun b hb => (f3 b hb).1.1
  show codeAny _ _ (.compStart (.SetComp elt (⟨tg, iter, ifs, 0⟩ :: rest) scope pos) 0 (.ref it) (.ref D) (compEnvC scope (cellsFrom (s3.heap.objs.size + 1) scope.names (cloFrom X.env.cells scope.names [])) s3.heap.objs.size X.env)) (compPost (model X.prog X.w) X.A X.xe use Qf (.ref D) s3.heap.objs.size) { s3 with heap := pushCells (s3.heap.push { cls := .type "dict", data := .dict #[] }) scope.names }
  have L := loop it fp tn J D s3.heap.objs.size (cellsFrom (s3.heap.objs.size + 1) scope.names (cloFrom X.env.cells scope.names [])) s3 _ H3 rd I4 T st4 nfp
    (fun hn b hb => ⟨hn b hb, (I4.ok.exf b hb).1, I4.ok.exfs b hb, .inl hb, fun x c e => (I4.ok.exf b hb).2 x c e, fun p hp => absurd (show p ∈ ([] : List (Addr × Obj)) ++ [] from hp) (by simp)⟩)
    (fun H5 s6 I6 qq => by
      have I7 : Inv X pins σ H5 s6 := I3.call' (ch := fp) I6.os I6.base I6.hok I6.bare fun b hb => ⟨(f3 b hb).1.2.2.2.1, (f3 b hb).1.2.1, (f3 b hb).1.2.2.2.2.1, (f3 b hb).1.2.2.2.2.2⟩
      have nC : H5 s3.heap.objs.size = none := I6.free
      obtain ⟨m, hn, _⟩ := I6.loc
      exact hRR D s3.heap.objs.size s6 m H5 I7 qq hn (I3.fpOk (Nat.le_refl _) nC))
  exact PpSet.codeAny_compStart_set L (T.self X.A 0 _ _ _ st4 L)
end
section
variable {prog : Program} {w : World} {A : Around} {R : PySem.Result → Shared → Prop} {s : Shared} {env : Env}
/-- the second clause begins -/
theorem sc_start1 {elt : Expr} {c0 : Comprehension} {target iter : Expr} {ifs : List Expr} {scope : Scope} {pos : Pos} {it acc : Value}
    (h0 : codeAny (model prog w) A (.compLoop (.SetComp elt [c0, ⟨target, iter, ifs, 0⟩] scope pos) 1 it acc env) R s)
    (h : wpAny (model prog w) A (pyIter it) (fun it' s' => codeAny (model prog w) A (.compLoop (.SetComp elt [c0, ⟨target, iter, ifs, 0⟩] scope pos) 1 it' acc env) R s') (notedBy (model prog w) A env fun x s' => R (.error x) s') s) :
    codeAny (model prog w) A (.compStart (.SetComp elt [c0, ⟨target, iter, ifs, 0⟩] scope pos) 1 it acc env) R s := by
  refine codeAny_of_tree ?_
  show wpAny _ _ ((compStart (.SetComp elt [c0, ⟨target, iter, ifs, 0⟩] scope pos) 1 it acc env).onRaise (fun x => do noteFrame x env; standAt theWindowsPlace)) _ _ s
  refine wpAny_notedAt ?_
  unfold compStart
  refine wpAny_bind (wpAny_askSetting (wpAny_ite ?_))
  split
  · first
      | exact wpAny_bind (wpAny_pure (wpAny_pure (And.intro rfl h0)))
      | exact wpAny_pure (And.intro rfl h0)
  · refine wpAny_bind (wpAny_rule ?_)
    refine wpAny_bind (wpAny_standAt (wpAny_bind (wpAny_mono h (fun it' s' h' => wpAny_pure (And.intro rfl h')) fun _ _ x => x)))
end
section
variable {X : Cx}
/-! ### what is read -/
abbrev ownS (own : List (Str × Nat)) : List Nat := own.map fun p => p.2
/-- an item comes into the set at D -/
def tPut (K : PySem.W.Frag) (P : Program) (w : World) (D : Addr) (te : TE) : L2.St → Hp → (Hp → Prop) → Prop := fun σ H Nx => te σ H fun y H4 => ∃ (b : Addr) (k : List Int) (L : List (Addr × List Int)), y = .ref b ∧ SqT K H4 b (k.map V.int) ∧ H4 D = some (SetQO P w D L) ∧ (∀ p ∈ L, SqT K H4 p.1 (p.2.map V.int)) ∧ L.length + 1 < 1000 ∧
  ∀ L', (k ∈ L.map (·.2) → L' = L) → (k ∉ L.map (·.2) → L'.Perm ((b, k) :: L)) → Nx (upd H4 D (SetQO P w D L'))
/-- a walk by turns: W holds, Fin at the end, Act of an item -/
def Wlk (J : It) (W : Nat → Nat → Hp → Prop) (Fin : Hp → Prop) (Act : V → Hp → (Hp → Prop) → Prop) : Prop := ∀ i m H, W i m H → (J.stop i H ∧ Fin H) ∨ (J.go i H ∧ ∃ Nx : Hp → Prop, (∀ H', Nx H' → ∃ m', m' < m ∧ W (i + 1) m' H') ∧ ∀ x H', J.yld i H x H' → Act x H' Nx)
/-- {elt for target in iter if ..} -/
def tSc1 (K : PySem.W.Frag) (P : Program) (w : World) (wi : TI) (g : TG) (tt : TT) (te : TE) (vs : List Nat) : TE := fun σ H Q => wi σ H fun J H1 => ∀ D, H1 D = none → ∃ W : Nat → Nat → Hp → Prop, (∃ m, W 0 m (upd H1 D (SetQO P w D []))) ∧
  Wlk J W (fun H => Q (.ref D) H) fun x H' Nx => g x (wipe σ vs) H' fun σ2 H2 => wipe σ2 vs = wipe σ vs ∧ tt σ2 H2 fun b H3 => if b = true then tPut K P w D te σ2 H3 Nx else Nx H3
/-- {elt for target in iter if .. for target1 in iter1 if ..} -/
def tSc2 (K : PySem.W.Frag) (P : Program) (w : World) (wi : TI) (g : TG) (tt : TT) (wi1 : TI) (g1 : TG) (tt1 : TT) (te : TE) (vs vs1 : List Nat) : TE := fun σ H Q => wi σ H fun J H1 => ∀ D, H1 D = none → ∃ W : Nat → Nat → Hp → Prop, (∃ m, W 0 m (upd H1 D (SetQO P w D []))) ∧
  Wlk J W (fun H => Q (.ref D) H) fun x H' Nx => g x (wipe σ vs) H' fun σ2 H2 => wipe σ2 vs = wipe σ vs ∧ tt σ2 H2 fun b H3 => if b = true then wi1 σ2 H3 fun J1 H4 => ∃ W1 : Nat → Nat → Hp → Prop, (∃ m, W1 0 m H4) ∧
      Wlk J1 W1 Nx fun x1 H5 Nx1 => g1 x1 (wipe σ2 vs1) H5 fun σ3 H6 => wipe σ3 vs1 = wipe σ2 vs1 ∧ tt1 σ3 H6 fun b1 H7 => if b1 = true then tPut K P w D te σ3 H7 Nx1 else Nx1 H7
    else Nx H3
theorem knows_wipe {σ0 σ2 : L2.St} {vs : List Nat} (h : wipe σ2 vs = σ0) : Knows σ0 σ2 := ⟨by rw [← h, wipe_length], fun j v e => by rw [← h] at e; exact (wipe_some e).1⟩
/-- the act of the innermost clause -/
theorem put_act {X : Cx} {pins : List (Addr × Obj)} {elt : Expr} {te : TE} {D : Addr} {σ : L2.St} {s : Shared} {H : Hp} {Nx : Hp → Prop} (hu : X.A.units + 3 < cLine) (hxe : ∀ e s, ¬ X.xe e s) (pe : PE X elt te) (I : Inv X pins σ H s) (h : tPut X.K X.prog X.w D te σ H Nx) :
    wpAny (model X.prog X.w) X.A (do let v ← eval elt X.env; standAt elt.pos; let _ ← call (.builtin "set.add") [.ref D, v]) (fun _ s' => ∃ H', Inv X pins σ H' s' ∧ Nx H') (fun _ _ => False) s := by
  refine wpAny_bind (thnE hxe (pe.run pins s σ H _ I h) fun z s1 ⟨y, H1, I1, r1, b, k, L, ey, hb, hD, hL, hf, nx⟩ => ?_)
  subst ey
  cases r1
  refine wpAny_bind (wpAny_standAt (wpAny_bind ?_))
  exact addT_ok I1 hu hD hL hb hf fun s' L' c1 c2 I' => wpAny_pure ⟨_, I', nx L' c1 c2⟩
abbrev BlkX (X : Cx) (scope : Scope) (J : Cx → Prop) : Prop := ∀ (s : Shared) (H : Hp) (C : Addr) (cl : List (Str × Addr)) (fp : List Addr), J (X.blk s H scope (compEnvC scope cl C X.env) fp)
theorem pe_sc1 {elt tg iter : Expr} {ifs : List Expr} {scope : Scope} {own : List (Str × Nat)} {pos : Pos} {wi : TI} {g : TG} {tt : TT} {te : TE} (hc : X.calm = true) (hu : X.A.units + 3 < cLine) (hN : X.N.Nodup) (hi : PI X tg iter wi) (ok : BlkOk X.N X.env.scope scope own)
    (hg : BlkX X scope fun Y => PG Y tg g) (ht : BlkX X scope fun Y => PTs Y ifs tt) (he : BlkX X scope fun Y => PE Y elt te) (hs : ∀ x, foldedSetIterable iter X.env x = pure x := by intro _; rfl) :
    PE X (.SetComp elt [⟨tg, iter, ifs, 0⟩] scope pos) (tSc1 X.K X.prog X.w wi g tt te (ownS own)) := by
  refine ⟨fun pins s σ H Q I h => ?_⟩
  rw [PpSet.eval_SetComp]
  refine sc_enter (Q := Q) (Rd := fun J D H0 => ∃ W : Nat → Nat → Hp → Prop, (∃ m, W 0 m H0) ∧ Wlk J W (fun H => Q (.ref D) H) fun x H' Nx => g x (wipe σ (ownS own)) H' fun σ2 H2 => wipe σ2 (ownS own) = wipe σ (ownS own) ∧ tt σ2 H2 fun b H3 => if b = true then tPut X.K X.prog X.w D te σ2 H3 Nx else Nx H3)
    hc hN I hi ok hs h (fun D C s' m H' I' q hn f => ⟨m, hn, fun h'' sb => ?_⟩) fun it fp tn J D C cl s3 s4 H3 rd I4 T st4 nfp stat back => ?_
  · obtain ⟨f0, f1, f2, f3, f4, f5⟩ := f
    exact ⟨.ref D, H', I'.turned (t' := s'.toks) (fun b o hb e => (sb.2 b hb).trans e) f0 f1 f3 f4 f5, rfl, q⟩
  · obtain ⟨W, ⟨m0, w0⟩, wlk⟩ := rd
    exact clause_loop (X := X.blk s3 H3 scope (compEnvC scope cl C X.env) fp) hc (fun _ _ h => h) rfl (iter := iter) (act := fun kont => (do let v ← eval elt (compEnvC scope cl C X.env); standAt elt.pos; let _ ← call (.builtin "set.add") [.ref D, v]) >>= fun _ => kont) rfl T (hg s3 H3 C cl fp) (ht s3 H3 C cl fp) stat (ok := fun σ2 => wipe σ2 (ownS own) = wipe σ (ownS own))
      (body := fun {σ2 Hx s H Nx} o I2 b kont P E hk => wpAny_bind (thnF (put_act (X := X.blk s3 H3 scope (compEnvC scope cl C X.env) fp) hu (fun _ _ h => h) (he s3 H3 C cl fp) I2 b) fun _ s' ⟨H', I', nx⟩ => hk s' ⟨σ2, H', I', knows_wipe o, nx⟩))
      knows_wipe wlk back I4 st4 nfp w0
theorem pe_sc2 {elt tg iter tg1 iter1 : Expr} {ifs ifs1 : List Expr} {scope : Scope} {own : List (Str × Nat)} {vs1 : List Nat} {pos : Pos} {wi wi1 : TI} {g g1 : TG} {tt tt1 : TT} {te : TE} (hc : X.calm = true) (hu : X.A.units + 3 < cLine) (hN : X.N.Nodup) (hi : PI X tg iter wi) (ok : BlkOk X.N X.env.scope scope own) (hv : ∀ i ∈ vs1, i ∈ ownS own)
    (hg : BlkX X scope fun Y => PG Y tg g) (ht : BlkX X scope fun Y => PTs Y ifs tt) (hi1 : BlkX X scope fun Y => PI Y tg1 iter1 wi1) (hg1 : BlkX X scope fun Y => PG Y tg1 g1) (ht1 : BlkX X scope fun Y => PTs Y ifs1 tt1) (he : BlkX X scope fun Y => PE Y elt te)
    (hs : ∀ x, foldedSetIterable iter X.env x = pure x := by intro _; rfl) (hs1 : ∀ env x, foldedSetIterable iter1 env x = pure x := by intro _ _; rfl) :
    PE X (.SetComp elt [⟨tg, iter, ifs, 0⟩, ⟨tg1, iter1, ifs1, 0⟩] scope pos) (tSc2 X.K X.prog X.w wi g tt wi1 g1 tt1 te (ownS own) vs1) := by
  refine ⟨fun pins s σ H Q I h => ?_⟩
  rw [PpSet.eval_SetComp]
  refine sc_enter (Q := Q) (Rd := fun J D H0 => ∃ W : Nat → Nat → Hp → Prop, (∃ m, W 0 m H0) ∧ Wlk J W (fun H => Q (.ref D) H) fun x H' Nx => g x (wipe σ (ownS own)) H' fun σ2 H2 => wipe σ2 (ownS own) = wipe σ (ownS own) ∧ tt σ2 H2 fun b H3 => if b = true then wi1 σ2 H3 fun J1 H4 => ∃ W1 : Nat → Nat → Hp → Prop, (∃ m, W1 0 m H4) ∧
      Wlk J1 W1 Nx fun x1 H5 Nx1 => g1 x1 (wipe σ2 vs1) H5 fun σ3 H6 => wipe σ3 vs1 = wipe σ2 vs1 ∧ tt1 σ3 H6 fun b1 H7 => if b1 = true then tPut X.K X.prog X.w D te σ3 H7 Nx1 else Nx1 H7
    else Nx H3)
    hc hN I hi ok hs h (fun D C s' m H' I' q hn f => ⟨m, hn, fun h'' sb => ?_⟩) fun it fp tn J D C cl s3 s4 H3 rd I4 T st4 nfp stat back => ?_
  · obtain ⟨f0, f1, f2, f3, f4, f5⟩ := f
    exact ⟨.ref D, H', I'.turned (t' := s'.toks) (fun b o hb e => (sb.2 b hb).trans e) f0 f1 f3 f4 f5, rfl, q⟩
  · obtain ⟨W, ⟨m0, w0⟩, wlk⟩ := rd
    refine clause_loop (X := X.blk s3 H3 scope (compEnvC scope cl C X.env) fp) hc (fun _ _ h => h) rfl (iter := iter)
      (act := fun kont => do
        let x ← eval iter1 (compEnvC scope cl C X.env)
        standAt iter1.pos
        let x ← foldedSetIterable iter1 (compEnvC scope cl C X.env) x
        let _ ← runOwn (.compStart (.SetComp elt [⟨tg, iter, ifs, 0⟩, ⟨tg1, iter1, ifs1, 0⟩] scope pos) 1 (← holding [x] (pyIter x)) (.ref D) (compEnvC scope cl C X.env)) (compEnvC scope cl C X.env)
        kont)
      rfl T (hg s3 H3 C cl fp) (ht s3 H3 C cl fp) stat (ok := fun σ2 => wipe σ2 (ownS own) = wipe σ (ownS own)) (body := fun {σ2 Hx s5 H5 Nx} o I2 b kont P E hk => ?_)
      knows_wipe wlk back I4 st4 nfp w0
    refine wpAny_bind (thnF ((hi1 s3 H3 C cl fp).run _ s5 σ2 H5 _ I2 b) fun xv s6 h6 => ?_)
    refine wpAny_bind (wpAny_standAt (wpAny_bind (wpAny_of_eq (hs1 _ xv) (wpAny_bind (wpAny_holding (thnF h6 fun itv s7 h7 => ?_))))))
    obtain ⟨it1, fp1, tn1, J1, H7, rfl, I7, T1, st7, f7, W1, ⟨m1, w1⟩, wlk1⟩ := h7
    refine wpAny_bind (wpAny_runOwn ?_)
    rw [Around.mark_none]
    have L : codeAny (model X.prog X.w) X.A (.compLoop (.SetComp elt [⟨tg, iter, ifs, 0⟩, ⟨tg1, iter1, ifs1, 0⟩] scope pos) 1 (.ref it1) (.ref D) (compEnvC scope cl C X.env)) (fun r s' => match r with
        | .ok _ => ∃ H', L2.Inv (X.blk s3 H3 scope (compEnvC scope cl C X.env) fp) ([] ++ pinsAt fp Hx) (wipe σ2 vs1) H' s' ∧ Nx H'
        | .error _ => False) s7 :=
      clause_loop (X := X.blk s3 H3 scope (compEnvC scope cl C X.env) fp) hc (fun _ _ h => h) rfl (iter := iter1) (act := fun kont => (do let v ← eval elt (compEnvC scope cl C X.env); standAt elt.pos; let _ ← call (.builtin "set.add") [.ref D, v]) >>= fun _ => kont) rfl T1 (hg1 s3 H3 C cl fp) (ht1 s3 H3 C cl fp) (fun hn b hb => ⟨hn b hb, (f7 b hb).2⟩) (ok := fun σ3 => wipe σ3 vs1 = wipe σ2 vs1)
        (body := fun {σ3 Hy s8 H8 Ny} o3 I8 b8 kont P E hk => wpAny_bind (thnF (put_act (X := X.blk s3 H3 scope (compEnvC scope cl C X.env) fp) hu (fun _ _ h => h) (he s3 H3 C cl fp) I8 b8) fun _ s' ⟨H', I', nx⟩ => hk s' ⟨σ3, H', I', knows_wipe o3, nx⟩))
        knows_wipe wlk1 (fun H' s' I' nx => ⟨H', I', nx⟩) (I7.weak (wipe_length _ _) fun j v e => (wipe_some e).1) st7 (fun b hb => (f7 b hb).1) w1
    have kw : Knows (wipe σ (ownS own)) (wipe σ2 vs1) := by
      refine ⟨by rw [← o, wipe_length, wipe_length], fun j v e => ?_⟩
      rw [← o] at e
      obtain ⟨e1, e2⟩ := wipe_some e
      rw [wipe_out fun z => e2 (hv j z)]
      exact e1
    refine codeAny_mono (sc_start1 L (T1.self X.A 0 _ _ _ st7 L)) fun r s' hr => ?_
    cases r with
    | error e => exact hr.elim
    | ok f =>
      obtain ⟨H', I', nx⟩ := hr
      exact hk s' ⟨wipe σ2 vs1, H', I', kw, nx⟩
end
end Om.Bg

/-! sorted of a set of tuples of ints of any lengths -/
namespace Om.Bg
open Om PySem PySem.Spec PyProof.Rows L2 PySem.W PySem.SeqAt
theorem perm_of_map {α β : Type} (f : α → β) : ∀ {vs ws : List β}, vs.Perm ws → ∀ L : List α, ws = L.map f → ∃ L1 : List α, L1.Perm L ∧ vs = L1.map f := by
  intro vs ws p
  induction p with
  | nil => exact fun L e => ⟨L, .refl _, e⟩
  | cons x _ ih =>
    intro L e
    cases L with
    | nil => cases e
    | cons y L =>
      injection e with e1 e2
      obtain ⟨L1, h1, h2⟩ := ih L e2
      exact ⟨y :: L1, h1.cons y, by rw [List.map_cons, ← h2, e1]⟩
  | swap x y l =>
    intro L e
    cases L with
    | nil => cases e
    | cons a L =>
      cases L with
      | nil => cases e
      | cons b L =>
        injection e with e1 e2
        injection e2 with e2 e3
        exact ⟨b :: a :: L, .swap a b L, by rw [List.map_cons, List.map_cons, ← e1, ← e2, ← e3]⟩
  | trans _ _ ih1 ih2 =>
    intro L e
    obtain ⟨L2, h3, h4⟩ := ih2 L e
    obtain ⟨L1, h1, h2⟩ := ih1 L2 h4
    exact ⟨L1, h1.trans h3, h2⟩
/-- a tuple of ints, as data -/
def itup (ns : List Int) : PyData := .tuple (ns.map .int)
theorem itup_alike (a b : List Int) : alike (itup a) (itup b) = true := by
  show alike (.tuple (a.map .int)) (.tuple (b.map .int)) = true
  rw [alike]
  exact PySem.W.alike_ints a b
theorem itup_depth (a : List Int) : (itup a).depth = 1 := by
  show (PyData.tuple (a.map .int)).depth = 1
  simp [PyData.depth, PySem.W.depth_ints]
section
variable {prog : Program} {w : World} {A : Around} {E : Value → Shared → Prop} {s : Shared}
theorem mapM_each {α β : Type} {M : Model} {f : α → Sem β} {g : α → β} : ∀ (l : List α) {Q : List β → Shared → Prop}, (∀ v ∈ l, ∀ (Q' : β → Shared → Prop), Q' (g v) s → wpAny M A (f v) Q' E s) → Q (l.map g) s → wpAny M A (l.mapM f) Q E s
  | [], _, _, h => by rw [List.mapM_nil]; exact wpAny_pure h
  | x :: l, Q, hf, h => by
    rw [List.mapM_cons]
    exact wpAny_bind (hf x (.head _) _ (wpAny_bind (mapM_each l (Q := fun bs s' => wpAny M A (pure (g x :: bs)) Q E s') (fun v hv => hf v (.tail _ hv)) (wpAny_pure h))))
/-- one tuple of ints against another, as sorting compares -/
theorem oneLt_itup {f : Bool} {x y : List Int} {a b : Value} {as bs : List Addr} {Q : Bool → Shared → Prop} (ra : Reads s.heap a (itup x) as) (rb : Reads s.heap b (itup y) bs) (hu : A.units + 1 < cLine) (hq : Q (dataLt (itup x) (itup y)) s) : wpAny (model prog w) A (oneLt' f a b) Q E s := by
  have hroom : A.units + min (itup x).depth (itup y).depth < cLine := by rw [itup_depth, itup_depth]; exact hu
  cases f with
  | false => exact oneLt_alike (fun h => nomatch h) ra rb (itup_alike x y) (fun h => nomatch h) hroom hq
  | true =>
    have hal : alikeAll (x.map PyData.int) (y.map PyData.int) = true := PySem.W.alike_ints x y
    have hq' : Q (dataLt (.tuple (x.map .int)) (.tuple (y.map .int))) s := hq
    cases ra with
    | @tuple l o vs n _ as₁ h1 h2 h3 h4 =>
      cases rb with
      | @tuple l' o' vs' n' _ bs₁ k1 k2 k3 k4 =>
        have n1 : vs.size = (x.map PyData.int).length := by simpa using ReadsAll.length _ _ _ h4
        have n2 : vs'.size = (y.map PyData.int).length := by simpa using ReadsAll.length _ _ _ k4
        rw [dataLt_tuple, ← firstLt_toks _ _ hal, ← n1, ← n2] at hq'
        obtain ⟨cls, dd, data, sl⟩ := o
        obtain ⟨cls2, dd2, data2, sl2⟩ := o'
        simp only at h2 h3 k2 k3
        subst h2 h3 k2 k3
        rw [oneLt'_eq]
        simp only [if_true]
        refine wpAny_bind (wpAny_cRoomFor (by omega) ?_)
        refine wpAny_bind (wpAny_callSpecialIfBound?_slot (T := "tuple") ⟨_, h1, rfl⟩ PySem.F.slot_tuple_lt (call_meets PySem.F.slot_tuple_lt ⟨_, h1, rfl⟩ PySem.F.entry_tuple_lt (PySem.F.args_tuple_lt_2 _ _) (tuple_ltAt l l' vs vs' n n' dd dd2 sl sl2 (pairEq (x.map .int) (y.map .int)) fun j => dataLt ((x.map PyData.int).getD j .none) ((y.map PyData.int).getD j .none)) ⟨h1, k1, fun j j1 j2 => ?_, fun j j1 j2 hj => ?_, ?_⟩))
        · have hr : A.units + min (PyData.tuple (x.map .int)).depth (PyData.tuple (y.map .int)).depth < cLine := hroom
          have := eqAt_alikeAll (x.map .int) (y.map .int) A.in1 s vs.toList vs'.toList _ _ h4 k4 hal (room_in hr) j (by simpa using j1) (by simpa using j2)
          simpa using this
        · have hr : A.units + min (PyData.tuple (x.map .int)).depth (PyData.tuple (y.map .int)).depth < cLine := hroom
          have := rcLt_alikeAll (x.map .int) (y.map .int) A.in1 s vs.toList vs'.toList _ _ h4 k4 hal (room_in hr) j (by simpa using j1) (by simpa using j2) hj
          simpa using this
        · exact wpAny_truthy_bool hq'
/-- the first item of a tuple of ints, if there is one -/
def fstI (h : Heap) (v : Value) : Option Value := match v with
  | .ref a => match h.get? a with
    | some o => match o.data with
      | .seq items _ => items[0]?
      | _ => none
    | none => none
  | _ => none
theorem first_itup {x : List Int} {a : Value} {as : List Addr} {Q : Option Value → Shared → Prop} (ra : Reads s.heap a (itup x) as) (h : Q (fstI s.heap a) s) : wpAny (model prog w) A (firstOfTuple' a) Q E s := by
  cases ra with
  | @tuple l o vs n _ as₁ h1 h2 h3 h4 =>
    have e : fstI s.heap (.ref l) = vs[0]? := by
      unfold fstI
      simp only [h1, h3]
    rw [e] at h
    rw [kas_first_eq]
    refine wpAny_bind (Looks.here (show Looks (model prog w) s.heap (typeOf (.ref l)) o.cls from (Looks.ld h1).andThen .now) ?_)
    rw [h2, if_neg (by first | decide | simp)]
    exact wpAny_bind (listItems_at h1 h3 (wpAny_pure h))
theorem fst_some {h : Heap} {x : List Int} {a : Value} {as : List Addr} (ra : Reads h a (itup x) as) : (fstI h a).isSome = !x.isEmpty := by
  cases ra with
  | @tuple l o vs n _ as₁ h1 h2 h3 h4 =>
    have e : fstI h (.ref l) = vs[0]? := by
      unfold fstI
      simp only [h1, h3]
    have n1 : vs.size = x.length := by
      have := ReadsAll.length _ _ _ h4
      simpa using this
    rw [e]
    cases x with
    | nil => rw [show vs[0]? = none from Array.getElem?_eq_none (by rw [n1]; exact Nat.zero_le _)]; rfl
    | cons y ys =>
      have hp : 0 < vs.size := by rw [n1]; exact Nat.succ_pos _
      rw [Array.getElem?_eq_getElem hp]; rfl
theorem type_itup {M : Model} {h : Heap} {x : List Int} {a : Value} {as : List Addr} (ra : Reads h a (itup x) as) : Looks M h (typeOf a) (.type "tuple") := looks_reads ra
/-- tuples of ints can be sorted, whatever their lengths are -/
theorem sorts_itups {vs : List Value} {bs : List (List Int)} (e : EachIs (fun v d => ∃ as, Reads s.heap v d as) vs (bs.map itup)) (hu : A.units + 1 < cLine) : SortsAt prog w A s (dataKind s.heap (bs.map itup)) vs := by
  have hal : AllAlike (bs.map itup) := AllAlike.of itup_alike
  by_cases hne : ∀ b ∈ bs, b ≠ []
  · refine SortsAt.data e hal (.inl fun d hd => ?_) fun d hd => ?_
    · obtain ⟨b, hb, rfl⟩ := List.mem_map.mp hd
      cases b with
      | nil => exact absurd rfl (hne _ hb)
      | cons y ys => exact ⟨_, _, rfl⟩
    · obtain ⟨b, _, rfl⟩ := List.mem_map.mp hd
      rw [itup_depth]
      exact hu
  have rd : ∀ v ∈ vs, ∃ x ∈ bs, ∃ as, Reads s.heap v (itup x) as := fun v hv => by
    obtain ⟨d, hd, as, r⟩ := e.left v hv
    obtain ⟨x, hx, rfl⟩ := List.mem_map.mp hd
    exact ⟨x, hx, as, r⟩
  have lt : ∀ f : Bool, ∀ (E : Value → Shared → Prop) (x y : Value) (a b : List (Int ⊕ List Nat)) {Q : Bool → Shared → Prop}, (dataKind s.heap (bs.map itup)).keyOf x = some a → (dataKind s.heap (bs.map itup)).keyOf y = some b → Q ((dataKind s.heap (bs.map itup)).blt a b) s → wpAny (model prog w) A (oneLt' f x y) Q E s := by
    intro f E x y a b Q ha hb hq
    obtain ⟨d, as, hd, ra, rfl⟩ := dataKind_inv ha
    obtain ⟨d', as', hd', rb, rfl⟩ := dataKind_inv hb
    obtain ⟨p, _, rfl⟩ := List.mem_map.mp hd
    obtain ⟨q, _, rfl⟩ := List.mem_map.mp hd'
    exact oneLt_itup ra rb hu hq
  have keys : ∀ v, v ∈ vs → ∃ a, (dataKind s.heap (bs.map itup)).keyOf v = some a := fun v hv => by
    obtain ⟨d, hd, as, r⟩ := e.left v hv
    exact ⟨_, dataKind_some hal hd r⟩
  have some_nil : ∃ v ∈ vs, (fstI s.heap v).isSome = false := by
    refine Classical.byContradiction fun hn => hne fun b hb e2 => hn ?_
    subst e2
    have : ∀ {vs : List Value} {bs : List (List Int)}, EachIs (fun v d => ∃ as, Reads s.heap v d as) vs (bs.map itup) → [] ∈ bs → ∃ v ∈ vs, (fstI s.heap v).isSome = false := by
      intro vs bs
      induction bs generalizing vs with
      | nil => exact fun _ hb => absurd hb (by simp)
      | cons b bs ih =>
        intro e hb
        cases e with
        | @cons v _ vs' _ h t =>
          rcases List.mem_cons.mp hb with z | z
          · subst z
            obtain ⟨as, r⟩ := h
            exact ⟨v, List.mem_cons_self, by rw [fst_some r]; rfl⟩
          · obtain ⟨u, hu, k⟩ := ih t z
            exact ⟨u, List.mem_cons_of_mem _ hu, k⟩
    exact this e hb
  obtain ⟨v0, hv0, k0⟩ := some_nil
  have hall : ¬ (((vs.map (fstI s.heap)).toArray.all fun x => x.isSome) = true) := by
    simp only [List.all_toArray, List.all_map, List.all_eq_true]
    intro h
    have := h v0 hv0
    simp only [Function.comp] at this
    rw [k0] at this
    cases this
  have first : ∀ (E : Value → Shared → Prop) {Q : List (Option Value) → Shared → Prop}, Q (vs.map (fstI s.heap)) s → wpAny (model prog w) A (vs.mapM firstOfTuple') Q E s := fun E Q h => mapM_each vs (fun v hv Q' q => by
    obtain ⟨x, _, as, r⟩ := rd v hv
    exact first_itup r q) h
  by_cases h0 : (((vs.map (fstI s.heap)).toArray[0]?).bind id).isSome = true
  · refine ⟨keys, general', fun E x y a b Q ha hb hq => lt false E x y a b ha hb hq, fun h2 E Q hq => ?_⟩
    rw [keyKind'_eq, List.mapM_toArray, map_eq_pure_bind]
    refine wpAny_bind (wpAny_bind (first E (wpAny_pure ?_)))
    rw [if_neg hall, if_pos h0]
    exact wpAny_pure hq
  · refine ⟨keys, oneType', fun E x y a b Q ha hb hq => by rw [keyLt'_oneType]; exact lt true E x y a b ha hb hq, fun h2 E Q hq => ?_⟩
    rw [keyKind'_eq, List.mapM_toArray, map_eq_pure_bind]
    refine wpAny_bind (wpAny_bind (first E (wpAny_pure ?_)))
    rw [if_neg hall, if_neg h0]
    rw [oneTypeOnly'_eq, List.mapM_toArray, map_eq_pure_bind]
    refine wpAny_bind (wpAny_bind (wpAny_bind (kas_mapM (r := Value.type "tuple") _ (fun v hv Q' q => by
      obtain ⟨x, _, as, r⟩ := rd v hv
      exact (type_itup r).here q) (wpAny_pure ?_))))
    obtain ⟨v₁, rest, e1⟩ : ∃ v₁ rest, vs = v₁ :: rest := by
      cases vs with
      | nil => simp at h2
      | cons v r => exact ⟨v, r, rfl⟩
    subst e1
    have hall2 : ((List.map (fun _ => Value.type "tuple") (v₁ :: rest)).toArray.all fun x => x == Value.type "tuple") = true := by
      simp only [List.all_toArray, List.all_map, List.all_eq_true]
      intro _ _
      exact beq_self_eq_true _
    have h0 : (List.map (fun _ => Value.type "tuple") (v₁ :: rest)).toArray[0]? = some (Value.type "tuple") := by simp
    rw [h0]
    simp only [hall2, if_true]
    exact wpAny_pure (wpAny_pure hq)
theorem lt_tup_list (xs ys : List PyData) : dataLt (.tuple xs) (.tuple ys) = dataLt (.list xs) (.list ys) := by
  unfold dataLt
  rw [keyToks, keyToks, keyToks, keyToks]
theorem le_itup {β : Type} (x : β → List Int) : dataLe false (fun b => itup (x b)) = fun p q => decide (x p ≤ x q) := by
  rw [← dataLe_rows, dataLe_eq, dataLe_eq]
  funext a b
  show (!dataLt (.tuple _) (.tuple _)) = (!dataLt (.list _) (.list _))
  rw [lt_tup_list]
theorem sort_itup (L1 : List (Addr × List Int)) : (L1.mergeSort (dataLe false fun q => itup q.2)).Pairwise fun q r => q.2 ≤ r.2 := by
  rw [le_itup fun q : Addr × List Int => q.2]
  refine List.Pairwise.imp (fun h => of_decide_eq_true h) (List.pairwise_mergeSort (le := fun p q : Addr × List Int => decide (p.2 ≤ q.2)) (fun a b c h1 h2 => decide_eq_true (List.le_trans (of_decide_eq_true h1) (of_decide_eq_true h2))) (fun a b => ?_) L1)
  rcases List.le_total a.2 b.2 with h | h
  · rw [decide_eq_true h, Bool.true_or]
  · rw [decide_eq_true h, Bool.or_true]
/-- sorted(a set of tuples of ints): a list of its members -/
theorem sorted_setG {P : Program} {w : World} {A : Around} {E : Value → Shared → Prop} {s : Shared} {a : Addr} {L : List (Addr × List Int)} {es : Array (Int × Value)} {ep : Nat} {t : SetTable} {Q : Value → Shared → Prop} (R : SetQ P w s.heap a L es ep t) (hh : A.handled = none) (hu : A.units + 64 < cLine)
    (hQ : ∀ s' p (out : Array Value) (c : Nat) (L' : List (Addr × List Int)), (∀ b o, s.heap.get? b = some o → s'.heap.get? b = some o) → s'.gens = s.gens → s'.os = s.os → s.heap.objs.size ≤ p →
      s'.heap.get? p = some (seqObj "list" out c) → out.toList = L'.map (fun q => Value.ref q.1) → L'.Perm L → (L'.Pairwise fun q r => q.2 ≤ r.2) → Q (.ref p) s') :
    wpAny (model P w) A (call (.builtin "sorted") [.ref a]) Q E s := by
  obtain ⟨o, ho, hex, hd⟩ := R.obj
  have hsz := rows_len R.es_
  have hfew := R.few
  refine Calls.call_function_entry kind_sorted plain_sorted entry_sorted (args_sorted1 _) ?_
  unfold Builtin.«sorted»
  refine wpAny_bind (m := checkCount "sorted" 1 1 _) (wpAny_pure ?_)
  refine wpAny_bind (collect_set (A := A.in1) hh ⟨o, ho, hex.1, hd⟩ R.fits (by unfold scanBound; omega) R.tab.up R.led fun s1 vs k1 hz g1 o1 pm => ?_)
  have hes : es.toList.map (·.2) = L.map fun q => Value.ref q.1 := by
    rw [R.es_]
    unfold L2.rowsOf
    rw [List.map_map]
    rfl
  rw [hes] at pm
  obtain ⟨L1, p1, e1⟩ := perm_of_map (fun q : Addr × List Int => Value.ref q.1) pm L rfl
  have hvl : vs.length ≤ sizeLine := by rw [e1, List.length_map, p1.length_eq, sizeLine_eq]; omega
  refine wpAny_bind (wpAny_newList ?_ hvl)
  have hoL : (s1.heap.push (seqObj "list" vs.toArray 0)).get? s1.heap.objs.size = some (seqObj "list" vs.toArray 0) := Heap.get?_push_size _ rfl
  have old : ∀ b u, s.heap.get? b = some u → (s1.heap.push (seqObj "list" vs.toArray 0)).get? b = some u := fun b u e => Heap.get?_push_of_some _ (k1 b u e)
  have rdAll : ∀ (h' : Heap), (∀ b u, s.heap.get? b = some u → b ≠ s1.heap.objs.size → h'.get? b = some u) → ∀ q ∈ L, ∃ as, Reads h' (.ref q.1) (itup q.2) as := by
    intro h' hk q hq
    obtain ⟨b, items, n, hb⟩ := id (R.tups q hq)
    obtain ⟨hbo, hbc, hbd, hbi⟩ := hb
    have hne : q.1 ≠ s1.heap.objs.size := fun z => by
      have := Heap.lt_size (k1 _ _ hbo)
      rw [z] at this
      exact absurd this (Nat.lt_irrefl _)
    have rdI : ∀ (ks : List Int) (us : List Value), ItemsAre (intKind P w) ks us → ∃ as, ReadsAll h' us (ks.map PyData.int) as := by
      intro ks us it
      induction it with
      | nil => exact ⟨_, .nil⟩
      | @cons k u ks us h1 _ ih =>
        obtain ⟨as, r⟩ := ih
        have hi : Value.isInt k u = true := h1
        obtain ⟨tk, rfl⟩ := Value.isInt_shape hi
        exact ⟨_, .cons (.int _ _) r⟩
    obtain ⟨as, r⟩ := rdI _ _ hbi
    exact ⟨_, .tuple (hk _ _ hbo hne) hbc hbd r⟩
  have eachR : ∀ (h' : Heap), (∀ b u, s.heap.get? b = some u → b ≠ s1.heap.objs.size → h'.get? b = some u) → ∀ L2 : List (Addr × List Int), (∀ q ∈ L2, q ∈ L) → EachIs (fun v d => ∃ as, Reads h' v d as) (L2.map fun q => Value.ref q.1) ((L2.map (·.2)).map itup) := by
    intro h' hk L2
    induction L2 with
    | nil => exact fun _ => .nil
    | cons q L2 ih => exact fun hs => .cons (rdAll h' hk q (hs q List.mem_cons_self)) (ih fun r hr => hs r (List.mem_cons_of_mem _ hr))
  have hk2 : ∀ b u, s.heap.get? b = some u → b ≠ s1.heap.objs.size → (sortingHeap (s1.heap.push (seqObj "list" vs.toArray 0)) s1.heap.objs.size vs).get? b = some u := fun b u e hb => sortingHeap_old hb (old b u e)
  have e2 := eachR _ hk2 L1 fun q hq => p1.mem_iff.mp hq
  rw [← e1] at e2
  have units1 : A.in1.in1.units + 1 < cLine := by show A.units + 1 + 1 + 1 < cLine; omega
  have R' : EachIs (fun (v : Value) (q : Addr × List Int) => v = Value.ref q.1) vs L1 := by
    rw [e1]
    clear e1 e2 hvl p1
    induction L1 with
    | nil => exact .nil
    | cons q L1 ih => exact .cons rfl ih
  have eb : (L1.map (·.2)).map itup = L1.map fun q => itup q.2 := by rw [List.map_map]; rfl
  have er : EachIs (fun (v : Value) (q : Addr × List Int) => ∃ as, Reads (sortingHeap (s1.heap.push (seqObj "list" vs.toArray 0)) s1.heap.objs.size vs) v (itup q.2) as) vs L1 := by
    have : ∀ {vs : List Value} {L1 : List (Addr × List Int)} {h' : Heap}, EachIs (fun v d => ∃ as, Reads h' v d as) vs ((L1.map (·.2)).map itup) → EachIs (fun (v : Value) (q : Addr × List Int) => ∃ as, Reads h' v (itup q.2) as) vs L1 := by
      intro vs L1 h'
      induction L1 generalizing vs with
      | nil => intro e; cases e; exact .nil
      | cons q L1 ih => intro e; cases e with | cons h t => exact .cons h (ih t)
    exact this e2
  have S := sorts_itups (prog := P) (w := w) (A := A.in1.in1) (s := { s1 with heap := sortingHeap (s1.heap.push (seqObj "list" vs.toArray 0)) s1.heap.objs.size vs }) e2 units1
  refine wpAny_bind (wpAny_holding (wpAny_call_entry (s := { s1 with heap := s1.heap.push (seqObj "list" vs.toArray 0) }) slot_list_sort ⟨_, hoL, rfl⟩ entry_list_sort (list_sort_vals hoL S hvl ⟨.none, rfl, ?_⟩) (args_list_sort _)))
  have out := sortVals_data (enc := fun q : Addr × List Int => itup q.2) false R' er (by rw [← eb]; exact AllAlike.of itup_alike)
  rw [eb]
  generalize hov : sortVals (dataKind (sortingHeap (s1.heap.push (seqObj "list" vs.toArray 0)) s1.heap.objs.size vs) (L1.map fun q => itup q.2)) false vs vs = ov at out ⊢
  obtain ⟨c, hc⟩ := sortedHeap_at (vs := vs) (out := ov.toArray) hoL
  have eo : ∀ {ov : List Value} {L2 : List (Addr × List Int)}, EachIs (fun (v : Value) (q : Addr × List Int) => v = Value.ref q.1) ov L2 → ov = L2.map fun q => Value.ref q.1 := by
    intro ov L2 e
    induction e with
    | nil => rfl
    | cons h _ ih => rw [h, ih]; rfl
  refine wpAny_pure ⟨_, rfl, hQ _ s1.heap.objs.size ov.toArray c (L1.mergeSort (dataLe false fun q => itup q.2)) (fun b u e => ?_) g1 o1 hz hc (by simpa using eo out) ((List.mergeSort_perm _ _).trans p1) (sort_itup L1)⟩
  have q := k1 b u e
  have hlt := Heap.lt_size q
  show (sortedHeap (s1.heap.push (seqObj "list" vs.toArray 0)) s1.heap.objs.size vs ov.toArray).get? b = some u
  rw [sortedHeap_old (Nat.ne_of_lt hlt) (by rw [size_push']; exact Nat.lt_succ_of_lt hlt)]
  exact Heap.get?_push_of_some _ q
end
/-! ### over the layer -/
/-- sorted(a set of tuples of ints): a new list of its members, in some order -/
def rSortSet (K : PySem.W.Frag) (P : Program) (w : World) : List V → Hp → VK → Prop := fun vs H Q => ∃ (a : Addr) (L : List (Addr × List Int)), vs = [V.ref a] ∧ H a = some (SetQO P w a L) ∧ (∀ p ∈ L, SqT K H p.1 (p.2.map V.int)) ∧
  ∀ (L' : List (Addr × List Int)) (p : Addr), L'.Perm L → (L'.map (·.2)).Nodup → (L'.Pairwise fun q r => q.2 ≤ r.2) → H p = none → Q (.ref p) (upd H p (.lst (L'.map fun q => V.ref q.1)))
theorem cr_sortSet {X : Cx} (hc : X.calm = true) (hu : X.A.units + 64 < cLine) : CallR X (.builtin "sorted") (rSortSet X.K X.prog X.w) := by
  intro pins s σ H vs us Q I r h
  obtain ⟨a, L, rfl, ha, hk, q⟩ := h
  have R0 : SetQ0 X.prog X.w s.heap a L := (I.hok a _ ha).1
  obtain ⟨es, ep, t, R⟩ := R0.all fun p hp => I.isT (hk p hp)
  rw [Vals.ref1 r]
  refine sorted_setG R (I.ok.hd hc) hu fun s' p out c L' k g o hp hg hout pm pw => ?_
  have hlen : (L'.map fun q => V.ref q.1).length ≤ sizeLine := by rw [List.length_map, pm.length_eq, sizeLine_eq]; have := R.few; omega
  have hn : H p = none := I.hok.fresh hp
  have hv : Vals (L'.map fun q => V.ref q.1) out.toList := by rw [hout]; exact vals_of_refs L'
  have J : Inv X pins σ (upd H p (.lst (L'.map fun q => V.ref q.1))) { s with heap := s'.heap, gens := s'.gens, drawn := s'.drawn, toks := s'.toks } :=
    I.call (ch := []) (Un.laid k hp hn) (I.hok.laid k hp ⟨hlen, out.toList, c, hv, hg⟩) (by rw [g]; exact I.bare) (fun _ z => nomatch z)
  have e : s' = { s with heap := s'.heap, gens := s'.gens, drawn := s'.drawn, toks := s'.toks } := by
    cases s'
    cases s
    cases o
    rfl
  rw [e]
  exact ⟨.ref p, _, J, rfl, q L' p pm ((pm.map (·.2)).nodup_iff.mpr R.nd) pw hn⟩
end Om.Bg

namespace Om
open PySem PySem.Spec PyProof.Rows L2
/-- a def of the top -/
abbrev FnP (K : PySem.W.Frag) (x qual : Str) (st : Stmt) (f : Addr) (fd : FuncData) : Prop := FunD K x qual (defArgs st) (defBody st) (defScope st) [] [] f fd
/-- a def as its callers know it -/
structure Cal (P : Program) (w : World) (K : PySem.W.Frag) (mg : Str → Option Value) (base : Heap) (CX : CXT) (k : Nat) (x : Str) (ps : List Str) (sp : Sp) : Prop where
  ex : ∃ (f : Addr) (fd : FuncData), FnOk P w K mg base CX k f fd ps sp ∧ mg x = some (.ref f) ∧ PySem.W.keepIn K (.ref f) = true ∧ Binds K fd ps []
theorem pe_cal {X : Cx} {CX : CXT} {k : Nat} {x : Str} {ps : List Str} {sp : Sp} {E : XK} {e : Expr} {es : List Expr} {t : TA} {p pos : Pos} (C : Cal X.prog X.w X.K X.mg X.base CX k x ps sp) (hr : Room k X.A) (hx : Passes CX X E) (ha : PA X (e :: es) t) (hg : Gl X x := by rfl)
    (hdb : (x == ("__debug__" : Str)) = false := by decide) (he : starEach (e :: es) X.env = (false, eval e X.env) :: starEach es X.env := by rfl) (hpl : (backTo pos (starEach es X.env)).any (·.1) = false := by rfl) :
    PE X (.Call (.Name x p) (e :: es) [] pos) (tCall sp [] E t) := by
  obtain ⟨f, fd, F, hm, hk, hb⟩ := C.ex
  exact pe_call F hr hg hm hk hb .nil hx ha (hdb := hdb) (he := he) (hpl := hpl)
/-- all but two objects stay -/
def Kp (b l : Addr) (H H' : Hp) : Prop := ∀ c o, H c = some o → c ≠ b → c ≠ l → H' c = some o
theorem Kp.refl (b l : Addr) (H : Hp) : Kp b l H H := fun _ _ h _ _ => h
theorem Kp.trans {b l : Addr} {H H1 H2 : Hp} (a : Kp b l H H1) (c : Kp b l H1 H2) : Kp b l H H2 := fun x o h n1 n2 => c x o (a x o h n1 n2) n1 n2
theorem Kp.of {b l : Addr} {H H' : Hp} (a : Same H H') : Kp b l H H' := fun x o h _ _ => a x o h
theorem Kp.upd1 {b l : Addr} {H H' : Hp} {o : HO} (a : Kp b l H H') : Kp b l H (upd H' b o) := fun x u h n1 n2 => by rw [upd_ne n1]; exact a x u h n1 n2
theorem Kp.upd2 {b l : Addr} {H H' : Hp} {o : HO} (a : Kp b l H H') : Kp b l H (upd H' l o) := fun x u h n1 n2 => by rw [upd_ne n2]; exact a x u h n1 n2
theorem Same.new {H H' : Hp} {p : Addr} {o : HO} (a : Same H H') (h : H' p = none) : Same H (upd H' p o) := fun x u e => by
  rw [upd_ne (ne_of_none (a x u e) h)]
  exact a x u e
/-- the box of numbers that a law draws from -/
structure Box (H : Hp) (b l : Addr) : Prop where
  ex : ∃ (ns : List Int) (z : Int), H b = some (.lst [.ref l, .int z]) ∧ H l = some (.lst (ns.map V.int)) ∧ ns.length ≤ 63
theorem Box.ne {H : Hp} {b l : Addr} (B : Box H b l) : b ≠ l := by
  obtain ⟨ns, z, h1, h2, _⟩ := B.ex
  refine ne_of h1 h2 fun e => ?_
  have e2 : [V.ref l, V.int z] = ns.map V.int := HO.lst.inj e
  cases ns with
  | nil => cases e2
  | cons n r =>
    injection e2 with e3 _
    cases e3
theorem Box.same {H H' : Hp} {b l : Addr} (B : Box H b l) (s : Same H H') : Box H' b l := by
  obtain ⟨ns, z, h1, h2, h3⟩ := B.ex
  exact ⟨ns, z, s _ _ h1, s _ _ h2, h3⟩
def spBegun (K : PySem.W.Frag) : Sp := fun vs H Q _ => ∃ (a : Addr) (ns : List Int), vs = [.ref a] ∧ SqL K H a (ns.map V.int) ∧ ns.length ≤ 63 ∧
  ∀ (b l : Addr) (H' : Hp), H b = none → H l = none → Same H H' → Box H' b l → Q (.ref b) H'
def spTake : Sp := fun vs H Q _ => ∃ (b l : Addr) (m : Int), vs = [.ref b, .int m] ∧ Box H b l ∧ 0 < m ∧ m ≤ 1000000 ∧
  ∀ (n : Int) (H' : Hp), 0 ≤ n → n < m → Box H' b l → Kp b l H H' → Q (.int n) H'
section
variable {P : Program} {w : World} {K : PySem.W.Frag} {mg : Str → Option Value} {base : Heap}
theorem fun_binds {x qual : Str} {st : Stmt} {f : Addr} {fd : FuncData} {ps : List Str} (F : FnP K x qual st f fd)
    (h : ∀ (kV doc pm : Value) (an : Option Addr) (cdv ct : Value) (us : List Value), us.length = ps.length → bindArgs (PySem.W.fnOf x qual (defArgs st) (defBody st) (defScope st) .none kV doc pm an cdv ct) ⟨us, []⟩ = pure (ps.zip us)) : Binds K fd ps [] := FunD.bindsN F h
end
/-! ### begun -/
abbrev sBegun : Stmt := top 55
section
variable {P : Program} {w : World} {K : PySem.W.Frag} {mg : Str → Option Value} {base : Heap}
theorem scBegun : FnScope ["_law_script", "_law_stirred", "_law_cell"] ["_law_script"] (defScope sBegun) := ⟨rfl, rfl, rfl, by decide +kernel, rfl, by decide +kernel, by decide +kernel⟩
theorem ok_begun {f : Addr} {fd : FuncData} (F : FnP K "_law_begun" "_law_begun" sBegun f fd) (gint : mg "int" = none) (glist : mg "list" = none) (glen : mg "len" = none) :
    FnOk P w K mg base CX0 1 f fd ["_law_script"] (spBegun K) := by
  refine F.ok scBegun (fun vs H Q E h => ?_) (fun cdv A outer s H vs Q E hr h => ?_)
  · obtain ⟨a, ns, rfl, _⟩ := h
    rfl
  · obtain ⟨a, ns, rfl, hS, hlen, k⟩ := h
    have nd := scBegun.nd
    refine ⟨_, PSs.nox (pss_cons (ps_set (i := 1) nd rfl (.inl rfl) pe_int)
      (pss_cons (ps_for PassesOwn.never rfl (pi_list (pv 0)) (pg_name (i := 2) nd rfl (.inl rfl))
        (pss_one (ps_set (i := 1) nd rfl (.inl rfl) (pe_op op_modN (pe_callTy call_int1 (by rfl) gint boot_int (pa_cons (pe_op op_add (pe_op op_add (pe_op op_mul (pv 1) pe_int) (pe_op op_mul (pv 2) pe_int)) pe_int) pa_nil)) pe_int))))
      (pss_one (ps_ret (pe_lst (pa_cons (pe_callTy call_list_of (by rfl) glist (by decide +kernel) (pa_cons (pv 0) pa_nil))
        (pa_cons (pe_op op_mul (pv 1) (pe_callTy call_int1 (by rfl) gint boot_int (pa_cons (pe_cmpR op_gt (pe_callB call_len_seq (by rfl) glen PySem.boot_len (pa_cons (pv 0) pa_nil)) pe_int (nomark _)) pa_nil))) pa_nil))))))), ?_⟩
    refine ⟨_, rfl, a, rfl, ⟨_, hS⟩, for_list (K := K) (a := a) (xs := ns.map V.int) (fun i σ H2 => ∃ (z : Int) (v : Option V), σ = [some (.ref a), some (.int z), v] ∧ H2 = H)
      ⟨0, none, rfl, rfl⟩ (fun i σ H2 _ ⟨_, _, _, e⟩ => by rw [e]; exact hS) ?_ ?_⟩
    · rintro i y σ H2 hi ⟨z, v, rfl, rfl⟩
      obtain ⟨n, rfl⟩ : ∃ n, y = V.int n := by
        rw [List.getElem?_map] at hi
        cases e : ns[i]? with
        | none => rw [e] at hi; cases hi
        | some n => rw [e] at hi; exact ⟨n, (Option.some.inj hi).symm⟩
      refine ⟨_, rfl, _, _, rfl, rfl, .inr ⟨by decide, by decide⟩, _, rfl, _, _, rfl, rfl, .inr ⟨by decide, by decide⟩, _, _, rfl, rfl, _, _, rfl, rfl, .inl ⟨_, rfl, ?_⟩⟩
      exact ⟨_, _, rfl, rfl, (by show (2147483647 : Int) ≠ 0; decide), _, _, rfl, rfl⟩
    · rintro σ H2 ⟨z, v, rfl, rfl⟩
      refine ⟨_, rfl, a, _, rfl, .inl hS, fun l hl => ?_⟩
      have hS2 : SqL K (upd H2 l (.lst (ns.map V.int))) a (ns.map V.int) := Same.seq (Same.new (Same.refl H2) hl) hS
      refine ⟨_, rfl, _, rfl, a, _, rfl, .inl hS2, _, _, rfl, rfl, .inr ⟨_, rfl, ?_⟩⟩
      refine ⟨_, _, rfl, rfl, ?_, ?_⟩
      · refine .inr ?_
        split <;> exact ⟨by decide, by decide⟩
      · refine ⟨by show 2 ≤ sizeLine; decide, fun p hp => ?_⟩
        have npl : p ≠ l := fun e => by rw [e, upd_same] at hp; cases hp
        have hp0 : H2 p = none := by rw [upd_ne npl] at hp; exact hp
        refine k p l _ hp0 hl (Same.new (Same.new (Same.refl _) hl) hp) ⟨ns, _, upd_same, ?_, hlen⟩
        rw [upd_ne npl.symm, upd_same]
end
end Om

namespace Om
open PySem PySem.Spec PyProof.Rows L2
/-! ### data -/
theorem lay_ints : ∀ ns : List Int, PyData.canLayAll0 (ns.map PyData.int) = true
  | [] => by simp [PyData.canLayAll0]
  | n :: r => by simp [PyData.canLayAll0, PyData.canLay0, lay_ints r]
theorem dep_ints : ∀ ns : List Int, PyData.depthAll (ns.map PyData.int) = 0
  | [] => by simp [PyData.depthAll]
  | n :: r => by simp [PyData.depthAll, PyData.depth, dep_ints r]
theorem shaped_of {d : PyData} (h1 : d.canLay0 = true) (h2 : d.depth ≤ 64) : SeqAt.shaped d = true := by
  show (d.canLay0 && decide (d.depth ≤ 64)) = true
  rw [h1, decide_eq_true h2]
  rfl
theorem shaped_ints (ns : List Int) : SeqAt.shaped (.list (ns.map PyData.int)) = true :=
  shaped_of (by simp only [PyData.canLay0]; exact lay_ints ns) (by simp only [PyData.depth, dep_ints]; omega)
theorem shaped_nil : SeqAt.shaped (.list []) = true := shaped_of (by simp [PyData.canLay0, PyData.canLayAll0]) (by simp [PyData.depth, PyData.depthAll])
theorem dpAll_ints {K : PySem.W.Frag} {H : Hp} : ∀ ns : List Int, DpAll K H (ns.map V.int) (ns.map PyData.int)
  | [] => .nil
  | n :: r => .cons (.int n) (dpAll_ints r)
theorem eqv_ints_nil (ns : List Int) : PyData.eqv (.list (ns.map PyData.int)) (.list []) = ns.isEmpty := by
  cases ns <;> simp [PyData.eqv, PyData.eqvAll]
theorem fmod_pos {a m : Int} (h : 0 < m) : 0 ≤ a.fmod m ∧ a.fmod m < m := by
  rw [Int.fmod_eq_emod_of_nonneg _ (Int.le_of_lt h)]
  exact ⟨Int.emod_nonneg _ (by omega), Int.emod_lt_of_pos _ h⟩
theorem at0 {x : V} {r : List V} : atI (x :: r) 0 = some x := by
  unfold atI ixN
  rw [if_pos (by omega), if_pos (by simp)]
  rfl
theorem ix0 {x : V} {r : List V} : ixN (x :: r).length 0 = some 0 := by
  unfold ixN
  rw [if_pos (by omega), if_pos (by simp)]
  rfl
/-! ### take -/
abbrev sTake : Stmt := top 56
section
variable {P : Program} {w : World} {K : PySem.W.Frag} {mg : Str → Option Value} {base : Heap}
theorem scTake : FnScope ["_law_box", "_law_many", "_law_figure"] ["_law_box", "_law_many"] (defScope sTake) := ⟨rfl, rfl, rfl, by decide +kernel, rfl, by decide +kernel, by decide +kernel⟩
theorem ok_take {f : Addr} {fd : FuncData} (F : FnP K "_law_take" "_law_take" sTake f fd) (gint : mg "int" = none) :
    FnOk P w K mg base CX0 1 f fd ["_law_box", "_law_many"] spTake := by
  refine F.ok scTake (fun vs H Q E h => ?_) (fun cdv A outer s H vs Q E hr h => ?_)
  · obtain ⟨b, l, m, rfl, _⟩ := h
    rfl
  · obtain ⟨b, l, m, rfl, B, hm0, hm1, k⟩ := h
    have nd := scTake.nd
    have nbl := B.ne
    obtain ⟨ns, z, hb, hl, hlen⟩ := B.ex
    refine ⟨_, PSs.nox (pss_cons (ps_if (pt_cmpR (op_eqD hr.units) (pe_ix ix_list (pv 0) pe_int (fun _ _ => rfl)) (pe_lst pa_nil) (nomark _))
          (pss_cons (ps_asg (pe_op op_modN (pe_callTy call_int1 (by rfl) gint boot_int (pa_cons (pe_op op_mul (pe_ix ix_list (pv 0) pe_int (fun _ _ => rfl)) pe_int) pa_nil)) pe_int) (pg_sub (pv 0) pe_int set_list))
          (pss_one (ps_ret (pe_op op_modN (pe_callTy call_int1 (by rfl) gint boot_int (pa_cons (pe_op op_fdivN (pe_ix ix_list (pv 0) pe_int (fun _ _ => rfl)) pe_int) pa_nil)) (pv 1))))) pss_nil)
      (pss_cons (ps_set (i := 2) nd rfl (.inl rfl) (pe_ix ix_list (pe_ix ix_list (pv 0) pe_int (fun _ _ => rfl)) pe_int (fun _ _ => rfl)))
      (pss_cons (ps_asg (pe_op op_fdivN (pv 2) (pv 1)) (pg_sub (pe_ix ix_list (pv 0) pe_int (fun _ _ => rfl)) pe_int set_list))
      (pss_cons (ps_if (PW.pt (pw_or (pt_cmpR op_eq (pe_ix ix_list (pe_ix ix_list (pv 0) pe_int (fun _ _ => rfl)) pe_int (fun _ _ => rfl)) pe_int (nomark _))
            (pw_or1 (pt_cmpR op_eq (pe_ix ix_list (pe_ix ix_list (pv 0) pe_int (fun _ _ => rfl)) pe_int (fun _ _ => rfl)) (pe_un un_neg pe_int) (nomark _)))))
          (pss_one (ps_expr (pe_bm PySem.F.plainAttrs_list PySem.F.slot_list_pop PySem.F.type_list_pop mt_popAt (pe_ix ix_list (pv 0) pe_int (fun _ _ => rfl)) (pa_cons pe_int pa_nil)))) pss_nil)
      (pss_one (ps_ret (pe_op op_modN (pv 2) (pv 1)))))))), ?_⟩
    refine ⟨_, rfl, b, _, 0, _, rfl, rfl, .inl (.inl hb), rfl, by show 0 ≤ sizeLine; decide, fun e he => ?_⟩
    have ebe : b ≠ e := ne_of_none hb he
    have ele : l ≠ e := ne_of_none hl he
    have hb1 : (upd H e (.lst [])) b = some (.lst [.ref l, .int z]) := by rw [upd_ne ebe]; exact hb
    have hl1 : (upd H e (.lst [])) l = some (.lst (ns.map V.int)) := by rw [upd_ne ele]; exact hl
    have K1 : Kp b l H (upd H e (.lst [])) := Kp.of (Same.new (Same.refl H) he)
    refine ⟨_, _, .lst (.inl (.inl hl1)) (dpAll_ints ns), .lst (.inl (.inl upd_same)) .nil, shaped_ints ns, shaped_nil, _, rfl, ?_⟩
    rw [eqv_ints_nil]
    cases ns with
    | nil =>
      refine iteT ?_
      refine ⟨_, rfl, b, _, 1, _, rfl, rfl, .inl (.inl hb1), rfl, _, _, rfl, rfl, .inr ⟨by decide, by decide⟩, .inl ⟨_, rfl, ?_⟩⟩
      refine ⟨_, _, rfl, rfl, (by show (2147483647 : Int) ≠ 0; decide), _, rfl, b, _, 1, 1, rfl, rfl, hb1, rfl, ?_⟩
      refine ⟨_, rfl, b, _, 1, _, rfl, rfl, .inl (.inl upd_same), rfl, _, _, rfl, rfl, ⟨by decide, by decide⟩, .inl ⟨_, rfl, _, rfl, _, _, rfl, rfl, (by show m ≠ 0; omega), ?_⟩⟩
      refine k _ _ (fmod_pos hm0).1 (fmod_pos hm0).2 ⟨[], _, upd_same, ?_, hlen⟩ (K1.upd1)
      rw [upd_ne nbl.symm]
      exact hl1
    | cons n r =>
      refine iteF ?_
      refine ⟨_, rfl, b, _, 0, _, rfl, rfl, .inl (.inl hb1), rfl, l, _, 0, _, rfl, rfl, .inl (.inl hl1), at0, ?_⟩
      refine ⟨_, rfl, _, rfl, _, _, rfl, rfl, ⟨(by show m ≠ 0; omega), (by show m.natAbs < 1073741824; omega)⟩, _, rfl, b, _, 0, _, rfl, rfl, .inl (.inl hb1), rfl, l, _, 0, 0, rfl, rfl, hl1, ix0, ?_⟩
      have hb2 : (upd (upd H e (.lst [])) l (.lst (((n :: r).map V.int).set 0 (.int (n.fdiv m))))) b = some (.lst [.ref l, .int z]) := by rw [upd_ne nbl]; exact hb1
      have hl2 : (upd (upd H e (.lst [])) l (.lst (((n :: r).map V.int).set 0 (.int (n.fdiv m))))) l = some (.lst (((n.fdiv m) :: r).map V.int)) := upd_same
      refine ⟨_, rfl, b, _, 0, _, rfl, rfl, .inl (.inl hb2), rfl, l, _, 0, _, rfl, rfl, .inl (.inl hl2), at0, rfl, _, rfl, ?_⟩
      have fin : ∀ H3, Box H3 b l → Kp b l H H3 → Q (.int (n.fmod m)) H3 := fun H3 B3 k3 => k _ H3 (fmod_pos hm0).1 (fmod_pos hm0).2 B3 k3
      have pop : (tDrop (tBM K "list" rPopAt (tOp (rIxL K) (tVar 0) (tC (.int 0))) (tCons (tC (.int 0)) tNil))) { nx := fun σ H => (tRet (tOp (rI (fun _ j => j ≠ 0) fun i j => .int (i.fmod j)) (tVar 2) (tVar 1))) { nx := fun _ H' => Q .non H', rt := Q } σ H, rt := Q } [some (.ref b), some (.int m), some (.int n)] (upd (upd H e (.lst [])) l (.lst (((n :: r).map V.int).set 0 (.int (n.fdiv m))))) := by
        refine ⟨_, rfl, b, _, 0, _, rfl, rfl, .inl (.inl hb2), rfl, .inl ⟨rfl, _, .inl (.inl hl2)⟩, l, _, 0, 0, _, rfl, rfl, hl2, by decide, by decide, ?_, rfl, ?_⟩
        · simp [seqIndex?]
        · refine ⟨_, rfl, _, rfl, _, _, rfl, rfl, (by show m ≠ 0; omega), fin _ ⟨r, z, ?_, upd_same, ?_⟩ ?_⟩
          · rw [upd_ne nbl]; exact hb2
          · have := hlen; simp at this; omega
          · exact Kp.upd2 (Kp.upd2 K1)
      refine ite2 (fun hz => ?_) (fun hz => ?_)
      · exact iteT pop
      · refine ⟨_, rfl, b, _, 0, _, rfl, rfl, .inl (.inl hb2), rfl, l, _, 0, _, rfl, rfl, .inl (.inl hl2), at0, _, rfl, rfl, _, rfl, ?_⟩
        refine ite2 (fun hz => ?_) (fun hz => ?_)
        · exact pop
        · refine ⟨_, rfl, _, rfl, _, _, rfl, rfl, (by show m ≠ 0; omega), fin _ ⟨(n.fdiv m) :: r, z, hb2, hl2, ?_⟩ (Kp.upd2 K1)⟩
          have := hlen; simp at this ⊢; omega
end
end Om

namespace Om
open PySem PySem.Spec PyProof.Rows L2
/-! ### texts as lists of codes -/
def tx (cs : List Nat) : Str := ⟨cs.toArray⟩
theorem tx_cps (cs : List Nat) : (tx cs).cps.toList = cs := by simp [tx]
theorem tx_len (cs : List Nat) : (tx cs).length = cs.length := by simp [tx, Str.length]
theorem tx_app (a b : List Nat) : tx a ++ tx b = tx (a ++ b) := by
  show Str.append (tx a) (tx b) = tx (a ++ b)
  simp [tx, Str.append]
theorem tx_inj {a b : List Nat} (h : tx a = tx b) : a = b := by
  have e : (tx a).cps.toList = (tx b).cps.toList := by rw [h]
  rw [tx_cps, tx_cps] at e
  exact e
theorem of_tx (s : Str) : tx s.cps.toList = s := by
  obtain ⟨c⟩ := s
  simp [tx]
theorem join_tx : ∀ cs : List Nat, Str.join ⟨#[]⟩ (cs.map fun c => tx [c]) = tx cs
  | [] => rfl
  | [c] => rfl
  | c :: d :: r => by
    have ih := join_tx (d :: r)
    show tx [c] ++ (⟨#[]⟩ : Str) ++ Str.join ⟨#[]⟩ ((d :: r).map fun c => tx [c]) = tx (c :: d :: r)
    rw [ih]
    have e0 : (⟨#[]⟩ : Str) = tx [] := rfl
    rw [e0, tx_app, tx_app]
    rfl
theorem empty_tx : Str.ofString "" = (⟨#[]⟩ : Str) := by decide +kernel
def okSign (c : Nat) : Prop := c = 46 ∨ c = 126 ∨ (65 ≤ c ∧ c ≤ 90)
/-- what a law draws as rows -/
structure RowsOk (m : Nat) (rows : List (List Nat)) : Prop where
  h1 : 1 ≤ rows.length
  hm : rows.length ≤ m
  w : ∃ wd, 1 ≤ wd ∧ wd ≤ m ∧ ∀ r ∈ rows, r.length = wd ∧ ∀ c ∈ r, okSign c
def vt (r : List Nat) : V := .str (tx r)
def spRows : Sp := fun vs H Q _ => ∃ (b l : Addr) (m : Nat), vs = [.ref b, .int m] ∧ Box H b l ∧ 1 ≤ m ∧ m ≤ 12 ∧
  ∀ (p : Addr) (rows : List (List Nat)) (H' : Hp), RowsOk m rows → H p = none → H' p = some (.tup (rows.map vt)) → Box H' b l → Kp b l H H' → Q (.ref p) H'
def rJoin (K : PySem.W.Frag) : V → List V → Hp → VK → Prop := fun x xs H Q => ∃ a p, ∃ ys : List Str, x = .str a ∧ xs = [.ref p] ∧ (SqL K H p (ys.map V.str) ∨ SqT K H p (ys.map V.str)) ∧
      (ys.map (·.length)).sum + ys.length * a.length ≤ 16777216 ∧ Q (.str (Txt.join a ys)) H
theorem pe_joinK {X : Cx} {o e : Expr} {to te : TE} {apos pos : Pos} (ho : PE X o to) (he : PE X e te) (hs : starEach [e] X.env = [(false, eval e X.env)] := by rfl) (hbase : attributeBase o "join" X.env (eval o X.env) = eval o X.env := by rfl) (hline : (apos.endLine == pos.line) = true := by rfl) :
    PE X (.Call (.Attribute o "join" apos) [e] [] pos) (tM1 (rJoin X.K) to te) := pe_join ho he hs hbase hline
abbrev sRows : Stmt := top 58
/-- the scope of the i-th comprehension of a return's call -/
def retExpr (s : Stmt) : Expr := match s with
  | .Return (some e) _ => e
  | _ => .Constant .none 0 ⟨0, 0, 0, 0⟩
def arg0 (e : Expr) : Expr := match e with
  | .Call _ (a :: _) _ _ => a
  | _ => .Constant .none 0 ⟨0, 0, 0, 0⟩
def lcScope (e : Expr) : Scope := match e with
  | .ListComp _ _ sc _ => sc
  | _ => { kind := .function, names := [], isGenerator := false, isCoroutine := false }
def lcElt (e : Expr) : Expr := match e with
  | .ListComp e _ _ _ => e
  | _ => .Constant .none 0 ⟨0, 0, 0, 0⟩
def rowsLc : Expr := arg0 (retExpr ((defBody sRows).getD 2 (.Pass ⟨0, 0, 0, 0⟩)))
abbrev nRows : List Str := ["_law_box", "_law_most", "_law_height", "_law_width", "_law_signs_here", "_law_column", "_law_row"]
theorem scRows : FnScope nRows ["_law_box", "_law_most"] (defScope sRows) := ⟨rfl, rfl, rfl, by decide +kernel, rfl, by decide +kernel, by decide +kernel⟩
theorem blk1 : BlkOk nRows (defScope sRows) (lcScope rowsLc) [("_law_row", 6)] := blkOk_by (by decide +kernel)
/-- the scope of a comprehension within a def, as its own comprehensions see it -/
def relab (sc : Scope) (out : Scope) : Scope := { sc with names := sc.names.map fun (n, k) => if (k == NameKind.free && out.kind == .function && out.names.lookup n == some .cell) then (n, NameKind.cell) else (n, k) }
theorem blk2 : BlkOk nRows (relab (lcScope rowsLc) (defScope sRows)) (lcScope (arg0 (lcElt rowsLc))) [("_law_column", 5)] := blkOk_by (by decide +kernel)
def sg (i : Nat) : List Nat := [[46, 46, 46, 46, 126, 126, 65, 66, 75], [46, 46, 46, 46, 46, 46, 46, 46, 46, 46, 46, 126, 65, 66], [46, 46, 126, 126, 126, 126, 65], [65, 66, 75, 84, 90, 46, 46, 46, 46, 126]].getD i []
theorem sg_ok {i : Nat} (hi : i < 4) : ∀ c ∈ sg i, okSign c := by
  have : ∀ i : Fin 4, ∀ c ∈ sg i, c = 46 ∨ c = 126 ∨ (65 ≤ c ∧ c ≤ 90) := by decide
  exact this ⟨i, hi⟩
theorem sg_len {i : Nat} (hi : i < 4) : 1 ≤ (sg i).length ∧ (sg i).length ≤ 14 := by
  have : ∀ i : Fin 4, 1 ≤ (sg i).length ∧ (sg i).length ≤ 14 := by decide
  exact this ⟨i, hi⟩
def four : List V := [.str (Str.ofString "....~~ABK"), .str (Str.ofString "...........~AB"), .str (Str.ofString "..~~~~A"), .str (Str.ofString "ABKTZ....~")]
theorem four_at {n : Int} (h0 : 0 ≤ n) (h4 : n < 4) : atI four n = some (vt (sg n.toNat)) := by
  have e : n = 0 ∨ n = 1 ∨ n = 2 ∨ n = 3 := by omega
  have s0 : Str.ofString "....~~ABK" = tx (sg 0) := by decide +kernel
  have s1 : Str.ofString "...........~AB" = tx (sg 1) := by decide +kernel
  have s2 : Str.ofString "..~~~~A" = tx (sg 2) := by decide +kernel
  have s3 : Str.ofString "ABKTZ....~" = tx (sg 3) := by decide +kernel
  rcases e with rfl | rfl | rfl | rfl
  · show some (V.str _) = some (V.str _)
    rw [s0]; rfl
  · show some (V.str _) = some (V.str _)
    rw [s1]; rfl
  · show some (V.str _) = some (V.str _)
    rw [s2]; rfl
  · show some (V.str _) = some (V.str _)
    rw [s3]; rfl
theorem atI_of {α : Type} {xs : List α} {n : Int} (h0 : 0 ≤ n) (h1 : n < xs.length) : ∃ v, atI xs n = some v ∧ v ∈ xs := by
  have hj : n.toNat < xs.length := by omega
  refine ⟨xs[n.toNat], ?_, List.getElem_mem hj⟩
  have e : ((n.toNat : Nat) : Int) = n := by omega
  have z := atI_nat (xs := xs) (j := n.toNat) (v := xs[n.toNat]) (by simp [hj])
  rw [e] at z
  exact z
theorem tyes {σ : L2.St} {H : Hp} {f g : Hp → Prop} (h : f H) : tYes σ H fun b H3 => if b = true then f H3 else g H3 := by
  show (if true = true then f H else g H)
  rw [if_pos rfl]
  exact h
section
variable {P : Program} {w : World} {K : PySem.W.Frag} {mg : Str → Option Value} {base : Heap}
theorem ok_rows {f : Addr} {fd : FuncData} (F : FnP K "_law_rows" "_law_rows" sRows f fd) (T : Cal P w K mg base CX0 1 "_law_take" ["_law_box", "_law_many"] spTake)
    (grange : mg "range" = none) (gtuple : mg "tuple" = none) (glen : mg "len" = none) :
    FnOk P w K mg base CX0 2 f fd ["_law_box", "_law_most"] spRows := by
  refine F.ok scRows (fun vs H Q E h => ?_) (fun cdv A outer s H vs Q E hr h => ?_)
  · obtain ⟨b, l, m, rfl, _⟩ := h
    rfl
  · obtain ⟨b, l, m, rfl, B, hm0, hm1, k⟩ := h
    have nd := scRows.nd
    have nbl := B.ne
    refine ⟨_, PSs.nox (pss_cons (ps_asg (pe_tup (pa_cons (pe_op op_add pe_int (pe_cal T hr pass0 (pa_cons (pv 0) (pa_cons (pv 1) pa_nil)))) (pa_cons (pe_op op_add pe_int (pe_cal T hr pass0 (pa_cons (pv 0) (pa_cons (pv 1) pa_nil)))) pa_nil)))
          (pg_tup rfl (pgs_cons (pg_name (i := 2) nd rfl (.inl rfl)) (pgs_cons (pg_name (i := 3) nd rfl (.inr rfl)) pgs_nil))))
      (pss_cons (ps_set (i := 4) nd rfl (.inr rfl) (pe_ix ix_list (pe_lst (pa_cons pe_str (pa_cons pe_str (pa_cons pe_str (pa_cons pe_str pa_nil))))) (pe_cal T hr pass0 (pa_cons (pv 0) (pa_cons pe_int pa_nil))) (fun _ _ => rfl)))
      (pss_one (ps_ret (pe_callTy call_tuple_of (by rfl) gtuple (by decide +kernel) (pa_cons
        (pe_lc (own := [("_law_row", 6)]) (g := gName 6) (te := tM1 (rJoin K) _ _) rfl nd (pi_range1 rfl grange (pa_cons (pv 2) pa_nil)) blk1 (fun _ _ _ _ _ => pg_name (i := 6) nd rfl (.inl rfl)) (fun _ _ _ _ _ => pts_nil) (fun _ _ _ _ _ =>
          pe_joinK pe_str (pe_lc (own := [("_law_column", 5)]) (g := gName 5) rfl nd (pi_range1 rfl grange (pa_cons (pv 3) pa_nil)) blk2 (fun _ _ _ _ _ => pg_name (i := 5) nd rfl (.inl rfl)) (fun _ _ _ _ _ => pts_nil) (fun _ _ _ _ _ =>
            pe_ix ix_str (pv 4) (pe_cal T hr pass0 (pa_cons (pv 0) (pa_cons (pe_callB call_len_str (by rfl) glen PySem.boot_len (pa_cons (pv 4) pa_nil)) pa_nil))) (fun _ _ => rfl))))) pa_nil)))))), ?_⟩
    refine ⟨_, rfl, _, rfl, b, l, _, rfl, B, by omega, by omega, fun n1 H1 a1 a2 B1 K1 => ⟨_, _, rfl, rfl, ?_⟩⟩
    refine ⟨_, rfl, _, rfl, b, l, _, rfl, B1, by omega, by omega, fun n2 H2 b1 b2 B2 K2 => ⟨_, _, rfl, rfl, (by show 2 ≤ sizeLine; decide), fun p hp => ?_⟩⟩
    refine ⟨p, _, rfl, .inl (.inl upd_same), rfl, _, _, rfl, _, _, rfl, rfl, ?_⟩
    refine ⟨by show 4 ≤ sizeLine; decide, fun q hq => ?_⟩
    have B3 : Box (upd (upd H2 p (.tup [.int (1 + n1), .int (1 + n2)])) q (.lst four)) b l := B2.same (Same.new (Same.new (Same.refl H2) hp) hq)
    refine ⟨_, rfl, b, l, 4, rfl, B3, by decide, by decide, fun n3 H4 c1 c2 B4 K4 => ?_⟩
    obtain ⟨ns3, z3, hb3, hl3, _⟩ := B3.ex
    have K34 : Kp b l H H4 := ((K1.trans K2).trans (Kp.of (Same.new (Same.new (Same.refl H2) hp) hq))).trans K4
    have npb : q ≠ b := fun e => by
      have B2' := B2.same (Same.new (Same.refl H2) hp (o := .tup [.int (1 + n1), .int (1 + n2)]))
      obtain ⟨_, _, x1, _⟩ := B2'.ex
      rw [← e, hq] at x1; cases x1
    have npl : q ≠ l := fun e => by
      have B2' := B2.same (Same.new (Same.refl H2) hp (o := .tup [.int (1 + n1), .int (1 + n2)]))
      obtain ⟨_, _, _, x1, _⟩ := B2'.ex
      rw [← e, hq] at x1; cases x1
    have hq4 : H4 q = some (.lst four) := K4 q _ upd_same npb npl
    have i4 : n3.toNat < 4 := by omega
    refine ⟨q, _, n3, _, rfl, rfl, .inl (.inl hq4), four_at c1 c2, ?_⟩
    -- the rows
    have hwd : (1 + n2).toNat ≤ m := by omega
    refine ⟨_, rfl, _, rfl, by omega, by omega, fun D hD => lc_range (lo := 0) (n := (1 + n1).toNat) (fun j H' => ∃ rows : List (List Nat), rows.length = j ∧ (∀ r ∈ rows, r.length = (1 + n2).toNat ∧ ∀ c ∈ r, okSign c) ∧ H' D = some (.lst (rows.map vt)) ∧ Box H' b l ∧ Kp b l H4 H')
      ⟨[], rfl, by simp, upd_same, B4.same (Same.new (Same.refl _) hD), Kp.of (Same.new (Same.refl _) hD)⟩ ?_ ?_⟩
    · rintro j H' hj ⟨rows, e1, e2, e3, B5, K5⟩
      have nDb : D ≠ b := fun e => by
        obtain ⟨_, _, x1, _⟩ := B4.ex
        rw [← e, hD] at x1; cases x1
      have nDl : D ≠ l := fun e => by
        obtain ⟨_, _, _, x1, _⟩ := B4.ex
        rw [← e, hD] at x1; cases x1
      refine ⟨rfl, tyes ?_⟩
      refine ⟨⟨_, rfl⟩, _, rfl, _, rfl, by omega, by omega, fun D2 hD2 => lc_range (lo := 0) (n := (1 + n2).toNat) (fun i H6 => ∃ cs : List Nat, cs.length = i ∧ (∀ c ∈ cs, okSign c) ∧ H6 D2 = some (.lst (cs.map fun c => vt [c])) ∧ Box H6 b l ∧ Kp b l H' H6)
        ⟨[], rfl, by simp, upd_same, B5.same (Same.new (Same.refl _) hD2), Kp.of (Same.new (Same.refl _) hD2)⟩ ?_ ?_⟩
      · rintro i H6 hi ⟨cs, f1, f2, f3, B6, K6⟩
        have nb2 : D2 ≠ b := fun e => by
          obtain ⟨_, _, x1, _⟩ := B5.ex
          rw [← e, hD2] at x1; cases x1
        have nl2 : D2 ≠ l := fun e => by
          obtain ⟨_, _, _, x1, _⟩ := B5.ex
          rw [← e, hD2] at x1; cases x1
        have sl := sg_len i4
        refine ⟨rfl, tyes ?_⟩
        refine ⟨_, rfl, _, rfl, _, rfl, _, rfl, (by show (tx _).length ≤ sizeLine; rw [tx_len]; exact Nat.le_trans sl.2 (by decide)), b, l, _, rfl, B6, ?_, ?_, fun n H7 g1 g2 B7 K7 => ?_⟩
        · rw [tx_len]; omega
        · rw [tx_len]; omega
        · rw [tx_len] at g2
          obtain ⟨c, hc, hm⟩ := atI_of (xs := sg n3.toNat) g1 g2
          refine ⟨_, _, c, rfl, rfl, (by rw [tx_len]; exact Nat.le_trans sl.2 (by decide)), (by rw [tx_cps]; exact hc), ?_⟩
          have f4 := K7 D2 _ f3 nb2 nl2
          refine ⟨_, f4, ?_, cs ++ [c], by simp [f1], ?_, ?_, ?_, ?_⟩
          · rw [List.length_map, f1]
            exact Nat.lt_of_lt_of_le hi (Nat.le_trans hwd (Nat.le_trans hm1 (by decide)))
          · intro c' hc'
            rcases List.mem_append.mp hc' with h | h
            · exact f2 c' h
            · rw [List.mem_singleton.mp h]; exact sg_ok i4 c hm
          · rw [upd_same, List.map_append]; rfl
          · obtain ⟨u1, u2, u3, u4, u5⟩ := B7.ex
            exact ⟨u1, u2, by rw [upd_ne nb2.symm]; exact u3, by rw [upd_ne nl2.symm]; exact u4, u5⟩
          · intro x o hx n1' n2'
            have hne : x ≠ D2 := ne_of_none hx hD2
            rw [upd_ne hne]
            exact K7 x o (K6 x o hx n1' n2') n1' n2'
      · rintro H6 ⟨cs, f1, f2, f3, B6, K6⟩
        refine ⟨_, D2, cs.map fun c => tx [c], rfl, rfl, .inl (.inl (.inl (by rw [f3, List.map_map]; rfl))), ?_, ?_⟩
        · rw [empty_tx]
          have e5 : ∀ l : List Nat, ((l.map fun c => tx [c]).map (·.length)).sum = l.length := by
            intro l
            induction l with
            | nil => rfl
            | cons a r ih => simp only [List.map_cons, List.sum_cons, ih, tx_len, List.length_cons, List.length_nil]; omega
          rw [e5]
          show cs.length + _ * 0 ≤ _
          omega
        · rw [empty_tx, TL.join_eq, join_tx]
          have f4 := K6 D _ e3 nDb nDl
          refine ⟨_, f4, ?_, rows ++ [cs], by simp [e1], ?_, ?_, ?_, ?_⟩
          · rw [List.length_map, e1]
            exact Nat.lt_of_lt_of_le hj (Nat.le_trans (show (1 + n1).toNat ≤ 12 by omega) (by decide))
          · intro r hr'
            rcases List.mem_append.mp hr' with h | h
            · exact e2 r h
            · rw [List.mem_singleton.mp h]; exact ⟨f1, f2⟩
          · rw [upd_same, List.map_append]; rfl
          · obtain ⟨u1, u2, u3, u4, u5⟩ := B6.ex
            exact ⟨u1, u2, by rw [upd_ne nDb.symm]; exact u3, by rw [upd_ne nDl.symm]; exact u4, u5⟩
          · intro x o hx n1' n2'
            have hne : x ≠ D := ne_of_none hx hD
            rw [upd_ne hne]
            exact K6 x o (K5 x o hx n1' n2') n1' n2'
    · rintro H' ⟨rows, e1, e2, e3, B5, K5⟩
      refine ⟨D, _, rfl, .inl ⟨.inl (.inl e3), fun t ht => ?_⟩⟩
      have kall := K34.trans K5
      refine k t rows _ ⟨by omega, by omega, (1 + n2).toNat, by omega, by omega, e2⟩ ?_ upd_same (B5.same (Same.new (Same.refl _) ht)) (kall.trans (Kp.of (Same.new (Same.refl _) ht)))
      cases hh : H t with
      | none => rfl
      | some o =>
        by_cases h1 : t = b
        · obtain ⟨_, _, x1, _⟩ := B5.ex
          rw [← h1, ht] at x1; cases x1
        · by_cases h2 : t = l
          · obtain ⟨_, _, _, x1, _⟩ := B5.ex
            rw [← h2, ht] at x1; cases x1
          · have := kall t o hh h1 h2
            rw [ht] at this; cases this
end
end Om

/-! enumerate(tuple) and enumerate(text) -/
namespace PySem
open Sem (wp)
open Builtin
set_option maxHeartbeats 2000000 in
theorem om_enum_new {u : Value} {ob : Obj} {Hh : Heap → Prop} (B : Begins u ob Hh) :
    Meets (Builtin.«enumerate.__new__» ⟨[.type "enumerate", u], []⟩) (fun _ R z => Hh z.heap ∧
      R (.ok (.ret (.ref (z.heap.push ob).objs.size))) { z with heap := (z.heap.push ob).push { cls := .type "enumerate", data := .fields #[.none, .bool false, .ref z.heap.objs.size, rawInt 0, .none, .none] } }) :=
  Meets.of_wp fun pr wo Ar Re st hq => by
    obtain ⟨hp0, gg, dd, tt, oo⟩ := st
    obtain ⟨hB, hq⟩ := hq
    have hs0 := sub_enumerate
    have step : ∀ {A' : Around} {E : Value → Shared → Prop} {Q : Value → Shared → Prop}, Q (.ref hp0.objs.size) ⟨hp0.push ob, gg, dd, tt, oo⟩ → wpAny (model pr wo) A' (pyIter u) Q E ⟨hp0, gg, dd, tt, oo⟩ :=
      fun q => B.iter pr wo _ _ ⟨hp0, gg, dd, tt, oo⟩ _ hB q
    wp_walk using step
    refine wpAny_stack_any fun zz => wpAny_pure ?_
    split
    · rename_i cc _ _ _ _ _
      cases (cc == Value.type "enumerate") <;> (wp_walk using step; exact ⟨_, rfl, hq⟩)
    · wp_walk using step
      exact ⟨_, rfl, hq⟩
theorem om_enum_call {prog : Program} {w : World} {A : Around} {E : Value → Shared → Prop} {s : Shared} {u : Value} {ob : Obj} {Hh : Heap → Prop} {Q : Value → Shared → Prop} (B : Begins u ob Hh) (hB : Hh s.heap)
    (hq : ∀ h', IsEnum h' (s.heap.objs.size + 1) s.heap.objs.size 0 .none → h'.get? s.heap.objs.size = some ob → (∀ b o, s.heap.get? b = some o → h'.get? b = some o) → Q (.ref (s.heap.objs.size + 1)) { s with heap := h' }) :
    wpAny (model prog w) A (call (.type "enumerate") [u]) Q E s := by
  refine callType_new F.called_enumerate (by decide) (F.typeCall_enumerate_1 _) (F.newCall_enumerate_1 _) (fun obj => F.args_object_init_2 obj _) F.entry_enumerate_new (om_enum_new B) ⟨hB, ?_⟩
  have z1 : (s.heap.push ob).objs.size = s.heap.objs.size + 1 := Heap.size_push ..
  show _ ∧ _
  rw [z1]
  have z2 : IsEnum ((s.heap.push ob).push { cls := .type "enumerate", data := .fields #[.none, .bool false, .ref s.heap.objs.size, rawInt 0, .none, .none] }) (s.heap.objs.size + 1) s.heap.objs.size 0 .none := by
    have z3 := Heap.get?_push_size (s.heap.push ob) (o := { cls := .type "enumerate", data := .fields #[.none, .bool false, .ref s.heap.objs.size, rawInt 0, .none, .none] }) rfl
    rw [z1] at z3
    exact z3
  exact ⟨⟨_, z2, rfl⟩, hq _ z2 (Heap.get?_push_of_some _ (Heap.get?_push_size _ B.free)) fun b o x => Heap.get?_push_of_some _ (Heap.get?_push_of_some _ x)⟩
end PySem
namespace Om
open PySem PySem.Spec PyProof.Rows L2
/-- the tuple's items in new pairs -/
def IteT (K : PySem.W.Frag) (a : Addr) (xs : List V) : It :=
  ⟨fun i H => SqT K H a xs ∧ i < xs.length, fun i H v H' => ∃ T x, v = .ref T ∧ H T = none ∧ H' = upd H T (.tup [.int (i : Nat), x]) ∧ xs[i]? = some x, fun i H => SqT K H a xs ∧ xs.length = i⟩
theorem turn_enumT {P : Program} {w : World} {K : PySem.W.Frag} {elts : List Expr} {kk : Nat} {tpos : Pos} {a e it : Addr} {xs : List V} (nae : a ≠ e) (nai : a ≠ it) (nei : e ≠ it) :
    Turn P w K (.Tuple elts kk tpos) (IteT K a xs) [e, it] e (fun i h => (∃ old, IsEnum h e it ((i : Nat) : Int) old) ∧ h.IsTupleIter it a i) where
  mem := by simp
  obj := fun i h ⟨⟨old, he⟩, o, ho, hc, hd⟩ b hb => by
    rcases (show b = e ∨ b = it by simpa using hb) with rfl | rfl
    · exact ⟨_, he, fun v q => nomatch q⟩
    · exact ⟨o, ho, fun v q => by rw [hd] at q; cases q⟩
  keep := fun i h h' ⟨⟨old, he⟩, hi⟩ k => ⟨⟨old, k e (by simp) _ he⟩, hi.at fun o q => k it (by simp) o q⟩
  item := by
    intro X eP ew eK hc i pins s σ H E I hf ⟨⟨old, he⟩, hit⟩ ⟨hq, hlt⟩
    subst eP ew eK
    obtain ⟨its, rv, tu, hz⟩ := I.tuple hq
    have hx : xs[i]? = some xs[i] := by simp [hlt]
    obtain ⟨u, hu, ru⟩ := rv.get hx
    have el : e < s.heap.objs.size := Heap.lt_size he
    have il : it < s.heap.objs.size := by obtain ⟨_, q, _⟩ := hit; exact Heap.lt_size q
    have hsz : i < its.toArray.size := by
      have := rv.length
      simp
      omega
    have hd0 : X.A.in1.handled = none := I.ok.hd hc
    refine wpAny_pyNext_enum_itemD (Draws.tuple hd0 it a nai its.toArray) he ⟨hit, tu⟩ hsz nei (by simp [nei, Ne.symm nae]) fun x h' tk hx2 ho hst hT hs2 hk => ?_
    obtain rfl : x = u := by
      have e1 : its.toArray[i]? = some x := hx2
      have e2 : its.toArray[i]? = some u := by simpa using hu
      rw [e1] at e2
      exact Option.some.inj e2
    refine ⟨_, rfl, wpAny_letOwnedTupleGo_enum (s := { s with heap := h', toks := tk + 1 }) ho fun h2 he2 sb => ?_⟩
    have hT2 := (sb.2 _ (Nat.ne_of_gt el)).trans hT
    have new : ObjOk X.prog X.w (upd H s.heap.objs.size (.tup [.int (i : Nat), xs[i]])) h2 s.heap.objs.size (.tup [.int (i : Nat), xs[i]]) :=
      ⟨(show 2 ≤ sizeLine by decide), [.int i tk, x], .cons ⟨_, rfl⟩ (.cons ru .nil), _, hT2, rfl, _, rfl⟩
    have I1 : Inv X pins σ (upd H s.heap.objs.size (.tup [.int (i : Nat), xs[i]])) { s with heap := h2, toks := tk + 1 } :=
      I.turnedNew (ch := [e, it]) (fun b ob hb q => (sb.2 b (by rintro rfl; simp at hb)).trans (hk b ob (by rintro rfl; simp at hb) (by rintro rfl; simp at hb) q)) hf (Nat.le_refl _) new
    have ei : ((i + 1 : Nat) : Int) = (i : Int) + 1 := by omega
    refine ⟨.ref s.heap.objs.size, _, I1, rfl, ⟨_, _, rfl, I.hok.fresh (Nat.le_refl _), rfl, hx⟩, ⟨⟨x, by rw [ei]; exact he2⟩, hst.1.at fun o q => (sb.2 it (Ne.symm nei)).trans q⟩, fun b hb => ?_⟩
    have hlt2 : b < s.heap.objs.size := by
      rcases (show b = e ∨ b = it by simpa using hb) with rfl | rfl
      · exact el
      · exact il
    rw [upd_ne (Nat.ne_of_lt hlt2)]
    exact (hf b hb).1
  done := by
    intro X eP ew eK hc i pins s σ H E I hf ⟨⟨old, he⟩, hit⟩ ⟨hq, hle⟩
    subst eP ew eK
    obtain ⟨its, rv, tu, hz⟩ := I.tuple hq
    obtain ⟨f0, f1, f2, f3, f4, f5⟩ := hf it (by simp)
    have hl := rv.length
    have hd0 : X.A.in1.handled = none := I.ok.hd hc
    obtain rfl : i = its.toArray.size := by simp; omega
    exact wpAny_pyNext_enum_endD (Draws.tuple hd0 it a nai its.toArray) he ⟨hit, tu⟩ fun h' eb => ⟨rfl, I.turned (t' := s.toks) (fun b o hb q => eb b o hb q) f0 f1 f3 f4 f5⟩
  self := fun A i s Q E ⟨⟨_, he⟩, _⟩ h => wpAny_pyIter_enum he h
def iEnumT (K : PySem.W.Frag) (ta : TA) : TI := fun σ H R => ta σ H fun vs H1 => ∃ a xs, vs = [.ref a] ∧ SqT K H1 a xs ∧ R (IteT K a xs) H1
theorem pi_enumT {X : Cx} {e : Expr} {ta : TA} {p pos tpos : Pos} {elts : List Expr} {kk : Nat} (hg : Gl X "enumerate") (hm : X.mg "enumerate" = none) (ha : PA X [e] ta) (hs : starEach [e] X.env = [(false, eval e X.env)] := by rfl) :
    PI X (.Tuple elts kk tpos) (.Call (.Name "enumerate" p) [e] [] pos) (iEnumT X.K ta) := by
  constructor
  intro pins s σ H R I h
  refine Call_ (ld_blt I hg hm boot_enumerate (PyProof.Rows.callWith_type1 (thn (ha.run pos pins s σ H _ I h) fun us s1 ⟨vs, H1, I1, r1, a, xs, ev, hq, q⟩ => ?_) hs rfl))
  subst ev
  cases r1 with
  | cons ra rr =>
    cases rr
    cases ra
    obtain ⟨its, rv, tu, hz⟩ := I1.tuple hq
    have la : a < s1.heap.objs.size := by obtain ⟨o, ho, _⟩ := tu; exact Heap.lt_size ho
    refine om_enum_call (begins_tuple a its.toArray) tu fun h' he hi hk => wpAny_pyIter_enum he ?_
    have I2 : Inv X pins σ H1 { s1 with heap := h' } := I1.kept (t' := s1.toks) hk
    refine ⟨s1.heap.objs.size + 1, [s1.heap.objs.size + 1, s1.heap.objs.size], _, _, H1, rfl, I2, turn_enumT (a := a) (xs := xs) (Nat.ne_of_lt (Nat.lt_succ_of_lt la)) (Nat.ne_of_lt la) (Nat.succ_ne_self _), ⟨⟨.none, he⟩, _, hi, rfl, rfl⟩, fun b hb => ?_, q⟩
    have hb2 : s1.heap.objs.size ≤ b := by
      rcases (show b = s1.heap.objs.size + 1 ∨ b = s1.heap.objs.size by simpa using hb) with rfl | rfl
      · omega
      · exact Nat.le_refl _
    exact I1.fpOk hb2 (I1.hok.fresh hb2)
/-- for i, x in enumerate(t): one turn from Pv i to Pv (i + 1) -/
theorem for_enumT {K : PySem.W.Frag} {a : Addr} {xs : List V} {g : TG} {tb : TS} {D : Ends} {σ : L2.St} {H : Hp} (Pv : Nat → L2.St → Hp → Prop) (h0 : Pv 0 σ H) (hl : ∀ i σ H, i ≤ xs.length → Pv i σ H → SqT K H a xs)
    (hs : ∀ i x T σ H, xs[i]? = some x → Pv i σ H → H T = none → g (.ref T) σ (upd H T (.tup [.int (i : Nat), x])) fun σ2 H2 => tb { D with nx := Pv (i + 1), ct := Pv (i + 1), bk := D.nx } σ2 H2) (hd : ∀ σ H, Pv xs.length σ H → D.nx σ H) :
    ∃ W : Nat → Nat → L2.St → Hp → Prop, (∃ m, W 0 m σ H) ∧ ∀ i m σ H, W i m σ H → ((IteT K a xs).stop i H ∧ D.nx σ H) ∨ ((IteT K a xs).go i H ∧ ∃ Nx : L2.St → Hp → Prop, (∀ σ' H', Nx σ' H' → ∃ m', m' < m ∧ W (i + 1) m' σ' H') ∧
      ∀ x H', (IteT K a xs).yld i H x H' → g x σ H' fun σ2 H2 => tb { D with nx := Nx, ct := Nx, bk := D.nx } σ2 H2) := by
  refine ⟨fun i m σ H => m = xs.length - i ∧ i ≤ xs.length ∧ Pv i σ H, ⟨xs.length, by omega, Nat.zero_le _, h0⟩, ?_⟩
  rintro i m σ H ⟨rfl, hi, p⟩
  have q := hl i σ H hi p
  by_cases hlt : i < xs.length
  · refine .inr ⟨⟨q, hlt⟩, Pv (i + 1), fun σ' H' p' => ⟨xs.length - (i + 1), by omega, rfl, hlt, p'⟩, fun x H' hy => ?_⟩
    obtain ⟨T, y, rfl, hT, rfl, hx⟩ := hy
    exact hs i y T σ H hx p hT
  · obtain rfl : i = xs.length := by omega
    exact .inl ⟨⟨q, rfl⟩, hd σ H p⟩
end Om

/-! the first wrong sign of rows: the program's way and the law's -/
namespace Om
def okB (c : Nat) : Bool := decide (c = 46 ∨ c = 126 ∨ (65 ≤ c ∧ c ≤ 90))
theorem okB_iff (c : Nat) : okB c = true ↔ okSign c := by unfold okB okSign; exact decide_eq_true_iff
/-- the first of n columns from i on that is missing or wrong -/
def fw (r : List Nat) : Nat → Nat → Option Nat
  | 0, _ => none
  | n + 1, i => if i = r.length ∨ okB (r.getD i 0) = false then some i else fw r n (i + 1)
def fwEnd (r : List Nat) (wd : Nat) : Option Nat := if wd < r.length then some wd else none
def orElse' (a b : Option Nat) : Option Nat := match a with
  | some c => some c
  | none => b
def fwc (r : List Nat) (wd : Nat) : Option Nat := orElse' (fw r wd 0) (fwEnd r wd)
def chkF (wd : Nat) : List (List Nat) → Nat → Option (Nat × Nat)
  | [], _ => none
  | r :: rs, i => if i = 12 then some (i, 0) else match fwc r wd with
    | some c => some (i, c)
    | none => chkF wd rs (i + 1)
def wdOf (r : List Nat) : Nat := max 1 (min r.length 12)
def chk : List (List Nat) → Option (Nat × Nat)
  | [] => some (0, 0)
  | r :: rs => chkF (wdOf r) (r :: rs) 0
def dc (w0 : Nat) (r : List Nat) : Nat → Nat → Option Nat
  | 0, _ => none
  | n + 1, i => if 12 ≤ i ∨ w0 ≤ i ∨ okB (r.getD i 0) = false then some i else dc w0 r n (i + 1)
def dcEnd (w0 : Nat) (r : List Nat) : Option Nat := if r.length < w0 then some r.length else none
def dcc (w0 : Nat) (r : List Nat) : Option Nat := orElse' (dc w0 r r.length 0) (dcEnd w0 r)
def dueF (w0 : Nat) : List (List Nat) → Nat → Option (Nat × Nat)
  | [], _ => none
  | r :: rs, i => if i = 12 then some (12, 0) else match dcc w0 r with
    | some c => some (i, c)
    | none => dueF w0 rs (i + 1)
def due : List (List Nat) → Option (Nat × Nat)
  | [] => some (0, 0)
  | [] :: _ => some (0, 0)
  | (c :: r) :: rs => dueF (r.length + 1) ((c :: r) :: rs) 0
theorem row_same {r : List Nat} {w0 wd : Nat} (hwd : wd = min w0 12) (hc : w0 ≤ 12 ∨ r.length = w0) :
    ∀ (m i n k : Nat), m = wd - i → i ≤ wd → i ≤ r.length → n = wd - i → k = r.length - i → orElse' (fw r n i) (fwEnd r wd) = orElse' (dc w0 r k i) (dcEnd w0 r) := by
  intro m
  induction m with
  | zero =>
    intro i n k hm hi hr hn hk
    obtain rfl : i = wd := by omega
    obtain rfl : n = 0 := by omega
    show fwEnd r i = _
    unfold fwEnd
    by_cases hl : i < r.length
    · rw [if_pos hl]
      obtain ⟨k', rfl⟩ : ∃ k', k = k' + 1 := ⟨k - 1, by omega⟩
      unfold dc
      rw [if_pos (by omega)]
      rfl
    · rw [if_neg hl]
      obtain rfl : k = 0 := by omega
      show none = dcEnd w0 r
      unfold dcEnd
      rw [if_neg (by omega)]
  | succ m ih =>
    intro i n k hm hi hr hn hk
    obtain ⟨n', rfl⟩ : ∃ n', n = n' + 1 := ⟨n - 1, by omega⟩
    by_cases he : i = r.length
    · obtain rfl : k = 0 := by omega
      unfold fw
      rw [if_pos (.inl he)]
      show some i = dcEnd w0 r
      unfold dcEnd
      rw [if_pos (by omega), he]
    · obtain ⟨k', rfl⟩ : ∃ k', k = k' + 1 := ⟨k - 1, by omega⟩
      unfold fw dc
      by_cases hb : okB (r.getD i 0) = false
      · rw [if_pos (.inr hb), if_pos (.inr (.inr hb))]
        rfl
      · rw [if_neg (by intro h; rcases h with h | h; exact he h; exact hb h), if_neg (by intro h; rcases h with h | h | h; omega; omega; exact hb h)]
        exact ih (i + 1) n' k' (by omega) (by omega) (by omega) (by omega) (by omega)
theorem fwc_dcc {r : List Nat} {w0 : Nat} (hc : w0 ≤ 12 ∨ r.length = w0) : fwc r (min w0 12) = dcc w0 r :=
  row_same (wd := min w0 12) rfl hc _ 0 _ _ rfl (Nat.zero_le _) (Nat.zero_le _) rfl rfl
theorem chkF_dueF {w0 : Nat} (h : w0 ≤ 12) : ∀ (rs : List (List Nat)) (i : Nat), chkF (min w0 12) rs i = dueF w0 rs i
  | [], _ => rfl
  | r :: rs, i => by
    unfold chkF dueF
    by_cases hi : i = 12
    · rw [if_pos hi, if_pos hi, hi]
    · rw [if_neg hi, if_neg hi, fwc_dcc (.inl h), chkF_dueF h rs (i + 1)]
theorem chk_due : ∀ rows : List (List Nat), chk rows = due rows
  | [] => rfl
  | [] :: rs => rfl
  | (c :: r) :: rs => by
    have hw : wdOf (c :: r) = min (r.length + 1) 12 := by unfold wdOf; simp only [List.length_cons]; omega
    show chkF (wdOf (c :: r)) ((c :: r) :: rs) 0 = dueF (r.length + 1) ((c :: r) :: rs) 0
    rw [hw]
    by_cases h : r.length + 1 ≤ 12
    · exact chkF_dueF h _ 0
    · unfold chkF dueF
      rw [if_neg (by decide), if_neg (by decide), fwc_dcc (r := c :: r) (w0 := r.length + 1) (.inr rfl)]
      have hs : ∃ x, dcc (r.length + 1) (c :: r) = some x := by
        rw [← fwc_dcc (r := c :: r) (w0 := r.length + 1) (.inr rfl)]
        unfold fwc fwEnd
        cases hf : fw (c :: r) (min (r.length + 1) 12) 0 with
        | some x => exact ⟨x, rfl⟩
        | none => exact ⟨_, if_pos (by simp only [List.length_cons]; omega)⟩
      obtain ⟨x, hx⟩ := hs
      rw [hx]
/-- rows that are good -/
theorem fw_none {r : List Nat} (h : ∀ c ∈ r, okSign c) : ∀ n i, i + n ≤ r.length → fw r n i = none
  | 0, _, _ => rfl
  | n + 1, i, hi => by
    unfold fw
    have h1 : okB (r.getD i 0) = true := by
      rw [okB_iff, List.getD_eq_getElem?_getD, List.getElem?_eq_getElem (by omega)]
      exact h _ (List.getElem_mem _)
    rw [if_neg (by rintro (h | h); · omega
                   · rw [h1] at h; cases h), fw_none h n (i + 1) (by omega)]
theorem chkF_none {wd : Nat} : ∀ (rs : List (List Nat)) (i : Nat), i + rs.length ≤ 12 → (∀ r ∈ rs, r.length = wd ∧ ∀ c ∈ r, okSign c) → chkF wd rs i = none
  | [], _, _, _ => rfl
  | r :: rs, i, hi, h => by
    obtain ⟨h1, h2⟩ := h r (List.mem_cons_self ..)
    unfold chkF
    have e : fwc r wd = none := by
      unfold fwc fwEnd
      rw [fw_none h2 wd 0 (by omega), if_neg (by omega)]
      rfl
    simp only [List.length_cons] at hi
    rw [if_neg (by omega), e]
    exact chkF_none rs (i + 1) (by omega) fun r hr => h r (List.mem_cons_of_mem _ hr)
theorem chk_rows {m : Nat} {rows : List (List Nat)} (h : RowsOk m rows) (hm : m ≤ 12) : chk rows = none := by
  obtain ⟨h1, h2, wd, w1, w2, hr⟩ := h
  cases rows with
  | nil => simp at h1
  | cons r rs =>
    have e := (hr r (List.mem_cons_self ..)).1
    have hw : wdOf r = wd := by unfold wdOf; omega
    show chkF (wdOf r) (r :: rs) 0 = none
    rw [hw]
    exact chkF_none _ 0 (by omega) hr
end Om

namespace Om
open PySem PySem.Spec PyProof.Rows L2
abbrev sFwc : Stmt := top 18
abbrev sChk : Stmt := top 17
theorem allSigns_cps : allSigns.cps.toList = [46, 65, 66, 67, 68, 69, 70, 71, 72, 73, 74, 75, 76, 77, 78, 79, 80, 81, 82, 83, 84, 85, 86, 87, 88, 89, 90, 126] := by decide +kernel
theorem mem_allSigns (c : Nat) : decide (c ∈ allSigns.cps.toList) = okB c := by
  rw [allSigns_cps]
  unfold okB
  apply decide_eq_decide.mpr
  simp only [List.mem_cons, List.not_mem_nil, or_false]
  omega
def optV : Option Nat → V
  | some c => .int (c : Nat)
  | none => .non
def spFwc : Sp := fun vs H Q _ => ∃ (r : List Nat) (wd : Nat), vs = [.str (tx r), .int wd] ∧ r.length ≤ 1000 ∧ wd ≤ 12 ∧ Q (optV (fwc r wd)) H
theorem small_le {n : Nat} (h : n ≤ 1000) : n ≤ sizeLine := Nat.le_of_lt (small1000 h)
theorem fw_succ (r : List Nat) (n i : Nat) : fw r (n + 1) i = if i = r.length ∨ okB (r.getD i 0) = false then some i else fw r n (i + 1) := rfl
section
variable {P : Program} {w : World} {K : PySem.W.Frag} {mg : Str → Option Value} {base : Heap}
theorem scFwc : FnScope ["signs", "width", "column"] ["signs", "width"] (defScope sFwc) := ⟨rfl, rfl, rfl, by decide +kernel, rfl, by decide +kernel, by decide +kernel⟩
theorem ok_fwc {f : Addr} {fd : FuncData} (F : FnP K "_first_wrong_column" "_first_wrong_column" sFwc f fd) (grange : mg "range" = none) (glen : mg "len" = none) (gall : ∃ t, mg "ALL_SIGNS" = some (.str allSigns t)) :
    FnOk P w K mg base CX0 1 f fd ["signs", "width"] spFwc := by
  obtain ⟨t0, gall⟩ := gall
  refine F.ok scFwc (fun vs H Q E h => ?_) (fun cdv A outer s H vs Q E hr h => ?_)
  · obtain ⟨r, wd, rfl, _⟩ := h
    rfl
  · obtain ⟨r, wd, rfl, hl, hw, k⟩ := h
    have nd := scFwc.nd
    have hl2 : (tx r).length ≤ sizeLine := by rw [tx_len]; exact small_le hl
    refine ⟨_, PSs.nox (pss_cons (ps_for PassesOwn.never rfl (pi_range1 rfl grange (pa_cons (pv 1) pa_nil)) (pg_name (i := 2) nd rfl (.inl rfl))
        (pss_one (ps_if (PW.pt (pw_or (pt_cmpR op_eq (pv 2) (pe_callB call_len_str (by rfl) glen PySem.boot_len (pa_cons (pv 0) pa_nil)) (nomark _))
            (pw_or1 (pt_cmpR op_notIn_sign (pe_ix ix_str (pv 0) (pv 2) (fun _ _ => rfl)) (pe_glob (v := .str allSigns) rfl gall ⟨_, rfl⟩) rfl)))) (pss_one (ps_ret (pv 2))) pss_nil)))
      (pss_cons (ps_if (pt_cmpR op_gt (pe_callB call_len_str (by rfl) glen PySem.boot_len (pa_cons (pv 0) pa_nil)) (pv 1) (nomark _)) (pss_one (ps_ret (pv 1))) pss_nil)
      (pss_one (ps_ret pe_non)))), ?_⟩
    refine ⟨_, rfl, _, rfl, by omega, by omega, for_range (lo := 0) (n := (wd : Int).toNat) (fun i σ H' => H' = H ∧ (∃ v, σ = [some (.str (tx r)), some (.int wd), v]) ∧ fw r wd 0 = fw r (wd - i) i ∧ i ≤ r.length) ⟨rfl, ⟨none, rfl⟩, rfl, Nat.zero_le _⟩ ?_ ?_⟩
    · rintro i σ H' hi ⟨rfl, ⟨v, rfl⟩, hf, hir⟩
      have hi' : i < wd := by omega
      obtain ⟨n, hn⟩ : ∃ n, wd - i = n + 1 := ⟨wd - i - 1, by omega⟩
      have hn2 : n = wd - (i + 1) := by omega
      rw [hn, fw_succ] at hf
      refine ⟨_, rfl, _, rfl, _, rfl, hl2, rfl, _, rfl, ?_⟩
      have e1 : decide (V.int (0 + (i : Int)) = V.int ((tx r).length : Nat)) = decide (i = r.length) := by
        rw [tx_len]
        apply decide_eq_decide.mpr
        constructor
        · intro h; injection h with h; omega
        · intro h; subst h; rw [Int.zero_add]
      have ret : (i = r.length ∨ okB (r.getD i 0) = false) → Q (.int (0 + (i : Int))) H' := fun h => by
        rw [if_pos h] at hf
        have e2 : fwc r wd = some i := by
          unfold fwc
          rw [hf]
          rfl
        rw [e2] at k
        rw [Int.zero_add]
        exact k
      show (if decide (V.int (0 + (i : Int)) = V.int ((tx r).length : Nat)) = true then _ else _)
      rw [e1]
      refine ite2 (fun hz => ?_) (fun hz => ?_)
      · refine iteT ⟨_, rfl, ?_⟩
        exact ret (.inl (of_decide_eq_true hz))
      · have hne : i ≠ r.length := fun e => hz (decide_eq_true e)
        have hlt : i < r.length := by omega
        · refine ⟨_, rfl, _, rfl, _, _, r[i], rfl, rfl, hl2, ?_, _, _, rfl, rfl, _, rfl, ?_⟩
          · rw [tx_cps, Int.zero_add]
            exact atI_nat (by simp [hlt])
          · rw [mem_allSigns]
            have e3 : r.getD i 0 = r[i] := by rw [List.getD_eq_getElem?_getD, List.getElem?_eq_getElem hlt]; rfl
            rw [e3] at ret hf
            cases hb : okB r[i] with
            | false =>
              refine iteT ⟨_, rfl, ?_⟩
              exact ret (.inr hb)
            | true =>
              refine iteF ?_
              refine ⟨rfl, ⟨_, rfl⟩, ?_, hlt⟩
              rw [hf, if_neg (by rintro (h | h); · exact hne h
                                 · rw [hb] at h; cases h), hn2]
    · rintro σ H' ⟨rfl, ⟨v, rfl⟩, hf, hir⟩
      have e0 : (wd : Int).toNat = wd := by omega
      rw [e0, Nat.sub_self] at hf
      have hf : fw r wd 0 = none := hf
      refine ⟨_, rfl, _, rfl, hl2, _, rfl, _, _, rfl, rfl, _, rfl, ?_⟩
      have e2 : fwc r wd = fwEnd r wd := by
        unfold fwc
        rw [hf]
        rfl
      rw [e2] at k
      rw [tx_len]
      refine ite2 (fun hz => ?_) (fun hz => ?_)
      · have hz' : (wd : Int) < (r.length : Nat) := of_decide_eq_true hz
        refine ⟨_, rfl, ?_⟩
        unfold fwEnd at k
        rw [if_pos (by omega)] at k
        exact k
      · have hz' : ¬ (wd : Int) < (r.length : Nat) := fun h => hz (decide_eq_true h)
        unfold fwEnd at k
        rw [if_neg (by omega)] at k
        exact k
end
end Om

namespace Om
open PySem PySem.Spec PyProof.Rows L2
/-- what the top says of InvalidIsland, at C, its __init__ at fI -/
structure IsI (K : PySem.W.Frag) (mg : Str → Option Value) (C fI : Addr) : Prop where
  oex : OexC K C
  noR : PySem.W.findIn K (.ref C) "row" = some none
  noC : PySem.W.findIn K (.ref C) "column" = some none
  iC : PySem.W.findIn K (.ref C) "__init__" = some (some (.ref fI))
  tI : PySem.W.typeIn K (.ref fI) = some (.type "function")
  gC : mg "InvalidIsland" = some (.ref C)
def xdII (x y : V) : List (Str × V) := [(("column" : Str), y), (("row" : Str), x)]
def spII (C : Addr) : Sp := fun vs H Q _ => ∃ (a : Addr) (x y : V), vs = [.ref a, x, y] ∧ H a = some (exo a C none) ∧
  ∀ dx, H dx = none → dx ≠ a → Q .non (upd (upd (upd H dx (exd dx [(("row" : Str), x)])) a (exo a C (some dx))) dx (exd dx (xdII x y)))
theorem mkII {C : Addr} {H1 : Hp} {W : XK} {x y : V} (k : ∀ d H', H1 d = none → Same H1 H' → H' d = some (.xd (xdII x y)) → W (.ref C) (some d) H') :
    [x, y].length ≤ 1000 ∧ ∀ a, H1 a = none → spII C (.ref a :: ([x, y] ++ [])) (upd H1 a (exo a C none)) (fun v H2 => v = .non ∧ ∃ (d : Addr) (fs : List (Str × V)), H2 a = some (exo a C (some d)) ∧ H2 d = some (exd d fs) ∧ H1 d = none ∧ W (.ref C) (some d) (upd (del H2 a) d (.xd fs))) (fun _ _ _ => False) := by
  refine ⟨by simp, fun a ha => ⟨a, x, y, rfl, upd_same, fun dx h1 h2 => ⟨rfl, dx, _, ?_, upd_same, ?_, ?_⟩⟩⟩
  · rw [upd_ne (Ne.symm h2), upd_same]
  · rw [upd_ne h2] at h1; exact h1
  · rw [upd_ne h2] at h1
    refine k dx _ h1 (fun c o hc => ?_) upd_same
    have n1 : c ≠ dx := ne_of_none hc h1
    have n2 : c ≠ a := ne_of_none hc ha
    rw [upd_ne n1, del_ne n2, upd_ne n1, upd_ne n2, upd_ne n1, upd_ne n2]
    exact hc
theorem Same.tup {K : PySem.W.Frag} {H H' : Hp} {a : Addr} {xs : List V} (e : Same H H') (h : SqT K H a xs) : SqT K H' a xs := by
  rcases h with (h | ⟨o, h⟩) | h
  · exact .inl (.inl (e _ _ h))
  · exact .inl (.inr ⟨o, e _ _ h⟩)
  · exact .inr h
theorem chkF_cons (wd : Nat) (r : List Nat) (rs : List (List Nat)) (i : Nat) : chkF wd (r :: rs) i = if i = 12 then some (i, 0) else match fwc r wd with
    | some c => some (i, c)
    | none => chkF wd rs (i + 1) := rfl
def spChk (K : PySem.W.Frag) (C : Addr) : Sp := fun vs H Q E => ∃ (a : Addr) (rows : List (List Nat)), vs = [.ref a] ∧ SqT K H a (rows.map vt) ∧ rows.length ≤ 1000 ∧ (∀ r ∈ rows, r.length ≤ 1000) ∧
  (chk rows = none → ∀ H', Same H H' → Q .non H') ∧ ∀ r c, chk rows = some (r, c) → ∀ d H', H d = none → Same H H' → H' d = some (.xd (xdII (.int (r : Nat)) (.int (c : Nat)))) → E (.ref C) (some d) H'
section
variable {P : Program} {w : World} {K : PySem.W.Frag} {mg : Str → Option Value} {base : Heap} {C fI : Addr}
theorem scII : FnScope ["self", "row", "column"] ["self", "row", "column"] (defScope sII) := ⟨rfl, rfl, rfl, by decide +kernel, rfl, by decide +kernel, by decide +kernel⟩
theorem ok_II {fd : FuncData} (F : FnP K "__init__" "InvalidIsland.__init__" sII fI fd) (T : IsI K mg C fI) : FnOk P w K mg base CX0 1 fI fd ["self", "row", "column"] (spII C) := by
  refine F.ok scII (fun vs H Q E h => ?_) (fun cdv A outer s H vs Q E hr h => ?_)
  · obtain ⟨a, x, y, rfl, _⟩ := h
    rfl
  · obtain ⟨a, x, y, rfl, ha, k⟩ := h
    refine ⟨_, PSs.nox (pss_cons (ps_ost (pv 0) (pv 1)) (pss_one (ps_ost (pv 0) (pv 2)))), ?_⟩
    refine ⟨_, rfl, _, rfl, a, C, rfl, T.oex, T.noR, .inl ⟨ha, fun dx h1 h2 => ?_⟩⟩
    exact ⟨_, rfl, _, rfl, a, C, rfl, T.oex, T.noC, .inr ⟨dx, _, upd_same, (by rw [upd_ne h2]; exact upd_same), by simp, k dx h1 h2⟩⟩
abbrev nChk : List Str := ["rows", "width", "row", "signs", "column"]
theorem scChk : FnScope nChk ["rows"] (defScope sChk) := ⟨rfl, rfl, rfl, by decide +kernel, rfl, by decide +kernel, by decide +kernel⟩
theorem ok_chk {f : Addr} {fd fdI : FuncData} (F : FnP K "_check_rows" "_check_rows" sChk f fd) (T : IsI K mg C fI) (FI : FnOk P w K mg base CX0 1 fI fdI ["self", "row", "column"] (spII C)) (bI : Binds K fdI ["self", "row", "column"] [])
    (G : Cal P w K mg base CX0 1 "_first_wrong_column" ["signs", "width"] spFwc) (glen : mg "len" = none) (gmax : mg "max" = none) (gmin : mg "min" = none) (genum : mg "enumerate" = none) (glg : ∃ t, mg "LARGEST" = some (.int 12 t)) :
    FnOk P w K mg base (L2.CX P w) 3 f fd ["rows"] (spChk K C) := by
  obtain ⟨t0, glg⟩ := glg
  refine F.ok scChk (fun vs H Q E h => ?_) (fun cdv A outer s H vs Q E hr h => ?_)
  · obtain ⟨a, rows, rfl, _⟩ := h
    rfl
  · obtain ⟨a, rows, rfl, hS, hl, hrl, kN, kS⟩ := h
    have nd := scChk.nd
    have hr1 : Room 1 _ := hr.mono (by decide)
    refine ⟨_, pss_cons (ps_if (pt_cmpR op_eq (pe_callB call_len_seq (by rfl) glen PySem.boot_len (pa_cons (pv 0) pa_nil)) pe_int (nomark _))
          (pss_one (ps_raise rfl (takes_of rfl rfl rfl rfl) (pmk_oex T.oex T.iC T.tI FI hr bI .nil pass0 rfl T.gC (pa_cons pe_int (pa_cons pe_int pa_nil))))) pss_nil)
      (pss_cons (ps_set (i := 1) nd rfl (.inl rfl) (pe_callB (call_max2 rfl) (by rfl) gmax (by decide +kernel) (pa_cons pe_int (pa_cons
          (pe_callB (call_min2 rfl) (by rfl) gmin (by decide +kernel) (pa_cons (pe_callB call_len_str (by rfl) glen PySem.boot_len (pa_cons (pe_ix ix_tup (pv 0) pe_int (fun _ _ => rfl)) pa_nil)) (pa_cons (pe_glob (v := .int 12) rfl glg ⟨_, rfl⟩) pa_nil))) pa_nil))))
      (pss_one (ps_for (passes_of rfl) rfl (pi_enumT rfl genum (pa_cons (pv 0) pa_nil)) (pg_tup rfl (pgs_cons (pg_name (i := 2) nd rfl (.inl rfl)) (pgs_cons (pg_name (i := 3) nd rfl (.inl rfl)) pgs_nil)))
        (pss_cons (ps_if (pt_cmpR op_eq (pv 2) (pe_glob (v := .int 12) rfl glg ⟨_, rfl⟩) (nomark _))
            (pss_one (ps_raise rfl (takes_of rfl rfl rfl rfl) (pmk_oex T.oex T.iC T.tI FI hr bI .nil pass0 rfl T.gC (pa_cons (pv 2) (pa_cons pe_int pa_nil))))) pss_nil)
        (pss_cons (ps_set (i := 4) nd rfl (.inl rfl) (pe_cal G hr1 pass0 (pa_cons (pv 3) (pa_cons (pv 1) pa_nil))))
        (pss_one (ps_if (pt_cmpR op_notN (pv 4) pe_non (nomark _))
            (pss_one (ps_raise rfl (takes_of rfl rfl rfl rfl) (pmk_oex T.oex T.iC T.tI FI hr bI .nil pass0 rfl T.gC (pa_cons (pv 2) (pa_cons (pv 4) pa_nil))))) pss_nil))))))), ?_⟩
    refine ⟨_, rfl, a, _, rfl, .inr hS, rfl, _, rfl, ?_⟩
    cases rows with
    | nil =>
      refine iteT ?_
      exact mkII (W := E) fun d H' h1 h2 h3 => kS 0 0 rfl d H' h1 h2 h3
    | cons r0 rs =>
      have hne : ¬ decide (V.int (((r0 :: rs).map vt).length : Nat) = V.int 0) = true := fun h => by
        have h := of_decide_eq_true h
        injection h with h
        simp only [List.length_map, List.length_cons] at h
        omega
      rw [if_neg hne]
      have hr0 : (tx r0).length ≤ sizeLine := by rw [tx_len]; exact small_le (hrl r0 (List.mem_cons_self ..))
      refine ⟨_, rfl, a, _, 0, _, rfl, rfl, hS, at0, _, rfl, hr0, _, _, rfl, _, _, rfl, ?_⟩
      have ew : (if (if (12 : Int) < ((tx r0).length : Nat) then (12 : Int) else ((tx r0).length : Nat)) > 1 then (if (12 : Int) < ((tx r0).length : Nat) then (12 : Int) else ((tx r0).length : Nat)) else 1) = ((wdOf r0 : Nat) : Int) := by
        rw [tx_len]
        unfold wdOf
        split <;> split <;> omega
      rw [ew]
      have hwd : wdOf r0 ≤ 12 := by unfold wdOf; omega
      refine ⟨_, rfl, a, _, rfl, hS, for_enumT (K := K) (a := a) (xs := (r0 :: rs).map vt) (fun i σ H' => Same H H' ∧ (∃ v2 v3 v4, σ = [some (.ref a), some (.int (wdOf r0 : Nat)), v2, v3, v4]) ∧ chk (r0 :: rs) = chkF (wdOf r0) ((r0 :: rs).drop i) i)
        ⟨Same.refl H, ⟨_, _, _, rfl⟩, rfl⟩ (fun i σ H' _ p => Same.tup p.1 hS) ?_ ?_⟩
      · rintro i x T1 σ H1 hx ⟨sm, ⟨v2, v3, v4, rfl⟩, hc⟩ hT1
        rw [List.getElem?_map] at hx
        cases hri : (r0 :: rs)[i]? with
        | none => rw [hri] at hx; cases hx
        | some r =>
          rw [hri] at hx
          obtain rfl : vt r = x := Option.some.inj hx
          have hlt : i < (r0 :: rs).length := (List.getElem?_eq_some_iff.mp hri).1
          have hre : (r0 :: rs)[i] = r := (List.getElem?_eq_some_iff.mp hri).2
          have hmem : r ∈ r0 :: rs := hre ▸ List.getElem_mem hlt
          rw [List.drop_eq_getElem_cons hlt, hre, chkF_cons] at hc
          have sm1 : Same H (upd H1 T1 (.tup [.int (i : Nat), vt r])) := Same.new sm hT1
          refine ⟨T1, _, rfl, .inl (.inl upd_same), rfl, _, _, rfl, _, _, rfl, rfl, ?_⟩
          refine ⟨_, rfl, rfl, _, rfl, ?_⟩
          refine ite2 (fun hz => ?_) (fun hz => ?_)
          · have hz := of_decide_eq_true hz
            injection hz with hz
            have hi : i = 12 := by omega
            rw [if_pos hi] at hc
            refine ⟨_, rfl, ?_⟩
            exact mkII (W := E) fun d H' h1 h2 h3 => kS i 0 hc d H' (Same.free sm1 h1) (sm1.trans h2) h3
          · have hi : i ≠ 12 := fun h => hz (decide_eq_true (by rw [h]; rfl))
            rw [if_neg hi] at hc
            refine ⟨_, rfl, _, rfl, r, wdOf r0, rfl, hrl r hmem, hwd, ?_⟩
            refine ⟨_, rfl, rfl, _, rfl, ?_⟩
            cases hf : fwc r (wdOf r0) with
            | none =>
              rw [hf] at hc
              refine iteF ?_
              exact ⟨sm1, ⟨_, _, _, rfl⟩, hc⟩
            | some c =>
              rw [hf] at hc
              refine iteT ⟨_, rfl, _, rfl, ?_⟩
              exact mkII (W := E) fun d H' h1 h2 h3 => kS i c hc d H' (Same.free sm1 h1) (sm1.trans h2) h3
      · rintro σ H1 ⟨sm, ⟨v2, v3, v4, rfl⟩, hc⟩
        have e0 : (r0 :: rs).drop ((r0 :: rs).map vt).length = [] := by simp
        rw [e0] at hc
        exact kN hc H1 sm
end
end Om

namespace Om
open PySem PySem.Spec PyProof.Rows L2 LamX
theorem iteT' {b : Bool} {A B : Prop} (h : b = true) (a : A) : if b = true then A else B := by
  rw [h, if_pos rfl]
  exact a
theorem iteF' {b : Bool} {A B : Prop} (h : b = false) (a : B) : if b = true then A else B := by
  rw [h, if_neg Bool.false_ne_true]
  exact a
end Om

namespace Om
open PySem PySem.Spec PyProof.Rows L2 LamX
/-! ### a text of some signs, several times -/
theorem foldl_rep (cs : List Nat) : ∀ (n : Nat) (acc : List Nat), (List.replicate n cs.toArray).foldl (· ++ ·) acc.toArray = (acc ++ (List.replicate n cs).flatten).toArray
  | 0, acc => by simp
  | n + 1, acc => by
    rw [List.replicate_succ, List.foldl_cons]
    have e : acc.toArray ++ cs.toArray = (acc ++ cs).toArray := by simp
    rw [e, foldl_rep cs n (acc ++ cs), List.replicate_succ, List.flatten_cons, List.append_assoc]
def rMulS : R2 := fun x y H Q => ∃ (cs : List Nat) (k : Int), x = .str (tx cs) ∧ y = .int k ∧ cs ≠ [] ∧ cs.length ≤ 1000 ∧ 2 ≤ k ∧ k ≤ 1000 ∧ Q (.str (tx (List.replicate k.toNat cs).flatten)) H
theorem op_mulS {X : Cx} : OpR X (binaryOp .Mult) rMulS := by
  rintro pins s σ H x y v u Q I rx ry ⟨cs, k, rfl, rfl, hne, hl, h2, h3, q⟩
  obtain ⟨t, rfl⟩ := rx
  obtain ⟨t', rfl⟩ := ry
  have hk : (List.replicate k.toNat cs).flatten.length ≤ 1000000 := by
    rw [PyProof.Rows.lm_len_rep_flat]
    have a1 : k.toNat * cs.length ≤ 1000 * 1000 := Nat.mul_le_mul (by omega) hl
    omega
  have hm : (tx cs).length * k.toNat ≤ 1000000 := by
    rw [tx_len]
    have a1 : cs.length * k.toNat ≤ 1000 * 1000 := Nat.mul_le_mul hl (by omega)
    omega
  have n1 : ¬ k < 1 := by omega
  have n2 : (k == 1 || (tx cs).length == 0) = false := by
    rw [tx_len, Bool.or_eq_false_iff]
    refine ⟨by simpa using (show ¬ k = 1 by omega), ?_⟩
    cases cs with
    | nil => exact absurd rfl hne
    | cons a r => rfl
  refine PySem.P.mul_str ?_ (fun _ _ => ?_) (fun _ _ => ?_) ?_
  · rw [decide_eq_false (show ¬ k < -(2 ^ 63 : Int) by omega), decide_eq_false (show ¬ k ≥ 2 ^ 63 by omega)]
    rfl
  · have e1 : (1000 : Int) ≤ (2 ^ 63 - 1) / k := by
      rw [Int.le_ediv_iff_mul_le (by omega)]
      have : 1000 * k ≤ 1000 * 1000 := Int.mul_le_mul_of_nonneg_left h3 (by omega)
      omega
    rw [tx_len]
    omega
  · refine decide_eq_false (show ¬ (tx cs).length * k.toNat > sizeLine from Nat.not_lt.mpr (Nat.le_trans hm (by decide)))
  · rw [if_neg n1, if_neg (by rw [n2]; exact Bool.false_ne_true)]
    have e2 : (⟨(List.replicate k.toNat (tx cs).cps).foldl (· ++ ·) #[]⟩ : Str) = tx (List.replicate k.toNat cs).flatten := by
      have := foldl_rep cs k.toNat []
      unfold tx
      rw [← List.nil_append (List.replicate k.toNat cs).flatten, ← this]
    rw [e2]
    exact ⟨by rw [tx_len]; exact Nat.le_trans hk (by decide), .str (tx (List.replicate k.toNat cs).flatten), H, I.tok _, ⟨_, rfl⟩, q⟩
/-! ### the island is made -/
/-- what the top says of Island, at CI -/
structure IslF (K : PySem.W.Frag) (mg : Str → Option Value) (CI fN : Addr) : Prop where
  cl : Cls K CI
  nR : NoAttr K CI "_rows"
  made : Mk K CI fN
  gI : mg "Island" = some (.ref CI)
def islFs (a : Addr) : List (Str × V) := putF "_rows" (.ref a) []
def spIsl (K : PySem.W.Frag) (CI C0 : Addr) : Sp := fun vs H Q E => ∃ (p dx a : Addr) (rows : List (List Nat)), vs = [.ref p, .ref a] ∧ H p = some (.ins CI dx []) ∧ SqT K H a (rows.map vt) ∧ rows.length ≤ 1000 ∧ (∀ r ∈ rows, r.length ≤ 1000) ∧
  (chk rows = none → ∀ H', (∀ b o, H b = some o → b ≠ p → H' b = some o) → H' p = some (.ins CI dx (islFs a)) → Q .non H') ∧
  ∀ r c, chk rows = some (r, c) → ∀ d H', H d = none → Same H H' → H' d = some (.xd (xdII (.int (r : Nat)) (.int (c : Nat)))) → E (.ref C0) (some d) H'
section
variable {P : Program} {w : World} {K : PySem.W.Frag} {mg : Str → Option Value} {base : Heap} {CI C0 fN : Addr}
theorem scIsl : FnScope ["self", "rows"] ["self", "rows"] (defScope sIslI) := ⟨rfl, rfl, rfl, by decide +kernel, rfl, by decide +kernel, by decide +kernel⟩
theorem ok_isl {fd : FuncData} (F : FnP K "__init__" "Island.__init__" sIslI fN fd) (T : IslF K mg CI fN) (G : Cal P w K mg base (L2.CX P w) 3 "_check_rows" ["rows"] (spChk K C0)) (gtuple : mg "tuple" = none) :
    FnOk P w K mg base (L2.CX P w) 4 fN fd ["self", "rows"] (spIsl K CI C0) := by
  refine F.ok scIsl (fun vs H Q E h => ?_) (fun cdv A outer s H vs Q E hr h => ?_)
  · obtain ⟨p, dx, a, rows, rfl, _⟩ := h
    rfl
  · obtain ⟨p, dx, a, rows, rfl, hp, hS, hl, hrl, kN, kS⟩ := h
    refine ⟨_, pss_cons (ps_expr (pe_cal G hr (E := E) (passes_call (W := fun cls d _ H => E cls d H) (takes_of rfl rfl rfl rfl) fun _ _ _ _ h => h) (pa_cons (pv 1) pa_nil)))
      (pss_one (ps_fld (pv 0) (pe_callTy call_tuple_of (by rfl) gtuple (by decide +kernel) (pa_cons (pv 1) pa_nil)) rfl)), ?_⟩
    refine ⟨_, rfl, a, rows, rfl, hS, hl, hrl, fun e H1 s1 => ?_, fun r c e d H' h1 h2 h3 => kS r c e d H' h1 h2 h3⟩
    refine ⟨_, rfl, a, _, rfl, .inr ⟨Same.tup s1 hS, ?_⟩⟩
    refine ⟨_, rfl, p, CI, dx, [], rfl, s1 _ _ hp, T.cl, T.nR, by decide, ?_⟩
    exact kN e _ (fun b o hb n => by rw [upd_ne n]; exact s1 _ _ hb) upd_same
end
end Om


namespace Om
open PySem PySem.Spec PyProof.Rows L2 LamX
def ansII (r c : Nat) : List V := [.str "InvalidIsland", .int (r : Nat), .int (c : Nat)]
def Lo (rows : List (List Nat)) : Prop := ∀ r ∈ rows, ∀ c ∈ r, c < 1000
/-! ### what stays from step to step of a law -/
/-- all but tables and the box stay -/
def Lv (b l : Addr) (H H' : Hp) : Prop := ∀ c o, H c = some o → (∀ ps, o ≠ .tbl ps) → c ≠ b → c ≠ l → H' c = some o
theorem Lv.refl (b l : Addr) (H : Hp) : Lv b l H H := fun _ _ h _ _ _ => h
theorem Lv.trans {b l : Addr} {H H1 H2 : Hp} (u : Lv b l H H1) (v : Lv b l H1 H2) : Lv b l H H2 := fun c o h n n1 n2 => v c o (u c o h n n1 n2) n n1 n2
theorem Kp.lv {b l : Addr} {H H' : Hp} (k : Kp b l H H') : Lv b l H H' := fun c o h _ n1 n2 => k c o h n1 n2
theorem lv_ext {b l : Addr} {H H' : Hp} (k : ExtN H H') : Lv b l H H' := fun c o h n _ _ => k c o h n
theorem lv_same {b l : Addr} {H H' : Hp} (k : Same H H') : Lv b l H H' := fun c o h _ _ _ => k c o h
theorem Lv.tup {K : PySem.W.Frag} {b l a : Addr} {H H' : Hp} {xs : List V} (v : Lv b l H H') (B : Box H b l) (h : SqT K H a xs) : SqT K H' a xs := by
  obtain ⟨ns, z, h1, h2, _⟩ := B.ex
  rcases h with (h | ⟨o, h⟩) | h
  · exact .inl (.inl (v _ _ h (fun ps e => by cases e) (ne_of h h1 fun e => by cases e) (ne_of h h2 fun e => by cases e)))
  · exact .inl (.inr ⟨o, v _ _ h (fun ps e => by cases e) (ne_of h h1 fun e => by cases e) (ne_of h h2 fun e => by cases e)⟩)
  · exact .inr h
theorem Box.ext {b l : Addr} {H H' : Hp} (B : Box H b l) (k : ExtN H H') : Box H' b l := by
  obtain ⟨ns, z, h1, h2, h3⟩ := B.ex
  exact ⟨ns, z, k _ _ h1 (fun ps e => by cases e), k _ _ h2 (fun ps e => by cases e), h3⟩
theorem tabs_kp {T : List (Addr × Str)} {b l : Addr} {H H' : Hp} (t : Tabs T H) (B : Box H b l) (k : Kp b l H H') : Tabs T H' := fun p hp => by
  obtain ⟨ns, z, h1, h2, _⟩ := B.ex
  obtain ⟨ps, q1, q2, q3⟩ := t p hp
  refine ⟨ps, k _ _ q1 (ne_of q1 h1 fun e => by cases e) (ne_of q1 h2 fun e => by cases e), q2, fun pos cv hc => ?_⟩
  obtain ⟨c, e1, e2⟩ := q3 pos cv hc
  exact ⟨c, e1, k _ _ e2 (ne_of e2 h1 fun e => by unfold CodeO at e; cases e) (ne_of e2 h2 fun e => by unfold CodeO at e; cases e)⟩
/-! ### tuples cut and put together -/
theorem catA_read {K : PySem.W.Frag} {a b : Addr} {xs ys : List V} {H : Hp} {Q : VK} (hx : SqT K H a xs) (hy : SqT K H b ys) (hl : xs.length + ys.length ≤ sizeLine) (k : ∀ p H', Same H H' → SqT K H' p (xs ++ ys) → Q (.ref p) H') : rCatA K (.ref a) (.ref b) H Q :=
  ⟨a, b, xs, ys, rfl, rfl, hx, hy, hl, fun e => k b H (Same.refl H) (by rw [e]; exact hy), fun _ e => k a H (Same.refl H) (by rw [e, List.append_nil]; exact hx), fun _ _ p hp => k p _ (Same.new (Same.refl H) hp) (.inl (.inl upd_same))⟩
theorem slA_read {K : PySem.W.Frag} {a : Addr} {xs : List V} {lo hi : Option Int} {H : Hp} {Q : VK} (hx : SqT K H a xs) (k : ∀ p H', Same H H' → SqT K H' p (cutV xs lo hi) → Q (.ref p) H') : rSlA K (.ref a) lo hi H Q := by
  refine ⟨a, xs, rfl, hx, fun ⟨e1, e2⟩ => k a H (Same.refl H) ?_, fun _ p hp => k p _ (Same.new (Same.refl H) hp) (.inl (.inl upd_same))⟩
  unfold cutV
  rw [e1, e2, List.drop_zero, Nat.sub_zero, List.take_length]
  exact hx
/-! ### rows with some bound -/
structure Good (rows : List (List Nat)) : Prop where
  len : rows.length ≤ 900
  row : ∀ r ∈ rows, r.length ≤ 1000 ∧ ∀ c ∈ r, c < 1000
theorem Good.lens {rows : List (List Nat)} (g : Good rows) : ∀ r ∈ rows, r.length ≤ 1000 := fun r h => (g.row r h).1
theorem Good.lo {rows : List (List Nat)} (g : Good rows) : Lo rows := fun r h => (g.row r h).2
theorem Good.le {rows : List (List Nat)} (g : Good rows) : rows.length ≤ 1000 := Nat.le_trans g.len (by decide)
theorem RowsOk.good {m : Nat} {rows : List (List Nat)} (h : RowsOk m rows) (hm : m ≤ 12) : Good rows := by
  obtain ⟨h1, h2, wd, w1, w2, hr⟩ := h
  refine ⟨by omega, fun r hr' => ⟨by have := (hr r hr').1; omega, fun c hc => ?_⟩⟩
  rcases (hr r hr').2 c hc with e | e | e <;> omega
theorem cutV_rows (rows : List (List Nat)) (lo hi : Option Int) : ∃ rs : List (List Nat), cutV (rows.map vt) lo hi = rs.map vt ∧ rs.length ≤ rows.length ∧ ∀ r ∈ rs, r ∈ rows := by
  refine ⟨(rows.drop (HT.sIx (rows.map vt).length 0 lo)).take (HT.sIx (rows.map vt).length (rows.map vt).length hi - HT.sIx (rows.map vt).length 0 lo), ?_, ?_, fun r h => List.mem_of_mem_drop (List.mem_of_mem_take h)⟩
  · unfold cutV
    rw [List.map_take, List.map_drop]
  · rw [List.length_take, List.length_drop]
    omega
theorem cutS_tx (r : List Nat) (lo hi : Option Int) : ∃ q : List Nat, cutS (tx r) lo hi = tx q ∧ q.length ≤ r.length ∧ ∀ c ∈ q, c ∈ r := by
  refine ⟨_, rfl, ?_, fun c h => ?_⟩
  · rw [List.length_take, List.length_drop, tx_cps]
    omega
  · have := List.mem_of_mem_drop (List.mem_of_mem_take h)
    rwa [tx_cps] at this
/-! ### the answers of _law_error and of _law_due -/
end Om

namespace Om
open PySem PySem.Spec PyProof.Rows L2 LamX
/-! ### own __getitem__, __contains__, __len__, __eq__ -/
/-- the class at C finds the name as the def at f -/
structure OwnM (K : PySem.W.Frag) (C : Addr) (n : Str) (f : Addr) : Prop where
  at_ : PySem.W.findIn K (.ref C) n = some (some (.ref f))
  fn : PySem.W.isFn K (.ref f) = true
  isF : PySem.W.fnIn K f = true
section
variable {X : Cx} {CX : CXT} {k : Nat} {C f : Addr} {fd : FuncData} {ps : List Str} {sp : Sp} {E : XK}
theorem run_fnS {A : Around} {pins : List (Addr × Obj)} {σ : L2.St} {H : Hp} {s : Shared} {Q : VK} {us : List Value} {vs : List V} (F : FnOk X.prog X.w X.K X.mg X.base CX k f fd ps sp) (sb : Sub X k A) (hb : Binds X.K fd ps []) (hx : Passes CX X E) (I : Inv X pins σ H s)
    (r : Vals vs us) (h : sp vs H Q E) : wpAny (model X.prog X.w) A (call (.ref f) us) (EP X pins σ Q) X.xe s := by
  have e0 : Env0 X.prog X.w X.K X.mg X.base A X.stack s H := by
    have e := I.env0
    exact ⟨by rw [sb.fr]; exact e.frames, e.mod, e.bs, e.bsz, e.funs, e.frf, e.hok, e.bare⟩
  have hl : us.length = ps.length := by rw [← r.length]; exact F.len _ _ _ _ h
  refine wpAny_call (codeAny_mono (F.run A X.stack s H ⟨us, []⟩ us vs Q E sb.room e0 (by
    have := hb s us I.kIn (by simpa using hl)
    simpa using this) r h) fun r s' hq => ?_)
  cases r with
  | error e => exact hx pins σ H s e s' I hq
  | ok fl =>
    cases fl with
    | ret w =>
      obtain ⟨v, H', I', rz, q⟩ := I.after hq
      exact ⟨v, H', I', rz, q⟩
    | next => exact False.elim hq
    | brk => exact False.elim hq
    | cont => exact False.elim hq
def rIxOwn (C : Addr) (sp : Sp) (E : XK) : R2 := fun x y H Q => ∃ a dx fs, x = .ref a ∧ H a = some (.ins C dx fs) ∧ sp [x, y] H Q E
theorem pe_ixOwn {a b : Expr} {ta tb : TE} {pos : Pos} (M : OwnM X.K C "__getitem__" f) (F : FnOk X.prog X.w X.K X.mg X.base CX k f fd ps sp) (hr : Room (k + 1) X.A) (hb : Binds X.K fd ps []) (hx : Passes CX X E) (ha : PE X a ta) (hi : PE X b tb)
    (hsl : ∀ v u, subscripted b true v u = runValue (.builtin "lifetime.subscript" ⟨[v, u], []⟩) := by intro v u; rfl) : PE X (.Subscript a b pos) (tOp (rIxOwn C sp E) ta tb) := by
  refine ⟨fun pins s σ H Q I h => ?_⟩
  refine Subscript_ (binT ha hi I h fun v u s2 x y H2 I2 rx ry q => ?_)
  obtain ⟨p, dx, fs, rfl, hp, q⟩ := q
  cases rx
  obtain ⟨mA, J, _⟩ := ins_get I2.hok hp
  obtain ⟨od, J, _⟩ := J.look
  obtain ⟨m, hF⟩ := I2.fr
  exact PySem.W.sub_K hF I2.ok.mod.kin J M.at_ M.isF M.fn (run_fnS F ⟨hr.in1, rfl⟩ hb hx I2 (.cons (show RelV (V.ref p) (Value.ref p) from rfl) (.cons ry .nil)) q) (hsl _ _)
def rInOwn (C : Addr) (sp : Sp) (E : XK) : R2 := fun x y H Q => ∃ a dx fs, y = .ref a ∧ H a = some (.ins C dx fs) ∧ sp [y, x] H (fun v H' => ∃ b, v = .bl b ∧ Q (.bl b) H') E
theorem op_inOwn (M : OwnM X.K C "__contains__" f) (F : FnOk X.prog X.w X.K X.mg X.base CX k f fd ps sp) (hr : Room k X.A) (hb : Binds X.K fd ps []) (hx : Passes CX X E) : OpR X (compareOp .In) (rInOwn C sp E) := by
  intro pins s σ H x y v u Q I rx ry h
  obtain ⟨p, dx, fs, rfl, hp, q⟩ := h
  cases ry
  obtain ⟨mA, J, _⟩ := ins_get I.hok hp
  obtain ⟨od, J, _⟩ := J.look
  obtain ⟨m, hF⟩ := I.fr
  refine PySem.W.in_K hF I.ok.mod.kin J M.at_ M.fn (wpAny_mono (run_fnS F ⟨hr, rfl⟩ hb hx I (.cons (show RelV (V.ref p) (Value.ref p) from rfl) (.cons rx .nil)) q) (fun r s' z => ?_) fun _ _ z => z)
  obtain ⟨z, H', I', rz, b, ez, q⟩ := z
  subst ez
  cases rz
  exact wpAny_truthy_bool ⟨.bl b, H', I', rfl, q⟩
def rNotInOwn (C : Addr) (sp : Sp) (E : XK) : R2 := fun x y H Q => ∃ a dx fs, y = .ref a ∧ H a = some (.ins C dx fs) ∧ sp [y, x] H (fun v H' => ∃ b, v = .bl b ∧ Q (.bl (!b)) H') E
theorem op_notInOwn (M : OwnM X.K C "__contains__" f) (F : FnOk X.prog X.w X.K X.mg X.base CX k f fd ps sp) (hr : Room k X.A) (hb : Binds X.K fd ps []) (hx : Passes CX X E) : OpR X (compareOp .NotIn) (rNotInOwn C sp E) := by
  intro pins s σ H x y v u Q I rx ry h
  obtain ⟨p, dx, fs, rfl, hp, q⟩ := h
  cases ry
  obtain ⟨mA, J, _⟩ := ins_get I.hok hp
  obtain ⟨od, J, _⟩ := J.look
  obtain ⟨m, hF⟩ := I.fr
  refine PySem.W.notIn_K hF I.ok.mod.kin J M.at_ M.fn (wpAny_mono (run_fnS F ⟨hr, rfl⟩ hb hx I (.cons (show RelV (V.ref p) (Value.ref p) from rfl) (.cons rx .nil)) q) (fun r s' z => ?_) fun _ _ z => z)
  obtain ⟨z, H', I', rz, b, ez, q⟩ := z
  subst ez
  cases rz
  exact wpAny_truthy_bool ⟨.bl (!b), H', I', rfl, q⟩
/-- both sides instances of C -/
def rEqOwn (C : Addr) (sp : Sp) (E : XK) : R2 := fun x y H Q => ∃ a dx fs b dy gs, x = .ref a ∧ H a = some (.ins C dx fs) ∧ y = .ref b ∧ H b = some (.ins C dy gs) ∧ sp [x, y] H (fun v H' => ∃ b, v = .bl b ∧ Q (.bl b) H') E
theorem op_eqOwn (M : OwnM X.K C "__eq__" f) (F : FnOk X.prog X.w X.K X.mg X.base CX k f fd ps sp) (hr : Room k X.A) (hb : Binds X.K fd ps []) (hx : Passes CX X E) : OpR X (compareOp .Eq) (rEqOwn C sp E) := by
  intro pins s σ H x y v u Q I rx ry h
  obtain ⟨p, dx, fs, q', dy, gs, rfl, hp, rfl, hq, q⟩ := h
  cases rx
  cases ry
  obtain ⟨mA, J, _⟩ := ins_get I.hok hp
  obtain ⟨od, J, _⟩ := J.look
  obtain ⟨mB, J', _⟩ := ins_get I.hok hq
  obtain ⟨od', J', _⟩ := J'.look
  obtain ⟨m, hF⟩ := I.fr
  show wpAny (model X.prog X.w) X.A (richCompare .Eq _ _) _ _ _
  refine PySem.W.cmp_K (op := .Eq) (tb := .ref C) hr.units0 hF I.ok.mod.kin J J'.type (by simp [PySem.W.notFirst]) M.at_ M.fn (wpAny_mono (run_fnS F ⟨hr, rfl⟩ hb hx I (.cons (show RelV (V.ref p) (Value.ref p) from rfl) (.cons (show RelV (V.ref q') (Value.ref q') from rfl) .nil)) q) (fun r s' z => ?_) fun _ _ z => z)
  obtain ⟨z, H', I', rz, b, ez, q⟩ := z
  subst ez
  cases rz
  exact ⟨.bl b, H', I', rfl, q⟩
/-- len(o) -/
def rLenOwn (C : Addr) (sp : Sp) (E : XK) : List V → Hp → VK → Prop := fun xs H Q => ∃ a dx fs, xs = [.ref a] ∧ H a = some (.ins C dx fs) ∧ sp xs H (fun v H' => ∃ n : Int, v = .int n ∧ 0 ≤ n ∧ n < 2 ^ 63 ∧ Q (.int n) H') E
theorem call_lenOwn (M : OwnM X.K C "__len__" f) (F : FnOk X.prog X.w X.K X.mg X.base CX k f fd ps sp) (hr : Room (k + 1) X.A) (hb : Binds X.K fd ps []) (hx : Passes CX X E) : CallR X (.builtin "len") (rLenOwn C sp E) := by
  intro pins s σ H xs us Q I r h
  obtain ⟨p, dx, fs, rfl, hp, q⟩ := h
  cases r with
  | cons r1 r2 =>
    cases r2
    cases r1
    obtain ⟨mA, J, _⟩ := ins_get I.hok hp
    obtain ⟨od, J, _⟩ := J.look
    obtain ⟨m, hF⟩ := I.fr
    refine PySem.W.len_K hF I.ok.mod.kin J M.at_ M.fn (wpAny_mono (run_fnS F ⟨hr.in1, rfl⟩ hb hx I (.cons (show RelV (V.ref p) (Value.ref p) from rfl) .nil) q) (fun r s' z => ?_) fun _ _ z => z)
    obtain ⟨z, H', I', rz, n, ez, n0, n1, q⟩ := z
    subst ez
    obtain ⟨t, rfl⟩ := rz
    exact ⟨⟨n0, n1⟩, .int n, H', I'.tok (s'.toks + 1), ⟨_, rfl⟩, q⟩
end
end Om


namespace Om
open PySem PySem.Spec PyProof.Rows L2
/-! ### enumerate(text) -/
def IteS (x : Str) : It :=
  ⟨fun i _ => i < x.cps.size, fun i H v H' => ∃ T c, v = .ref T ∧ H T = none ∧ H' = upd H T (.tup [.int (i : Nat), .str ⟨#[c]⟩]) ∧ x.cps[i]? = some c, fun i _ => x.cps.size = i⟩
theorem turn_enumS {P : Program} {w : World} {K : PySem.W.Frag} {elts : List Expr} {kk : Nat} {tpos : Pos} {e it : Addr} {x : Str} {t : Tok} (nei : e ≠ it) :
    Turn P w K (.Tuple elts kk tpos) (IteS x) [e, it] e (fun i h => (∃ old, IsEnum h e it ((i : Nat) : Int) old) ∧ h.IsStrIter it (strIterType x) x t i) where
  mem := by simp
  obj := fun i h ⟨⟨old, he⟩, o, ho, hc, hd⟩ b hb => by
    rcases (show b = e ∨ b = it by simpa using hb) with rfl | rfl
    · exact ⟨_, he, fun v q => nomatch q⟩
    · exact ⟨o, ho, fun v q => by rw [hd] at q; cases q⟩
  keep := fun i h h' ⟨⟨old, he⟩, hi⟩ k => ⟨⟨old, k e (by simp) _ he⟩, let ⟨o, q, r⟩ := hi; ⟨o, k it (by simp) o q, r⟩⟩
  item := by
    intro X eP ew eK hc i pins s σ H E I hf ⟨⟨old, he⟩, hit⟩ hlt
    subst eP ew eK
    have el : e < s.heap.objs.size := Heap.lt_size he
    have il : it < s.heap.objs.size := by obtain ⟨_, q, _⟩ := hit; exact Heap.lt_size q
    have hd0 : X.A.in1.handled = none := I.ok.hd hc
    refine wpAny_pyNext_enum_itemD (Draws.text hd0 it x t) he hit hlt nei (by simp [nei]) fun v h' tk hx2 ho hst hT hs2 hk => ?_
    obtain ⟨c, u, hxc, rfl⟩ := hx2
    refine ⟨_, rfl, wpAny_letOwnedTupleGo_enum (s := { s with heap := h', toks := tk + 1 }) ho fun h2 he2 sb => ?_⟩
    have hT2 := (sb.2 _ (Nat.ne_of_gt el)).trans hT
    have new : ObjOk X.prog X.w (upd H s.heap.objs.size (.tup [.int (i : Nat), .str ⟨#[c]⟩])) h2 s.heap.objs.size (.tup [.int (i : Nat), .str ⟨#[c]⟩]) :=
      ⟨(show 2 ≤ sizeLine by decide), [.int i tk, .str ⟨#[c]⟩ u], .cons ⟨_, rfl⟩ (.cons ⟨_, rfl⟩ .nil), _, hT2, rfl, _, rfl⟩
    have I1 : Inv X pins σ (upd H s.heap.objs.size (.tup [.int (i : Nat), .str ⟨#[c]⟩])) { s with heap := h2, toks := tk + 1 } :=
      I.turnedNew (ch := [e, it]) (fun b ob hb q => (sb.2 b (by rintro rfl; simp at hb)).trans (hk b ob (by rintro rfl; simp at hb) (by rintro rfl; simp at hb) q)) hf (Nat.le_refl _) new
    have ei : ((i + 1 : Nat) : Int) = (i : Int) + 1 := by omega
    refine ⟨.ref s.heap.objs.size, _, I1, rfl, ⟨_, c, rfl, I.hok.fresh (Nat.le_refl _), rfl, hxc⟩, ⟨⟨.str ⟨#[c]⟩ u, by rw [ei]; exact he2⟩, let ⟨o, q, r⟩ := hst; ⟨o, (sb.2 it (Ne.symm nei)).trans q, r⟩⟩, fun b hb => ?_⟩
    have hlt2 : b < s.heap.objs.size := by
      rcases (show b = e ∨ b = it by simpa using hb) with rfl | rfl
      · exact el
      · exact il
    rw [upd_ne (Nat.ne_of_lt hlt2)]
    exact (hf b hb).1
  done := by
    intro X eP ew eK hc i pins s σ H E I hf ⟨⟨old, he⟩, hit⟩ hle
    subst eP ew eK
    obtain ⟨f0, f1, f2, f3, f4, f5⟩ := hf it (by simp)
    have hd0 : X.A.in1.handled = none := I.ok.hd hc
    obtain rfl : i = x.cps.size := Eq.symm hle
    exact wpAny_pyNext_enum_endD (Draws.text hd0 it x t) he hit fun h' eb => ⟨rfl, I.turned (t' := s.toks) (fun b o hb q => eb b o hb q) f0 f1 f3 f4 f5⟩
  self := fun A i s Q E ⟨⟨_, he⟩, _⟩ h => wpAny_pyIter_enum he h
def iEnumS (ta : TA) : TI := fun σ H R => ta σ H fun vs H1 => ∃ x, vs = [.str x] ∧ R (IteS x) H1
theorem pi_enumS {X : Cx} {e : Expr} {ta : TA} {p pos tpos : Pos} {elts : List Expr} {kk : Nat} (hg : Gl X "enumerate") (hm : X.mg "enumerate" = none) (ha : PA X [e] ta) (hs : starEach [e] X.env = [(false, eval e X.env)] := by rfl) :
    PI X (.Tuple elts kk tpos) (.Call (.Name "enumerate" p) [e] [] pos) (iEnumS ta) := by
  constructor
  intro pins s σ H R I h
  refine Call_ (ld_blt I hg hm boot_enumerate (PyProof.Rows.callWith_type1 (thn (ha.run pos pins s σ H _ I h) fun us s1 ⟨vs, H1, I1, r1, x, ev, q⟩ => ?_) hs rfl))
  subst ev
  cases r1 with
  | cons ra rr =>
    cases rr
    obtain ⟨t, rfl⟩ := ra
    refine om_enum_call (begins_text x t) trivial fun h' he hi hk => wpAny_pyIter_enum he ?_
    have I2 : Inv X pins σ H1 { s1 with heap := h' } := I1.kept (t' := s1.toks) hk
    refine ⟨s1.heap.objs.size + 1, [s1.heap.objs.size + 1, s1.heap.objs.size], _, _, H1, rfl, I2, turn_enumS (x := x) (t := t) (Nat.succ_ne_self _), ⟨⟨.none, he⟩, _, hi, rfl, rfl⟩, fun b hb => ?_, q⟩
    have hb2 : s1.heap.objs.size ≤ b := by
      rcases (show b = s1.heap.objs.size + 1 ∨ b = s1.heap.objs.size by simpa using hb) with rfl | rfl
      · omega
      · exact Nat.le_refl _
    exact I1.fpOk hb2 (I1.hok.fresh hb2)
end Om


namespace Om
open PySem PySem.Spec PyProof.Rows L2
/-! ### walks of enumerate; a comprehension of two for over walks -/
def YEnum (xs : Nat → Option V) : Nat → Hp → V → Hp → Prop := fun i H v H' => ∃ T x, v = .ref T ∧ H T = none ∧ H' = upd H T (.tup [.int (i : Nat), x]) ∧ xs i = some x
theorem walk_enumT {K : PySem.W.Frag} {a : Addr} {xs : List V} : Walk (IteT K a xs) xs.length (fun H => SqT K H a xs) (YEnum fun i => xs[i]?) :=
  ⟨fun i _ hi q => ⟨q, hi⟩, fun _ q => ⟨q, rfl⟩, fun _ _ _ _ _ _ y => y⟩
theorem walk_enumS {x : Str} : Walk (IteS x) x.cps.size (fun _ => True) (YEnum fun i => x.cps[i]?.map fun c => .str ⟨#[c]⟩) :=
  ⟨fun i _ hi _ => hi, fun _ _ => rfl, fun i H v H' _ _ y => by
    obtain ⟨T, c, e1, e2, e3, e4⟩ := y
    exact ⟨T, _, e1, e2, e3, by show (x.cps[i]?).map _ = _; rw [e4]; rfl⟩⟩
section
variable {J : It} {n : Nat} {G : Hp → Prop} {Y : Nat → Hp → V → Hp → Prop}
/-- the inner walk of a comprehension of two for: Pv by the inner turn -/
theorem in_it (w : Walk J n G Y) {g : TG} {tt : TT} {te : TE} {vs : List Nat} {σ : L2.St} {H : Hp} {D : Addr} {Nx : Hp → Prop} (Pv : Nat → Hp → Prop) (h0 : Pv 0 H) (hG : ∀ i H, i ≤ n → Pv i H → G H)
    (hs : ∀ i x H H', i < n → Pv i H → Y i H x H' → g x (wipe σ vs) H' fun σ2 H2 => wipe σ2 vs = wipe σ vs ∧ tt σ2 H2 fun b H3 =>
      if b = true then te σ2 H3 fun y H4 => ∃ acc, H4 D = some (.lst acc) ∧ acc.length < sizeLine ∧ Pv (i + 1) (upd H4 D (.lst (acc ++ [y]))) else Pv (i + 1) H3) (hd : ∀ H, Pv n H → Nx H) :
    ∃ W1 : Nat → Nat → Hp → Prop, (∃ m, W1 0 m H) ∧ ∀ j k H, W1 j k H →
      (J.stop j H ∧ Nx H) ∨ (J.go j H ∧ ∃ Nx1 : Hp → Prop, (∀ H', Nx1 H' → ∃ k', k' < k ∧ W1 (j + 1) k' H') ∧ ∀ x H', J.yld j H x H' → g x (wipe σ vs) H' fun σ3 H5 => wipe σ3 vs = wipe σ vs ∧ tt σ3 H5 fun b H6 =>
        if b = true then te σ3 H6 fun y H7 => ∃ acc, H7 D = some (.lst acc) ∧ acc.length < sizeLine ∧ Nx1 (upd H7 D (.lst (acc ++ [y]))) else Nx1 H6) := by
  refine ⟨fun i m H => m = n - i ∧ i ≤ n ∧ Pv i H, ⟨n, by simp, Nat.zero_le _, h0⟩, ?_⟩
  rintro i m H ⟨rfl, hi, p⟩
  have q := hG i H hi p
  by_cases hlt : i < n
  · exact .inr ⟨w.goes i H hlt q, Pv (i + 1), fun H' p' => ⟨n - (i + 1), by omega, rfl, hlt, p'⟩, fun x H' y => hs i x H H' hlt p (w.yields i H x H' hlt q y)⟩
  · have e : i = n := by omega
    subst e
    exact .inl ⟨w.stops H q, hd H p⟩
/-- the outer walk: what a turn's inner part does is told by B, from Pv i to Pv (i + 1) -/
theorem out_it (w : Walk J n G Y) {H1 : Hp} {D : Addr} {Qd : Hp → Prop} {B : (Hp → Prop) → V → Hp → Prop} (Pv : Nat → Hp → Prop) (h0 : Pv 0 (upd H1 D (.lst []))) (hG : ∀ i H, i ≤ n → Pv i H → G H)
    (hs : ∀ i x H H', i < n → Pv i H → Y i H x H' → B (Pv (i + 1)) x H') (hd : ∀ H, Pv n H → Qd H) :
    ∃ W : Nat → Nat → Hp → Prop, (∃ m, W 0 m (upd H1 D (.lst []))) ∧ ∀ i m H, W i m H →
      (J.stop i H ∧ Qd H) ∨ (J.go i H ∧ ∃ Nx : Hp → Prop, (∀ H', Nx H' → ∃ m', m' < m ∧ W (i + 1) m' H') ∧ ∀ x H', J.yld i H x H' → B Nx x H') := by
  refine ⟨fun i m H => m = n - i ∧ i ≤ n ∧ Pv i H, ⟨n, by simp, Nat.zero_le _, h0⟩, ?_⟩
  rintro i m H ⟨rfl, hi, p⟩
  have q := hG i H hi p
  by_cases hlt : i < n
  · exact .inr ⟨w.goes i H hlt q, Pv (i + 1), fun H' p' => ⟨n - (i + 1), by omega, rfl, hlt, p'⟩, fun x H' y => hs i x H H' hlt p (w.yields i H x H' hlt q y)⟩
  · have e : i = n := by omega
    subst e
    exact .inl ⟨w.stops H q, hd H p⟩
end
end Om


namespace Om
open PySem PySem.Spec PyProof.Rows L2
abbrev sInR : Stmt := top 5
abbrev sLies : Stmt := top 16
def inR (v lo hi : Int) : Bool := decide (lo ≤ v) && decide (v ≤ hi)
def insd (rows : List (List Nat)) (i j : Int) : Bool := inR i 0 ((rows.length : Int) - 1) && inR j 0 (((rows.headD []).length : Int) - 1)
def spInR : Sp := fun vs H Q _ => ∃ v lo hi : Int, vs = [.int v, .int lo, .int hi] ∧ Q (.bl (inR v lo hi)) H
/-- rows of an island as they are kept -/
structure Shp (rows : List (List Nat)) : Prop where
  len : rows.length ≤ 1000
  row : ∀ r ∈ rows, r.length ≤ 1000
  ne : rows ≠ []
def spLies (K : PySem.W.Frag) : Sp := fun vs H Q _ => ∃ (p c : Addr) (rows : List (List Nat)) (i j : Int), vs = [.ref p, .ref c] ∧ SqT K H p (rows.map vt) ∧ Shp rows ∧ SqT K H c [.int i, .int j] ∧ Q (.bl (insd rows i j)) H
section
variable {P : Program} {w : World} {K : PySem.W.Frag} {mg : Str → Option Value} {base : Heap}
abbrev nInR : List Str := ["value", "least", "most"]
theorem scInR : FnScope nInR nInR (defScope sInR) := ⟨rfl, rfl, rfl, by decide +kernel, rfl, by decide +kernel, by decide +kernel⟩
theorem ok_inR {f : Addr} {fd : FuncData} (F : FnP K "in_range" "in_range" sInR f fd) (gisi : mg "isinstance" = none) (gint : mg "int" = none) (gbool : mg "bool" = none) : FnOk P w K mg base CX0 1 f fd nInR spInR := by
  refine F.ok scInR (fun vs H Q E h => ?_) (fun cdv A outer s H vs Q E hr h => ?_)
  · obtain ⟨v, lo, hi, rfl, _⟩ := h
    rfl
  · obtain ⟨v, lo, hi, rfl, k⟩ := h
    refine ⟨_, PSs.nox (pss_one (ps_ret (pe_and (pe_callB call_isi (by rfl) gisi (by decide +kernel) (pa_cons (pv 0) (pa_cons (pe_bltn (v := .ty "int") (by rfl) gint boot_int rfl) pa_nil)))
      (pe_and (pe_not (pe_callB call_isi (by rfl) gisi (by decide +kernel) (pa_cons (pv 0) (pa_cons (pe_bltn (v := .ty "bool") (by rfl) gbool (by decide +kernel) rfl) pa_nil))))
        (pe_one (pe_chain op_le op_le (pv 1) (pv 0) (pv 2))))))), ?_⟩
    refine ⟨_, rfl, _, _, _, _, _, rfl, .ty "int", .base (.int _), kit_ty (a := "int") (b := "int") (r := true) (by decide +kernel), ?_⟩
    refine ⟨true, rfl, iteT ?_⟩
    refine ⟨_, rfl, _, _, _, _, _, rfl, .ty "bool", .base (.int _), kit_ty (a := "int") (b := "bool") (r := false) (by decide +kernel), false, rfl, true, rfl, iteT ?_⟩
    refine ⟨_, rfl, _, rfl, _, _, rfl, rfl, _, rfl, ?_⟩
    unfold inR at k
    cases e : decide (lo ≤ v) with
    | true =>
      rw [e, Bool.true_and] at k
      exact iteT ⟨_, rfl, _, _, rfl, rfl, k⟩
    | false =>
      rw [e, Bool.false_and] at k
      exact iteF k
theorem scLies : FnScope ["rows", "cell", "row", "column"] ["rows", "cell"] (defScope sLies) := ⟨rfl, rfl, rfl, by decide +kernel, rfl, by decide +kernel, by decide +kernel⟩
theorem ok_lies {f : Addr} {fd : FuncData} (F : FnP K "_lies_within" "_lies_within" sLies f fd) (G : Cal P w K mg base CX0 1 "in_range" nInR spInR) (glen : mg "len" = none) : FnOk P w K mg base CX0 2 f fd ["rows", "cell"] (spLies K) := by
  refine F.ok scLies (fun vs H Q E h => ?_) (fun cdv A outer s H vs Q E hr h => ?_)
  · obtain ⟨p, c, rows, i, j, rfl, _⟩ := h
    rfl
  · obtain ⟨p, c, rows, i, j, rfl, hS, sh, hC, k⟩ := h
    have nd := scLies.nd
    have hr1 : Room 1 _ := hr.mono (by decide)
    refine ⟨_, PSs.nox (pss_cons (ps_asg (pv 1) (pg_tup rfl (pgs_cons (pg_name (i := 2) nd rfl (.inl rfl)) (pgs_cons (pg_name (i := 3) nd rfl (.inl rfl)) pgs_nil))))
      (pss_one (ps_ret (pe_and (pe_cal G hr1 pass0 (pa_cons (pv 2) (pa_cons pe_int (pa_cons (pe_op op_sub (pe_callB call_len_seq (by rfl) glen PySem.boot_len (pa_cons (pv 0) pa_nil)) pe_int) pa_nil))))
        (pe_one (pe_cal G hr1 pass0 (pa_cons (pv 3) (pa_cons pe_int (pa_cons (pe_op op_sub (pe_callB call_len_str (by rfl) glen PySem.boot_len (pa_cons (pe_ix ix_tup (pv 0) pe_int (fun _ _ => rfl)) pa_nil)) pe_int) pa_nil))))))))), ?_⟩
    obtain ⟨r0, rs, rfl⟩ : ∃ r0 rs, rows = r0 :: rs := by
      cases rows with
      | nil => exact absurd rfl sh.ne
      | cons r0 rs => exact ⟨r0, rs, rfl⟩
    have hr0 : (tx r0).length ≤ sizeLine := by rw [tx_len]; exact small_le (sh.row r0 (List.mem_cons_self ..))
    refine ⟨_, rfl, c, _, rfl, hC, rfl, _, _, rfl, _, _, rfl, rfl, ?_⟩
    refine ⟨_, rfl, _, rfl, p, _, rfl, .inr hS, _, _, rfl, rfl, i, 0, _, rfl, ?_⟩
    refine ⟨_, rfl, ?_⟩
    have k2 : Q (.bl (inR i 0 ((((r0 :: rs).map vt).length : Nat) - 1) && inR j 0 (((tx r0).length : Nat) - 1))) H := by
      rw [tx_len, List.length_map]; exact k
    cases e : inR i 0 ((((r0 :: rs).map vt).length : Nat) - 1) with
    | false =>
      rw [e, Bool.false_and] at k2
      exact iteF k2
    | true =>
      rw [e, Bool.true_and] at k2
      refine iteT ?_
      exact ⟨_, rfl, _, rfl, p, _, 0, _, rfl, rfl, hS, at0, _, rfl, hr0, _, _, rfl, rfl, j, 0, _, rfl, k2⟩
end
end Om


namespace Om
open PySem PySem.Spec PyProof.Rows L2
/-! ### rows as data -/
def dt (r : List Nat) : PyData := .str (tx r)
theorem dpAll_rows {K : PySem.W.Frag} {H : Hp} : ∀ rows : List (List Nat), DpAll K H (rows.map vt) (rows.map dt)
  | [] => .nil
  | r :: rs => .cons (.str _) (dpAll_rows rs)
theorem strOk_tx {r : List Nat} (h : ∀ c ∈ r, c < 1000) : PyData.strOk (tx r) = true := by
  unfold PyData.strOk
  rw [Array.all_eq_true']
  intro c hc
  have hc' : c ∈ r := by
    have : c ∈ (tx r).cps.toList := by simpa using hc
    rwa [tx_cps] at this
  have := h c hc'
  exact decide_eq_true (by omega)
theorem lay_rows : ∀ {rows : List (List Nat)}, Lo rows → PyData.canLayAll0 (rows.map dt) = true
  | [], _ => by simp [PyData.canLayAll0]
  | r :: rs, h => by
    have h1 : PyData.strOk (tx r) = true := strOk_tx (h r (List.mem_cons_self ..))
    simp only [List.map_cons, PyData.canLayAll0, dt, PyData.canLay0, h1, lay_rows (rows := rs) fun r hr => h r (List.mem_cons_of_mem _ hr), Bool.and_self]
theorem dep_rows : ∀ rows : List (List Nat), PyData.depthAll (rows.map dt) = 0
  | [] => by simp [PyData.depthAll]
  | r :: rs => by simp [PyData.depthAll, PyData.depth, dt, dep_rows rs]
theorem shaped_rows {rows : List (List Nat)} (h : Lo rows) : SeqAt.shaped (.tuple (rows.map dt)) = true :=
  shaped_of (by simp only [PyData.canLay0]; exact lay_rows h) (by simp only [PyData.depth, dep_rows]; omega)
theorem eqv_str (a b : List Nat) : PyData.eqv (.str (tx a)) (.str (tx b)) = decide (a = b) := by
  rw [Bool.eq_iff_iff, decide_eq_true_iff]
  constructor
  · intro h
    have h2 : tx a = tx b := by simpa [PyData.eqv] using h
    exact tx_inj h2
  · rintro rfl
    simp [PyData.eqv]
theorem eqvAll_rows : ∀ a b : List (List Nat), PyData.eqvAll (a.map dt) (b.map dt) = decide (a = b)
  | [], [] => by simp [PyData.eqvAll]
  | [], _ :: _ => by simp [PyData.eqvAll]
  | _ :: _, [] => by simp [PyData.eqvAll]
  | r :: rs, q :: qs => by
    have e1 : PyData.eqvAll ((r :: rs).map dt) ((q :: qs).map dt) = (PyData.eqv (dt r) (dt q) && PyData.eqvAll (rs.map dt) (qs.map dt)) := by simp [PyData.eqvAll]
    rw [e1, eqvAll_rows rs qs, dt, dt, eqv_str, Bool.eq_iff_iff]
    simp
theorem eqv_rows (a b : List (List Nat)) : PyData.eqv (.tuple (a.map dt)) (.tuple (b.map dt)) = decide (a = b) := by
  have e1 : PyData.eqv (.tuple (a.map dt)) (.tuple (b.map dt)) = PyData.eqvAll (a.map dt) (b.map dt) := by simp [PyData.eqv]
  rw [e1, eqvAll_rows]
end Om


namespace Om
open PySem PySem.Spec PyProof.Rows L2
/-! ### an island's methods -/
/-- an island at a: its rows -/
def Isl (K : PySem.W.Frag) (CI : Addr) (H : Hp) (a : Addr) (rows : List (List Nat)) : Prop := ∃ dx p, H a = some (.ins CI dx (islFs p)) ∧ SqT K H p (rows.map vt)
structure Good2 (rows : List (List Nat)) : Prop extends Shp rows where
  rect : ∀ r ∈ rows, r.length = (rows.headD []).length
  lo : Lo rows
def sgAt (rows : List (List Nat)) (i j : Int) : Nat := (rows.getD i.toNat []).getD j.toNat 0
theorem Isl.same {K : PySem.W.Frag} {CI a : Addr} {H H' : Hp} {rows : List (List Nat)} (h : Isl K CI H a rows) (s : Same H H') : Isl K CI H' a rows := by
  obtain ⟨dx, p, h1, h2⟩ := h
  exact ⟨dx, p, s _ _ h1, Same.tup s h2⟩
theorem islFs_at (p : Addr) : (islFs p).lookup ("_rows" : Str) = some (.ref p) := rfl
theorem insd_at {rows : List (List Nat)} {i j : Int} (g : Good2 rows) (h : insd rows i j = true) : ∃ r c, rows[i.toNat]? = some r ∧ r[j.toNat]? = some c ∧ sgAt rows i j = c ∧ r ∈ rows ∧ 0 ≤ i ∧ 0 ≤ j := by
  unfold insd inR at h
  simp only [Bool.and_eq_true, decide_eq_true_eq] at h
  obtain ⟨⟨h1, h2⟩, h3, h4⟩ := h
  have hi : i.toNat < rows.length := by omega
  have hm : rows[i.toNat] ∈ rows := List.getElem_mem hi
  have hl := g.rect _ hm
  have hj : j.toNat < (rows[i.toNat]).length := by omega
  refine ⟨rows[i.toNat], (rows[i.toNat])[j.toNat], by simp [hi], by simp [hj], ?_, hm, h1, h3⟩
  unfold sgAt
  have e1 : rows.getD i.toNat [] = rows[i.toNat] := by rw [List.getD_eq_getElem?_getD, List.getElem?_eq_getElem hi, Option.getD_some]
  rw [e1, List.getD_eq_getElem?_getD, List.getElem?_eq_getElem hj, Option.getD_some]
/-- an own error class made with a text -/
structure ErrU (K : PySem.W.Frag) (mg : Str → Option Value) (x : Str) (C : Addr) : Prop where
  q : PySem.W.excIn K C [.type "ValueError", .type "Exception", .type "BaseException", .type "object"] "ValueError.__new__" = true
  kp : PySem.W.keepIn K (.ref C) = true
  r1 : PySem.W.subIn K (.ref C) (.type "BaseException") = some true
  r2 : PySem.W.typeIn K (.ref C) = some (.type "type")
  g : mg x = some (.ref C)
def spGet (K : PySem.W.Frag) (CI CU : Addr) : Sp := fun vs H Q E => ∃ (a c : Addr) (rows : List (List Nat)) (i j : Int), vs = [.ref a, .ref c] ∧ Isl K CI H a rows ∧ Good2 rows ∧ SqT K H c [.int i, .int j] ∧
  (insd rows i j = true → Q (vt [sgAt rows i j]) H) ∧ (insd rows i j = false → E (.ref CU) none H)
def hasC (rows : List (List Nat)) (i j : Int) : Bool := insd rows i j && !decide (sgAt rows i j = 126)
def spHas (K : PySem.W.Frag) (CI : Addr) : Sp := fun vs H Q _ => ∃ (a c : Addr) (rows : List (List Nat)) (i j : Int), vs = [.ref a, .ref c] ∧ Isl K CI H a rows ∧ Good2 rows ∧ SqT K H c [.int i, .int j] ∧ Q (.bl (hasC rows i j)) H
def spIEq (K : PySem.W.Frag) (CI : Addr) : Sp := fun vs H Q _ => ∃ (a b : Addr) (r1 r2 : List (List Nat)), vs = [.ref a, .ref b] ∧ Isl K CI H a r1 ∧ Isl K CI H b r2 ∧ Lo r1 ∧ Lo r2 ∧ Q (.bl (decide (r1 = r2))) H
def spIRows (K : PySem.W.Frag) (CI : Addr) : Sp := fun vs H Q _ => ∃ (a dx p : Addr), vs = [.ref a] ∧ H a = some (.ins CI dx (islFs p)) ∧ Q (.ref p) H
def spIHgt (K : PySem.W.Frag) (CI : Addr) : Sp := fun vs H Q _ => ∃ (a : Addr) (rows : List (List Nat)), vs = [.ref a] ∧ Isl K CI H a rows ∧ Q (.int (rows.length : Nat)) H
def spIWid (K : PySem.W.Frag) (CI : Addr) : Sp := fun vs H Q _ => ∃ (a : Addr) (rows : List (List Nat)), vs = [.ref a] ∧ Isl K CI H a rows ∧ Shp rows ∧ Q (.int ((rows.headD []).length : Nat)) H
/-- what isinstance asks of the class -/
structure InsF (K : PySem.W.Frag) (C : Addr) : Prop where
  ha : PySem.W.findIn K (.ref C) "__class__" = some (some (.builtin "object.__class__"))
  hn : PySem.W.specialIn K (.builtin "object.__class__") "__get__" = some (some (.builtin "getset_descriptor.__get__"))
  ht : PySem.W.takesIn K (.builtin "object.__class__") = some true
  hm : PySem.W.mroIn K C (.type "object") = some true
theorem kit_self {K : PySem.W.Frag} {C : Addr} : PySem.W.kitOne K (.ref C) (.ref C) = some true := by
  unfold PySem.W.kitOne
  rw [if_pos (by simp)]
section
variable {P : Program} {w : World} {K : PySem.W.Frag} {mg : Str → Option Value} {base : Heap} {CI CU fN : Addr}
abbrev nGet : List Str := ["self", "cell", "row", "column"]
theorem scGet : FnScope nGet ["self", "cell"] (defScope (sIslM 7)) := ⟨rfl, rfl, rfl, by decide +kernel, rfl, by decide +kernel, by decide +kernel⟩
theorem ok_get {f : Addr} {fd : FuncData} (F : FnP K "__getitem__" "Island.__getitem__" (sIslM 7) f fd) (T : IslF K mg CI fN) (U : ErrU K mg "UnknownCell" CU) (G : Cal P w K mg base CX0 2 "_lies_within" ["rows", "cell"] (spLies K)) : FnOk P w K mg base (L2.CX P w) 3 f fd ["self", "cell"] (spGet K CI CU) := by
  refine F.ok scGet (fun vs H Q E h => ?_) (fun cdv A outer s H vs Q E hr h => ?_)
  · obtain ⟨a, c, rows, i, j, rfl, _⟩ := h
    rfl
  · obtain ⟨a, c, rows, i, j, rfl, hI, g, hC, k1, k2⟩ := h
    have nd := scGet.nd
    have hr2 : Room 2 _ := hr.mono (by decide)
    refine ⟨_, pss_cons (ps_if (pt_not (pt_val (pe_cal G hr2 pass0 (pa_cons (pe_fld (pv 0) rfl) (pa_cons (pv 1) pa_nil)))))
        (pss_one (ps_raise rfl (takes_of rfl rfl rfl rfl) (pmk_own PySem.F.excBase_ValueError U.q U.g U.kp (raises_own U.r1 U.r2) rfl))) pss_nil)
      (pss_cons (ps_asg (pv 1) (pg_tup rfl (pgs_cons (pg_name (i := 2) nd rfl (.inl rfl)) (pgs_cons (pg_name (i := 3) nd rfl (.inl rfl)) pgs_nil))))
      (pss_one (ps_ret (pe_ix ix_str (pe_ix ix_tup (pe_fld (pv 0) rfl) (pv 2) (fun _ _ => rfl)) (pv 3) (fun _ _ => rfl))))), ?_⟩
    obtain ⟨dx, p, hp, hS⟩ := hI
    refine ⟨_, rfl, a, CI, dx, _, .ref p, rfl, hp, T.cl, T.nR, rfl, ?_⟩
    refine ⟨_, rfl, p, c, rows, i, j, rfl, hS, g.toShp, hC, _, rfl, ?_⟩
    cases e : insd rows i j with
    | false => exact iteT (k2 e)
    | true =>
      refine iteF ?_
      obtain ⟨r, ch, h1, h2, h3, hm, hi, hj⟩ := insd_at g e
      refine ⟨_, rfl, c, _, rfl, hC, rfl, _, _, rfl, _, _, rfl, rfl, ?_⟩
      refine ⟨_, rfl, a, CI, dx, _, .ref p, rfl, hp, T.cl, T.nR, rfl, ?_⟩
      have ei : atI (rows.map vt) i = some (vt r) := by
        have z := atI_nat (xs := rows.map vt) (j := i.toNat) (v := vt r) (by rw [List.getElem?_map, h1]; rfl)
        rwa [Int.toNat_of_nonneg hi] at z
      have ej : atI (tx r).cps.toList j = some ch := by
        have z := atI_nat (xs := (tx r).cps.toList) (j := j.toNat) (v := ch) (by rw [tx_cps]; exact h2)
        rwa [Int.toNat_of_nonneg hj] at z
      refine ⟨_, rfl, p, _, i, _, rfl, rfl, hS, ei, _, rfl, _, j, ch, rfl, rfl, (by rw [tx_len]; exact small_le (g.row r hm)), ej, ?_⟩
      have k := k1 e
      rw [h3] at k
      exact k
theorem scHas : FnScope ["self", "cell"] ["self", "cell"] (defScope (sIslM 8)) := ⟨rfl, rfl, rfl, by decide +kernel, rfl, by decide +kernel, by decide +kernel⟩
theorem ok_has {f : Addr} {fd : FuncData} (F : FnP K "__contains__" "Island.__contains__" (sIslM 8) f fd) (T : IslF K mg CI fN) (G : Cal P w K mg base CX0 2 "_lies_within" ["rows", "cell"] (spLies K)) (gw : ∃ t, mg "WATER" = some (.str (Str.ofString "~") t)) :
    FnOk P w K mg base CX0 3 f fd ["self", "cell"] (spHas K CI) := by
  obtain ⟨t0, gw⟩ := gw
  refine F.ok scHas (fun vs H Q E h => ?_) (fun cdv A outer s H vs Q E hr h => ?_)
  · obtain ⟨a, c, rows, i, j, rfl, _⟩ := h
    rfl
  · obtain ⟨a, c, rows, i, j, rfl, hI, g, hC, k⟩ := h
    have nd := scHas.nd
    have hr2 : Room 2 _ := hr.mono (by decide)
    refine ⟨_, PSs.nox (pss_one (ps_ret (pe_and (pe_cal G hr2 pass0 (pa_cons (pe_fld (pv 0) rfl) (pa_cons (pv 1) pa_nil)))
      (pe_one (pe_cmpR op_ne (pe_ix ix_str (pe_ix ix_tup (pe_fld (pv 0) rfl) (pe_ix ix_tup (pv 1) pe_int (fun _ _ => rfl)) (fun _ _ => rfl)) (pe_ix ix_tup (pv 1) pe_int (fun _ _ => rfl)) (fun _ _ => rfl))
        (pe_glob (v := .str (Str.ofString "~")) rfl gw ⟨_, rfl⟩) (nomark _)))))), ?_⟩
    obtain ⟨dx, p, hp, hS⟩ := hI
    refine ⟨_, rfl, a, CI, dx, _, .ref p, rfl, hp, T.cl, T.nR, rfl, ?_⟩
    refine ⟨_, rfl, p, c, rows, i, j, rfl, hS, g.toShp, hC, _, rfl, ?_⟩
    unfold hasC at k
    cases e : insd rows i j with
    | false =>
      rw [e, Bool.false_and] at k
      exact iteF k
    | true =>
      rw [e, Bool.true_and] at k
      refine iteT ?_
      obtain ⟨r, ch, h1, h2, h3, hm, hi, hj⟩ := insd_at g e
      have ei : atI (rows.map vt) i = some (vt r) := by
        have z := atI_nat (xs := rows.map vt) (j := i.toNat) (v := vt r) (by rw [List.getElem?_map, h1]; rfl)
        rwa [Int.toNat_of_nonneg hi] at z
      have ej : atI (tx r).cps.toList j = some ch := by
        have z := atI_nat (xs := (tx r).cps.toList) (j := j.toNat) (v := ch) (by rw [tx_cps]; exact h2)
        rwa [Int.toNat_of_nonneg hj] at z
      refine ⟨_, rfl, a, CI, dx, _, .ref p, rfl, hp, T.cl, T.nR, rfl, ?_⟩
      refine ⟨_, rfl, c, _, 0, _, rfl, rfl, hC, rfl, p, _, i, _, rfl, rfl, hS, ei, ?_⟩
      refine ⟨_, rfl, c, _, 1, _, rfl, rfl, hC, rfl, _, j, ch, rfl, rfl, (by rw [tx_len]; exact small_le (g.row r hm)), ej, ?_⟩
      rw [h3] at k
      have e2 : (decide (V.str ⟨#[ch]⟩ = V.str (Str.ofString "~"))) = decide (ch = 126) := by
        have z : Str.ofString "~" = (⟨#[126]⟩ : Str) := by decide +kernel
        rw [z]
        apply decide_eq_decide.mpr
        simp
      refine ⟨rfl, ?_⟩
      show Q (.bl (!decide (V.str ⟨#[ch]⟩ = V.str (Str.ofString "~")))) H
      rw [e2]
      exact k
theorem scIEq : FnScope ["self", "other"] ["self", "other"] (defScope (sIslM 10)) := ⟨rfl, rfl, rfl, by decide +kernel, rfl, by decide +kernel, by decide +kernel⟩
theorem ok_ieq {f : Addr} {fd : FuncData} (F : FnP K "__eq__" "Island.__eq__" (sIslM 10) f fd) (T : IslF K mg CI fN) (N : InsF K CI) (gisi : mg "isinstance" = none) : FnOk P w K mg base CX0 1 f fd ["self", "other"] (spIEq K CI) := by
  refine F.ok scIEq (fun vs H Q E h => ?_) (fun cdv A outer s H vs Q E hr h => ?_)
  · obtain ⟨a, b, r1, r2, rfl, _⟩ := h
    rfl
  · obtain ⟨a, b, r1, r2, rfl, ⟨dx, p, hp, hS⟩, ⟨dy, q, hq, hS2⟩, l1, l2, k⟩ := h
    refine ⟨_, PSs.nox (pss_one (ps_ret (pe_and (pe_callB call_isi (by rfl) gisi (by decide +kernel) (pa_cons (pv 1) (pa_cons (pe_glob (v := .ref CI) rfl T.gI rfl) pa_nil)))
      (pe_one (pe_cmpR (op_eqD hr.units) (pe_fld (pv 0) rfl) (pe_fld (pv 1) rfl) (nomark _)))))), ?_⟩
    refine ⟨_, rfl, _, _, _, _, _, rfl, .own CI, .base (.ins hq T.cl N.ha N.hn N.ht N.hm), kit_self, true, rfl, iteT ?_⟩
    refine ⟨_, rfl, a, CI, dx, _, .ref p, rfl, hp, T.cl, T.nR, rfl, ?_⟩
    refine ⟨_, rfl, b, CI, dy, _, .ref q, rfl, hq, T.cl, T.nR, rfl, ?_⟩
    refine ⟨_, _, .tup hS (dpAll_rows r1), .tup hS2 (dpAll_rows r2), shaped_rows l1, shaped_rows l2, ?_⟩
    rw [eqv_rows]
    exact k
theorem scI1 (i : Nat) (h : i = 1 ∨ i = 2 ∨ i = 3) : FnScope ["self"] ["self"] (defScope (sIslM i)) := by
  rcases h with rfl | rfl | rfl <;> exact ⟨rfl, rfl, rfl, by decide +kernel, rfl, by decide +kernel, by decide +kernel⟩
theorem ok_irows {f : Addr} {fd : FuncData} (F : FnP K "rows" "Island.rows" (sIslM 1) f fd) (T : IslF K mg CI fN) : FnOk P w K mg base CX0 1 f fd ["self"] (spIRows K CI) := by
  refine F.ok (scI1 1 (.inl rfl)) (fun vs H Q E h => ?_) (fun cdv A outer s H vs Q E hr h => ?_)
  · obtain ⟨a, dx, p, rfl, _⟩ := h
    rfl
  · obtain ⟨a, dx, p, rfl, hp, k⟩ := h
    exact ⟨_, PSs.nox (pss_one (ps_ret (pe_fld (pv 0) rfl))), _, rfl, a, CI, dx, _, .ref p, rfl, hp, T.cl, T.nR, rfl, k⟩
theorem ok_iwid {f : Addr} {fd : FuncData} (F : FnP K "width" "Island.width" (sIslM 3) f fd) (T : IslF K mg CI fN) (glen : mg "len" = none) : FnOk P w K mg base CX0 1 f fd ["self"] (spIWid K CI) := by
  refine F.ok (scI1 3 (.inr (.inr rfl))) (fun vs H Q E h => ?_) (fun cdv A outer s H vs Q E hr h => ?_)
  · obtain ⟨a, rows, rfl, _⟩ := h
    rfl
  · obtain ⟨a, rows, rfl, ⟨dx, p, hp, hS⟩, sh, k⟩ := h
    obtain ⟨r0, rs, rfl⟩ : ∃ r0 rs, rows = r0 :: rs := by
      cases rows with
      | nil => exact absurd rfl sh.ne
      | cons r0 rs => exact ⟨r0, rs, rfl⟩
    have hr0 : (tx r0).length ≤ sizeLine := by rw [tx_len]; exact small_le (sh.row r0 (List.mem_cons_self ..))
    refine ⟨_, PSs.nox (pss_one (ps_ret (pe_callB call_len_str (by rfl) glen PySem.boot_len (pa_cons (pe_ix ix_tup (pe_fld (pv 0) rfl) pe_int (fun _ _ => rfl)) pa_nil)))), ?_⟩
    refine ⟨_, rfl, a, CI, dx, _, .ref p, rfl, hp, T.cl, T.nR, rfl, p, _, 0, _, rfl, rfl, hS, at0, _, rfl, hr0, ?_⟩
    rw [tx_len]
    exact k
end
end Om


namespace Om
open PySem PySem.Spec PyProof.Rows L2
/-! ### Dp stays -/
theorem Same.lst {K : PySem.W.Frag} {H H' : Hp} {a : Addr} {xs : List V} (e : Same H H') (h : SqL K H a xs) : SqL K H' a xs := by
  rcases h with (h | ⟨o, h⟩) | h
  · exact .inl (.inl (e _ _ h))
  · exact .inl (.inr ⟨o, e _ _ h⟩)
  · exact .inr h
theorem dp_mono {K : PySem.W.Frag} {H H' : Hp} (hS : ∀ a xs, SqT K H a xs → SqT K H' a xs) (hL : ∀ a xs, SqL K H a xs → SqL K H' a xs) {v : V} {d : PyData} (h : Dp K H v d) : Dp K H' v d :=
  Dp.rec (motive_1 := fun v d _ => Dp K H' v d) (motive_2 := fun vs ds _ => DpAll K H' vs ds) .non .bl .int .str (fun s _ ih => .lst (hL _ _ s) ih) (fun s _ ih => .tup (hS _ _ s) ih) .nil (fun _ _ i1 i2 => .cons i1 i2) h
theorem dpAll_mono {K : PySem.W.Frag} {H H' : Hp} (hS : ∀ a xs, SqT K H a xs → SqT K H' a xs) (hL : ∀ a xs, SqL K H a xs → SqL K H' a xs) {vs : List V} {ds : List PyData} (h : DpAll K H vs ds) : DpAll K H' vs ds :=
  DpAll.rec (motive_1 := fun v d _ => Dp K H' v d) (motive_2 := fun vs ds _ => DpAll K H' vs ds) .non .bl .int .str (fun s _ ih => .lst (hL _ _ s) ih) (fun s _ ih => .tup (hS _ _ s) ih) .nil (fun _ _ i1 i2 => .cons i1 i2) h
theorem Same.dp {K : PySem.W.Frag} {H H' : Hp} {v : V} {d : PyData} (e : Same H H') (h : Dp K H v d) : Dp K H' v d := dp_mono (fun _ _ => Same.tup e) (fun _ _ => Same.lst e) h
theorem Same.dpAll {K : PySem.W.Frag} {H H' : Hp} {v : List V} {d : List PyData} (e : Same H H') (h : DpAll K H v d) : DpAll K H' v d := dpAll_mono (fun _ _ => Same.tup e) (fun _ _ => Same.lst e) h
theorem dpAll_app {K : PySem.W.Frag} {H : Hp} : ∀ {a : List V} {da : List PyData} {b : List V} {db : List PyData}, DpAll K H a da → DpAll K H b db → DpAll K H (a ++ b) (da ++ db)
  | [], [], _, _, .nil, h => h
  | _ :: _, _ :: _, _, _, .cons x y, h => .cons x (dpAll_app y h)
theorem dpAll_len {K : PySem.W.Frag} {H : Hp} : ∀ {a : List V} {da : List PyData}, DpAll K H a da → a.length = da.length
  | [], [], .nil => rfl
  | _ :: _, _ :: _, .cons _ y => by rw [List.length_cons, List.length_cons, dpAll_len y]
/-! ### pairs of numbers in a list that grows at D -/
def cdp (c : Nat × Nat) : PyData := .tuple [.int (c.1 : Nat), .int (c.2 : Nat)]
theorem SqT.other {K : PySem.W.Frag} {H : Hp} {a D : Addr} {xs acc : List V} {o : HO} (h : SqT K H a xs) (hD : H D = some (.lst acc)) : SqT K (upd H D o) a xs := by
  rcases h with (h | ⟨ob, h⟩) | h
  · have n : a ≠ D := fun e => by rw [e, hD] at h; cases h
    exact .inl (.inl (by rw [upd_ne n]; exact h))
  · have n : a ≠ D := fun e => by rw [e, hD] at h; cases h
    exact .inl (.inr ⟨ob, by rw [upd_ne n]; exact h⟩)
  · exact .inr h
theorem pairs_other {K : PySem.W.Frag} {H : Hp} {D : Addr} {acc : List V} {o : HO} (hD : H D = some (.lst acc)) : ∀ {xs : List V} {cs : List (Nat × Nat)}, DpAll K H xs (cs.map cdp) → DpAll K (upd H D o) xs (cs.map cdp)
  | [], [], .nil => .nil
  | _ :: _, _ :: _, .cons h t => by
    refine .cons ?_ (pairs_other hD t)
    unfold cdp at h ⊢
    cases h with
    | tup s al =>
      refine .tup (SqT.other s hD) ?_
      cases al with
      | cons h1 t1 =>
        cases h1
        cases t1 with
        | cons h2 t2 =>
          cases h2
          cases t2
          exact .cons (.int _) (.cons (.int _) .nil)
/-! ### the cells of land -/
def rowCells (r : List Nat) (i n : Nat) : List (Nat × Nat) := ((List.range n).filter fun j => !decide (r.getD j 0 = 126)).map fun j => (i, j)
def cellsTo (rows : List (List Nat)) (n : Nat) : List (Nat × Nat) := (List.range n).flatMap fun i => rowCells (rows.getD i []) i (rows.getD i []).length
def cellsOf (rows : List (List Nat)) : List (Nat × Nat) := cellsTo rows rows.length
theorem rowCells_succ (r : List Nat) (i n : Nat) : rowCells r i (n + 1) = if r.getD n 0 = 126 then rowCells r i n else rowCells r i n ++ [(i, n)] := by
  unfold rowCells
  rw [List.range_succ, List.filter_append, List.map_append]
  by_cases h : r.getD n 0 = 126
  · rw [if_pos h]
    simp only [List.filter_cons, h, decide_true, Bool.not_true, Bool.false_eq_true, if_false, List.filter_nil, List.map_nil, List.append_nil]
  · rw [if_neg h]
    have e : (!decide (r.getD n 0 = 126)) = true := by rw [decide_eq_false h]; rfl
    simp only [List.filter_cons, e, if_true, List.filter_nil, List.map_cons, List.map_nil]
theorem cellsTo_succ (rows : List (List Nat)) (n : Nat) : cellsTo rows (n + 1) = cellsTo rows n ++ rowCells (rows.getD n []) n (rows.getD n []).length := by
  unfold cellsTo
  rw [List.range_succ, List.flatMap_append]
  simp
theorem rowCells_len (r : List Nat) (i n : Nat) : (rowCells r i n).length ≤ n := by
  unfold rowCells
  rw [List.length_map]
  exact Nat.le_trans (List.length_filter_le ..) (by rw [List.length_range]; exact Nat.le_refl _)
theorem cellsTo_len {rows : List (List Nat)} {w : Nat} (hw : ∀ r ∈ rows, r.length ≤ w) : ∀ n, n ≤ rows.length → (cellsTo rows n).length ≤ n * w
  | 0, _ => by simp [cellsTo]
  | n + 1, h => by
    rw [cellsTo_succ, List.length_append]
    have h1 := cellsTo_len hw n (by omega)
    have hm : rows.getD n [] ∈ rows := by
      rw [List.getD_eq_getElem?_getD, List.getElem?_eq_getElem (by omega), Option.getD_some]
      exact List.getElem_mem _
    have h2 := rowCells_len (rows.getD n []) n (rows.getD n []).length
    have h3 := hw _ hm
    rw [Nat.succ_mul]
    omega
theorem getD_at {rows : List (List Nat)} {i : Nat} {r : List Nat} (h : rows[i]? = some r) : rows.getD i [] = r := by
  rw [List.getD_eq_getElem?_getD, h, Option.getD_some]
/-- an island as it may be -/
structure Vd (rows : List (List Nat)) : Prop extends Good2 rows where
  hgt : rows.length ≤ 12
  wid : ∀ r ∈ rows, 1 ≤ r.length ∧ r.length ≤ 12
theorem RowsOk.vd {m : Nat} {rows : List (List Nat)} (h : RowsOk m rows) (hm : m ≤ 12) : Vd rows := by
  obtain ⟨h1, h2, wd, w1, w2, hr⟩ := h
  have g := RowsOk.good ⟨h1, h2, wd, w1, w2, hr⟩ hm
  refine ⟨⟨⟨g.le, g.lens, fun e => by rw [e] at h1; simp at h1⟩, fun r hr' => ?_, g.lo⟩, by omega, fun r hr' => by have := (hr r hr').1; omega⟩
  cases rows with
  | nil => cases hr'
  | cons r0 rs =>
    have e1 := (hr r hr').1
    have e2 := (hr r0 (List.mem_cons_self ..)).1
    show r.length = r0.length
    omega
def spICells (K : PySem.W.Frag) (CI : Addr) : Sp := fun vs H Q _ => ∃ (a : Addr) (rows : List (List Nat)), vs = [.ref a] ∧ Isl K CI H a rows ∧ Vd rows ∧ ∀ v H', Same H H' → Dp K H' v (.list ((cellsOf rows).map cdp)) → Q v H'
end Om

namespace Om
open PySem PySem.Spec PyProof.Rows L2
/-! ### _law_alike of two readings of the same data -/
abbrev sAlike : Stmt := top 57
/-- none, bools, ints, texts, tuples and lists of such, some deep -/
def okD : Nat → PyData → Bool
  | 0, _ => false
  | _ + 1, .none => true
  | _ + 1, .bool _ => true
  | _ + 1, .int _ => true
  | _ + 1, .str x => PyData.strOk x
  | n + 1, .list ds => decide (ds.length ≤ 10000) && ds.all (okD n)
  | n + 1, .tuple ds => decide (ds.length ≤ 10000) && ds.all (okD n)
  | _ + 1, .dict _ => false
theorem dpAll_at {K : PySem.W.Frag} {H : Hp} : ∀ {xs : List V} {ds : List PyData}, DpAll K H xs ds → ∀ {i : Nat} {e : PyData}, ds[i]? = some e → ∃ v, xs[i]? = some v ∧ Dp K H v e
  | [], [], .nil, i, e, h => by simp at h
  | v :: _, d :: _, .cons h1 t, 0, e, h => by
    have h : some d = some e := h
    cases h
    exact ⟨v, rfl, h1⟩
  | v :: _, d :: _, .cons h1 t, i + 1, e, h => by
    obtain ⟨u, h2, h3⟩ := dpAll_at t (i := i) (e := e) h
    exact ⟨u, h2, h3⟩
def tyD : PyData → String
  | .none => "NoneType"
  | .bool _ => "bool"
  | .int _ => "int"
  | .str _ => "str"
  | .list _ => "list"
  | .tuple _ => "tuple"
  | .dict _ => "dict"
theorem sqL_ty {K : PySem.W.Frag} {H : Hp} {a : Addr} {xs : List V} (h : SqL K H a xs) : TyX K H (.ref a) (.type "list") := by
  rcases h with (h | ⟨o, h⟩) | h
  · exact .base (.lst h)
  · exact .base (.frz h)
  · obtain ⟨o, its, n, e1, e2, _⟩ := h
    exact .kList e1 e2
theorem sqT_ty {K : PySem.W.Frag} {H : Hp} {a : Addr} {xs : List V} (h : SqT K H a xs) : TyX K H (.ref a) (.type "tuple") := by
  rcases h with (h | ⟨o, h⟩) | h
  · exact .base (.tup h)
  · exact .fTuple h
  · obtain ⟨o, its, n, e1, e2, _⟩ := h
    exact .kTuple e1 e2
theorem dp_ty {K : PySem.W.Frag} {H : Hp} {v : V} {d : PyData} (h : Dp K H v d) : TyX K H v (.type (tyD d)) := by
  cases h with
  | non => exact .base .non
  | bl b => exact .base (.bl b)
  | int i => exact .base (.int i)
  | str x => exact .base (.str x)
  | lst s _ => exact sqL_ty s
  | tup s _ => exact sqT_ty s
def spAlike (K : PySem.W.Frag) (n : Nat) : Sp := fun vs H Q _ => ∃ (x y : V) (d : PyData), vs = [x, y] ∧ Dp K H x d ∧ Dp K H y d ∧ okD n d = true ∧ Q (.bl true) H
abbrev nAlike : List Str := ["_law_found", "_law_due", "_law_k"]
theorem scAlike : FnScope nAlike ["_law_found", "_law_due"] (defScope sAlike) := ⟨rfl, rfl, rfl, by decide +kernel, rfl, by decide +kernel, by decide +kernel⟩
section
variable {P : Program} {w : World} {K : PySem.W.Frag} {mg : Str → Option Value} {base : Heap}
theorem ok_alike {f : Addr} {fd : FuncData} (F : FnP K "_law_alike" "_law_alike" sAlike f fd) (hg : mg "_law_alike" = some (.ref f)) (hk : PySem.W.keepIn K (.ref f) = true) (hb : Binds K fd ["_law_found", "_law_due"] [])
    (gisi : mg "isinstance" = none) (gint : mg "int" = none) (gbool : mg "bool" = none) (gstr : mg "str" = none) (gtuple : mg "tuple" = none) (glist : mg "list" = none) (glen : mg "len" = none) (grange : mg "range" = none) :
    ∀ n, FnOk P w K mg base CX0 (n + 1) f fd ["_law_found", "_law_due"] (spAlike K n) := by
  intro n
  induction n with
  | zero =>
    refine F.ok scAlike (fun vs H Q E h => ?_) (fun cdv A outer s H vs Q E hr h => ?_)
    · obtain ⟨x, y, d, _, _, _, h, _⟩ := h
      cases h
    · obtain ⟨x, y, d, _, _, _, h, _⟩ := h
      cases h
  | succ n ih =>
    have G : Cal P w K mg base CX0 (n + 1) "_law_alike" ["_law_found", "_law_due"] (spAlike K n) := ⟨_, _, ih, hg, hk, hb⟩
    refine F.ok scAlike (fun vs H Q E h => ?_) (fun cdv A outer s H vs Q E hr h => ?_)
    · obtain ⟨x, y, d, rfl, _⟩ := h
      rfl
    · obtain ⟨x, y, d, rfl, hx, hy, ok, k⟩ := h
      have nd := scAlike.nd
      refine ⟨_, PSs.nox (pss_cons (ps_if (pt_cmpR op_isN (pv 1) pe_non (nomark _)) (pss_one (ps_ret (pe_cmpR op_isN (pv 0) pe_non (nomark _)))) pss_nil)
        (pss_cons (ps_if (pt_val (pe_callB call_isi (by rfl) gisi (by decide +kernel) (pa_cons (pv 1) (pa_cons (pe_bltn (v := .ty "bool") (by rfl) gbool (by decide +kernel) rfl) pa_nil))))
            (pss_one (ps_ret (pe_and (pe_callB call_isi (by rfl) gisi (by decide +kernel) (pa_cons (pv 0) (pa_cons (pe_bltn (v := .ty "bool") (by rfl) gbool (by decide +kernel) rfl) pa_nil))) (pe_one (pe_cmpR (op_eqD hr.units) (pv 0) (pv 1) (nomark _)))))) pss_nil)
        (pss_cons (ps_if (pt_val (pe_callB call_isi (by rfl) gisi (by decide +kernel) (pa_cons (pv 1) (pa_cons (pe_bltn (v := .ty "int") (by rfl) gint boot_int rfl) pa_nil))))
            (pss_one (ps_ret (pe_and (pe_callB call_isi (by rfl) gisi (by decide +kernel) (pa_cons (pv 0) (pa_cons (pe_bltn (v := .ty "int") (by rfl) gint boot_int rfl) pa_nil)))
              (pe_and (pe_not (pe_callB call_isi (by rfl) gisi (by decide +kernel) (pa_cons (pv 0) (pa_cons (pe_bltn (v := .ty "bool") (by rfl) gbool (by decide +kernel) rfl) pa_nil)))) (pe_one (pe_cmpR (op_eqD hr.units) (pv 0) (pv 1) (nomark _))))))) pss_nil)
        (pss_cons (ps_if (pt_val (pe_callB call_isi (by rfl) gisi (by decide +kernel) (pa_cons (pv 1) (pa_cons (pe_bltn (v := .ty "str") (by rfl) gstr (by decide +kernel) rfl) pa_nil))))
            (pss_one (ps_ret (pe_and (pe_callB call_isi (by rfl) gisi (by decide +kernel) (pa_cons (pv 0) (pa_cons (pe_bltn (v := .ty "str") (by rfl) gstr (by decide +kernel) rfl) pa_nil))) (pe_one (pe_cmpR (op_eqD hr.units) (pv 0) (pv 1) (nomark _)))))) pss_nil)
        (pss_cons (ps_if (PW.pt (pw_or (pt_cmpR op_ne (pe_callB call_isi (by rfl) gisi (by decide +kernel) (pa_cons (pv 1) (pa_cons (pe_bltn (v := .ty "tuple") (by rfl) gtuple (by decide +kernel) rfl) pa_nil)))
                (pe_callB call_isi (by rfl) gisi (by decide +kernel) (pa_cons (pv 0) (pa_cons (pe_bltn (v := .ty "tuple") (by rfl) gtuple (by decide +kernel) rfl) pa_nil))) (nomark _))
              (pw_or1 (pt_cmpR op_ne (pe_callB call_isi (by rfl) gisi (by decide +kernel) (pa_cons (pv 1) (pa_cons (pe_bltn (v := .ty "list") (by rfl) glist (by decide +kernel) rfl) pa_nil)))
                (pe_callB call_isi (by rfl) gisi (by decide +kernel) (pa_cons (pv 0) (pa_cons (pe_bltn (v := .ty "list") (by rfl) glist (by decide +kernel) rfl) pa_nil))) (nomark _))))) (pss_one (ps_ret pe_bl)) pss_nil)
        (pss_cons (ps_if (pt_cmpR op_ne (pe_callB call_len_seq (by rfl) glen PySem.boot_len (pa_cons (pv 0) pa_nil)) (pe_callB call_len_seq (by rfl) glen PySem.boot_len (pa_cons (pv 1) pa_nil)) (nomark _)) (pss_one (ps_ret pe_bl)) pss_nil)
        (pss_cons (ps_for PassesOwn.never rfl (pi_range1 rfl grange (pa_cons (pe_callB call_len_seq (by rfl) glen PySem.boot_len (pa_cons (pv 1) pa_nil)) pa_nil)) (pg_name (i := 2) nd rfl (.inl rfl))
            (pss_one (ps_if (pt_not (pt_val (pe_cal G hr pass0 (pa_cons (pe_ix ix_seq (pv 0) (pv 2) (fun _ _ => rfl)) (pa_cons (pe_ix ix_seq (pv 1) (pv 2) (fun _ _ => rfl)) pa_nil))))) (pss_one (ps_ret pe_bl)) pss_nil)))
        (pss_one (ps_ret pe_bl))))))))), ?_⟩
      have ex := dp_ty hx
      have ey := dp_ty hy
      have kt : ∀ {a b : String} {r : Bool}, kitB a b = some r → PySem.W.kitOne K (.type a) (.type b) = some r := fun h => kit_ty h
      have bb := kt (a := "bool") (b := "bool") (r := true) (by decide +kernel)
      have ib := kt (a := "int") (b := "bool") (r := false) (by decide +kernel)
      have ii := kt (a := "int") (b := "int") (r := true) (by decide +kernel)
      have sb := kt (a := "str") (b := "bool") (r := false) (by decide +kernel)
      have si := kt (a := "str") (b := "int") (r := false) (by decide +kernel)
      have ss := kt (a := "str") (b := "str") (r := true) (by decide +kernel)
      have lb := kt (a := "list") (b := "bool") (r := false) (by decide +kernel)
      have li := kt (a := "list") (b := "int") (r := false) (by decide +kernel)
      have ls := kt (a := "list") (b := "str") (r := false) (by decide +kernel)
      have lt := kt (a := "list") (b := "tuple") (r := false) (by decide +kernel)
      have ll := kt (a := "list") (b := "list") (r := true) (by decide +kernel)
      have tb := kt (a := "tuple") (b := "bool") (r := false) (by decide +kernel)
      have ti := kt (a := "tuple") (b := "int") (r := false) (by decide +kernel)
      have ts := kt (a := "tuple") (b := "str") (r := false) (by decide +kernel)
      have tt := kt (a := "tuple") (b := "tuple") (r := true) (by decide +kernel)
      have tl := kt (a := "tuple") (b := "list") (r := false) (by decide +kernel)
      refine ⟨_, rfl, rfl, _, rfl, ?_⟩
      -- what follows for a list, a tuple at both: the items one by one
      have items : ∀ (xs ys : List V) (ds : List PyData), DpAll K H xs ds → DpAll K H ys ds → ds.all (okD n) = true →
          ∀ i, i < ys.length → ∃ v u, xs[i]? = some v ∧ ys[i]? = some u ∧ ∃ e, Dp K H v e ∧ Dp K H u e ∧ okD n e = true := fun xs ys ds h1 h2 h3 i hi => by
        have hl := dpAll_len h2
        have hi2 : i < ds.length := by omega
        have he : ds[i]? = some ds[i] := by simp [hi2]
        obtain ⟨v, a1, a2⟩ := dpAll_at h1 he
        obtain ⟨u, b1, b2⟩ := dpAll_at h2 he
        exact ⟨v, u, a1, b1, _, a2, b2, List.all_eq_true.mp h3 _ (List.getElem_mem hi2)⟩
      cases d with
      | none =>
        cases hx
        cases hy
        exact iteT ⟨_, rfl, rfl, k⟩
      | dict kvs => cases ok
      | bool b =>
        cases hx
        cases hy
        refine iteF ⟨_, rfl, _, _, _, _, _, rfl, .ty "bool", ey, bb, true, rfl, iteT ?_⟩
        refine ⟨_, rfl, _, _, _, _, _, rfl, .ty "bool", ex, bb, true, rfl, iteT ?_⟩
        refine ⟨_, rfl, _, rfl, _, _, .bl b, .bl b, rfl, rfl, ?_⟩
        show Q (.bl (PyData.eqv (.bool b) (.bool b))) H
        rw [PySem.SeqAt.eqv_refl _ rfl]
        exact k
      | int i =>
        cases hx
        cases hy
        refine iteF ⟨_, rfl, _, _, _, _, _, rfl, .ty "bool", ey, ib, false, rfl, iteF ?_⟩
        refine ⟨_, rfl, _, _, _, _, _, rfl, .ty "int", ey, ii, true, rfl, iteT ?_⟩
        refine ⟨_, rfl, _, _, _, _, _, rfl, .ty "int", ex, ii, true, rfl, iteT ?_⟩
        refine ⟨_, rfl, _, _, _, _, _, rfl, .ty "bool", ex, ib, false, rfl, true, rfl, iteT ?_⟩
        refine ⟨_, rfl, _, rfl, _, _, .int i, .int i, rfl, rfl, ?_⟩
        show Q (.bl (PyData.eqv (.int i) (.int i))) H
        rw [PySem.SeqAt.eqv_refl _ rfl]
        exact k
      | str z =>
        cases hx
        cases hy
        have hz : PyData.strOk z = true := ok
        have lay : PyData.canLay0 (.str z) = true := by simp only [PyData.canLay0]; exact hz
        have sh : SeqAt.shaped (.str z) = true := shaped_of lay (by simp [PyData.depth])
        refine iteF ⟨_, rfl, _, _, _, _, _, rfl, .ty "bool", ey, sb, false, rfl, iteF ?_⟩
        refine ⟨_, rfl, _, _, _, _, _, rfl, .ty "int", ey, si, false, rfl, iteF ?_⟩
        refine ⟨_, rfl, _, _, _, _, _, rfl, .ty "str", ey, ss, true, rfl, iteT ?_⟩
        refine ⟨_, rfl, _, _, _, _, _, rfl, .ty "str", ex, ss, true, rfl, iteT ?_⟩
        refine ⟨_, rfl, _, rfl, _, _, .str z, .str z, sh, sh, ?_⟩
        show Q (.bl (PyData.eqv (.str z) (.str z))) H
        rw [PySem.SeqAt.eqv_refl _ lay]
        exact k
      | list ds =>
        cases hx with
        | lst sx ax =>
          rename_i a xs
          cases hy with
          | lst sy ay =>
            rename_i b ys
            have ok2 : (decide (ds.length ≤ 10000) && ds.all (okD n)) = true := ok
            obtain ⟨o1, o2⟩ := Bool.and_eq_true_iff.mp ok2
            have it := items xs ys ds ax ay o2
            refine iteF ⟨_, rfl, _, _, _, _, _, rfl, .ty "bool", ey, lb, false, rfl, iteF ?_⟩
            refine ⟨_, rfl, _, _, _, _, _, rfl, .ty "int", ey, li, false, rfl, iteF ?_⟩
            refine ⟨_, rfl, _, _, _, _, _, rfl, .ty "str", ey, ls, false, rfl, iteF ?_⟩
            refine ⟨_, rfl, _, _, _, _, _, rfl, .ty "tuple", ey, lt, _, rfl, _, _, _, _, _, rfl, .ty "tuple", ex, lt, ?_⟩
            refine ⟨rfl, _, rfl, iteF' (by rw [decide_eq_true rfl]; rfl) ?_⟩
            refine ⟨_, rfl, _, _, _, _, _, rfl, .ty "list", ey, ll, _, rfl, _, _, _, _, _, rfl, .ty "list", ex, ll, ?_⟩
            refine ⟨rfl, _, rfl, iteF' (by rw [decide_eq_true rfl]; rfl) ?_⟩
            have lx : xs.length = ys.length := by rw [dpAll_len ax, dpAll_len ay]
            have lb1 : ys.length ≤ 10000 := by
              rw [dpAll_len ay]
              exact of_decide_eq_true o1
            refine ⟨_, rfl, a, xs, rfl, .inl sx, _, rfl, b, ys, rfl, .inl sy, rfl, _, rfl, iteF' (by rw [lx, decide_eq_true rfl]; rfl) ?_⟩
            refine ⟨_, rfl, b, ys, rfl, .inl sy, _, rfl, by omega, by omega, for_range (lo := 0) (n := ((ys.length : Nat) : Int).toNat) (fun i σ H' => H' = H ∧ ∃ v, σ = [some (V.ref a), some (V.ref b), v]) ⟨rfl, _, rfl⟩ ?_ ?_⟩
            · rintro i σ H' hi ⟨rfl, v0, rfl⟩
              obtain ⟨v, u, h1, h2, e, d1, d2, d3⟩ := it i (by omega)
              have e1 : atI xs (0 + ((i : Nat) : Int)) = some v := by rw [Int.zero_add]; exact atI_nat h1
              have e2 : atI ys (0 + ((i : Nat) : Int)) = some u := by rw [Int.zero_add]; exact atI_nat h2
              refine ⟨_, rfl, _, rfl, .inl ⟨a, xs, _, v, rfl, rfl, sx, e1, _, rfl, _, rfl, .inl ⟨b, ys, _, u, rfl, rfl, sy, e2, ?_⟩⟩⟩
              exact ⟨v, u, e, rfl, d1, d2, d3, true, rfl, iteF ⟨rfl, _, rfl⟩⟩
            · rintro σ H' ⟨rfl, v0, rfl⟩
              exact k
      | tuple ds =>
        cases hx with
        | tup sx ax =>
          rename_i a xs
          cases hy with
          | tup sy ay =>
            rename_i b ys
            have ok2 : (decide (ds.length ≤ 10000) && ds.all (okD n)) = true := ok
            obtain ⟨o1, o2⟩ := Bool.and_eq_true_iff.mp ok2
            have it := items xs ys ds ax ay o2
            refine iteF ⟨_, rfl, _, _, _, _, _, rfl, .ty "bool", ey, tb, false, rfl, iteF ?_⟩
            refine ⟨_, rfl, _, _, _, _, _, rfl, .ty "int", ey, ti, false, rfl, iteF ?_⟩
            refine ⟨_, rfl, _, _, _, _, _, rfl, .ty "str", ey, ts, false, rfl, iteF ?_⟩
            refine ⟨_, rfl, _, _, _, _, _, rfl, .ty "tuple", ey, tt, _, rfl, _, _, _, _, _, rfl, .ty "tuple", ex, tt, ?_⟩
            refine ⟨rfl, _, rfl, iteF' (by rw [decide_eq_true rfl]; rfl) ?_⟩
            refine ⟨_, rfl, _, _, _, _, _, rfl, .ty "list", ey, tl, _, rfl, _, _, _, _, _, rfl, .ty "list", ex, tl, ?_⟩
            refine ⟨rfl, _, rfl, iteF' (by rw [decide_eq_true rfl]; rfl) ?_⟩
            have lx : xs.length = ys.length := by rw [dpAll_len ax, dpAll_len ay]
            have lb1 : ys.length ≤ 10000 := by
              rw [dpAll_len ay]
              exact of_decide_eq_true o1
            refine ⟨_, rfl, a, xs, rfl, .inr sx, _, rfl, b, ys, rfl, .inr sy, rfl, _, rfl, iteF' (by rw [lx, decide_eq_true rfl]; rfl) ?_⟩
            refine ⟨_, rfl, b, ys, rfl, .inr sy, _, rfl, by omega, by omega, for_range (lo := 0) (n := ((ys.length : Nat) : Int).toNat) (fun i σ H' => H' = H ∧ ∃ v, σ = [some (V.ref a), some (V.ref b), v]) ⟨rfl, _, rfl⟩ ?_ ?_⟩
            · rintro i σ H' hi ⟨rfl, v0, rfl⟩
              obtain ⟨v, u, h1, h2, e, d1, d2, d3⟩ := it i (by omega)
              have e1 : atI xs (0 + ((i : Nat) : Int)) = some v := by rw [Int.zero_add]; exact atI_nat h1
              have e2 : atI ys (0 + ((i : Nat) : Int)) = some u := by rw [Int.zero_add]; exact atI_nat h2
              refine ⟨_, rfl, _, rfl, .inr (.inl ⟨a, xs, _, v, rfl, rfl, sx, e1, _, rfl, _, rfl, .inr (.inl ⟨b, ys, _, u, rfl, rfl, sy, e2, ?_⟩)⟩)⟩
              exact ⟨v, u, e, rfl, d1, d2, d3, true, rfl, iteF ⟨rfl, _, rfl⟩⟩
            · rintro σ H' ⟨rfl, v0, rfl⟩
              exact k
end
end Om

namespace Om
open PySem PySem.Spec PyProof.Rows L2
section
variable {P : Program} {w : World} {K : PySem.W.Frag} {mg : Str → Option Value} {base : Heap} {CI CU fN : Addr}
def cellsLc : Expr := retExpr ((defBody (sIslM 4)).getD 0 (.Pass ⟨0, 0, 0, 0⟩))
abbrev nCells : List Str := ["self", "row", "signs", "column", "sign"]
theorem scCells : FnScope nCells ["self"] (defScope (sIslM 4)) := ⟨rfl, rfl, rfl, by decide +kernel, rfl, by decide +kernel, by decide +kernel⟩
theorem blkCells : BlkOk nCells (defScope (sIslM 4)) (lcScope cellsLc) [("row", 1), ("signs", 2), ("column", 3), ("sign", 4)] := blkOk_by (by decide +kernel)
theorem ok_icells {f : Addr} {fd : FuncData} (F : FnP K "cells" "Island.cells" (sIslM 4) f fd) (T : IslF K mg CI fN) (genum : mg "enumerate" = none) (gw : ∃ t, mg "WATER" = some (.str (Str.ofString "~") t)) : FnOk P w K mg base CX0 1 f fd ["self"] (spICells K CI) := by
  obtain ⟨t0, gw⟩ := gw
  refine F.ok scCells (fun vs H Q E h => ?_) (fun cdv A outer s H vs Q E hr h => ?_)
  · obtain ⟨a, rows, rfl, _⟩ := h
    rfl
  · obtain ⟨a, rows, rfl, ⟨dx, p, hp, hS⟩, vd, k⟩ := h
    have nd := scCells.nd
    refine ⟨_, PSs.nox (pss_one (ps_ret (pe_lc2 (own := [("row", 1), ("signs", 2), ("column", 3), ("sign", 4)]) (vs1 := [3, 4]) (g := gTup K 2 (gCons (gName 1) (gCons (gName 2) gNil))) (g1 := gTup K 2 (gCons (gName 3) (gCons (gName 4) gNil))) rfl nd (pi_enumT rfl genum (pa_cons (pe_fld (pv 0) rfl) pa_nil)) blkCells (by decide)
      (fun _ _ _ _ _ => pg_tup rfl (pgs_cons (pg_name (i := 1) nd rfl (.inl rfl)) (pgs_cons (pg_name (i := 2) nd rfl (.inl rfl)) pgs_nil))) (fun _ _ _ _ _ => pts_nil)
      (fun _ _ _ _ _ => pi_enumS rfl genum (pa_cons (pv 2) pa_nil))
      (fun _ _ _ _ _ => pg_tup rfl (pgs_cons (pg_name (i := 3) nd rfl (.inl rfl)) (pgs_cons (pg_name (i := 4) nd rfl (.inl rfl)) pgs_nil)))
      (fun _ _ _ _ _ => pts_one (pt_cmpR op_ne (pv 4) (pe_glob (v := .str (Str.ofString "~")) rfl gw ⟨_, rfl⟩) (nomark _)))
      (fun _ _ _ _ _ => pe_tup (pa_cons (pv 1) (pa_cons (pv 3) pa_nil)))))), ?_⟩
    refine ⟨_, rfl, a, CI, dx, _, .ref p, rfl, hp, T.cl, T.nR, rfl, p, _, rfl, hS, fun D hD => ?_⟩
    have ez : Str.ofString "~" = (⟨#[126]⟩ : Str) := by decide +kernel
    refine out_it (walk_enumT (K := K) (a := p) (xs := rows.map vt)) (fun i H' => ∃ acc, H' D = some (.lst acc) ∧ DpAll K H' acc ((cellsTo rows i).map cdp) ∧ Same H H') ⟨[], upd_same, .nil, Same.new (Same.refl H) hD⟩
      (fun i H' _ q => by obtain ⟨_, _, _, q⟩ := q; exact Same.tup q hS) ?_ ?_
    · rintro i x H1 H2 hi ⟨acc, h1, h2, h3⟩ ⟨T1, y, rfl, hT, rfl, hy⟩
      rw [List.length_map] at hi
      obtain ⟨r, hr1⟩ : ∃ r, rows[i]? = some r := ⟨rows[i], by simp [hi]⟩
      have hy2 : y = vt r := by
        have hy : (rows.map vt)[i]? = some y := hy
        rw [List.getElem?_map, hr1] at hy
        exact (Option.some.inj hy).symm
      subst hy2
      have hm : r ∈ rows := List.mem_of_getElem? hr1
      have hDT : D ≠ T1 := fun e => by rw [← e, h1] at hT; cases hT
      have s1 : Same H1 (upd H1 T1 (.tup [.int (i : Nat), vt r])) := Same.new (Same.refl H1) hT
      refine ⟨T1, _, rfl, .inl (.inl upd_same), rfl, _, _, rfl, _, _, rfl, rfl, rfl, tyes ?_⟩
      refine ⟨_, rfl, tx r, rfl, in_it (walk_enumS (x := tx r)) (fun j H' => ∃ acc, H' D = some (.lst acc) ∧ DpAll K H' acc ((cellsTo rows i ++ rowCells r i j).map cdp) ∧ Same H H')
        ⟨acc, s1 _ _ h1, by simp only [rowCells, List.range_zero, List.filter_nil, List.map_nil, List.append_nil]; exact Same.dpAll s1 h2, h3.trans s1⟩ (fun _ _ _ _ => trivial) ?_ ?_⟩
      · rintro j x H3 H4 hj ⟨acc2, g1, g2, g3⟩ ⟨T2, y2, rfl, hT2, rfl, hy2⟩
        have hj' : j < r.length := by
          have e : (tx r).cps.size = r.length := by rw [← Array.length_toList, tx_cps]
          rwa [e] at hj
        obtain ⟨c, hc⟩ : ∃ c, r[j]? = some c := ⟨r[j], by simp [hj']⟩
        have hy3 : y2 = .str ⟨#[c]⟩ := by
          have hy2 : ((tx r).cps[j]?).map (fun c => V.str ⟨#[c]⟩) = some y2 := hy2
          have e : (tx r).cps[j]? = some c := by
            rw [← Array.getElem?_toList, tx_cps]
            exact hc
          rw [e] at hy2
          exact (Option.some.inj hy2).symm
        subst hy3
        have s2 : Same H3 (upd H3 T2 (.tup [.int (j : Nat), .str ⟨#[c]⟩])) := Same.new (Same.refl H3) hT2
        have hcd : r.getD j 0 = c := by rw [List.getD_eq_getElem?_getD, hc, Option.getD_some]
        refine ⟨T2, _, rfl, .inl (.inl upd_same), rfl, _, _, rfl, _, _, rfl, rfl, rfl, ?_⟩
        refine ⟨_, rfl, rfl, _, rfl, ?_⟩
        have e2 : (decide (V.str ⟨#[c]⟩ = V.str (Str.ofString "~"))) = decide (c = 126) := by
          rw [ez]
          apply decide_eq_decide.mpr
          simp
        show if (!decide (V.str ⟨#[c]⟩ = V.str (Str.ofString "~"))) = true then _ else _
        rw [e2, rowCells_succ, hcd]
        have w1 : (cellsTo rows i).length ≤ i * 12 := cellsTo_len (fun r hr => (vd.wid r hr).2) i (by omega)
        have w2 := rowCells_len r i j
        have w3 := (vd.wid r hm).2
        have w4 := vd.hgt
        have hlen := dpAll_len g2
        rw [List.length_map, List.length_append] at hlen
        by_cases h126 : c = 126
        · rw [if_pos h126]
          refine iteF' (by rw [decide_eq_true h126]; rfl) ?_
          exact ⟨acc2, s2 _ _ g1, Same.dpAll s2 g2, g3.trans s2⟩
        · rw [if_neg h126]
          refine iteT' (by rw [decide_eq_false h126]; rfl) ?_
          refine ⟨_, rfl, _, rfl, (by show 2 ≤ sizeLine; decide), fun q hq => ?_⟩
          have s3 : Same H3 (upd (upd H3 T2 (.tup [.int (j : Nat), .str ⟨#[c]⟩])) q (.tup [.int (i : Nat), .int (j : Nat)])) := s2.trans (Same.new (Same.refl _) hq)
          have g4 := s3 _ _ g1
          have hqD : D ≠ q := fun e => by rw [← e, s2 _ _ g1] at hq; cases hq
          refine ⟨acc2, g4, Nat.lt_of_lt_of_le (show acc2.length < 1000 by omega) (by decide), acc2 ++ [.ref q], upd_same, ?_, ?_⟩
          · rw [← List.append_assoc, List.map_append]
            refine dpAll_app (pairs_other g4 (Same.dpAll s3 g2)) (.cons ?_ .nil)
            exact .tup (.inl (.inl (by rw [upd_ne (Ne.symm hqD)]; exact upd_same))) (.cons (.int _) (.cons (.int _) .nil))
          · intro b o hb
            have hne : b ≠ D := ne_of_none hb hD
            rw [upd_ne hne]
            exact s3 _ _ (g3 b o hb)
      · rintro H3 ⟨acc2, g1, g2, g3⟩
        have e : (tx r).cps.size = r.length := by rw [← Array.length_toList, tx_cps]
        rw [e] at g2
        refine ⟨acc2, g1, ?_, g3⟩
        rw [cellsTo_succ, getD_at hr1]
        exact g2
    · rintro H1 ⟨acc, h1, h2, h3⟩
      rw [List.length_map] at h2
      exact k _ H1 h3 (.lst (.inl (.inl h1)) h2)
end
end Om

namespace Om
open PySem PySem.Spec PyProof.Rows L2 LamX
/-! ### the heap of numbers that a law draws from -/
abbrev Bx (H : Hp) (b l : Addr) : Prop := Box H b l
theorem Bx.new {H : Hp} {b l D : Addr} (B : Box H b l) (hD : H D = none) : D ≠ b ∧ D ≠ l := by
  obtain ⟨_, _, x1, x2, _⟩ := B.ex
  exact ⟨(fun e => by rw [← e, hD] at x1; cases x1), (fun e => by rw [← e, hD] at x2; cases x2)⟩
end Om

namespace Om
open PySem PySem.Spec PyProof.Rows L2 LamX
/-! ### data without lists stay when the numbers are drawn -/
mutual
def noL : PyData → Bool
  | .list _ => false
  | .tuple ds => noLs ds
  | .dict _ => false
  | .none => true
  | .bool _ => true
  | .int _ => true
  | .str _ => true
def noLs : List PyData → Bool
  | [] => true
  | d :: r => noL d && noLs r
end
theorem SqT.kp {K : PySem.W.Frag} {H H' : Hp} {b l a : Addr} {xs : List V} (B : Bx H b l) (k : Kp b l H H') (h : SqT K H a xs) : SqT K H' a xs := by
  obtain ⟨ns, z, h1, h2, _⟩ := B.ex
  rcases h with (h | ⟨o, h⟩) | h
  · exact .inl (.inl (k _ _ h (ne_of h h1 fun e => by cases e) (ne_of h h2 fun e => by cases e)))
  · exact .inl (.inr ⟨o, k _ _ h (ne_of h h1 fun e => by cases e) (ne_of h h2 fun e => by cases e)⟩)
  · exact .inr h
theorem dp_noL {K : PySem.W.Frag} {H H' : Hp} {v : V} {d : PyData} (hS : ∀ a xs, SqT K H a xs → SqT K H' a xs) (hn : noL d = true) (h : Dp K H v d) : Dp K H' v d :=
  Dp.rec (motive_1 := fun v d _ => noL d = true → Dp K H' v d) (motive_2 := fun vs ds _ => noLs ds = true → DpAll K H' vs ds) (fun _ => .non) (fun b _ => .bl b) (fun i _ => .int i) (fun x _ => .str x)
    (fun _ _ _ hn => by simp [noL] at hn) (fun s _ ih hn => .tup (hS _ _ s) (ih (by simpa [noL] using hn))) (fun _ => .nil) (fun _ _ i1 i2 hn => by
      rw [noLs, Bool.and_eq_true] at hn
      exact .cons (i1 hn.1) (i2 hn.2)) h hn
theorem dpAll_noL {K : PySem.W.Frag} {H H' : Hp} : ∀ {vs : List V} {ds : List PyData} (hS : ∀ a xs, SqT K H a xs → SqT K H' a xs) (hn : noLs ds = true) (h : DpAll K H vs ds), DpAll K H' vs ds
  | [], [], _, _, .nil => .nil
  | _ :: _, _ :: _, hS, hn, .cons h t => by
    rw [noLs, Bool.and_eq_true] at hn
    exact .cons (dp_noL hS hn.1 h) (dpAll_noL hS hn.2 t)
theorem SqT.updL {K : PySem.W.Frag} {H : Hp} {D a : Addr} {xs ys zs : List V} (hD : H D = some (.lst ys)) (h : SqT K H a xs) : SqT K (upd H D (.lst zs)) a xs := by
  rcases h with (h | ⟨o, h⟩) | h
  · exact .inl (.inl (by rw [upd_ne (ne_of h hD fun e => by cases e)]; exact h))
  · exact .inl (.inr ⟨o, by rw [upd_ne (ne_of h hD fun e => by cases e)]; exact h⟩)
  · exact .inr h
theorem Bx.updL {H : Hp} {b l D : Addr} {ys : List V} (B : Bx H b l) (nb : D ≠ b) (nl : D ≠ l) : Bx (upd H D (.lst ys)) b l := by
  obtain ⟨u1, u2, u4, u5, u6⟩ := B.ex
  exact ⟨u1, u2, by rw [upd_ne nb.symm]; exact u4, by rw [upd_ne nl.symm]; exact u5, u6⟩
theorem Kp.updL {H H0 : Hp} {b l D : Addr} {ys : List V} (k : Kp b l H0 H) (hD : H0 D = none) : Kp b l H0 (upd H D (.lst ys)) := by
  intro x o hx n1 n2
  rw [upd_ne (ne_of_none hx hD)]
  exact k x o hx n1 n2
theorem Kp.ins {b l a C dx : Addr} {H H' : Hp} {fs : List (Str × V)} (k : Kp b l H H') (B : Bx H b l) (h : H a = some (.ins C dx fs)) : H' a = some (.ins C dx fs) := by
  obtain ⟨ns, z, h1, h2, _⟩ := id B.ex
  exact k _ _ h (ne_of h h1 fun e => by cases e) (ne_of h h2 fun e => by cases e)
theorem Isl.kp {K : PySem.W.Frag} {H H' : Hp} {CI a b l : Addr} {rows : List (List Nat)} (B : Bx H b l) (k : Kp b l H H') (h : Isl K CI H a rows) : Isl K CI H' a rows := by
  obtain ⟨dx, p, hp, hS⟩ := h
  exact ⟨dx, p, k.ins B hp, SqT.kp B k hS⟩
theorem noL_cells : ∀ cs : List (Nat × Nat), noLs (cs.map cdp) = true
  | [] => rfl
  | c :: r => by
    have ih := noL_cells r
    simp only [List.map_cons, noLs, cdp, noL, ih, Bool.and_self]
/-! ### _law_alike of two readings of the same data -/
theorem ixsK {X : Cx} {K : PySem.W.Frag} (hK : X.K = K) : IxR X (rIx K) := by
  subst hK
  exact ix_seq
theorem pss_no {X : Cx} {st : List Stmt} : PSs X st (fun _ _ _ => False) := ⟨fun _ _ _ _ _ _ h => False.elim h⟩
def asgExpr (s : Stmt) : Expr := match s with
  | .Assign _ e _ => e
  | _ => .Constant .none 0 ⟨0, 0, 0, 0⟩
def noS : Stmt := .Pass ⟨0, 0, 0, 0⟩
def inIf (s : Stmt) (i : Nat) : Stmt := match s with
  | .If _ b _ _ => b.getD i noS
  | _ => noS
def inFor (s : Stmt) (i : Nat) : Stmt := match s with
  | .For _ _ b _ _ => b.getD i noS
  | _ => noS
def cmpL (e : Expr) : Expr := match e with
  | .Compare a _ _ _ => a
  | _ => .Constant .none 0 ⟨0, 0, 0, 0⟩
end Om

namespace Om
open PySem PySem.Spec PyProof.Rows L2 LamX
/-! ### signs at places -/
def sg2 (rows : List (List Nat)) (i j : Nat) : Nat := (rows.getD i []).getD j 0
structure Rect (rows : List (List Nat)) (h w : Nat) : Prop where
  len : rows.length = h
  row : ∀ r ∈ rows, r.length = w
theorem rect_getD {rows : List (List Nat)} {h w : Nat} (R : Rect rows h w) {i : Nat} (hi : i < h) : rows.getD i [] ∈ rows ∧ (rows.getD i []).length = w := by
  have hi2 : i < rows.length := by rw [R.len]; exact hi
  have e : rows.getD i [] = rows[i] := by rw [List.getD_eq_getElem?_getD, List.getElem?_eq_getElem hi2, Option.getD_some]
  rw [e]
  exact ⟨List.getElem_mem hi2, R.row _ (List.getElem_mem hi2)⟩
/-! ### cells -/
theorem cells_mem (rows : List (List Nat)) (a b : Nat) : (a, b) ∈ cellsOf rows ↔ a < rows.length ∧ b < (rows.getD a []).length ∧ sg2 rows a b ≠ 126 := by
  unfold cellsOf cellsTo rowCells sg2
  simp only [List.mem_flatMap, List.mem_range, List.mem_map, List.mem_filter, Bool.not_eq_true', decide_eq_false_iff_not, Prod.mk.injEq]
  constructor
  · rintro ⟨i, hi, j, ⟨hj1, hj2⟩, rfl, rfl⟩
    exact ⟨hi, hj1, hj2⟩
  · rintro ⟨h1, h2, h3⟩
    exact ⟨a, h1, b, ⟨h2, h3⟩, rfl, rfl⟩
theorem eqv_cell (c : Nat × Nat) (i j : Int) : PyData.eqv (cdp c) (.tuple [.int i, .int j]) = (decide (((c.1 : Nat) : Int) = i) && decide (((c.2 : Nat) : Int) = j)) := by
  simp only [cdp, PyData.eqv, PyData.eqvAll, Bool.and_true]
  rfl
theorem cells_any {rows : List (List Nat)} (g : Good2 rows) (i j : Int) : (((cellsOf rows).map cdp).any fun z => PyData.eqv z (.tuple [.int i, .int j])) = hasC rows i j := by
  rw [Bool.eq_iff_iff, List.any_map, List.any_eq_true]
  constructor
  · rintro ⟨⟨a, b⟩, hm, h⟩
    have h : PyData.eqv (cdp (a, b)) (.tuple [.int i, .int j]) = true := h
    rw [eqv_cell, Bool.and_eq_true, decide_eq_true_eq, decide_eq_true_eq] at h
    obtain ⟨rfl, rfl⟩ := h
    obtain ⟨h1, h2, h3⟩ := (cells_mem rows a b).mp hm
    have hl := g.rect _ (rect_getD (h := rows.length) (w := (rows.headD []).length) ⟨rfl, g.rect⟩ h1).1
    unfold hasC insd inR sgAt
    simp only [Int.toNat_natCast, Bool.and_eq_true, decide_eq_true_eq, Bool.not_eq_true', decide_eq_false_iff_not]
    exact ⟨by omega, h3⟩
  · intro h
    unfold hasC insd inR sgAt at h
    simp only [Bool.and_eq_true, decide_eq_true_eq, Bool.not_eq_true', decide_eq_false_iff_not] at h
    obtain ⟨⟨⟨h1, h2⟩, h3, h4⟩, h5⟩ := h
    have hl := g.rect _ (rect_getD (h := rows.length) (w := (rows.headD []).length) ⟨rfl, g.rect⟩ (i := i.toNat) (by omega)).1
    refine ⟨(i.toNat, j.toNat), (cells_mem rows _ _).mpr ⟨by omega, by omega, h5⟩, ?_⟩
    show PyData.eqv (cdp (i.toNat, j.toNat)) (.tuple [.int i, .int j]) = true
    rw [eqv_cell, Bool.and_eq_true, decide_eq_true_eq, decide_eq_true_eq]
    exact ⟨by show ((i.toNat : Nat) : Int) = i; omega, by show ((j.toNat : Nat) : Int) = j; omega⟩
theorem lay_cells (cs : List (Nat × Nat)) : PyData.canLayAll0 (cs.map cdp) = true := by
  induction cs with
  | nil => simp [PyData.canLayAll0]
  | cons c r ih => simp only [List.map_cons, PyData.canLayAll0, cdp, PyData.canLay0, ih, Bool.and_self]
theorem dep_cells (cs : List (Nat × Nat)) : PyData.depthAll (cs.map cdp) ≤ 1 := by
  induction cs with
  | nil => simp [PyData.depthAll]
  | cons c r ih => simp [PyData.depthAll, cdp, PyData.depth]; omega
theorem sh_cells (cs : List (Nat × Nat)) : SeqAt.shaped (.list (cs.map cdp)) = true := shaped_of (by simp only [PyData.canLay0]; exact lay_cells cs) (by have := dep_cells cs; simp only [PyData.depth]; omega)
theorem sh_pair (i j : Int) : SeqAt.shaped (.tuple [.int i, .int j]) = true := shaped_of (by simp [PyData.canLay0, PyData.canLayAll0]) (by simp [PyData.depth, PyData.depthAll])
theorem eqv_pair (i j : Int) : PyData.eqv (.tuple [.int i, .int j]) (.tuple [.int i, .int j]) = true := PySem.SeqAt.eqv_refl _ (by simp [PyData.canLay0, PyData.canLayAll0])
/-! ### rules, what digs tell -/
inductive Rl where
  | plain
  | rows
  | near (m : Nat)
def Rl.vs : Rl → List V
  | .plain => [.str "plain"]
  | .rows => [.str "rows"]
  | .near m => [.str "near", .int (m : Nat)]
def Rl.ds : Rl → List PyData
  | .plain => [.str "plain"]
  | .rows => [.str "rows"]
  | .near m => [.str "near", .int (m : Nat)]
def Rl.d (r : Rl) : PyData := .tuple r.ds
def iabs (i : Int) : Int := if i < 0 then -i else i
abbrev Cell := Nat × Nat
def cvs (c : Cell) : List V := [.int (c.1 : Nat), .int (c.2 : Nat)]
def away (c p : Cell) : Int := iabs ((c.1 : Int) - (p.1 : Int)) + iabs ((c.2 : Int) - (p.2 : Int))
def toldR (a b : Nat) : Str := if b = a then "level" else if b < a then "north" else "south"
def told (r : Rl) (c p : Cell) : Str := if c = p then "found" else match r with
  | .plain => "empty"
  | .rows => toldR c.1 p.1
  | .near m => if away c p ≤ (m : Int) then "near" else "far"
theorem cell_dp {K : PySem.W.Frag} {H : Hp} {a : Addr} {c : Cell} (h : SqT K H a (cvs c)) : Dp K H (.ref a) (cdp c) := .tup h (.cons (.int _) (.cons (.int _) .nil))
theorem cell_at {K : PySem.W.Frag} {H : Hp} {v : V} {c : Cell} (h : Dp K H v (cdp c)) : ∃ a, v = .ref a ∧ SqT K H a (cvs c) := by
  unfold cdp at h
  cases h with
  | tup s t =>
    cases t with
    | cons h1 t =>
      cases h1
      cases t with
      | cons h2 t =>
        cases h2
        cases t
        exact ⟨_, rfl, s⟩
theorem eqv_cells (c p : Cell) : PyData.eqv (cdp c) (cdp p) = decide (c = p) := by
  have z := eqv_cell c (p.1 : Nat) (p.2 : Nat)
  show PyData.eqv (cdp c) (.tuple [.int (p.1 : Nat), .int (p.2 : Nat)]) = _
  rw [z, Bool.eq_iff_iff]
  simp only [Bool.and_eq_true, decide_eq_true_eq, Int.natCast_inj]
  constructor
  · rintro ⟨h1, h2⟩
    exact Prod.ext h1 h2
  · rintro rfl
    exact ⟨rfl, rfl⟩
theorem sh_cell (c : Cell) : SeqAt.shaped (cdp c) = true := sh_pair _ _
/-- which words a rule knows -/
def words : Rl → List Str
  | .plain => ["found", "empty"]
  | .rows => ["found", "north", "south", "level"]
  | .near _ => ["found", "near", "far"]
theorem told_mem (r : Rl) (c p : Cell) : told r c p ∈ words r := by
  unfold told
  split
  · cases r <;> simp [words]
  · cases r with
    | plain => simp [words]
    | rows =>
      show toldR _ _ ∈ _
      unfold toldR
      split
      · simp [words]
      · split <;> simp [words]
    | near m =>
      show (if _ then _ else _ : Str) ∈ _
      split <;> simp [words]
/-! ### x in (a written tuple of data) -/
def rInT (K : PySem.W.Frag) : R2 := fun x y H Q => ∃ d ds, Dp K H x d ∧ Dp K H y (.tuple ds) ∧ SeqAt.shaped d = true ∧ SeqAt.shaped (.tuple ds) = true ∧ Q (.bl (ds.any fun z => PyData.eqv z d)) H
theorem op_inT {X : Cx} (hu : X.A.units + 65 < cLine) : OpR X (compareOp .In) (rInT X.K) := by
  intro pins s σ H x y v u Q I rx ry h
  obtain ⟨d, ds, hd, he, sd, se, q⟩ := h
  obtain ⟨as, r1⟩ := Dp.reads I d x v hd rx
  obtain ⟨bs, r2⟩ := Dp.reads I (.tuple ds) y u he ry
  exact SeqAt.in_tuple_reads r2 r1 (SeqAt.canLay_of_shaped se) (SeqAt.canLay_of_shaped sd) (room_in_shaped sd hu) ⟨.bl _, H, I, rfl, q⟩
end Om

namespace Om
open PySem PySem.Spec PyProof.Rows L2 LamX
theorem ixtK {X : Cx} {K : PySem.W.Frag} (hK : X.K = K) : IxR X (rIxT K) := by
  subst hK
  exact ix_tup
/-! ### cells that stand in the heap -/
abbrev TC := List (Addr × Cell)
def CA (H : Hp) (t : TC) : Prop := ∀ p ∈ t, H p.1 = some (.tup (cvs p.2))
def vz (t : TC) : List V := t.map fun p => V.ref p.1
def cz (t : TC) : List Cell := t.map fun p => p.2
theorem CA.nil {H : Hp} : CA H [] := fun p hp => by cases hp
theorem CA.same {H H' : Hp} {t : TC} (h : CA H t) (s : Same H H') : CA H' t := fun p hp => s _ _ (h p hp)
theorem CA.updL {H : Hp} {D : Addr} {ys zs : List V} {t : TC} (h : CA H t) (hD : H D = some (.lst ys)) : CA (upd H D (.lst zs)) t := fun p hp => by
  rw [upd_ne (ne_of (h p hp) hD fun e => by cases e)]
  exact h p hp
theorem CA.kp {H H' : Hp} {b l : Addr} {t : TC} (h : CA H t) (B : Bx H b l) (k : Kp b l H H') : CA H' t := fun p hp => by
  obtain ⟨ns, z, h1, h2, _⟩ := B.ex
  exact k _ _ (h p hp) (ne_of (h p hp) h1 fun e => by cases e) (ne_of (h p hp) h2 fun e => by cases e)
theorem CA.app {H : Hp} {t u : TC} (h1 : CA H t) (h2 : CA H u) : CA H (t ++ u) := fun p hp => (List.mem_append.mp hp).elim (h1 p) (h2 p)
theorem CA.one {H : Hp} {a : Addr} {c : Cell} (h : H a = some (.tup (cvs c))) : CA H [(a, c)] := fun p hp => by
  rw [List.mem_singleton] at hp
  subst hp
  exact h
theorem CA.dp {K : PySem.W.Frag} {H : Hp} : ∀ {t : TC}, CA H t → DpAll K H (vz t) ((cz t).map cdp)
  | [], _ => .nil
  | p :: t, h => .cons (cell_dp (.inl (.inl (h p (List.mem_cons_self ..))))) (CA.dp fun q hq => h q (List.mem_cons_of_mem _ hq))
theorem vz_len (t : TC) : (vz t).length = t.length := List.length_map ..
theorem cz_len (t : TC) : (cz t).length = t.length := List.length_map ..
theorem vz_app (t u : TC) : vz (t ++ u) = vz t ++ vz u := List.map_append
theorem cz_app (t u : TC) : cz (t ++ u) = cz t ++ cz u := List.map_append
theorem vz_of {xs : List V} {t : TC} (h : ∀ x ∈ xs, x ∈ vz t) : ∃ u : TC, xs = vz u ∧ ∀ p ∈ u, p ∈ t := by
  induction xs with
  | nil => exact ⟨[], rfl, fun p hp => by cases hp⟩
  | cons x r ih =>
    obtain ⟨u, e, hu⟩ := ih fun y hy => h y (List.mem_cons_of_mem _ hy)
    obtain ⟨p, hp, rfl⟩ := List.mem_map.mp (h x (List.mem_cons_self ..))
    refine ⟨p :: u, by rw [e]; rfl, fun q hq => ?_⟩
    rcases List.mem_cons.mp hq with rfl | hq
    · exact hp
    · exact hu q hq
def binR (e : Expr) : Expr := match e with
  | .BinOp _ _ e _ => e
  | _ => .Constant .none 0 ⟨0, 0, 0, 0⟩
end Om

namespace Om
open PySem PySem.Spec PyProof.Rows L2 LamX
theorem vz_erase : ∀ (t : TC) (k : Nat), (vz t).eraseIdx k = vz (t.eraseIdx k)
  | [], _ => rfl
  | _ :: _, 0 => rfl
  | a :: r, k + 1 => by
    show V.ref a.1 :: (vz r).eraseIdx k = V.ref a.1 :: vz (r.eraseIdx k)
    rw [vz_erase r k]
theorem eqv_cells_nil (cs : List Cell) : PyData.eqv (.list (cs.map cdp)) (.list []) = cs.isEmpty := by
  cases cs <;> simp [PyData.eqv, PyData.eqvAll]
theorem perm_map {α β : Type} {f : α → β} {ys zs : List β} (h : ys.Perm zs) : ∀ l : List α, zs = l.map f → ∃ u : List α, u.Perm l ∧ ys = u.map f := by
  induction h with
  | nil =>
    intro l e
    cases l with
    | nil => exact ⟨[], List.Perm.refl _, rfl⟩
    | cons a l => cases e
  | cons x _ ih =>
    intro l e
    cases l with
    | nil => cases e
    | cons a l =>
      injection e with e1 e2
      obtain ⟨u, h1, h2⟩ := ih l e2
      exact ⟨a :: u, h1.cons a, by rw [e1, h2]; rfl⟩
  | swap x y _ =>
    intro l e
    cases l with
    | nil => cases e
    | cons a l =>
      cases l with
      | nil => cases e
      | cons b l =>
        injection e with e1 e2
        injection e2 with e2 e3
        exact ⟨b :: a :: l, List.Perm.swap a b l, by rw [e1, e2, e3]; rfl⟩
  | trans _ _ ih1 ih2 =>
    intro l e
    obtain ⟨u, h1, h2⟩ := ih2 l e
    obtain ⟨u2, h3, h4⟩ := ih1 u h2
    exact ⟨u2, h3.trans h1, h4⟩
theorem erase_perm {α : Type} : ∀ {l : List α} {j : Nat} (h : j < l.length), ([l[j]] ++ l.eraseIdx j).Perm l
  | a :: l, 0, _ => List.Perm.refl _
  | a :: l, j + 1, h => by
    have ih := erase_perm (l := l) (j := j) (Nat.lt_of_succ_lt_succ h)
    show ([l[j]'(Nat.lt_of_succ_lt_succ h)] ++ a :: l.eraseIdx j).Perm (a :: l)
    exact List.Perm.trans (List.Perm.swap a _ _) (ih.cons a)
end Om

/-! x, *y = a tuple -/
namespace Om
open PySem PySem.Spec PyProof.Rows L2
theorem walksS_drop {prog : Program} {w : World} {A : Around} {I : Addr} {fp wr : List Addr} {G : Array GenState → Array GenState → Prop} {n : Nat} {P : Nat → Value → Prop} {St : Nat → Shared → Prop} (W : WalksS prog w A I fp wr G n P St) (k : Nat) (hk : k ≤ n) :
    WalksS prog w A I fp wr G (n - k) (fun i => P (i + k)) (fun i s => St (i + k) s) where
  sub := W.sub
  grefl := W.grefl
  gtrans := W.gtrans
  frame := fun i => W.frame (i + k)
  item := fun i s Q E hi st hQ => W.item (i + k) s Q E (by omega) st fun v s' p st' m => hQ v s' p (by
    have e : i + 1 + k = i + k + 1 := by omega
    rw [e]
    exact st') m
  done := fun s Q E st hQ => W.done s Q E (by
    rw [Nat.sub_add_cancel hk] at st
    exact st) hQ
  self := fun i => W.self (i + k)
section
variable {prog : Program} {w : World} {A : Around} {E : Value → Shared → Prop} {s : Shared}
theorem unpack_star {t : Addr} {items : Array Value} {x : Value} {xs : List Value} {Q : List Value → Shared → Prop} (hh : A.handled = none) (ht : IsTup s.heap t items) (hi : items.toList = x :: xs) (hz : items.size ≤ sizeLine)
    (hQ : ∀ (h' : Heap) (tk : Nat), (∀ b o, s.heap.get? b = some o → h'.get? b = some o) → Q [x, .ref h'.objs.size] { s with heap := h'.push { cls := .type "list", data := .seq xs.toArray }, toks := tk }) :
    wpAny (model prog w) A (unpackItems (.ref t) 2 (some 1)) Q E s := by
  have hlt : t < s.heap.objs.size := by obtain ⟨o, ho, _⟩ := ht; exact Heap.lt_size ho
  have hsz : items.size = xs.length + 1 := by rw [← Array.length_toList, hi, List.length_cons]
  unfold unpackItems
  refine wpAny_bind ?_
  unfold notIterableAtAll
  refine wpAny_bind (wpAny_specialOf ht.typeIs slot_tuple_iter.lookup ?_)
  refine wpAny_pure ?_
  simp only [Bool.false_eq_true, if_false]
  refine wpAny_bind (wpAny_holding (iter_tuple ht ?_))
  refine wpAny_bind (wpAny_holding (draw_tuple (Nat.ne_of_lt hlt) 1 0 _ _ ⟨_, Heap.get?_push_size _ rfl, rfl, rfl⟩ (ht.push _) (by omega) fun h₁ hit₁ hs₁ => ?_))
  have e1 : List.take 1 (List.drop 0 items.toList) = [x] := by rw [List.drop_zero, hi]; rfl
  rw [e1]
  rw [if_neg (by simp)]
  have ht₁ : IsTup h₁ t items := (ht.push _).extBut hs₁.extBut (Nat.ne_of_lt hlt)
  have k1 : ∀ b o, s.heap.get? b = some o → h₁.get? b = some o := fun b o e => hs₁.extBut b o (Nat.ne_of_lt (Heap.lt_size e)) (Heap.get?_push_of_some _ e)
  have z1 : h₁.objs.size = s.heap.objs.size + 1 := by rw [hs₁.1, Heap.size_push]
  refine wpAny_bind (wpAny_holding (wpAny_collect_iter (T := "tuple_iterator") (.inr (.inr (.inr rfl))) (walksS_drop (Walks.tuple (A := A.in1) hh s.heap.objs.size t (Nat.ne_of_lt hlt) items).toS 1 (by omega))
    (fun i s₂ st => ?_) ⟨hit₁, ht₁⟩ (fun b hb => ?_) (by simp) (fun s' acc m io => ?_) ?_))
  rotate_right
  · exact Nat.le_trans (Nat.sub_le _ _) hz
  · obtain ⟨⟨o, ho, hc, _⟩, _⟩ := st
    exact ⟨o, ho, hc⟩
  · show b < h₁.objs.size
    rw [z1]
    rcases (show b = s.heap.objs.size ∨ b = t by simpa using hb) with rfl | rfl
    · exact Nat.lt_succ_self _
    · exact Nat.lt_succ_of_lt hlt
  · have eacc : acc.toList = xs := by
      apply List.ext_getElem?
      intro i
      rw [Array.getElem?_toList]
      cases q : acc[i]? with
      | none =>
        have q1 := Array.getElem?_eq_none_iff.mp q
        rw [io.1] at q1
        exact (List.getElem?_eq_none (by omega)).symm
      | some v =>
        have q1 : items[i + 1]? = some v := io.2 i v q
        rw [← Array.getElem?_toList, hi] at q1
        exact q1.symm
    rw [eacc]
    obtain ⟨hp, g, d, tk, os⟩ := s'
    obtain ⟨m1, m2, m3, m4, m5⟩ := m
    have m2 : g = s.gens := m2
    have m3 : d = s.drawn := m3
    have m4 : os = s.os := m4
    subst m2 m3 m4
    have eafter : 2 - 1 - 1 = 0 := rfl
    simp only [eafter, Nat.not_lt_zero, if_false, Nat.sub_zero, List.take_length, List.drop_length, List.append_nil]
    have k2 : ∀ b o, s.heap.get? b = some o → hp.get? b = some o := fun b o e => m1 b o (by
      intro z
      have z : b = s.heap.objs.size := by simpa using z
      have q := Heap.lt_size e
      rw [z] at q
      exact Nat.lt_irrefl _ q) (k1 b o e)
    refine wpAny_bind ?_
    refine wpAny_newList ?_ ?_
    rotate_right
    · exact Nat.le_trans (by omega) hz
    refine wpAny_pure ?_
    exact hQ hp tk k2
end
def gStar (K : PySem.W.Frag) (t : TGs) : TG := fun v σ H Q => ∃ a y ys, v = .ref a ∧ SqT K H a (y :: ys) ∧ ∀ L, H L = none → t [y, .ref L] σ (upd H L (.lst ys)) Q
theorem pg_star {X : Cx} {e1 e2 : Expr} {k : Nat} {ps pos : Pos} {t : TGs} (hc : X.calm = true) (h : PGs X [e1, e2] t) (hn : assignEach [e1, .Starred e2 ps] X.env = [(false, assign e1 X.env), (true, assign e2 X.env)] := by rfl)
    (hm : (assignEach [e1, e2] X.env).map (·.2) = [assign e1 X.env, assign e2 X.env] := by rfl) : PG X (.Tuple [e1, .Starred e2 ps] k pos) (gStar X.K t) := by
  refine ⟨fun pins s σ H v u Q I r hw => ?_⟩
  obtain ⟨a, y, ys, rfl, hq, hw⟩ := hw
  cases r
  obtain ⟨its, rv, ht, hz⟩ := I.tuple hq
  rw [assign_Tuple]
  refine wpAny_bind (wpAny_standAt ?_)
  unfold unpack
  rw [hn]
  cases rv with
  | cons rx rr =>
    rename_i x xs
    refine wpAny_bind (wpAny_holding (unpack_star (I.ok.hd hc) ht rfl (by
      have := rr.length
      rw [List.size_toArray, List.length_cons]
      simp only [List.length_cons] at hz
      omega) fun h' tk k1 => ?_))
    have I1 : Inv X pins σ H { s with heap := h', toks := tk } := I.kept k1
    have hL : H h'.objs.size = none := I1.hok.fresh (Nat.le_refl _)
    have I2 := I1.laid (t' := tk) (o := .lst ys) (a := h'.objs.size) (h' := h'.push { cls := .type "list", data := .seq xs.toArray }) (fun b ob q => Heap.get?_push_of_some _ q) (Nat.le_refl _)
      ⟨by simp only [List.length_cons] at hz; omega, xs, 0, rr, Heap.get?_push_size _ rfl⟩
    have e := h.run pins _ σ _ [y, .ref h'.objs.size] [x, .ref h'.objs.size] Q I2 (.cons rx (.cons rfl .nil)) (hw _ hL)
    rw [hm] at e
    exact e
end Om

namespace Om
open PySem PySem.Spec PyProof.Rows L2
/-! ### numbers as they are told: whole ones, truth values -/
inductive Nm where
  | i (n : Int)
  | b (x : Bool)
deriving DecidableEq
def Nm.v : Nm → V
  | .i n => .int n
  | .b x => .bl x
def Nm.d : Nm → PyData
  | .i n => .int n
  | .b x => .bool x
theorem nm_dp {K : PySem.W.Frag} {H : Hp} : ∀ n : Nm, Dp K H n.v n.d
  | .i n => .int n
  | .b x => .bl x
theorem nms_dp {K : PySem.W.Frag} {H : Hp} : ∀ ns : List Nm, DpAll K H (ns.map Nm.v) (ns.map Nm.d)
  | [] => .nil
  | n :: r => .cons (nm_dp n) (nms_dp r)
theorem dp_nm {K : PySem.W.Frag} {H : Hp} {v : V} : ∀ {n : Nm}, Dp K H v n.d → v = n.v
  | .i n, h => by cases h; rfl
  | .b x, h => by cases h; rfl
theorem dp_nms {K : PySem.W.Frag} {H : Hp} : ∀ {ns : List Nm} {vs : List V}, DpAll K H vs (ns.map Nm.d) → vs = ns.map Nm.v
  | [], [], .nil => rfl
  | n :: r, v :: t, .cons h1 h2 => by rw [dp_nm h1, dp_nms h2]; rfl
def inN : Nm → Int → Int → Bool
  | .i n, lo, hi => inR n lo hi
  | .b _, _, _ => false
def spInN : Sp := fun vs H Q _ => ∃ (v : Nm) (lo hi : Int), vs = [v.v, .int lo, .int hi] ∧ Q (.bl (inN v lo hi)) H
/-- of two neighbours each is less than the next -/
def ltN : Nm → Nm → Bool
  | .i a, .i b => decide (a < b)
  | _, _ => false
def upN : List Nm → Bool
  | a :: b :: r => ltN a b && upN (b :: r)
  | _ => true
def ascN (ns : List Nm) (lo hi : Int) : Bool := !ns.isEmpty && (ns.all (fun n => inN n lo hi) && upN ns)
def ascS (t allowed : List Nat) : Bool := !decide (t = []) && decide (t = allowed.filter fun c => decide (c ∈ t))
def spAscN (K : PySem.W.Frag) : Sp := fun vs H Q _ => ∃ (a : Addr) (ns : List Nm) (lo hi : Int), vs = [.ref a, .int lo, .int hi] ∧ SqT K H a (ns.map Nm.v) ∧ ns.length ≤ 1000 ∧ ∀ H', Same H H' → Q (.bl (ascN ns lo hi)) H'
def spAscS : Sp := fun vs H Q _ => ∃ (t l : List Nat), vs = [.str (tx t), .str (tx l)] ∧ l.length ≤ 1000 ∧ ∀ H', Same H H' → Q (.bl (ascS t l)) H'
section
variable {P : Program} {w : World} {K : PySem.W.Frag} {mg : Str → Option Value} {base : Heap}
theorem ok_inN {f : Addr} {fd : FuncData} (F : FnP K "in_range" "in_range" sInR f fd) (gisi : mg "isinstance" = none) (gint : mg "int" = none) (gbool : mg "bool" = none) : FnOk P w K mg base CX0 1 f fd nInR spInN := by
  refine F.ok scInR (fun vs H Q E h => ?_) (fun cdv A outer s H vs Q E hr h => ?_)
  · obtain ⟨v, lo, hi, rfl, _⟩ := h
    rfl
  · obtain ⟨v, lo, hi, rfl, k⟩ := h
    refine ⟨_, PSs.nox (pss_one (ps_ret (pe_and (pe_callB call_isi (by rfl) gisi (by decide +kernel) (pa_cons (pv 0) (pa_cons (pe_bltn (v := .ty "int") (by rfl) gint boot_int rfl) pa_nil)))
      (pe_and (pe_not (pe_callB call_isi (by rfl) gisi (by decide +kernel) (pa_cons (pv 0) (pa_cons (pe_bltn (v := .ty "bool") (by rfl) gbool (by decide +kernel) rfl) pa_nil))))
        (pe_one (pe_chain op_le op_le (pv 1) (pv 0) (pv 2))))))), ?_⟩
    cases v with
    | i v =>
      refine ⟨_, rfl, _, _, _, _, _, rfl, .ty "int", .base (.int _), kit_ty (a := "int") (b := "int") (r := true) (by decide +kernel), ?_⟩
      refine ⟨true, rfl, iteT ?_⟩
      refine ⟨_, rfl, _, _, _, _, _, rfl, .ty "bool", .base (.int _), kit_ty (a := "int") (b := "bool") (r := false) (by decide +kernel), false, rfl, true, rfl, iteT ?_⟩
      refine ⟨_, rfl, _, rfl, _, _, rfl, rfl, _, rfl, ?_⟩
      have k : Q (.bl (decide (lo ≤ v) && decide (v ≤ hi))) H := k
      cases e : decide (lo ≤ v) with
      | true =>
        rw [e, Bool.true_and] at k
        exact iteT ⟨_, rfl, _, _, rfl, rfl, k⟩
      | false =>
        rw [e, Bool.false_and] at k
        exact iteF k
    | b x =>
      refine ⟨_, rfl, _, _, _, _, _, rfl, .ty "int", .base (.bl _), kit_ty (a := "bool") (b := "int") (r := true) (by decide +kernel), ?_⟩
      refine ⟨true, rfl, iteT ?_⟩
      exact ⟨_, rfl, _, _, _, _, _, rfl, .ty "bool", .base (.bl _), kit_ty (a := "bool") (b := "bool") (r := true) (by decide +kernel), true, rfl, false, rfl, iteF k⟩
abbrev sAscS : Stmt := top 7
abbrev nAscS : List Str := ["text", "allowed", "sign"]
def ascLc : Expr := match retExpr ((defBody sAscS).getD 0 (.Pass ⟨0, 0, 0, 0⟩)) with
  | .BoolOp _ [_, .Compare _ _ [c] _] _ => arg0 c
  | e => e
theorem scAscS : FnScope nAscS ["text", "allowed"] (defScope sAscS) := ⟨rfl, rfl, rfl, by decide +kernel, rfl, by decide +kernel, by decide +kernel⟩
theorem blkAscS : BlkOk nAscS (defScope sAscS) (lcScope ascLc) [("sign", 2)] := blkOk_by (by decide +kernel)
theorem ok_ascS {f : Addr} {fd : FuncData} (F : FnP K "ascending_signs" "ascending_signs" sAscS f fd) : FnOk P w K mg base CX0 1 f fd ["text", "allowed"] spAscS := by
  refine F.ok scAscS (fun vs H Q E h => ?_) (fun cdv A outer s H vs Q E hr h => ?_)
  · obtain ⟨t, l, rfl, _⟩ := h
    rfl
  · obtain ⟨t, l, rfl, hl, k⟩ := h
    have nd := scAscS.nd
    refine ⟨_, PSs.nox (pss_one (ps_ret (pe_and (pe_cmpR op_ne (pv 0) pe_str (nomark _)) (pe_one (pe_cmpR op_eq (pv 0) (pe_joinK pe_str
      (pe_lc (own := [("sign", 2)]) (g := gName 2) rfl nd (pi_str (pv 1)) blkAscS (fun _ _ _ _ _ => pg_name (i := 2) nd rfl (.inl rfl)) (fun _ _ _ _ _ => pts_one (pt_cmpR op_in_sign (pv 2) (pv 0) rfl)) (fun _ _ _ _ _ => pv 2))) (nomark _)))))), ?_⟩
    have e0 : (decide (V.str (tx t) = V.str (Str.ofString ""))) = decide (t = []) := by
      rw [show Str.ofString "" = tx [] from by decide +kernel]
      exact decide_eq_decide.mpr ⟨fun h => tx_inj (V.str.inj h), fun h => by rw [h]⟩
    unfold ascS at k
    refine ⟨_, rfl, rfl, !decide (t = []), ?_, ?_⟩
    · show V.bl (!decide (V.str (tx t) = V.str (Str.ofString ""))) = _
      rw [e0]
    cases e1 : decide (t = []) with
    | true =>
      rw [e1] at k
      exact iteF' rfl (k H (Same.refl H))
    | false =>
      rw [e1] at k
      refine iteT' rfl ?_
      refine ⟨_, rfl, ⟨_, rfl⟩, _, rfl, _, rfl, fun D hD => lc_it (walk_str (z := tx l)) (fun i H' => H' D = some (.lst (((l.take i).filter fun c => decide (c ∈ t)).map fun c => vt [c])) ∧ Same H H') ⟨upd_same, Same.new (Same.refl H) hD⟩ (fun _ _ _ _ => trivial) ?_ ?_⟩
      · rintro i x H1 H2 hi ⟨h1, h2⟩ ⟨rfl, c, hc, rfl⟩
        have hc2 : l[i]? = some c := by
          rw [← Array.getElem?_toList, tx_cps] at hc
          exact hc
        refine ⟨rfl, _, rfl, _, rfl, c, _, rfl, rfl, _, rfl, ?_⟩
        rw [tx_cps]
        have es : (l.take (i + 1)).filter (fun c => decide (c ∈ t)) = (l.take i).filter (fun c => decide (c ∈ t)) ++ (if c ∈ t then [c] else []) := by
          rw [List.take_succ, hc2, List.filter_append]
          by_cases h : c ∈ t
          · rw [if_pos h]
            simp only [Option.toList_some, List.filter_cons, decide_eq_true h, if_true, List.filter_nil]
          · rw [if_neg h]
            simp only [Option.toList_some, List.filter_cons, decide_eq_false h, Bool.false_eq_true, if_false, List.filter_nil]
        have hll : ((l.take i).filter fun c => decide (c ∈ t)).length ≤ 1000 := Nat.le_trans (List.length_filter_le ..) (by rw [List.length_take]; omega)
        by_cases h : c ∈ t
        · rw [if_pos h] at es
          refine iteT' (decide_eq_true h) ?_
          refine ⟨_, rfl, _, h1, Nat.lt_of_le_of_lt (show _ ≤ 1000 by rw [List.length_map]; exact hll) (by decide), ?_, ?_⟩
          · rw [es, upd_same, List.map_append]
            rfl
          · intro b o hb
            rw [upd_ne (ne_of_none hb hD)]
            exact h2 b o hb
        · rw [if_neg h, List.append_nil] at es
          refine iteF' (decide_eq_false h) ?_
          rw [es]
          exact ⟨h1, h2⟩
      · rintro H1 ⟨h1, h2⟩
        have e : l.take (tx l).cps.size = l := List.take_of_length_le (by rw [← Array.length_toList, tx_cps]; exact Nat.le_refl _)
        rw [e] at h1
        have ecs : ((l.filter fun c => decide (c ∈ t)).map fun c => vt [c]) = ((l.filter fun c => decide (c ∈ t)).map fun c => tx [c]).map V.str := by rw [List.map_map]; rfl
        rw [ecs] at h1
        have hll : (l.filter fun c => decide (c ∈ t)).length ≤ 1000 := Nat.le_trans (List.length_filter_le ..) hl
        refine ⟨_, D, _, rfl, rfl, .inl (.inl (.inl h1)), ?_, rfl, ?_⟩
        · rw [empty_tx]
          have e5 : ∀ l : List Nat, ((l.map fun c => tx [c]).map (·.length)).sum = l.length := by
            intro l
            induction l with
            | nil => rfl
            | cons a r ih => simp only [List.map_cons, List.sum_cons, ih, tx_len, List.length_cons, List.length_nil]; omega
          rw [e5, List.length_map]
          show _ + _ * 0 ≤ _
          omega
        · have ej : Txt.join (Str.ofString "") ((l.filter fun c => decide (c ∈ t)).map fun c => tx [c]) = tx (l.filter fun c => decide (c ∈ t)) := by rw [empty_tx, TL.join_eq, join_tx]
          rw [ej]
          have e6 : decide (V.str (tx t) = V.str (tx (l.filter fun c => decide (c ∈ t)))) = decide (t = l.filter fun c => decide (c ∈ t)) := decide_eq_decide.mpr ⟨fun h => tx_inj (V.str.inj h), fun h => congrArg (fun z => V.str (tx z)) h⟩
          rw [e6]
          exact k H1 h2
end
end Om

namespace Om
open PySem PySem.Spec PyProof.Rows L2 RZ
theorem noPart {σ : L2.St} {H : Hp} {Q : Option Int → Hp → Prop} (h : Q none H) : tNoPart σ H Q := h
theorem nilArgs {σ : L2.St} {H : Hp} {Q : List V → Hp → Prop} (h : Q [] H) : tNil σ H Q := h
/-! ### ascending_numbers -/
theorem walk_zipT {K : PySem.W.Frag} {a b : Addr} {xs ys : List V} {n : Nat} (hn : n = min xs.length ys.length) : Walk (ItzT K a b) n (fun H => SqT K H a xs ∧ SqT K H b ys) (YPair (fun i => xs[i]?) fun i => ys[i]?) where
  goes := fun i H hi q => ⟨xs, ys, xs[i], ys[i], q.1, q.2, List.getElem?_eq_getElem _, List.getElem?_eq_getElem _⟩
  stops := fun H q => ⟨xs, ys, q.1, q.2, by omega⟩
  yields := fun i H v H' hi q y => by
    obtain ⟨T, x, z, h1, h2, h3, h4, h5⟩ := y
    exact ⟨T, x, z, h1, h2, h3, h4 xs q.1, h5 ys q.2⟩
theorem cutV_tail (x : V) (xs : List V) : cutV (x :: xs) (some 1) none = xs := by
  simp [cutV, HT.sIx]
def cmps : List Nm → List Bool
  | a :: b :: r => ltN a b :: cmps (b :: r)
  | _ => []
theorem cmps_all : ∀ ns : List Nm, (cmps ns).all id = upN ns
  | [] => rfl
  | [_] => rfl
  | a :: b :: r => by
    show (ltN a b && (cmps (b :: r)).all id) = (ltN a b && upN (b :: r))
    rw [cmps_all (b :: r)]
theorem cmps_len : ∀ ns : List Nm, (cmps ns).length = ns.length - 1
  | [] => rfl
  | [_] => rfl
  | a :: b :: r => by
    show (cmps (b :: r)).length + 1 = _
    rw [cmps_len (b :: r)]
    simp
theorem cmps_at : ∀ (ns : List Nm) (i : Nat) (a b : Nm), ns[i]? = some a → ns[i + 1]? = some b → (cmps ns)[i]? = some (ltN a b)
  | [], _, _, _, h, _ => by simp at h
  | [_], _, _, _, _, h => by simp at h
  | x :: y :: r, 0, a, b, h1, h2 => by
    have h1 : some x = some a := h1
    have h2 : some y = some b := h2
    cases h1
    cases h2
    rfl
  | x :: y :: r, i + 1, a, b, h1, h2 => cmps_at (y :: r) i a b h1 h2
section
variable {P : Program} {w : World} {K : PySem.W.Frag} {mg : Str → Option Value} {base : Heap}
abbrev sAscN : Stmt := top 6
abbrev nAscN : List Str := ["numbers", "least", "most", "number", "one", "other"]
theorem scAscN : FnScope nAscN ["numbers", "least", "most"] (defScope sAscN) := ⟨rfl, rfl, rfl, by decide +kernel, rfl, by decide +kernel, by decide +kernel⟩
def ascLc1 : Expr := match (defBody sAscN).getD 0 (.Pass ⟨0, 0, 0, 0⟩) with
  | .If (.BoolOp _ [_, .UnaryOp _ c _] _) _ _ _ => arg0 c
  | _ => .Constant .none 0 ⟨0, 0, 0, 0⟩
def ascLc2 : Expr := arg0 (retExpr ((defBody sAscN).getD 1 (.Pass ⟨0, 0, 0, 0⟩)))
theorem blkAscN1 : BlkOk nAscN (defScope sAscN) (lcScope ascLc1) [("number", 3)] := blkOk_by (by decide +kernel)
theorem blkAscN2 : BlkOk nAscN (defScope sAscN) (lcScope ascLc2) [("one", 4), ("other", 5)] := blkOk_by (by decide +kernel)
theorem ok_ascN {f : Addr} {fd : FuncData} (F : FnP K "ascending_numbers" "ascending_numbers" sAscN f fd) (G : Cal P w K mg base CX0 1 "in_range" nInR spInN) (glen : mg "len" = none) (gall : mg "all" = none) (gzip : mg "zip" = none) :
    FnOk P w K mg base CX0 2 f fd ["numbers", "least", "most"] (spAscN K) := by
  refine F.ok scAscN (fun vs H Q E h => ?_) (fun cdv A outer s H vs Q E hr h => ?_)
  · obtain ⟨a, ns, lo, hi, rfl, _⟩ := h
    rfl
  · obtain ⟨a, ns, lo, hi, rfl, hS, hl, k⟩ := h
    have nd := scAscN.nd
    refine ⟨_, PSs.nox (pss_cons (ps_if (PW.pt (pw_or (pt_cmpR op_eq (pe_callB call_len_seq (by rfl) glen PySem.boot_len (pa_cons (pv 0) pa_nil)) pe_int (nomark _))
          (pw_or1 (pt_not (pt_val (pe_callB (cr_all rfl) (by rfl) gall (by decide +kernel) (pa_cons (pe_lc (own := [("number", 3)]) (g := gName 3) rfl nd (pi_tup (pv 0)) blkAscN1 (fun _ _ _ _ _ => pg_name (i := 3) nd rfl (.inl rfl)) (fun _ _ _ _ _ => pts_nil)
            (fun _ _ _ _ _ => pe_cal G hr pass0 (pa_cons (pv 3) (pa_cons (pv 1) (pa_cons (pv 2) pa_nil))))) pa_nil))))))) (pss_one (ps_ret pe_bl)) pss_nil)
      (pss_one (ps_ret (pe_callB (cr_all rfl) (by rfl) gall (by decide +kernel) (pa_cons (pe_lc (own := [("one", 4), ("other", 5)]) (g := gTup K 2 (gCons (gName 4) (gCons (gName 5) gNil))) rfl nd
        (pi_zipA rfl gzip (pa_cons (pv 0) (pa_cons (pe_slice sl_tupA (pv 0) (po_some pe_int) po_none) pa_nil))) blkAscN2
        (fun _ _ _ _ _ => pg_tup rfl (pgs_cons (pg_name (i := 4) nd rfl (.inl rfl)) (pgs_cons (pg_name (i := 5) nd rfl (.inl rfl)) pgs_nil))) (fun _ _ _ _ _ => pts_nil) (fun _ _ _ _ _ => pe_cmpR op_lt (pv 4) (pv 5) (nomark _))) pa_nil))))), ?_⟩
    refine ⟨_, rfl, a, _, rfl, .inr hS, rfl, _, rfl, ?_⟩
    cases ns with
    | nil => exact iteT' rfl (k H (Same.refl H))
    | cons n0 nr =>
      have e0 : decide (V.int ((((n0 :: nr).map Nm.v).length : Nat) : Int) = V.int 0) = false := decide_eq_false fun h => by
        injection h with h
        simp only [List.length_map, List.length_cons] at h
        omega
      refine iteF' e0 ?_
      refine ⟨_, rfl, a, rfl, ⟨_, hS⟩, fun D hD => lc_tup (K := K) (a := a) (xs := (n0 :: nr).map Nm.v) (fun i H' => H' D = some (.lst ((((n0 :: nr).take i).map fun n => inN n lo hi).map V.bl)) ∧ Same H H') ⟨upd_same, Same.new (Same.refl H) hD⟩ (fun i H' _ q => Same.tup q.2 hS) ?_ ?_⟩
      · rintro i x H1 hx ⟨h1, h2⟩
        rw [List.getElem?_map] at hx
        cases hni : (n0 :: nr)[i]? with
        | none => rw [hni] at hx; cases hx
        | some n =>
          rw [hni] at hx
          obtain rfl : n.v = x := Option.some.inj hx
          have hil := (List.getElem?_eq_some_iff.mp hni).1
          refine ⟨rfl, tyes ?_⟩
          refine ⟨_, rfl, _, rfl, _, rfl, n, lo, hi, rfl, ?_⟩
          refine ⟨_, h1, ?_, ?_, ?_⟩
          · rw [List.length_map, List.length_map, List.length_take]
            exact Nat.lt_of_le_of_lt (show _ ≤ 1000 by omega) (by decide)
          · have e : (n0 :: nr).take (i + 1) = (n0 :: nr).take i ++ [n] := by rw [List.take_succ, hni]; rfl
            rw [upd_same, e, List.map_append, List.map_append]
            rfl
          · intro b o hb
            rw [upd_ne (ne_of_none hb hD)]
            exact h2 b o hb
      · rintro H1 ⟨h1, h2⟩
        have e1 : (n0 :: nr).take ((n0 :: nr).map Nm.v).length = n0 :: nr := List.take_of_length_le (by rw [List.length_map]; exact Nat.le_refl _)
        rw [e1] at h1
        refine ⟨D, _, rfl, .inl (.inl h1), _, rfl, ?_⟩
        have eall : (((n0 :: nr).map fun n => inN n lo hi).all id) = (n0 :: nr).all (fun n => inN n lo hi) := by rw [List.all_map]; rfl
        rw [eall]
        have k : ∀ H', Same H H' → Q (.bl ((n0 :: nr).all (fun n => inN n lo hi) && upN (n0 :: nr))) H' := k
        cases e2 : (n0 :: nr).all (fun n => inN n lo hi) with
        | false =>
          rw [e2] at k
          exact iteT' rfl (k H1 h2)
        | true =>
          rw [e2] at k
          refine iteF' rfl ?_
          have k : ∀ H', Same H H' → Q (.bl (upN (n0 :: nr))) H' := k
          have allI : ∀ n ∈ n0 :: nr, ∃ m, n = .i m := fun n hn => by
            have z := List.all_eq_true.mp e2 n hn
            cases n with
            | i m => exact ⟨m, rfl⟩
            | b x => cases z
          refine ⟨_, rfl, _, rfl, _, rfl, ?_⟩
          refine noPart ?_
          refine slA_read (Same.tup h2 hS) fun p2 H2 s2 hp2 => ?_
          rw [List.map_cons, cutV_tail] at hp2
          have hS2 := Same.tup (h2.trans s2) hS
          refine nilArgs ?_
          refine ⟨a, p2, _, _, rfl, .inr ⟨hS2, hp2, fun D2 hD2 => lc_it (walk_zipT (K := K) (a := a) (b := p2) (xs := (n0 :: nr).map Nm.v) (ys := nr.map Nm.v) rfl) (fun i H' => H' D2 = some (.lst (((cmps (n0 :: nr)).take i).map V.bl)) ∧ Same H2 H')
            ⟨upd_same, Same.new (Same.refl H2) hD2⟩ (fun i H' _ q => ⟨Same.tup q.2 hS2, Same.tup q.2 hp2⟩) ?_ ?_⟩⟩
          · rintro i x H3 H4 hi ⟨g1, g2⟩ ⟨T, y, z, rfl, hT, rfl, hy, hz⟩
            have hy : ((n0 :: nr).map Nm.v)[i]? = some y := hy
            have hz : (nr.map Nm.v)[i]? = some z := hz
            rw [List.getElem?_map] at hy hz
            cases ha : (n0 :: nr)[i]? with
            | none => rw [ha] at hy; cases hy
            | some n1 =>
              cases hb : nr[i]? with
              | none => rw [hb] at hz; cases hz
              | some n2 =>
                rw [ha] at hy
                rw [hb] at hz
                obtain rfl : n1.v = y := Option.some.inj hy
                obtain rfl : n2.v = z := Option.some.inj hz
                obtain ⟨m1, rfl⟩ := allI n1 (List.mem_of_getElem? ha)
                obtain ⟨m2, rfl⟩ := allI n2 (List.mem_cons_of_mem _ (List.mem_of_getElem? hb))
                have hc := cmps_at (n0 :: nr) i _ _ ha (show (n0 :: nr)[i + 1]? = some (.i m2) from hb)
                have hlen := cmps_len (n0 :: nr)
                have s3 : Same H3 (upd H3 T (.tup [(Nm.i m1).v, (Nm.i m2).v])) := Same.new (Same.refl H3) hT
                refine ⟨T, _, rfl, .inl (.inl upd_same), rfl, _, _, rfl, _, _, rfl, rfl, rfl, tyes ?_⟩
                refine ⟨_, rfl, _, rfl, m1, m2, rfl, rfl, ?_⟩
                refine ⟨_, s3 _ _ g1, ?_, ?_, ?_⟩
                · rw [List.length_map, List.length_take]
                  exact Nat.lt_of_le_of_lt (show _ ≤ 1000 by omega) (by decide)
                · have e : (cmps (n0 :: nr)).take (i + 1) = (cmps (n0 :: nr)).take i ++ [decide (m1 < m2)] := by rw [List.take_succ, hc]; rfl
                  rw [upd_same, e, List.map_append]
                  rfl
                · intro b o hb
                  rw [upd_ne (ne_of_none hb hD2)]
                  exact s3 _ _ (g2 b o hb)
          · rintro H3 ⟨g1, g2⟩
            have e3 : (cmps (n0 :: nr)).take (min ((n0 :: nr).map Nm.v).length (nr.map Nm.v).length) = cmps (n0 :: nr) := by
              refine List.take_of_length_le ?_
              rw [cmps_len, List.length_map, List.length_map, List.length_cons]
              omega
            rw [e3] at g1
            refine ⟨D2, _, rfl, .inl (.inl g1), ?_⟩
            rw [cmps_all]
            exact k H3 (h2.trans (s2.trans g2))
end
end Om

namespace Om
open PySem PySem.Spec PyProof.Rows L2
/-! ### instructions as they are told -/
inductive Ins where
  | turn (ns : List Nm)
  | walk (a b : Nm)
  | upto (s : List Nat)
  | toward (s : List Nat)
  | beside (n : Nm) (s : List Nat)
  | near (s : List Nat) (n : Nm)
  | shore (s a b : Nm)
def Ins.word : Ins → Str
  | .turn _ => "turn"
  | .walk _ _ => "walk"
  | .upto _ => "until"
  | .toward _ => "toward"
  | .beside _ _ => "beside"
  | .near _ _ => "near"
  | .shore _ _ _ => "shore"
def Ins.parts : Ins → List PyData
  | .turn ns => [.tuple (ns.map Nm.d)]
  | .walk a b => [a.d, b.d]
  | .upto s => [dt s]
  | .toward s => [dt s]
  | .beside n s => [n.d, dt s]
  | .near s n => [dt s, n.d]
  | .shore s a b => [s.d, a.d, b.d]
def Ins.d (i : Ins) : PyData := .tuple (.str i.word :: i.parts)
def Ins.small : Ins → Bool
  | .turn ns => decide (ns.length ≤ 1000)
  | _ => true
def paces : Nm → Nm → Bool
  | .i a, b => inN (.i a) 0 20 && inN b a 20
  | .b _, _ => false
def side (n : Nm) : Bool := inN n 1 3 && !decide (n = .i 2)
def lands : List Nat := 46 :: [65, 66, 67, 68, 69, 70, 71, 72, 73, 74, 75, 76, 77, 78, 79, 80, 81, 82, 83, 84, 85, 86, 87, 88, 89, 90]
def alls : List Nat := lands ++ [126]
def Ins.ok : Ins → Bool
  | .turn ns => ascN ns 0 3
  | .walk a b => paces a b
  | .upto s => ascS s lands
  | .toward s => ascS s lands
  | .beside n s => inN n 0 3 && ascS s alls
  | .near s n => ascS s alls && inN n 0 22
  | .shore s a b => side s && paces a b
theorem lands_tx : Str.ofString ".ABCDEFGHIJKLMNOPQRSTUVWXYZ" = tx lands := by decide +kernel
theorem alls_tx : Str.ofString ".ABCDEFGHIJKLMNOPQRSTUVWXYZ~" = tx alls := by decide +kernel
def spPaces : Sp := fun vs H Q _ => ∃ a b : Nm, vs = [a.v, b.v] ∧ Q (.bl (paces a b)) H
def spSide : Sp := fun vs H Q _ => ∃ n : Nm, vs = [n.v] ∧ Q (.bl (side n)) H
def spIsIns (K : PySem.W.Frag) : Sp := fun vs H Q _ => ∃ (v : V) (i : Ins), vs = [v] ∧ Dp K H v i.d ∧ i.small = true ∧ ∀ H', Same H H' → Q (.bl i.ok) H'
abbrev sIsIns : Stmt := top 47
abbrev sSide : Stmt := top 48
abbrev sPaces : Stmt := top 49
section
variable {P : Program} {w : World} {K : PySem.W.Frag} {mg : Str → Option Value} {base : Heap}
theorem scSide : FnScope ["side"] ["side"] (defScope sSide) := ⟨rfl, rfl, rfl, by decide +kernel, rfl, by decide +kernel, by decide +kernel⟩
theorem ok_side {f : Addr} {fd : FuncData} (F : FnP K "_is_side" "_is_side" sSide f fd) (G : Cal P w K mg base CX0 1 "in_range" nInR spInN) : FnOk P w K mg base CX0 2 f fd ["side"] spSide := by
  refine F.ok scSide (fun vs H Q E h => ?_) (fun cdv A outer s H vs Q E hr h => ?_)
  · obtain ⟨n, rfl, _⟩ := h
    rfl
  · obtain ⟨n, rfl, k⟩ := h
    refine ⟨_, PSs.nox (pss_one (ps_ret (pe_and (pe_cal G hr pass0 (pa_cons (pv 0) (pa_cons pe_int (pa_cons pe_int pa_nil)))) (pe_one (pe_cmpR op_ne (pv 0) pe_int (nomark _)))))), ?_⟩
    refine ⟨_, rfl, n, 1, 3, rfl, _, rfl, ?_⟩
    unfold side at k
    cases e : inN n 1 3 with
    | false =>
      rw [e] at k
      exact iteF k
    | true =>
      rw [e] at k
      refine iteT ?_
      cases n with
      | b x => cases e
      | i m =>
        refine ⟨_, rfl, rfl, ?_⟩
        have e2 : decide (V.int m = V.int 2) = decide (Nm.i m = Nm.i 2) := decide_eq_decide.mpr ⟨fun h => by injection h with h; rw [h], fun h => by injection h with h; rw [h]⟩
        show Q (.bl (!decide (V.int m = V.int 2))) H
        rw [e2]
        exact k
theorem scPaces : FnScope ["least", "most"] ["least", "most"] (defScope sPaces) := ⟨rfl, rfl, rfl, by decide +kernel, rfl, by decide +kernel, by decide +kernel⟩
theorem ok_paces {f : Addr} {fd : FuncData} (F : FnP K "_are_paces" "_are_paces" sPaces f fd) (G : Cal P w K mg base CX0 1 "in_range" nInR spInN) (gm : ∃ t, mg "MOST_PACES" = some (.int 20 t)) : FnOk P w K mg base CX0 2 f fd ["least", "most"] spPaces := by
  obtain ⟨t0, gm⟩ := gm
  refine F.ok scPaces (fun vs H Q E h => ?_) (fun cdv A outer s H vs Q E hr h => ?_)
  · obtain ⟨a, b, rfl, _⟩ := h
    rfl
  · obtain ⟨a, b, rfl, k⟩ := h
    refine ⟨_, PSs.nox (pss_one (ps_ret (pe_and (pe_cal G hr pass0 (pa_cons (pv 0) (pa_cons pe_int (pa_cons (pe_glob (v := .int 20) rfl gm ⟨_, rfl⟩) pa_nil))))
      (pe_one (pe_cal G hr pass0 (pa_cons (pv 1) (pa_cons (pv 0) (pa_cons (pe_glob (v := .int 20) rfl gm ⟨_, rfl⟩) pa_nil)))))))), ?_⟩
    refine ⟨_, rfl, a, 0, 20, rfl, _, rfl, ?_⟩
    cases a with
    | b x => exact iteF k
    | i n =>
      have k : Q (.bl (inN (.i n) 0 20 && inN b n 20)) H := k
      cases e : inN (.i n) 0 20 with
      | false =>
        rw [e] at k
        exact iteF k
      | true =>
        rw [e] at k
        exact iteT ⟨_, rfl, _, rfl, b, n, 20, rfl, k⟩
abbrev nIsIns : List Str := ["instruction", "word", "parts"]
theorem scIsIns : FnScope nIsIns ["instruction"] (defScope sIsIns) := ⟨rfl, rfl, rfl, by decide +kernel, rfl, by decide +kernel, by decide +kernel⟩
theorem wtest (a b : Str) : decide (V.str a = V.str b) = decide (a = b) := decide_eq_decide.mpr ⟨fun h => V.str.inj h, fun h => congrArg V.str h⟩
theorem ok_isIns {f : Addr} {fd : FuncData} (F : FnP K "is_instruction" "is_instruction" sIsIns f fd) (G : Cal P w K mg base CX0 1 "in_range" nInR spInN) (GN : Cal P w K mg base CX0 2 "ascending_numbers" ["numbers", "least", "most"] (spAscN K)) (GS : Cal P w K mg base CX0 1 "ascending_signs" ["text", "allowed"] spAscS)
    (GP : Cal P w K mg base CX0 2 "_are_paces" ["least", "most"] spPaces) (GI : Cal P w K mg base CX0 2 "_is_side" ["side"] spSide) (gl : ∃ t, mg "LAND_SIGNS" = some (.str (tx lands) t)) (ga : ∃ t, mg "ALL_SIGNS" = some (.str (tx alls) t)) (gm : ∃ t, mg "MOST_AWAY" = some (.int 22 t)) :
    FnOk P w K mg base CX0 3 f fd ["instruction"] (spIsIns K) := by
  obtain ⟨t0, gl⟩ := gl
  obtain ⟨t1, ga⟩ := ga
  obtain ⟨t2, gm⟩ := gm
  refine F.ok scIsIns (fun vs H Q E h => ?_) (fun cdv A outer s H vs Q E hr h => ?_)
  · obtain ⟨v, i, rfl, _⟩ := h
    rfl
  · obtain ⟨v, i, rfl, hD, sm, k⟩ := h
    have nd := scIsIns.nd
    have hr1 : Room 1 _ := hr.mono (by decide)
    refine ⟨_, PSs.nox (pss_cons (ps_asg (pv 0) (pg_star rfl (pgs_cons (pg_name (i := 1) nd rfl (.inl rfl)) (pgs_cons (pg_name (i := 2) nd rfl (.inl rfl)) pgs_nil))))
      (pss_cons (ps_if (pt_cmpR op_eq (pv 1) pe_str (nomark _)) (pss_one (ps_ret (pe_cal GN hr pass0 (pa_cons (pe_ix ix_list (pv 2) pe_int (fun _ _ => rfl)) (pa_cons pe_int (pa_cons pe_int pa_nil)))))) pss_nil)
      (pss_cons (ps_if (pt_cmpR op_eq (pv 1) pe_str (nomark _)) (pss_one (ps_ret (pe_cal GP hr pass0 (pa_cons (pe_ix ix_list (pv 2) pe_int (fun _ _ => rfl)) (pa_cons (pe_ix ix_list (pv 2) pe_int (fun _ _ => rfl)) pa_nil))))) pss_nil)
      (pss_cons (ps_if (pt_cmpR op_in_seq (pv 1) (pe_tup (pa_cons pe_str (pa_cons pe_str pa_nil))) rfl) (pss_one (ps_ret (pe_cal GS hr1 pass0 (pa_cons (pe_ix ix_list (pv 2) pe_int (fun _ _ => rfl)) (pa_cons (pe_glob (v := .str (tx lands)) rfl gl ⟨_, rfl⟩) pa_nil))))) pss_nil)
      (pss_cons (ps_if (pt_cmpR op_eq (pv 1) pe_str (nomark _)) (pss_one (ps_ret (pe_and (pe_cal G hr1 pass0 (pa_cons (pe_ix ix_list (pv 2) pe_int (fun _ _ => rfl)) (pa_cons pe_int (pa_cons pe_int pa_nil))))
          (pe_one (pe_cal GS hr1 pass0 (pa_cons (pe_ix ix_list (pv 2) pe_int (fun _ _ => rfl)) (pa_cons (pe_glob (v := .str (tx alls)) rfl ga ⟨_, rfl⟩) pa_nil))))))) pss_nil)
      (pss_cons (ps_if (pt_cmpR op_eq (pv 1) pe_str (nomark _)) (pss_one (ps_ret (pe_and (pe_cal GS hr1 pass0 (pa_cons (pe_ix ix_list (pv 2) pe_int (fun _ _ => rfl)) (pa_cons (pe_glob (v := .str (tx alls)) rfl ga ⟨_, rfl⟩) pa_nil)))
          (pe_one (pe_cal G hr1 pass0 (pa_cons (pe_ix ix_list (pv 2) pe_int (fun _ _ => rfl)) (pa_cons pe_int (pa_cons (pe_glob (v := .int 22) rfl gm ⟨_, rfl⟩) pa_nil)))))))) pss_nil)
      (pss_cons (ps_if (pt_cmpR op_eq (pv 1) pe_str (nomark _)) (pss_one (ps_ret (pe_and (pe_cal GI hr pass0 (pa_cons (pe_ix ix_list (pv 2) pe_int (fun _ _ => rfl)) pa_nil))
          (pe_one (pe_cal GP hr pass0 (pa_cons (pe_ix ix_list (pv 2) pe_int (fun _ _ => rfl)) (pa_cons (pe_ix ix_list (pv 2) pe_int (fun _ _ => rfl)) pa_nil))))))) pss_nil)
      (pss_one (ps_ret pe_bl))))))))), ?_⟩
    cases i with
    | turn ns =>
      cases hD with
      | tup hS hA =>
        cases hA with
        | cons h1 hA =>
          cases h1
          cases hA with
          | cons g0 hA =>
            cases hA
            cases g0 with
            | tup hT hB =>
              have eB := dp_nms hB
              subst eB
              rename_i a u
              refine ⟨_, rfl, _, _, _, rfl, hS, fun L hL => ?_⟩
              refine ⟨_, _, rfl, _, _, rfl, rfl, ?_⟩
              have s0 := Same.new (Same.refl H) hL (o := .lst [V.ref u])
              refine ⟨_, rfl, rfl, _, rfl, iteT' (by rw [wtest]; show decide (Str.ofString "turn" = Str.ofString "turn") = true; decide +kernel) ?_⟩
              exact ⟨_, rfl, _, _, 0, _, rfl, rfl, (.inl (.inl upd_same)), rfl, _, ns, 0, 3, rfl, Same.tup s0 hT, of_decide_eq_true sm, fun H' s => k H' (s0.trans s)⟩
    | walk m n =>
      cases hD with
      | tup hS hA =>
        cases hA with
        | cons h1 hA =>
          cases h1
          cases hA with
          | cons g0 hA =>
            cases hA with
            | cons g1 hA =>
              cases hA
              have e0 := dp_nm g0
              subst e0
              have e1 := dp_nm g1
              subst e1
              refine ⟨_, rfl, _, _, _, rfl, hS, fun L hL => ?_⟩
              refine ⟨_, _, rfl, _, _, rfl, rfl, ?_⟩
              have s0 := Same.new (Same.refl H) hL (o := .lst [m.v, n.v])
              refine ⟨_, rfl, rfl, _, rfl, iteF' (by rw [wtest]; show decide (Str.ofString "walk" = Str.ofString "turn") = false; decide +kernel) ?_⟩
              refine ⟨_, rfl, rfl, _, rfl, iteT' (by rw [wtest]; show decide (Str.ofString "walk" = Str.ofString "walk") = true; decide +kernel) ?_⟩
              exact ⟨_, rfl, _, _, 0, _, rfl, rfl, (.inl (.inl upd_same)), rfl, _, rfl, _, _, 1, _, rfl, rfl, (.inl (.inl upd_same)), rfl, m, n, rfl, k _ s0⟩
    | upto z =>
      cases hD with
      | tup hS hA =>
        cases hA with
        | cons h1 hA =>
          cases h1
          cases hA with
          | cons g0 hA =>
            cases hA
            unfold dt at g0
            cases g0
            refine ⟨_, rfl, _, _, _, rfl, hS, fun L hL => ?_⟩
            refine ⟨_, _, rfl, _, _, rfl, rfl, ?_⟩
            have s0 := Same.new (Same.refl H) hL (o := .lst [V.str (tx z)])
            refine ⟨_, rfl, rfl, _, rfl, iteF' (by rw [wtest]; show decide (Str.ofString "until" = Str.ofString "turn") = false; decide +kernel) ?_⟩
            refine ⟨_, rfl, rfl, _, rfl, iteF' (by rw [wtest]; show decide (Str.ofString "until" = Str.ofString "walk") = false; decide +kernel) ?_⟩
            refine ⟨_, rfl, by show 2 ≤ sizeLine; decide, fun p hp => ⟨p, _, rfl, .inr (.inl (.inl upd_same)), rfl, rfl, _, rfl, iteT' (by show inV (V.str (Str.ofString "until")) [V.str (Str.ofString "until"), V.str (Str.ofString "toward")] = true; decide +kernel) ?_⟩⟩
            have s1 := Same.new (Same.refl _) hp (o := .tup [V.str (Str.ofString "until"), V.str (Str.ofString "toward")])
            have hL1 := s1 _ _ upd_same
            have s2 := s0.trans s1
            exact ⟨_, rfl, _, _, 0, _, rfl, rfl, (.inl (.inl hL1)), rfl, z, lands, rfl, by decide, fun H' s => k H' (s2.trans s)⟩
    | toward z =>
      cases hD with
      | tup hS hA =>
        cases hA with
        | cons h1 hA =>
          cases h1
          cases hA with
          | cons g0 hA =>
            cases hA
            unfold dt at g0
            cases g0
            refine ⟨_, rfl, _, _, _, rfl, hS, fun L hL => ?_⟩
            refine ⟨_, _, rfl, _, _, rfl, rfl, ?_⟩
            have s0 := Same.new (Same.refl H) hL (o := .lst [V.str (tx z)])
            refine ⟨_, rfl, rfl, _, rfl, iteF' (by rw [wtest]; show decide (Str.ofString "toward" = Str.ofString "turn") = false; decide +kernel) ?_⟩
            refine ⟨_, rfl, rfl, _, rfl, iteF' (by rw [wtest]; show decide (Str.ofString "toward" = Str.ofString "walk") = false; decide +kernel) ?_⟩
            refine ⟨_, rfl, by show 2 ≤ sizeLine; decide, fun p hp => ⟨p, _, rfl, .inr (.inl (.inl upd_same)), rfl, rfl, _, rfl, iteT' (by show inV (V.str (Str.ofString "toward")) [V.str (Str.ofString "until"), V.str (Str.ofString "toward")] = true; decide +kernel) ?_⟩⟩
            have s1 := Same.new (Same.refl _) hp (o := .tup [V.str (Str.ofString "until"), V.str (Str.ofString "toward")])
            have hL1 := s1 _ _ upd_same
            have s2 := s0.trans s1
            exact ⟨_, rfl, _, _, 0, _, rfl, rfl, (.inl (.inl hL1)), rfl, z, lands, rfl, by decide, fun H' s => k H' (s2.trans s)⟩
    | beside m z =>
      cases hD with
      | tup hS hA =>
        cases hA with
        | cons h1 hA =>
          cases h1
          cases hA with
          | cons g0 hA =>
            cases hA with
            | cons g1 hA =>
              cases hA
              have e0 := dp_nm g0
              subst e0
              unfold dt at g1
              cases g1
              refine ⟨_, rfl, _, _, _, rfl, hS, fun L hL => ?_⟩
              refine ⟨_, _, rfl, _, _, rfl, rfl, ?_⟩
              have s0 := Same.new (Same.refl H) hL (o := .lst [m.v, V.str (tx z)])
              refine ⟨_, rfl, rfl, _, rfl, iteF' (by rw [wtest]; show decide (Str.ofString "beside" = Str.ofString "turn") = false; decide +kernel) ?_⟩
              refine ⟨_, rfl, rfl, _, rfl, iteF' (by rw [wtest]; show decide (Str.ofString "beside" = Str.ofString "walk") = false; decide +kernel) ?_⟩
              refine ⟨_, rfl, by show 2 ≤ sizeLine; decide, fun p hp => ⟨p, _, rfl, .inr (.inl (.inl upd_same)), rfl, rfl, _, rfl, iteF' (by show inV (V.str (Str.ofString "beside")) [V.str (Str.ofString "until"), V.str (Str.ofString "toward")] = false; decide +kernel) ?_⟩⟩
              have s1 := Same.new (Same.refl _) hp (o := .tup [V.str (Str.ofString "until"), V.str (Str.ofString "toward")])
              have hL1 := s1 _ _ upd_same
              have s2 := s0.trans s1
              refine ⟨_, rfl, rfl, _, rfl, iteT' (by rw [wtest]; show decide (Str.ofString "beside" = Str.ofString "beside") = true; decide +kernel) ?_⟩
              refine ⟨_, rfl, _, _, 0, _, rfl, rfl, (.inl (.inl hL1)), rfl, m, 0, 3, rfl, _, rfl, ?_⟩
              have k : ∀ H', Same H H' → Q (.bl (inN m 0 3 && ascS z alls)) H' := k
              cases e : inN m 0 3 with
              | false =>
                rw [e] at k
                exact iteF (k _ s2)
              | true =>
                rw [e] at k
                exact iteT ⟨_, rfl, _, _, 1, _, rfl, rfl, (.inl (.inl hL1)), rfl, z, alls, rfl, by decide, fun H' s => k H' (s2.trans s)⟩
    | near z m =>
      cases hD with
      | tup hS hA =>
        cases hA with
        | cons h1 hA =>
          cases h1
          cases hA with
          | cons g0 hA =>
            cases hA with
            | cons g1 hA =>
              cases hA
              unfold dt at g0
              cases g0
              have e1 := dp_nm g1
              subst e1
              refine ⟨_, rfl, _, _, _, rfl, hS, fun L hL => ?_⟩
              refine ⟨_, _, rfl, _, _, rfl, rfl, ?_⟩
              have s0 := Same.new (Same.refl H) hL (o := .lst [V.str (tx z), m.v])
              refine ⟨_, rfl, rfl, _, rfl, iteF' (by rw [wtest]; show decide (Str.ofString "near" = Str.ofString "turn") = false; decide +kernel) ?_⟩
              refine ⟨_, rfl, rfl, _, rfl, iteF' (by rw [wtest]; show decide (Str.ofString "near" = Str.ofString "walk") = false; decide +kernel) ?_⟩
              refine ⟨_, rfl, by show 2 ≤ sizeLine; decide, fun p hp => ⟨p, _, rfl, .inr (.inl (.inl upd_same)), rfl, rfl, _, rfl, iteF' (by show inV (V.str (Str.ofString "near")) [V.str (Str.ofString "until"), V.str (Str.ofString "toward")] = false; decide +kernel) ?_⟩⟩
              have s1 := Same.new (Same.refl _) hp (o := .tup [V.str (Str.ofString "until"), V.str (Str.ofString "toward")])
              have hL1 := s1 _ _ upd_same
              have s2 := s0.trans s1
              refine ⟨_, rfl, rfl, _, rfl, iteF' (by rw [wtest]; show decide (Str.ofString "near" = Str.ofString "beside") = false; decide +kernel) ?_⟩
              refine ⟨_, rfl, rfl, _, rfl, iteT' (by rw [wtest]; show decide (Str.ofString "near" = Str.ofString "near") = true; decide +kernel) ?_⟩
              refine ⟨_, rfl, _, _, 0, _, rfl, rfl, (.inl (.inl hL1)), rfl, z, alls, rfl, by decide, fun H' s => ?_⟩
              have k : ∀ H', Same H H' → Q (.bl (ascS z alls && inN m 0 22)) H' := k
              refine ⟨_, rfl, ?_⟩
              cases e : ascS z alls with
              | false =>
                rw [e] at k
                exact iteF (k _ (s2.trans s))
              | true =>
                rw [e] at k
                exact iteT ⟨_, rfl, _, _, 1, _, rfl, rfl, .inl (.inl (s _ _ hL1)), rfl, m, 0, 22, rfl, k _ (s2.trans s)⟩
    | shore l m n =>
      cases hD with
      | tup hS hA =>
        cases hA with
        | cons h1 hA =>
          cases h1
          cases hA with
          | cons g0 hA =>
            cases hA with
            | cons g1 hA =>
              cases hA with
              | cons g2 hA =>
                cases hA
                have e0 := dp_nm g0
                subst e0
                have e1 := dp_nm g1
                subst e1
                have e2 := dp_nm g2
                subst e2
                refine ⟨_, rfl, _, _, _, rfl, hS, fun L hL => ?_⟩
                refine ⟨_, _, rfl, _, _, rfl, rfl, ?_⟩
                have s0 := Same.new (Same.refl H) hL (o := .lst [l.v, m.v, n.v])
                refine ⟨_, rfl, rfl, _, rfl, iteF' (by rw [wtest]; show decide (Str.ofString "shore" = Str.ofString "turn") = false; decide +kernel) ?_⟩
                refine ⟨_, rfl, rfl, _, rfl, iteF' (by rw [wtest]; show decide (Str.ofString "shore" = Str.ofString "walk") = false; decide +kernel) ?_⟩
                refine ⟨_, rfl, by show 2 ≤ sizeLine; decide, fun p hp => ⟨p, _, rfl, .inr (.inl (.inl upd_same)), rfl, rfl, _, rfl, iteF' (by show inV (V.str (Str.ofString "shore")) [V.str (Str.ofString "until"), V.str (Str.ofString "toward")] = false; decide +kernel) ?_⟩⟩
                have s1 := Same.new (Same.refl _) hp (o := .tup [V.str (Str.ofString "until"), V.str (Str.ofString "toward")])
                have hL1 := s1 _ _ upd_same
                have s2 := s0.trans s1
                refine ⟨_, rfl, rfl, _, rfl, iteF' (by rw [wtest]; show decide (Str.ofString "shore" = Str.ofString "beside") = false; decide +kernel) ?_⟩
                refine ⟨_, rfl, rfl, _, rfl, iteF' (by rw [wtest]; show decide (Str.ofString "shore" = Str.ofString "near") = false; decide +kernel) ?_⟩
                refine ⟨_, rfl, rfl, _, rfl, iteT' (by rw [wtest]; show decide (Str.ofString "shore" = Str.ofString "shore") = true; decide +kernel) ?_⟩
                refine ⟨_, rfl, _, _, 0, _, rfl, rfl, (.inl (.inl hL1)), rfl, l, rfl, _, rfl, ?_⟩
                have k : ∀ H', Same H H' → Q (.bl (side l && paces m n)) H' := k
                cases e : side l with
                | false =>
                  rw [e] at k
                  exact iteF (k _ s2)
                | true =>
                  rw [e] at k
                  exact iteT ⟨_, rfl, _, _, 1, _, rfl, rfl, (.inl (.inl hL1)), rfl, _, rfl, _, _, 2, _, rfl, rfl, (.inl (.inl hL1)), rfl, m, n, rfl, k _ s2⟩
end
end Om

namespace Om
open PySem PySem.Spec PyProof.Rows L2
/-! ### _check_instructions -/
theorem PI_or {X : Cx} {tg e : Expr} {w1 w2 : TI} (h1 : PI X tg e w1) (h2 : PI X tg e w2) : PI X tg e (fun σ H R => w1 σ H R ∨ w2 σ H R) := ⟨fun pins s σ H R I h => h.elim (fun h => h1.run pins s σ H R I h) fun h => h2.run pins s σ H R I h⟩
theorem walk_enumL {K : PySem.W.Frag} {a : Addr} {xs : List V} : Walk (Ite K a) xs.length (fun H => SqL K H a xs) (YEnum fun i => xs[i]?) where
  goes := fun i H hi q => ⟨xs, xs[i], q, List.getElem?_eq_getElem _⟩
  stops := fun H q => ⟨xs, q, Nat.le_refl _⟩
  yields := fun i H v H' _ q y => by
    obtain ⟨T, x, h1, h2, h3, h4⟩ := y
    exact ⟨T, x, h1, h2, h3, h4 xs q⟩
structure IsM (K : PySem.W.Frag) (mg : Str → Option Value) (C fI : Addr) : Prop where
  oex : OexC K C
  noI : PySem.W.findIn K (.ref C) "index" = some none
  iC : PySem.W.findIn K (.ref C) "__init__" = some (some (.ref fI))
  tI : PySem.W.typeIn K (.ref fI) = some (.type "function")
  gC : mg "InvalidMap" = some (.ref C)
def xdIM (x : V) : List (Str × V) := [(("index" : Str), x)]
def spIM (C : Addr) : Sp := fun vs H Q _ => ∃ (a : Addr) (x : V), vs = [.ref a, x] ∧ H a = some (exo a C none) ∧ ∀ dx, H dx = none → dx ≠ a → Q .non (upd (upd H dx (exd dx (xdIM x))) a (exo a C (some dx)))
theorem mkIM {C : Addr} {H1 : Hp} {W : XK} {x : V} (k : ∀ d H', H1 d = none → Same H1 H' → H' d = some (.xd (xdIM x)) → W (.ref C) (some d) H') :
    [x].length ≤ 1000 ∧ ∀ a, H1 a = none → spIM C (.ref a :: ([x] ++ [])) (upd H1 a (exo a C none)) (fun v H2 => v = .non ∧ ∃ (d : Addr) (fs : List (Str × V)), H2 a = some (exo a C (some d)) ∧ H2 d = some (exd d fs) ∧ H1 d = none ∧ W (.ref C) (some d) (upd (del H2 a) d (.xd fs))) (fun _ _ _ => False) := by
  refine ⟨by simp, fun a ha => ⟨a, x, rfl, upd_same, fun dx h1 h2 => ⟨rfl, dx, _, upd_same, (by rw [upd_ne h2]; exact upd_same), ?_, ?_⟩⟩⟩
  · rw [upd_ne h2] at h1; exact h1
  · rw [upd_ne h2] at h1
    refine k dx _ h1 (fun c o hc => ?_) upd_same
    have n1 : c ≠ dx := ne_of_none hc h1
    have n2 : c ≠ a := ne_of_none hc ha
    rw [upd_ne n1, del_ne n2, upd_ne n2, upd_ne n1, upd_ne n2]
    exact hc
def chkI : List Ins → Nat → Option Nat
  | [], _ => none
  | x :: r, i => if i = 20 then some i else if x.ok = true then chkI r (i + 1) else some i
/-- instructions in a list or a tuple -/
def InsAt (K : PySem.W.Frag) (H : Hp) (a : Addr) (is : List Ins) : Prop := ∃ xs, (SqL K H a xs ∨ SqT K H a xs) ∧ DpAll K H xs (is.map Ins.d)
theorem InsAt.same {K : PySem.W.Frag} {H H' : Hp} {a : Addr} {is : List Ins} (h : InsAt K H a is) (s : Same H H') : InsAt K H' a is := by
  obtain ⟨xs, h1, h2⟩ := h
  exact ⟨xs, h1.elim (fun h => .inl (Same.lst s h)) fun h => .inr (Same.tup s h), Same.dpAll s h2⟩
structure SmI (is : List Ins) : Prop where
  len : is.length ≤ 1000
  all : ∀ i ∈ is, i.small = true
def spChkI (K : PySem.W.Frag) (C : Addr) : Sp := fun vs H Q E => ∃ (a : Addr) (is : List Ins), vs = [.ref a] ∧ InsAt K H a is ∧ SmI is ∧
  (chkI is 0 = none → ∀ H', Same H H' → Q .non H') ∧ ∀ n, chkI is 0 = some n → ∀ d H', H d = none → Same H H' → H' d = some (.xd (xdIM (.int (n : Nat)))) → E (.ref C) (some d) H'
abbrev sChkI : Stmt := top 53
section
variable {P : Program} {w : World} {K : PySem.W.Frag} {mg : Str → Option Value} {base : Heap} {C fI : Addr}
theorem scIM : FnScope ["self", "index"] ["self", "index"] (defScope sIM) := ⟨rfl, rfl, rfl, by decide +kernel, rfl, by decide +kernel, by decide +kernel⟩
theorem ok_IM {fd : FuncData} (F : FnP K "__init__" "InvalidMap.__init__" sIM fI fd) (T : IsM K mg C fI) : FnOk P w K mg base CX0 1 fI fd ["self", "index"] (spIM C) := by
  refine F.ok scIM (fun vs H Q E h => ?_) (fun cdv A outer s H vs Q E hr h => ?_)
  · obtain ⟨a, x, rfl, _⟩ := h
    rfl
  · obtain ⟨a, x, rfl, ha, k⟩ := h
    refine ⟨_, PSs.nox (pss_one (ps_ost (pv 0) (pv 1))), ?_⟩
    exact ⟨_, rfl, _, rfl, a, C, rfl, T.oex, T.noI, .inl ⟨ha, fun dx h1 h2 => k dx h1 h2⟩⟩
abbrev nChkI : List Str := ["instructions", "index", "instruction"]
theorem scChkI : FnScope nChkI ["instructions"] (defScope sChkI) := ⟨rfl, rfl, rfl, by decide +kernel, rfl, by decide +kernel, by decide +kernel⟩
theorem ok_chkI {f : Addr} {fd fdI : FuncData} (F : FnP K "_check_instructions" "_check_instructions" sChkI f fd) (T : IsM K mg C fI) (FI : FnOk P w K mg base CX0 1 fI fdI ["self", "index"] (spIM C)) (bI : Binds K fdI ["self", "index"] [])
    (G : Cal P w K mg base CX0 3 "is_instruction" ["instruction"] (spIsIns K)) (genum : mg "enumerate" = none) (gm : ∃ t, mg "MOST_INSTRUCTIONS" = some (.int 20 t)) : FnOk P w K mg base (L2.CX P w) 4 f fd ["instructions"] (spChkI K C) := by
  obtain ⟨t0, gm⟩ := gm
  refine F.ok scChkI (fun vs H Q E h => ?_) (fun cdv A outer s H vs Q E hr h => ?_)
  · obtain ⟨a, is, rfl, _⟩ := h
    rfl
  · obtain ⟨a, is, rfl, ⟨xs, hS, hD⟩, sm, kN, kS⟩ := h
    have nd := scChkI.nd
    refine ⟨_, pss_one (ps_for (passes_of rfl) rfl (PI_or (pi_enum rfl genum (pa_cons (pv 0) pa_nil)) (pi_enumT rfl genum (pa_cons (pv 0) pa_nil))) (pg_tup rfl (pgs_cons (pg_name (i := 1) nd rfl (.inl rfl)) (pgs_cons (pg_name (i := 2) nd rfl (.inl rfl)) pgs_nil)))
        (pss_one (ps_if (PW.pt (pw_or (pt_cmpR op_eq (pv 1) (pe_glob (v := .int 20) rfl gm ⟨_, rfl⟩) (nomark _)) (pw_or1 (pt_not (pt_val (pe_cal G hr pass0 (pa_cons (pv 2) pa_nil)))))))
            (pss_one (ps_raise rfl (takes_of rfl rfl rfl rfl) (pmk_oex T.oex T.iC T.tI FI (hr.mono (by decide)) bI .nil pass0 rfl T.gC (pa_cons (pv 1) pa_nil)))) pss_nil))), ?_⟩
    have hlen := dpAll_len hD
    rw [List.length_map] at hlen
    let Pv : Nat → L2.St → Hp → Prop := fun i σ H' => Same H H' ∧ (∃ v1 v2, σ = [some (.ref a), v1, v2]) ∧ chkI is 0 = chkI (is.drop i) i
    have h0 : Pv 0 (start nChkI [V.ref a]) H := ⟨Same.refl H, ⟨_, _, rfl⟩, rfl⟩
    rcases hS with hS | hS
    · refine .inl ⟨_, rfl, a, _, rfl, hS, for_it (walk_enumL (K := K) (a := a) (xs := xs)) Pv h0 (fun i σ H' _ p => Same.lst p.1 hS) ?_ ?_⟩
      · rintro i x σ H1 H2 hi ⟨s1, ⟨v1, v2, rfl⟩, hc⟩ ⟨T1, y, rfl, hT, rfl, hy⟩
        have hi2 : i < is.length := by omega
        have hii : is[i]? = some is[i] := by simp [hi2]
        have hid : (is.map Ins.d)[i]? = some (is[i]).d := by rw [List.getElem?_map, hii]; rfl
        obtain ⟨u, hu, hdu⟩ := dpAll_at hD hid
        have hy : xs[i]? = some y := hy
        obtain rfl : y = u := by rw [hy] at hu; exact Option.some.inj hu
        rw [List.drop_eq_getElem_cons hi2] at hc
        have s2 : Same H (upd H1 T1 (.tup [.int (i : Nat), y])) := Same.new s1 hT
        refine ⟨T1, _, rfl, .inl (.inl upd_same), rfl, _, _, rfl, _, _, rfl, rfl, ?_⟩
        refine ⟨_, rfl, rfl, _, rfl, ?_⟩
        have hc : chkI is 0 = if i = 20 then some i else if (is[i]).ok = true then chkI (is.drop (i + 1)) (i + 1) else some i := hc
        refine ite2 (fun hz => ?_) (fun hz => ?_)
        · have hz := of_decide_eq_true hz
          injection hz with hz
          have hi20 : i = 20 := by omega
          rw [if_pos hi20] at hc
          exact iteT ⟨_, rfl, mkIM (W := E) fun d H' h1 h2 h3 => kS i hc d H' (Same.free s2 h1) (s2.trans h2) h3⟩
        · have hi20 : i ≠ 20 := fun h => hz (decide_eq_true (by rw [h]; rfl))
          rw [if_neg hi20] at hc
          refine ⟨_, rfl, y, is[i], rfl, Same.dp s2 hdu, sm.all _ (List.getElem_mem hi2), fun H3 s3 => ⟨_, rfl, ?_⟩⟩
          cases ho : (is[i]).ok with
          | true =>
            rw [ho, if_pos rfl] at hc
            exact iteF ⟨s2.trans s3, ⟨_, _, rfl⟩, hc⟩
          | false =>
            rw [ho, if_neg Bool.false_ne_true] at hc
            exact iteT ⟨_, rfl, mkIM (W := E) fun d H' h1 h2 h3 => kS i hc d H' (Same.free (s2.trans s3) h1) ((s2.trans s3).trans h2) h3⟩
      · rintro σ H1 ⟨s1, ⟨v1, v2, rfl⟩, hc⟩
        have e0 : is.drop xs.length = [] := List.drop_eq_nil_of_le (by omega)
        rw [e0] at hc
        exact kN hc H1 s1
    · refine .inr ⟨_, rfl, a, _, rfl, hS, for_it (walk_enumT (K := K) (a := a) (xs := xs)) Pv h0 (fun i σ H' _ p => Same.tup p.1 hS) ?_ ?_⟩
      · rintro i x σ H1 H2 hi ⟨s1, ⟨v1, v2, rfl⟩, hc⟩ ⟨T1, y, rfl, hT, rfl, hy⟩
        have hi2 : i < is.length := by omega
        have hii : is[i]? = some is[i] := by simp [hi2]
        have hid : (is.map Ins.d)[i]? = some (is[i]).d := by rw [List.getElem?_map, hii]; rfl
        obtain ⟨u, hu, hdu⟩ := dpAll_at hD hid
        have hy : xs[i]? = some y := hy
        obtain rfl : y = u := by rw [hy] at hu; exact Option.some.inj hu
        rw [List.drop_eq_getElem_cons hi2] at hc
        have s2 : Same H (upd H1 T1 (.tup [.int (i : Nat), y])) := Same.new s1 hT
        refine ⟨T1, _, rfl, .inl (.inl upd_same), rfl, _, _, rfl, _, _, rfl, rfl, ?_⟩
        refine ⟨_, rfl, rfl, _, rfl, ?_⟩
        have hc : chkI is 0 = if i = 20 then some i else if (is[i]).ok = true then chkI (is.drop (i + 1)) (i + 1) else some i := hc
        refine ite2 (fun hz => ?_) (fun hz => ?_)
        · have hz := of_decide_eq_true hz
          injection hz with hz
          have hi20 : i = 20 := by omega
          rw [if_pos hi20] at hc
          exact iteT ⟨_, rfl, mkIM (W := E) fun d H' h1 h2 h3 => kS i hc d H' (Same.free s2 h1) (s2.trans h2) h3⟩
        · have hi20 : i ≠ 20 := fun h => hz (decide_eq_true (by rw [h]; rfl))
          rw [if_neg hi20] at hc
          refine ⟨_, rfl, y, is[i], rfl, Same.dp s2 hdu, sm.all _ (List.getElem_mem hi2), fun H3 s3 => ⟨_, rfl, ?_⟩⟩
          cases ho : (is[i]).ok with
          | true =>
            rw [ho, if_pos rfl] at hc
            exact iteF ⟨s2.trans s3, ⟨_, _, rfl⟩, hc⟩
          | false =>
            rw [ho, if_neg Bool.false_ne_true] at hc
            exact iteT ⟨_, rfl, mkIM (W := E) fun d H' h1 h2 h3 => kS i hc d H' (Same.free (s2.trans s3) h1) ((s2.trans s3).trans h2) h3⟩
      · rintro σ H1 ⟨s1, ⟨v1, v2, rfl⟩, hc⟩
        have e0 : is.drop xs.length = [] := List.drop_eq_nil_of_le (by omega)
        rw [e0] at hc
        exact kN hc H1 s1
end
end Om

namespace Om
open PySem PySem.Spec PyProof.Rows L2
/-! ### Map.__init__ -/
def mapFs (li : Addr) (sg : Str) (lf lt : Addr) : List (Str × V) := putF "_instructions" (.ref lt) (putF "_facings" (.ref lf) (putF "_signs" (.str sg) (putF "_island" (.ref li) [])))
structure MapF (K : PySem.W.Frag) (mg : Str → Option Value) (CM fM : Addr) : Prop where
  cl : Cls K CM
  n1 : NoAttr K CM "_island"
  n2 : NoAttr K CM "_signs"
  n3 : NoAttr K CM "_facings"
  n4 : NoAttr K CM "_instructions"
  made : Mk K CM fM
  gM : mg "Map" = some (.ref CM)
def mapBad (sg : List Nat) (fs : List Nm) (is : List Ins) : Option Int := if (ascS sg lands && ascN fs 0 3) = true then (chkI is 0).map fun n => ((n : Nat) : Int) else some (-1)
/-- all but the object at p stay -/
def Ex1 (p : Addr) (H H' : Hp) : Prop := ∀ b o, H b = some o → b ≠ p → H' b = some o
theorem Ex1.trans {p : Addr} {H H1 H2 : Hp} (a : Ex1 p H H1) (b : Ex1 p H1 H2) : Ex1 p H H2 := fun c o h n => b c o (a c o h n) n
theorem Same.ex1 {p : Addr} {H H' : Hp} (s : Same H H') : Ex1 p H H' := fun b o h _ => s b o h
theorem ex1_upd {p : Addr} {H : Hp} {o : HO} : Ex1 p H (upd H p o) := fun b u h n => by rw [upd_ne n]; exact h
section
variable {K : PySem.W.Frag} {H H' : Hp} {p a C dx : Addr} {fs : List (Str × V)} {xs : List V}
theorem Ex1.tup (e : Ex1 p H H') (hp : H p = some (.ins C dx fs)) (h : SqT K H a xs) : SqT K H' a xs := by
  rcases h with (h | ⟨o, h⟩) | h
  · exact .inl (.inl (e _ _ h fun z => by rw [z, hp] at h; cases h))
  · exact .inl (.inr ⟨o, e _ _ h fun z => by rw [z, hp] at h; cases h⟩)
  · exact .inr h
theorem Ex1.lst (e : Ex1 p H H') (hp : H p = some (.ins C dx fs)) (h : SqL K H a xs) : SqL K H' a xs := by
  rcases h with (h | ⟨o, h⟩) | h
  · exact .inl (.inl (e _ _ h fun z => by rw [z, hp] at h; cases h))
  · exact .inl (.inr ⟨o, e _ _ h fun z => by rw [z, hp] at h; cases h⟩)
  · exact .inr h
theorem Ex1.dpAll {ds : List PyData} (e : Ex1 p H H') (hp : H p = some (.ins C dx fs)) (h : DpAll K H xs ds) : DpAll K H' xs ds := dpAll_mono (fun _ _ h => Ex1.tup e hp h) (fun _ _ h => Ex1.lst e hp h) h
theorem Ex1.insAt {is : List Ins} (e : Ex1 p H H') (hp : H p = some (.ins C dx fs)) (h : InsAt K H a is) : InsAt K H' a is := by
  obtain ⟨xs, h1, h2⟩ := h
  exact ⟨xs, h1.elim (fun h => .inl (e.lst hp h)) fun h => .inr (e.tup hp h), e.dpAll hp h2⟩
end
theorem putF_len (f : Str) (v : V) : ∀ fs : List (Str × V), (putF f v fs).length ≤ fs.length + 1
  | [] => by simp [putF]
  | (g, x) :: r => by
    have ih := putF_len f v r
    show (if g = f then (g, v) :: r else (g, x) :: putF f v r).length ≤ _
    split
    · simp
    · simp only [List.length_cons]
      omega
def spMapI (K : PySem.W.Frag) (CM CB : Addr) : Sp := fun vs H Q E => ∃ (p dx li lf a : Addr) (sg : List Nat) (fs : List Nm) (is : List Ins), vs = [.ref p, .ref li, .str (tx sg), .ref lf, .ref a] ∧ H p = some (.ins CM dx []) ∧ SqT K H lf (fs.map Nm.v) ∧ fs.length ≤ 1000 ∧ InsAt K H a is ∧ SmI is ∧
  (mapBad sg fs is = none → ∀ t xs H', Ex1 p H H' → SqT K H' t xs → DpAll K H' xs (is.map Ins.d) → H' p = some (.ins CM dx (mapFs li (tx sg) lf t)) → Q .non H') ∧
  ∀ n, mapBad sg fs is = some n → ∀ d H', H d = none → Same H H' → H' d = some (.xd (xdIM (.int n))) → E (.ref CB) (some d) H'
abbrev nMapI : List Str := ["self", "island", "signs", "facings", "instructions"]
section
variable {P : Program} {w : World} {K : PySem.W.Frag} {mg : Str → Option Value} {base : Heap} {CM CB fM fI : Addr}
theorem scMapI : FnScope nMapI nMapI (defScope (sMapM 0)) := ⟨rfl, rfl, rfl, by decide +kernel, rfl, by decide +kernel, by decide +kernel⟩
theorem ok_mapI {fd fdI : FuncData} (F : FnP K "__init__" "Map.__init__" (sMapM 0) fM fd) (T : MapF K mg CM fM) (B : IsM K mg CB fI) (FI : FnOk P w K mg base CX0 1 fI fdI ["self", "index"] (spIM CB)) (bI : Binds K fdI ["self", "index"] [])
    (GC : Cal P w K mg base (L2.CX P w) 4 "_check_instructions" ["instructions"] (spChkI K CB)) (GN : Cal P w K mg base CX0 2 "ascending_numbers" ["numbers", "least", "most"] (spAscN K)) (GS : Cal P w K mg base CX0 1 "ascending_signs" ["text", "allowed"] spAscS)
    (gl : ∃ t, mg "LAND_SIGNS" = some (.str (tx lands) t)) (gtuple : mg "tuple" = none) : FnOk P w K mg base (L2.CX P w) 5 fM fd nMapI (spMapI K CM CB) := by
  obtain ⟨t0, gl⟩ := gl
  refine F.ok scMapI (fun vs H Q E h => ?_) (fun cdv A outer s H vs Q E hr h => ?_)
  · obtain ⟨p, dx, li, lf, a, sg, fs, is, rfl, _⟩ := h
    rfl
  · obtain ⟨p, dx, li, lf, a, sg, fs, is, rfl, hp, hF, hfl, hI, sm, kN, kS⟩ := h
    have nd := scMapI.nd
    refine ⟨_, pss_cons (ps_if (PW.pt (pw_or (pt_not (pt_val (pe_cal GS (hr.mono (by decide)) pass0 (pa_cons (pv 2) (pa_cons (pe_glob (v := .str (tx lands)) rfl gl ⟨_, rfl⟩) pa_nil)))))
          (pw_or1 (pt_not (pt_val (pe_cal GN (hr.mono (by decide)) pass0 (pa_cons (pv 3) (pa_cons pe_int (pa_cons pe_int pa_nil)))))))))
        (pss_one (ps_raise rfl (takes_of rfl rfl rfl rfl) (pmk_oex B.oex B.iC B.tI FI (hr.mono (by decide)) bI .nil pass0 rfl B.gC (pa_cons (pe_un un_neg pe_int) pa_nil)))) pss_nil)
      (pss_cons (ps_expr (pe_cal GC hr (E := E) (passes_call (W := fun cls d _ H => E cls d H) (takes_of rfl rfl rfl rfl) fun _ _ _ _ h => h) (pa_cons (pv 4) pa_nil)))
      (pss_cons (ps_fld (pv 0) (pv 1) rfl) (pss_cons (ps_fld (pv 0) (pv 2) rfl)
      (pss_cons (ps_fld (pv 0) (pe_callTy call_tuple_of (by rfl) gtuple (by decide +kernel) (pa_cons (pv 3) pa_nil)) rfl)
      (pss_one (ps_fld (pv 0) (pe_callTy call_tuple_of (by rfl) gtuple (by decide +kernel) (pa_cons (pv 4) pa_nil)) rfl)))))), ?_⟩
    refine ⟨_, rfl, sg, lands, rfl, by decide, fun H1 s1 => ⟨_, rfl, ?_⟩⟩
    unfold mapBad at kN kS
    cases e1 : ascS sg lands with
    | false =>
      rw [e1] at kS
      refine iteT' rfl (iteT' rfl ?_)
      exact ⟨_, rfl, mkIM (W := E) fun d H' h1 h2 h3 => kS (-1) (by simp) d H' (Same.free s1 h1) (s1.trans h2) h3⟩
    | true =>
      rw [e1] at kS kN
      refine iteF' rfl ?_
      refine ⟨_, rfl, lf, fs, 0, 3, rfl, Same.tup s1 hF, hfl, fun H2 s2 => ⟨_, rfl, ?_⟩⟩
      cases e2 : ascN fs 0 3 with
      | false =>
        rw [e2] at kS
        refine iteT' rfl ?_
        exact ⟨_, rfl, mkIM (W := E) fun d H' h1 h2 h3 => kS (-1) (by simp) d H' (Same.free (s1.trans s2) h1) ((s1.trans s2).trans h2) h3⟩
      | true =>
        rw [e2] at kS kN
        refine iteF' rfl ?_
        have s12 := s1.trans s2
        refine ⟨_, rfl, a, is, rfl, hI.same s12, sm, fun ec H3 s3 => ?_, fun n ec d H' h1 h2 h3 => kS n (by simp [ec]) d H' (Same.free s12 h1) (s12.trans h2) h3⟩
        have s13 := s12.trans s3
        have kN := kN (by simp [ec])
        have hp3 := s13 _ _ hp
        refine ⟨_, rfl, _, rfl, p, CM, dx, [], rfl, hp3, T.cl, T.n1, by decide, ?_⟩
        have l1 := putF_len "_island" (.ref li) []
        have l2 := putF_len "_signs" (.str (tx sg)) (putF "_island" (.ref li) [])
        have l3 := putF_len "_facings" (.ref lf) (putF "_signs" (.str (tx sg)) (putF "_island" (.ref li) []))
        simp only [List.length_nil] at l1
        have q1 : Ex1 p H3 (upd H3 p (.ins CM dx (putF "_island" (.ref li) []))) := ex1_upd
        refine ⟨_, rfl, _, rfl, p, CM, dx, _, rfl, upd_same, T.cl, T.n2, by omega, ?_⟩
        have q2 := q1.trans (ex1_upd (o := .ins CM dx (putF "_signs" (.str (tx sg)) (putF "_island" (.ref li) []))))
        refine ⟨_, rfl, lf, _, rfl, .inr ⟨q2.tup hp3 (Same.tup s13 hF), ?_⟩⟩
        refine ⟨_, rfl, p, CM, dx, _, rfl, upd_same, T.cl, T.n3, by omega, ?_⟩
        have q3 := q2.trans (ex1_upd (o := .ins CM dx (putF "_facings" (.ref lf) (putF "_signs" (.str (tx sg)) (putF "_island" (.ref li) [])))))
        obtain ⟨xs, hxs, hD⟩ := q3.insAt hp3 (hI.same s13)
        have e13 := (Same.ex1 (p := p) s13).trans q3
        rcases hxs with hxs | hxs
        · refine ⟨_, rfl, a, xs, rfl, .inl ⟨hxs, fun t ht => ?_⟩⟩
          have s4 := Same.new (Same.refl _) ht (o := .tup xs)
          refine ⟨_, rfl, p, CM, dx, _, rfl, s4 _ _ upd_same, T.cl, T.n4, by omega, ?_⟩
          have q5 := e13.trans ((Same.ex1 s4).trans (ex1_upd (o := .ins CM dx (mapFs li (tx sg) lf t))))
          have htp : t ≠ p := fun z => by rw [z, upd_same] at ht; cases ht
          exact kN t xs _ q5 (.inl (.inl (by rw [upd_ne htp]; exact upd_same))) ((ex1_upd (p := p)).dpAll (s4 _ _ upd_same) (Same.dpAll s4 hD)) upd_same
        · refine ⟨_, rfl, a, xs, rfl, .inr ⟨hxs, ?_⟩⟩
          refine ⟨_, rfl, p, CM, dx, _, rfl, upd_same, T.cl, T.n4, by omega, ?_⟩
          have q5 := e13.trans (ex1_upd (o := .ins CM dx (mapFs li (tx sg) lf a)))
          exact kN a xs _ q5 ((ex1_upd (p := p)).tup upd_same hxs) ((ex1_upd (p := p)).dpAll upd_same hD) upd_same
end
end Om

namespace Om
open PySem PySem.Spec PyProof.Rows L2
/-! ### own __add__ with a list -/
theorem binop_KL {K : PySem.W.Frag} {prog : Program} {w : World} {A : Around} {E : Value → Shared → Prop} {s : Shared} {x C L f b : Addr} {h₀ : Heap} {m : Str → Option Value} {ox : Obj} {od : Option Obj} {Q : Value → Shared → Prop} (F : Fr h₀ L s.heap m) (X₀ : K.In h₀) (I : PySem.W.InstAt s.heap x ox C od)
    (hb : s.TypeIs (.ref b) "list") (hc : PySem.W.selfFirst K C = true) (hs : PySem.W.findIn K (.ref C) "__add__" = some (some (.ref f))) (hf : PySem.W.isFn K (.ref f) = true)
    (h : wpAny (model prog w) A (call (.ref f) [.ref x, .ref b]) (PySem.W.CmpBack Q) E s) : wpAny (model prog w) A (binaryOp .Add (.ref x) (.ref b)) Q E s := by
  have X := X₀.keeps F.keep
  obtain ⟨cd, hcd, hm⟩ := PySem.W.any_some hc
  obtain ⟨rest, hm⟩ : ∃ rest, cd.mro = .ref C :: rest := by
    cases q : cd.mro with
    | nil => rw [q] at hm; cases hm
    | cons a r => rw [q] at hm; exact ⟨r, by rw [List.head?_cons] at hm; cases (beq_iff_eq.mp hm); rfl⟩
  have e1 : (Value.ref C == Value.type "list") = false := by simp
  unfold binaryOp
  refine wpAny_holding (wpAny_bind ?_)
  unfold binaryOp1
  refine wpAny_bind (I.type.here (wpAny_bind (wpAny_typeOf hb (wpAny_bind ((PySem.W.fills_K (nm := "add") X hcd hm hs).here ?_)))))
  rw [e1]
  simp only [Bool.false_eq_true, if_false]
  refine wpAny_bind (wpAny_of_eq PySem.noFill_list_add ?_)
  simp only [Bool.and_false, Bool.false_eq_true, if_false, Bool.false_and]
  refine wpAny_bind (wpAny_pure ?_)
  simp only [Bool.false_eq_true, if_false]
  refine wpAny_bind (m := tryMethod (.ref x) _ (.ref b)) ?_
  unfold tryMethod
  refine wpAny_bind (PySem.W.special_fn X I hs (beq_iff_eq.mp hf) (wpAny_mono h (fun v s' hv => ?_) fun _ _ e => e))
  cases v <;> first | exact hv.elim | exact wpAny_pure (wpAny_pure (wpAny_pure hv))
section
variable {X : Cx} {CX : CXT} {k : Nat} {C f : Addr} {fd : FuncData} {ps : List Str} {sp : Sp} {E : XK}
/-- o + a list, what is given an object -/
def rAddOwn (K : PySem.W.Frag) (C : Addr) (sp : Sp) (E : XK) : R2 := fun x y H Q => ∃ a dx fs b ys, x = .ref a ∧ H a = some (.ins C dx fs) ∧ y = .ref b ∧ SqL K H b ys ∧ sp [x, y] H (fun v H' => ∃ c, v = .ref c ∧ Q v H') E
theorem op_addOwn (M : OwnM X.K C "__add__" f) (hc : PySem.W.selfFirst X.K C = true) (F : FnOk X.prog X.w X.K X.mg X.base CX k f fd ps sp) (hr : Room k X.A) (hb : Binds X.K fd ps []) (hx : Passes CX X E) : OpR X (binaryOp .Add) (rAddOwn X.K C sp E) := by
  intro pins s σ H x y v u Q I rx ry h
  obtain ⟨p, dx, fs, b, ys, rfl, hp, rfl, hl, q⟩ := h
  cases rx
  cases ry
  obtain ⟨mA, J, _⟩ := ins_get I.hok hp
  obtain ⟨od, J, _⟩ := J.look
  obtain ⟨m, hF⟩ := I.fr
  obtain ⟨its, rv, pl, _⟩ := I.list hl
  refine binop_KL hF I.ok.mod.kin J pl.isList.typeIs hc M.at_ M.fn (wpAny_mono (run_fnS F ⟨hr, rfl⟩ hb hx I (.cons (show RelV (V.ref p) (Value.ref p) from rfl) (.cons (show RelV (V.ref b) (Value.ref b) from rfl) .nil)) q) (fun r s' z => ?_) fun _ _ z => z)
  obtain ⟨z, H', I', rz, c, ez, q⟩ := z
  subst ez
  cases rz
  exact ⟨.ref c, H', I', rfl, q⟩
end
/-! ### a chart -/
def Mp (K : PySem.W.Frag) (CM CI : Addr) (H : Hp) (a : Addr) (rows : List (List Nat)) (sg : List Nat) (fs : List Nm) (is : List Ins) : Prop :=
  ∃ dx li lf lt xs, H a = some (.ins CM dx (mapFs li (tx sg) lf lt)) ∧ Isl K CI H li rows ∧ SqT K H lf (fs.map Nm.v) ∧ SqT K H lt xs ∧ DpAll K H xs (is.map Ins.d)
theorem Mp.same {K : PySem.W.Frag} {CM CI a : Addr} {H H' : Hp} {rows : List (List Nat)} {sg : List Nat} {fs : List Nm} {is : List Ins} (h : Mp K CM CI H a rows sg fs is) (s : Same H H') : Mp K CM CI H' a rows sg fs is := by
  obtain ⟨dx, li, lf, lt, xs, h1, h2, h3, h4, h5⟩ := h
  exact ⟨dx, li, lf, lt, xs, s _ _ h1, h2.same s, Same.tup s h3, Same.tup s h4, Same.dpAll s h5⟩
theorem mapFs_i (li : Addr) (sg : Str) (lf lt : Addr) : (mapFs li sg lf lt).lookup ("_island" : Str) = some (.ref li) := by
  unfold mapFs
  rw [lookup_putF, if_neg (by decide +kernel), lookup_putF, if_neg (by decide +kernel), lookup_putF, if_neg (by decide +kernel), lookup_putF, if_pos rfl]
theorem mapFs_s (li : Addr) (sg : Str) (lf lt : Addr) : (mapFs li sg lf lt).lookup ("_signs" : Str) = some (.str sg) := by
  unfold mapFs
  rw [lookup_putF, if_neg (by decide +kernel), lookup_putF, if_neg (by decide +kernel), lookup_putF, if_pos rfl]
theorem mapFs_f (li : Addr) (sg : Str) (lf lt : Addr) : (mapFs li sg lf lt).lookup ("_facings" : Str) = some (.ref lf) := by
  unfold mapFs
  rw [lookup_putF, if_neg (by decide +kernel), lookup_putF, if_pos rfl]
theorem mapFs_t (li : Addr) (sg : Str) (lf lt : Addr) : (mapFs li sg lf lt).lookup ("_instructions" : Str) = some (.ref lt) := by
  unfold mapFs
  rw [lookup_putF, if_pos rfl]
/-- Map(island, signs, facings, instructions) -/
theorem mk_map {K : PySem.W.Frag} {CM CI CB : Addr} {σ : L2.St} {H : Hp} {Q : VK} {E : XK} {ta : TA} {rows : List (List Nat)} {sg : List Nat} {fs : List Nm} {is : List Ins} (hfl : fs.length ≤ 1000) (sm : SmI is)
    (hta : ∀ Qa : List V → Hp → Prop, (∀ li lf a H', Same H H' → Isl K CI H' li rows → SqT K H' lf (fs.map Nm.v) → InsAt K H' a is → Qa [.ref li, .str (tx sg), .ref lf, .ref a] H') → ta σ H Qa)
    (kN : mapBad sg fs is = none → ∀ x H', Same H H' → H x = none → Mp K CM CI H' x rows sg fs is → Q (.ref x) H')
    (kE : ∀ n, mapBad sg fs is = some n → ∀ d H', H d = none → Same H H' → H' d = some (.xd (xdIM (.int n))) → E (.ref CB) (some d) H') : tMake CM (spMapI K CM CB) [] E ta σ H Q := by
  show ta σ H fun vs H1 => ∀ x dx, H1 x = none → H1 dx = none → dx ≠ x → spMapI K CM CB (.ref x :: (vs ++ [])) (upd (upd H1 dx (.own x)) x (.ins CM dx [])) (fun v H2 => v = .non ∧ Q (.ref x) H2) E
  refine hta _ fun li lf a H1 s1 hI hF hA x dx hx hdx hne => ?_
  have s2 : Same H1 (upd (upd H1 dx (.own x)) x (.ins CM dx [])) := fun c o hc => by
    rw [upd_ne (ne_of_none hc hx), upd_ne (ne_of_none hc hdx)]
    exact hc
  have hx0 : H x = none := Same.free s1 hx
  refine ⟨x, dx, li, lf, a, sg, fs, is, rfl, upd_same, Same.tup s2 hF, hfl, hA.same s2, sm, fun e t xs H2 k1 k2 k3 k4 => ⟨rfl, ?_⟩, fun n e d H2 h1 h2 h3 => ?_⟩
  · have s3 : Same H1 H2 := fun c o hc => k1 c o (s2 c o hc) (ne_of_none hc hx)
    exact kN e x H2 (s1.trans s3) hx0 ⟨dx, li, lf, t, xs, k4, hI.same s3, Same.tup s3 hF, k2, k3⟩
  · exact kE n e d H2 (Same.free s1 (Same.free s2 h1)) (s1.trans (s2.trans h2)) h3
end Om

namespace Om
open PySem PySem.Spec PyProof.Rows L2
theorem chkI_none : ∀ (is : List Ins) (i : Nat), i ≤ 20 → (chkI is i = none ↔ (∀ x ∈ is, x.ok = true) ∧ i + is.length ≤ 20)
  | [], i, h => by simp [chkI, h]
  | x :: r, i, h => by
    show (if i = 20 then some i else if x.ok = true then chkI r (i + 1) else some i) = none ↔ _
    by_cases hi : i = 20
    · rw [if_pos hi]
      simp [hi]
    · rw [if_neg hi]
      by_cases hx : x.ok = true
      · rw [if_pos hx, chkI_none r (i + 1) (by omega)]
        simp only [List.mem_cons, forall_eq_or_imp, hx, true_and, List.length_cons]
        constructor
        · rintro ⟨a, b⟩
          exact ⟨a, by omega⟩
        · rintro ⟨a, b⟩
          exact ⟨a, by omega⟩
      · rw [if_neg hx]
        simp [hx]
theorem mapBad_none {sg : List Nat} {fs : List Nm} {is : List Ins} : mapBad sg fs is = none ↔ ascS sg lands = true ∧ ascN fs 0 3 = true ∧ (∀ x ∈ is, x.ok = true) ∧ is.length ≤ 20 := by
  unfold mapBad
  by_cases h : (ascS sg lands && ascN fs 0 3) = true
  · rw [if_pos h]
    obtain ⟨h1, h2⟩ := Bool.and_eq_true_iff.mp h
    rw [Option.map_eq_none_iff, chkI_none is 0 (by omega)]
    simp [h1, h2]
  · rw [if_neg h]
    simp only [reduceCtorEq, false_iff, not_and]
    intro h1 h2
    exact absurd (by rw [h1, h2]; rfl) h
theorem dpAll_take {K : PySem.W.Frag} {H : Hp} : ∀ {xs : List V} {ds : List PyData} (n : Nat), DpAll K H xs ds → DpAll K H (xs.take n) (ds.take n)
  | [], [], n, .nil => by simp; exact .nil
  | _ :: _, _ :: _, 0, .cons _ _ => .nil
  | _ :: _, _ :: _, n + 1, .cons h t => .cons h (dpAll_take n t)
theorem dpAll_drop {K : PySem.W.Frag} {H : Hp} : ∀ {xs : List V} {ds : List PyData} (n : Nat), DpAll K H xs ds → DpAll K H (xs.drop n) (ds.drop n)
  | [], [], n, .nil => by simp; exact .nil
  | _ :: _, _ :: _, 0, .cons h t => .cons h t
  | _ :: _, _ :: _, n + 1, .cons h t => dpAll_drop n t
theorem cutV_upto (xs : List V) (n : Nat) : cutV xs none (some (n : Int)) = xs.take n := by
  unfold cutV
  rw [HT.sIx_none, HT.sIx_nat, List.drop_zero, Nat.sub_zero]
  by_cases h : n ≤ xs.length
  · rw [Nat.min_eq_left h]
  · rw [Nat.min_eq_right (by omega), List.take_length, List.take_of_length_le (by omega)]
def spWith (K : PySem.W.Frag) (CM CI CB : Addr) : Sp := fun vs H Q E => ∃ (a b : Addr) (rows : List (List Nat)) (sg : List Nat) (fs : List Nm) (is0 is : List Ins), vs = [.ref a, .ref b] ∧ Mp K CM CI H a rows sg fs is0 ∧ fs.length ≤ 1000 ∧ InsAt K H b is ∧ SmI is ∧
  (mapBad sg fs is = none → ∀ x H', Same H H' → H x = none → Mp K CM CI H' x rows sg fs is → Q (.ref x) H') ∧
  ∀ n, mapBad sg fs is = some n → ∀ d H', H d = none → Same H H' → H' d = some (.xd (xdIM (.int n))) → E (.ref CB) (some d) H'
def spAdd (K : PySem.W.Frag) (CM CI CB : Addr) : Sp := fun vs H Q E => ∃ (a b : Addr) (rows : List (List Nat)) (sg : List Nat) (fs : List Nm) (is0 is : List Ins), vs = [.ref a, .ref b] ∧ Mp K CM CI H a rows sg fs is0 ∧ fs.length ≤ 1000 ∧ InsAt K H b is ∧ SmI (is0 ++ is) ∧
  (mapBad sg fs (is0 ++ is) = none → ∀ x H', Same H H' → H x = none → Mp K CM CI H' x rows sg fs (is0 ++ is) → Q (.ref x) H') ∧
  ∀ n, mapBad sg fs (is0 ++ is) = some n → ∀ d H', H d = none → Same H H' → H' d = some (.xd (xdIM (.int n))) → E (.ref CB) (some d) H'
def spUpto (K : PySem.W.Frag) (CM CI : Addr) : Sp := fun vs H Q _ => ∃ (a : Addr) (n : Int) (rows : List (List Nat)) (sg : List Nat) (fs : List Nm) (is : List Ins), vs = [.ref a, .int n] ∧ Mp K CM CI H a rows sg fs is ∧ fs.length ≤ 1000 ∧ SmI is ∧ mapBad sg fs is = none ∧
  ∀ x H', Same H H' → H x = none → Mp K CM CI H' x rows sg fs (is.take n.toNat) → Q (.ref x) H'
def spMLen (K : PySem.W.Frag) (CM CI : Addr) : Sp := fun vs H Q _ => ∃ (a : Addr) (rows : List (List Nat)) (sg : List Nat) (fs : List Nm) (is : List Ins), vs = [.ref a] ∧ Mp K CM CI H a rows sg fs is ∧ Q (.int (is.length : Nat)) H
def spMGet (K : PySem.W.Frag) (CM CI : Addr) : Sp := fun vs H Q _ => ∃ (a : Addr) (j : Nat) (i : Ins) (rows : List (List Nat)) (sg : List Nat) (fs : List Nm) (is : List Ins), vs = [.ref a, .int (j : Nat)] ∧ Mp K CM CI H a rows sg fs is ∧ is[j]? = some i ∧ ∀ v, Dp K H v i.d → Q v H
section
variable {P : Program} {w : World} {K : PySem.W.Frag} {mg : Str → Option Value} {base : Heap} {CM CI CB fM : Addr}
theorem scWith : FnScope ["self", "instructions"] ["self", "instructions"] (defScope (sMapM 7)) := ⟨rfl, rfl, rfl, by decide +kernel, rfl, by decide +kernel, by decide +kernel⟩
theorem ok_with {f : Addr} {fd fdM : FuncData} (F : FnP K "with_instructions" "Map.with_instructions" (sMapM 7) f fd) (T : MapF K mg CM fM) (GM : FnOk P w K mg base (L2.CX P w) 5 fM fdM nMapI (spMapI K CM CB)) (bM : Binds K fdM nMapI []) : FnOk P w K mg base (L2.CX P w) 7 f fd ["self", "instructions"] (spWith K CM CI CB) := by
  refine F.ok scWith (fun vs H Q E h => ?_) (fun cdv A outer s H vs Q E hr h => ?_)
  · obtain ⟨a, b, rows, sg, fs, is0, is, rfl, _⟩ := h
    rfl
  · obtain ⟨a, b, rows, sg, fs, is0, is, rfl, ⟨dx, li, lf, lt, xs, hp, hI, hF, _, _⟩, hfl, hb, sm, kN, kE⟩ := h
    refine ⟨_, pss_one (ps_ret (pe_make T.made GM hr rfl T.gM bM .nil (passes_call (W := fun cls d _ H => E cls d H) (takes_of rfl rfl rfl rfl) fun _ _ _ _ h => h) (pa_cons (pe_fld (pv 0) rfl) (pa_cons (pe_fld (pv 0) rfl) (pa_cons (pe_fld (pv 0) rfl) (pa_cons (pv 1) pa_nil)))))), ?_⟩
    refine mk_map (CI := CI) hfl sm (fun Qa h => ?_) kN kE
    exact ⟨_, rfl, a, CM, dx, _, .ref li, rfl, hp, T.cl, T.n1, mapFs_i .., _, rfl, a, CM, dx, _, .str (tx sg), rfl, hp, T.cl, T.n2, mapFs_s .., _, rfl, a, CM, dx, _, .ref lf, rfl, hp, T.cl, T.n3, mapFs_f .., _, rfl, h li lf b H (Same.refl H) hI hF hb⟩
theorem scAdd : FnScope ["self", "other"] ["self", "other"] (defScope (sMapM 12)) := ⟨rfl, rfl, rfl, by decide +kernel, rfl, by decide +kernel, by decide +kernel⟩
theorem ok_add {f : Addr} {fd fdM : FuncData} (F : FnP K "__add__" "Map.__add__" (sMapM 12) f fd) (T : MapF K mg CM fM) (GM : FnOk P w K mg base (L2.CX P w) 5 fM fdM nMapI (spMapI K CM CB)) (bM : Binds K fdM nMapI []) (gtuple : mg "tuple" = none) : FnOk P w K mg base (L2.CX P w) 7 f fd ["self", "other"] (spAdd K CM CI CB) := by
  refine F.ok scAdd (fun vs H Q E h => ?_) (fun cdv A outer s H vs Q E hr h => ?_)
  · obtain ⟨a, b, rows, sg, fs, is0, is, rfl, _⟩ := h
    rfl
  · obtain ⟨a, b, rows, sg, fs, is0, is, rfl, ⟨dx, li, lf, lt, xs, hp, hI, hF, hT, hD⟩, hfl, ⟨ys, hy, hE⟩, sm, kN, kE⟩ := h
    refine ⟨_, pss_one (ps_ret (pe_make T.made GM hr rfl T.gM bM .nil (passes_call (W := fun cls d _ H => E cls d H) (takes_of rfl rfl rfl rfl) fun _ _ _ _ h => h) (pa_cons (pe_fld (pv 0) rfl) (pa_cons (pe_fld (pv 0) rfl) (pa_cons (pe_fld (pv 0) rfl)
      (pa_cons (pe_op op_catA (pe_fld (pv 0) rfl) (pe_callTy call_tuple_of (by rfl) gtuple (by decide +kernel) (pa_cons (pv 1) pa_nil))) pa_nil)))))), ?_⟩
    refine mk_map (CI := CI) hfl sm (fun Qa h => ?_) kN kE
    have lx := dpAll_len hD
    have ly := dpAll_len hE
    have hl := sm.len
    rw [List.length_map] at lx ly
    rw [List.length_append] at hl
    have hsz : xs.length + ys.length ≤ sizeLine := small_le (by omega)
    refine ⟨_, rfl, a, CM, dx, _, .ref li, rfl, hp, T.cl, T.n1, mapFs_i .., _, rfl, a, CM, dx, _, .str (tx sg), rfl, hp, T.cl, T.n2, mapFs_s .., _, rfl, a, CM, dx, _, .ref lf, rfl, hp, T.cl, T.n3, mapFs_f .., _, rfl, a, CM, dx, _, .ref lt, rfl, hp, T.cl, T.n4, mapFs_t .., _, rfl, b, ys, rfl, ?_⟩
    have fin : ∀ (c : Addr) (H1 : Hp), Same H H1 → SqT K H1 c ys → rCatA K (.ref lt) (.ref c) H1 (fun v H' => tNil [some (V.ref a), some (V.ref b)] H' fun vs H1 => Qa (.ref li :: .str (tx sg) :: .ref lf :: v :: vs) H1) := fun c H1 s1 hc => by
      refine catA_read (xs := xs) (ys := ys) (Same.tup s1 hT) hc hsz fun p H2 s2 hp2 => ?_
      refine nilArgs (h li lf p H2 (s1.trans s2) (hI.same (s1.trans s2)) (Same.tup (s1.trans s2) hF) ⟨_, .inr hp2, ?_⟩)
      rw [List.map_append]
      exact dpAll_app (Same.dpAll (s1.trans s2) hD) (Same.dpAll (s1.trans s2) hE)
    rcases hy with hy | hy
    · exact .inl ⟨hy, fun t ht => fin t _ (Same.new (Same.refl H) ht) (.inl (.inl upd_same))⟩
    · exact .inr ⟨hy, fin b H (Same.refl H) hy⟩
end
end Om

namespace Om
open PySem PySem.Spec PyProof.Rows L2
theorem mapFs_no (li : Addr) (sg : Str) (lf lt : Addr) {m : Str} (h1 : m ≠ "_island") (h2 : m ≠ "_signs") (h3 : m ≠ "_facings") (h4 : m ≠ "_instructions") : (mapFs li sg lf lt).lookup m = none := by
  unfold mapFs
  rw [lookup_putF, if_neg h4, lookup_putF, if_neg h3, lookup_putF, if_neg h2, lookup_putF, if_neg h1]
  rfl
section
variable {P : Program} {w : World} {K : PySem.W.Frag} {mg : Str → Option Value} {base : Heap} {CM CI CB fM : Addr}
theorem scM1 (i : Nat) (h : i = 1 ∨ i = 2 ∨ i = 3 ∨ i = 4 ∨ i = 9) : FnScope ["self"] ["self"] (defScope (sMapM i)) := by
  rcases h with rfl | rfl | rfl | rfl | rfl <;> exact ⟨rfl, rfl, rfl, by decide +kernel, rfl, by decide +kernel, by decide +kernel⟩
theorem ok_mIsl {f : Addr} {fd : FuncData} (F : FnP K "island" "Map.island" (sMapM 1) f fd) (T : MapF K mg CM fM) : FnOk P w K mg base CX0 1 f fd ["self"] (getSp CM "_island") := by
  refine F.ok (scM1 1 (by simp)) (fun vs H Q E h => ?_) (fun cdv A outer s H vs Q E hr h => ?_)
  · obtain ⟨a, dx, fs, v, rfl, _⟩ := h
    rfl
  · obtain ⟨a, dx, fs, v, rfl, hp, hl, k⟩ := h
    exact ⟨_, PSs.nox (pss_one (ps_ret (pe_fld (pv 0) rfl))), _, rfl, a, CM, dx, _, v, rfl, hp, T.cl, T.n1, hl, k⟩
theorem ok_mSig {f : Addr} {fd : FuncData} (F : FnP K "signs" "Map.signs" (sMapM 2) f fd) (T : MapF K mg CM fM) : FnOk P w K mg base CX0 1 f fd ["self"] (getSp CM "_signs") := by
  refine F.ok (scM1 2 (by simp)) (fun vs H Q E h => ?_) (fun cdv A outer s H vs Q E hr h => ?_)
  · obtain ⟨a, dx, fs, v, rfl, _⟩ := h
    rfl
  · obtain ⟨a, dx, fs, v, rfl, hp, hl, k⟩ := h
    exact ⟨_, PSs.nox (pss_one (ps_ret (pe_fld (pv 0) rfl))), _, rfl, a, CM, dx, _, v, rfl, hp, T.cl, T.n2, hl, k⟩
theorem ok_mFac {f : Addr} {fd : FuncData} (F : FnP K "facings" "Map.facings" (sMapM 3) f fd) (T : MapF K mg CM fM) : FnOk P w K mg base CX0 1 f fd ["self"] (getSp CM "_facings") := by
  refine F.ok (scM1 3 (by simp)) (fun vs H Q E h => ?_) (fun cdv A outer s H vs Q E hr h => ?_)
  · obtain ⟨a, dx, fs, v, rfl, _⟩ := h
    rfl
  · obtain ⟨a, dx, fs, v, rfl, hp, hl, k⟩ := h
    exact ⟨_, PSs.nox (pss_one (ps_ret (pe_fld (pv 0) rfl))), _, rfl, a, CM, dx, _, v, rfl, hp, T.cl, T.n3, hl, k⟩
theorem ok_mIns {f : Addr} {fd : FuncData} (F : FnP K "instructions" "Map.instructions" (sMapM 4) f fd) (T : MapF K mg CM fM) : FnOk P w K mg base CX0 1 f fd ["self"] (getSp CM "_instructions") := by
  refine F.ok (scM1 4 (by simp)) (fun vs H Q E h => ?_) (fun cdv A outer s H vs Q E hr h => ?_)
  · obtain ⟨a, dx, fs, v, rfl, _⟩ := h
    rfl
  · obtain ⟨a, dx, fs, v, rfl, hp, hl, k⟩ := h
    exact ⟨_, PSs.nox (pss_one (ps_ret (pe_fld (pv 0) rfl))), _, rfl, a, CM, dx, _, v, rfl, hp, T.cl, T.n4, hl, k⟩
theorem ok_mLen {f : Addr} {fd : FuncData} (F : FnP K "__len__" "Map.__len__" (sMapM 9) f fd) (T : MapF K mg CM fM) (glen : mg "len" = none) : FnOk P w K mg base CX0 1 f fd ["self"] (spMLen K CM CI) := by
  refine F.ok (scM1 9 (by simp)) (fun vs H Q E h => ?_) (fun cdv A outer s H vs Q E hr h => ?_)
  · obtain ⟨a, rows, sg, fs, is, rfl, _⟩ := h
    rfl
  · obtain ⟨a, rows, sg, fs, is, rfl, ⟨dx, li, lf, lt, xs, hp, hI, hF, hT, hD⟩, k⟩ := h
    refine ⟨_, PSs.nox (pss_one (ps_ret (pe_callB call_len_seq (by rfl) glen PySem.boot_len (pa_cons (pe_fld (pv 0) rfl) pa_nil)))), ?_⟩
    refine ⟨_, rfl, a, CM, dx, _, .ref lt, rfl, hp, T.cl, T.n4, mapFs_t .., lt, _, rfl, .inr hT, ?_⟩
    rw [dpAll_len hD, List.length_map]
    exact k
theorem scMGet : FnScope ["self", "index"] ["self", "index"] (defScope (sMapM 10)) := ⟨rfl, rfl, rfl, by decide +kernel, rfl, by decide +kernel, by decide +kernel⟩
theorem ok_mGet {f : Addr} {fd : FuncData} (F : FnP K "__getitem__" "Map.__getitem__" (sMapM 10) f fd) (T : MapF K mg CM fM) : FnOk P w K mg base CX0 1 f fd ["self", "index"] (spMGet K CM CI) := by
  refine F.ok scMGet (fun vs H Q E h => ?_) (fun cdv A outer s H vs Q E hr h => ?_)
  · obtain ⟨a, j, i, rows, sg, fs, is, rfl, _⟩ := h
    rfl
  · obtain ⟨a, j, i, rows, sg, fs, is, rfl, ⟨dx, li, lf, lt, xs, hp, hI, hF, hT, hD⟩, hi, k⟩ := h
    obtain ⟨v, h1, h2⟩ := dpAll_at hD (i := j) (e := i.d) (by rw [List.getElem?_map, hi]; rfl)
    refine ⟨_, PSs.nox (pss_one (ps_ret (pe_ix ix_tup (pe_fld (pv 0) rfl) (pv 1) (fun _ _ => rfl)))), ?_⟩
    exact ⟨_, rfl, a, CM, dx, _, .ref lt, rfl, hp, T.cl, T.n4, mapFs_t .., _, rfl, lt, xs, _, v, rfl, rfl, hT, atI_nat h1, k v h2⟩
theorem scUpto : FnScope ["self", "number"] ["self", "number"] (defScope (sMapM 5)) := ⟨rfl, rfl, rfl, by decide +kernel, rfl, by decide +kernel, by decide +kernel⟩
theorem ok_upto {f gW : Addr} {fd fdW : FuncData} (F : FnP K "until" "Map.until" (sMapM 5) f fd) (T : MapF K mg CM fM) (mW : Meth K CM "with_instructions" gW) (GW : FnOk P w K mg base (L2.CX P w) 7 gW fdW ["self", "instructions"] (spWith K CM CI CB)) (bW : Binds K fdW ["self", "instructions"] [])
    (gmax : mg "max" = none) : FnOk P w K mg base (L2.CX P w) 8 f fd ["self", "number"] (spUpto K CM CI) := by
  refine F.ok scUpto (fun vs H Q E h => ?_) (fun cdv A outer s H vs Q E hr h => ?_)
  · obtain ⟨a, n, rows, sg, fs, is, rfl, _⟩ := h
    rfl
  · obtain ⟨a, n, rows, sg, fs, is, rfl, hM, hfl, sm, hb, k⟩ := h
    obtain ⟨dx, li, lf, lt, xs, hp, hI, hF, hT, hD⟩ := id hM
    refine ⟨_, pss_one (ps_ret (pe_meth (pv 0) T.cl mW GW hr bW .nil (passes_call (W := fun cls d _ H => E cls d H) (takes_of rfl rfl rfl rfl) fun _ _ _ _ h => h)
      (pa_cons (pe_slice sl_tupA (pe_fld (pv 0) rfl) po_none (po_some (pe_callB (call_max2 rfl) (by rfl) gmax (by decide +kernel) (pa_cons pe_int (pa_cons (pv 1) pa_nil))))) pa_nil))), ?_⟩
    refine ⟨_, rfl, a, dx, _, rfl, hp, mapFs_no _ _ _ _ (by decide +kernel) (by decide +kernel) (by decide +kernel) (by decide +kernel), ?_⟩
    refine ⟨_, rfl, a, CM, dx, _, .ref lt, rfl, hp, T.cl, T.n4, mapFs_t .., ?_⟩
    refine noPart ?_
    refine ⟨_, rfl, _, _, rfl, _, rfl, ?_⟩
    have en : (if n > 0 then n else 0) = ((n.toNat : Nat) : Int) := by split <;> omega
    rw [en]
    refine slA_read hT fun p H1 s1 hp1 => ?_
    rw [cutV_upto] at hp1
    refine nilArgs ?_
    obtain ⟨m1, m2, m3, m4⟩ := mapBad_none.mp hb
    refine ⟨a, p, rows, sg, fs, is, is.take n.toNat, rfl, hM.same s1, hfl, ⟨_, .inr hp1, ?_⟩, ⟨?_, fun i hi => sm.all i (List.mem_of_mem_take hi)⟩, fun _ x H' s2 hx h => k x H' (s1.trans s2) (Same.free s1 hx) h, fun m em => ?_⟩
    · rw [List.map_take]
      exact dpAll_take _ (Same.dpAll s1 hD)
    · rw [List.length_take]
      have := sm.len
      omega
    · have e := mapBad_none.mpr ⟨m1, m2, fun x hx => m3 x (List.mem_of_mem_take hx), show (is.take n.toNat).length ≤ 20 by rw [List.length_take]; omega⟩
      rw [e] at em
      cases em
end
end Om


namespace Om
open PySem PySem.Spec PyProof.Rows L2 LamX
theorem Same.updN {H H' : Hp} {D : Addr} {o : HO} (s : Same H H') (h : H D = none) : Same H (upd H' D o) := by
  intro b q hb
  rw [upd_ne (ne_of_none hb h)]
  exact s _ _ hb
theorem Same.none {H H' : Hp} {a : Addr} (s : Same H H') (h : H' a = none) : H a = none := by
  cases e : H a with
  | none => rfl
  | some o => rw [s _ _ e] at h; cases h
/-! ### cells of ints, land or not -/
abbrev IC := Int × Int
def icv (c : IC) : List V := [.int c.1, .int c.2]
def ick (c : IC) : List L2.Key := [.inl c.1, .inl c.2]
theorem ick_v (c : IC) : (ick c).map kV = icv c := rfl
theorem ick_inj {c d : IC} (h : ick c = ick d) : c = d := by
  unfold ick at h
  injection h with h1 h2
  injection h2 with h2 _
  exact Prod.ext (Sum.inl.inj h1) (Sum.inl.inj h2)
abbrev TI := List (Addr × IC)
def CI2 (H : Hp) (t : TI) : Prop := ∀ p ∈ t, H p.1 = some (.tup (icv p.2))
def vzI (t : TI) : List V := t.map fun p => V.ref p.1
def czI (t : TI) : List IC := t.map fun p => p.2
theorem CI2.same {H H' : Hp} {t : TI} (h : CI2 H t) (s : Same H H') : CI2 H' t := fun p hp => s _ _ (h p hp)
theorem vzI_len (t : TI) : (vzI t).length = t.length := List.length_map ..
theorem czI_len (t : TI) : (czI t).length = t.length := List.length_map ..
theorem vzI_app (t u : TI) : vzI (t ++ u) = vzI t ++ vzI u := List.map_append
theorem czI_app (t u : TI) : czI (t ++ u) = czI t ++ czI u := List.map_append
def adjI (c : IC) (f : Nat) : IC := (c.1 + rsL.getD f 0, c.2 + csL.getD f 0)
def adjL (c : IC) : List IC := (List.range 4).map (adjI c)
/-- a global name of a tuple of ints -/
structure TupF (K : PySem.W.Frag) (mg : Str → Option Value) (x : Str) (xs : List Int) : Prop where
  ex : ∃ p, mg x = some (.ref p) ∧ ∀ H, SqT K H p (xs.map V.int)
abbrev sNextC : Stmt := top 23
def spNextC (K : PySem.W.Frag) : Sp := fun vs H Q _ => ∃ (a : Addr) (c : IC) (f : Nat), vs = [.ref a] ∧ SqT K H a [.int c.1, .int c.2, .int (f : Nat)] ∧ f < 4 ∧ ∀ p, H p = none → Q (.ref p) (upd H p (.tup (icv (adjI c f))))
section
variable {P : Program} {w : World} {K : PySem.W.Frag} {mg : Str → Option Value} {base : Heap}
abbrev nNC : List Str := ["state", "row", "column", "facing"]
theorem scNC : FnScope nNC ["state"] (defScope sNextC) := ⟨rfl, rfl, rfl, by decide +kernel, rfl, by decide +kernel, by decide +kernel⟩
theorem ok_nextC {f : Addr} {fd : FuncData} (F : FnP K "next_cell" "next_cell" sNextC f fd) (gr : TupF K mg "ROW_STEPS" rsL) (gc : TupF K mg "COLUMN_STEPS" csL) : FnOk P w K mg base CX0 1 f fd ["state"] (spNextC K) := by
  obtain ⟨pr, gr, hrs⟩ := gr.ex
  obtain ⟨pc, gc, hcs⟩ := gc.ex
  refine F.ok scNC (fun vs H Q E h => ?_) (fun cdv A outer s H vs Q E hr h => ?_)
  · obtain ⟨a, c, f, rfl, _⟩ := h
    rfl
  · obtain ⟨a, c, f, rfl, hS, hf, k⟩ := h
    have nd := scNC.nd
    refine ⟨_, PSs.nox (pss_cons (ps_asg (pv 0) (pg_tup rfl (pgs_cons (pg_name (i := 1) nd rfl (.inl rfl)) (pgs_cons (pg_name (i := 2) nd rfl (.inl rfl)) (pgs_cons (pg_name (i := 3) nd rfl (.inl rfl)) pgs_nil)))))
      (pss_one (ps_ret (pe_tup (pa_cons (pe_op op_add (pv 1) (pe_ix ix_tup (pe_glob (v := .ref pr) rfl gr rfl) (pv 3) (fun _ _ => rfl))) (pa_cons (pe_op op_add (pv 2) (pe_ix ix_tup (pe_glob (v := .ref pc) rfl gc rfl) (pv 3) (fun _ _ => rfl))) pa_nil)))))), ?_⟩
    refine ⟨_, rfl, a, _, rfl, hS, rfl, _, _, rfl, _, _, rfl, _, _, rfl, rfl, ?_⟩
    have ar : atI (rsL.map V.int) ((f : Nat) : Int) = some (.int (rsL.getD f 0)) := by
      refine atI_nat ?_
      rw [List.getElem?_map, List.getD_eq_getElem?_getD, List.getElem?_eq_getElem (show f < rsL.length from hf)]
      rfl
    have ac : atI (csL.map V.int) ((f : Nat) : Int) = some (.int (csL.getD f 0)) := by
      refine atI_nat ?_
      rw [List.getElem?_map, List.getD_eq_getElem?_getD, List.getElem?_eq_getElem (show f < csL.length from hf)]
      rfl
    refine ⟨_, rfl, _, rfl, pr, _, _, _, rfl, rfl, hrs H, ar, _, _, rfl, rfl, ?_⟩
    refine ⟨_, rfl, _, rfl, pc, _, _, _, rfl, rfl, hcs H, ac, _, _, rfl, rfl, ?_⟩
    exact ⟨by show 2 ≤ sizeLine; decide, fun p hp => k p hp⟩
end
end Om

namespace Om
open PySem PySem.Spec PyProof.Rows L2 LamX
abbrev sLSign : Stmt := top 59
abbrev sLNext : Stmt := top 60
def sgW (rows : List (List Nat)) (c : IC) : Nat := if insd rows c.1 c.2 then sgAt rows c.1 c.2 else 126
theorem sgW_has {rows : List (List Nat)} (c : IC) : decide (sgW rows c = 126) = !(hasC rows c.1 c.2) := by
  unfold sgW hasC
  cases insd rows c.1 c.2 with
  | false => rfl
  | true => simp
def spLSign (K : PySem.W.Frag) : Sp := fun vs H Q _ => ∃ (ra ca : Addr) (rows : List (List Nat)) (c : IC), vs = [.ref ra, .ref ca] ∧ SqT K H ra (rows.map vt) ∧ Good2 rows ∧ SqT K H ca (icv c) ∧ Q (vt [sgW rows c]) H
def spLNext (K : PySem.W.Frag) : Sp := fun vs H Q _ => ∃ (ca : Addr) (c : IC) (f : Nat), vs = [.ref ca, .int (f : Nat)] ∧ SqT K H ca (icv c) ∧ f < 4 ∧ ∀ H1, Same H H1 → ∀ p, H1 p = none → Q (.ref p) (upd H1 p (.tup (icv (adjI c f))))
section
variable {P : Program} {w : World} {K : PySem.W.Frag} {mg : Str → Option Value} {base : Heap} {CI CU fN pm gt : Addr}
abbrev nLS : List Str := ["_law_rows_here", "_law_cell"]
theorem scLS : FnScope nLS ["_law_rows_here", "_law_cell"] (defScope sLSign) := ⟨rfl, rfl, rfl, by decide +kernel, rfl, by decide +kernel, by decide +kernel⟩
theorem ok_lsign {f : Addr} {fd : FuncData} (F : FnP K "_law_sign" "_law_sign" sLSign f fd) (glen : mg "len" = none) : FnOk P w K mg base CX0 1 f fd ["_law_rows_here", "_law_cell"] (spLSign K) := by
  refine F.ok scLS (fun vs H Q E h => ?_) (fun cdv A outer s H vs Q E hr h => ?_)
  · obtain ⟨ra, ca, rows, c, rfl, _⟩ := h
    rfl
  · obtain ⟨ra, ca, rows, c, rfl, hS, g, hC, k⟩ := h
    have nd := scLS.nd
    refine ⟨_, PSs.nox (pss_cons (ps_if (PW.pt (pw_or (pt_not (pt_chain op_le op_lt pe_int (pe_ix ix_tup (pv 1) pe_int (fun _ _ => rfl)) (pe_callB call_len_seq (by rfl) glen PySem.boot_len (pa_cons (pv 0) pa_nil))))
        (pw_or1 (pt_not (pt_chain op_le op_lt pe_int (pe_ix ix_tup (pv 1) pe_int (fun _ _ => rfl)) (pe_callB call_len_str (by rfl) glen PySem.boot_len (pa_cons (pe_ix ix_tup (pv 0) pe_int (fun _ _ => rfl)) pa_nil)))))))
        (pss_one (ps_ret pe_str)) pss_nil)
      (pss_one (ps_ret (pe_ix ix_str (pe_ix ix_tup (pv 0) (pe_ix ix_tup (pv 1) pe_int (fun _ _ => rfl)) (fun _ _ => rfl)) (pe_ix ix_tup (pv 1) pe_int (fun _ _ => rfl)) (fun _ _ => rfl))))), ?_⟩
    have ez : (Str.ofString "~") = tx [126] := by decide +kernel
    have kw : insd rows c.1 c.2 = false → Q (.str (Str.ofString "~")) H := fun e => by
      rw [ez]
      have e2 : sgW rows c = 126 := by unfold sgW; rw [if_neg (by rw [e]; simp)]
      rw [e2] at k
      exact k
    obtain ⟨r0, rs, hrs⟩ : ∃ r0 rs, rows = r0 :: rs := by
      cases rows with
      | nil => exact absurd rfl g.toShp.ne
      | cons r0 rs => exact ⟨r0, rs, rfl⟩
    have hr0 : (tx r0).length ≤ sizeLine := by rw [tx_len]; exact small_le (g.toShp.row r0 (by rw [hrs]; exact List.mem_cons_self ..))
    have hat0 : atI (rows.map vt) 0 = some (vt r0) := by rw [hrs]; exact at0
    have hh : (rows.headD []) = r0 := by rw [hrs]; rfl
    have hI : insd rows c.1 c.2 = (decide (0 ≤ c.1) && decide (c.1 ≤ (rows.length : Int) - 1) && (decide (0 ≤ c.2) && decide (c.2 ≤ (r0.length : Int) - 1))) := by
      unfold insd inR
      rw [hh]
    refine ⟨_, rfl, ca, _, 0, _, rfl, rfl, hC, at0, _, _, rfl, rfl, _, rfl, ?_⟩
    by_cases a1 : 0 ≤ c.1
    · refine iteT' (decide_eq_true a1) ?_
      refine ⟨_, rfl, ra, _, rfl, .inr hS, _, _, rfl, rfl, _, rfl, ?_⟩
      by_cases a2 : c.1 < ((rows.map vt).length : Int)
      · refine iteF' (by rw [decide_eq_true a2]; rfl) ?_
        refine ⟨_, rfl, ca, _, 1, _, rfl, rfl, hC, rfl, _, _, rfl, rfl, _, rfl, ?_⟩
        by_cases a3 : 0 ≤ c.2
        · refine iteT' (decide_eq_true a3) ?_
          refine ⟨_, rfl, ra, _, 0, _, rfl, rfl, hS, hat0, _, rfl, hr0, _, _, rfl, rfl, _, rfl, ?_⟩
          by_cases a4 : c.2 < ((tx r0).length : Int)
          · refine iteF' (by rw [decide_eq_true a4]; rfl) ?_
            have e : insd rows c.1 c.2 = true := by
              rw [hI, decide_eq_true a1, decide_eq_true a3, decide_eq_true (p := c.1 ≤ (rows.length : Int) - 1) (by rw [List.length_map] at a2; omega), decide_eq_true (p := c.2 ≤ (r0.length : Int) - 1) (by rw [tx_len] at a4; omega)]
              rfl
            obtain ⟨r, ch, h1, h2, h3, hm, hi, hj⟩ := insd_at g e
            have ei : atI (rows.map vt) c.1 = some (vt r) := by
              have z := atI_nat (xs := rows.map vt) (j := c.1.toNat) (v := vt r) (by rw [List.getElem?_map, h1]; rfl)
              rwa [Int.toNat_of_nonneg hi] at z
            have ej : atI (tx r).cps.toList c.2 = some ch := by
              have z := atI_nat (xs := (tx r).cps.toList) (j := c.2.toNat) (v := ch) (by rw [tx_cps]; exact h2)
              rwa [Int.toNat_of_nonneg hj] at z
            have e2 : sgW rows c = ch := by unfold sgW; rw [if_pos e]; exact h3
            rw [e2] at k
            exact ⟨_, rfl, _, rfl, ca, _, 0, _, rfl, rfl, hC, at0, ra, _, c.1, _, rfl, rfl, hS, ei, _, rfl, ca, _, 1, _, rfl, rfl, hC, rfl, _, c.2, ch, rfl, rfl, (by rw [tx_len]; exact small_le (g.toShp.row r hm)), ej, k⟩
          · refine iteT' (by rw [decide_eq_false a4]; rfl) (kw ?_)
            rw [hI, decide_eq_false (p := c.2 ≤ (r0.length : Int) - 1) (by rw [tx_len] at a4; omega), Bool.and_false, Bool.and_false]
        · refine iteF' (decide_eq_false a3) ⟨_, rfl, iteT' rfl (kw ?_)⟩
          rw [hI, decide_eq_false a3, Bool.false_and, Bool.and_false]
      · refine iteT' (by rw [decide_eq_false a2]; rfl) (kw ?_)
        rw [hI, decide_eq_false (p := c.1 ≤ (rows.length : Int) - 1) (by rw [List.length_map] at a2; omega), Bool.and_false, Bool.false_and]
    · refine iteF' (decide_eq_false a1) ⟨_, rfl, iteT' rfl (kw ?_)⟩
      rw [hI, decide_eq_false a1, Bool.false_and, Bool.false_and]
abbrev nLN : List Str := ["_law_cell", "_law_facing", "_law_down", "_law_right"]
theorem scLN : FnScope nLN ["_law_cell", "_law_facing"] (defScope sLNext) := ⟨rfl, rfl, rfl, by decide +kernel, rfl, by decide +kernel, by decide +kernel⟩
theorem ok_lnext {f : Addr} {fd : FuncData} (F : FnP K "_law_next" "_law_next" sLNext f fd) (gint : mg "int" = none) : FnOk P w K mg base CX0 1 f fd ["_law_cell", "_law_facing"] (spLNext K) := by
  refine F.ok scLN (fun vs H Q E h => ?_) (fun cdv A outer s H vs Q E hr h => ?_)
  · obtain ⟨ca, c, f, rfl, _⟩ := h
    rfl
  · obtain ⟨ca, c, f, rfl, hC, hf, k⟩ := h
    have nd := scLN.nd
    refine ⟨_, PSs.nox (pss_cons (ps_asg (pe_ix ix_list (pe_lst (pa_cons (pe_tup (pa_cons (pe_un un_neg pe_int) (pa_cons pe_int pa_nil))) (pa_cons (pe_tup (pa_cons pe_int (pa_cons pe_int pa_nil))) (pa_cons (pe_tup (pa_cons pe_int (pa_cons pe_int pa_nil))) (pa_cons (pe_tup (pa_cons pe_int (pa_cons (pe_un un_neg pe_int) pa_nil))) pa_nil)))))
        (pe_op op_mod (pe_callTy call_int1 (by rfl) gint boot_int (pa_cons (pv 1) pa_nil)) pe_int) (fun _ _ => rfl)) (pg_tup rfl (pgs_cons (pg_name (i := 2) nd rfl (.inl rfl)) (pgs_cons (pg_name (i := 3) nd rfl (.inl rfl)) pgs_nil))))
      (pss_one (ps_ret (pe_tup (pa_cons (pe_op op_add (pe_ix ix_tup (pv 0) pe_int (fun _ _ => rfl)) (pv 2)) (pa_cons (pe_op op_add (pe_ix ix_tup (pv 0) pe_int (fun _ _ => rfl)) (pv 3)) pa_nil)))))), ?_⟩
    refine ⟨_, rfl, by show 2 ≤ sizeLine; decide, fun p0 h0 => ?_⟩
    refine ⟨by show 2 ≤ sizeLine; decide, fun p1 h1 => ?_⟩
    refine ⟨by show 2 ≤ sizeLine; decide, fun p2 h2 => ?_⟩
    refine ⟨_, rfl, by show 2 ≤ sizeLine; decide, fun p3 h3 => ?_⟩
    refine ⟨by show 4 ≤ sizeLine; decide, fun l hl => ?_⟩
    have s0 : Same H (upd H p0 (.tup [.int (-1), .int 0])) := Same.new (Same.refl H) h0
    have e0 : (upd H p0 (.tup [.int (-1), .int 0])) p0 = some (.tup [.int (-1), .int 0]) := upd_same
    generalize upd H p0 (.tup [.int (-1), .int 0]) = H0 at s0 e0 h1 h2 h3 hl ⊢
    have s1 := Same.new (Same.refl H0) h1 (o := .tup [.int 0, .int 1])
    have e1 : (upd H0 p1 (.tup [.int 0, .int 1])) p1 = some (.tup [.int 0, .int 1]) := upd_same
    generalize upd H0 p1 (.tup [.int 0, .int 1]) = H1 at s1 e1 h2 h3 hl ⊢
    have s2 := Same.new (Same.refl H1) h2 (o := .tup [.int 1, .int 0])
    have e2 : (upd H1 p2 (.tup [.int 1, .int 0])) p2 = some (.tup [.int 1, .int 0]) := upd_same
    generalize upd H1 p2 (.tup [.int 1, .int 0]) = H2 at s2 e2 h3 hl ⊢
    have s3 := Same.new (Same.refl H2) h3 (o := .tup [.int 0, .int (-1)])
    have e3 : (upd H2 p3 (.tup [.int 0, .int (-1)])) p3 = some (.tup [.int 0, .int (-1)]) := upd_same
    generalize upd H2 p3 (.tup [.int 0, .int (-1)]) = H3 at s3 e3 hl ⊢
    have s4 := Same.new (Same.refl H3) hl (o := .lst [.ref p0, .ref p1, .ref p2, .ref p3])
    have e4 : (upd H3 l (.lst [.ref p0, .ref p1, .ref p2, .ref p3])) l = some (.lst [.ref p0, .ref p1, .ref p2, .ref p3]) := upd_same
    generalize upd H3 l (.lst [.ref p0, .ref p1, .ref p2, .ref p3]) = H4 at s4 e4 ⊢
    have s04 := (s0.trans s1).trans ((s2.trans s3).trans s4)
    have a0 := (s1.trans ((s2.trans s3).trans s4)) _ _ e0
    have a1 := ((s2.trans s3).trans s4) _ _ e1
    have a2 := (s3.trans s4) _ _ e2
    have a3 := s4 _ _ e3
    have hm : ((f : Nat) : Int) % 4 = ((f : Nat) : Int) := Int.emod_eq_of_lt (by omega) (by omega)
    have hC4 := Same.tup s04 hC
    obtain ⟨p, i, j, q1, q2, q3⟩ : ∃ (p : Addr) (i j : Int), [V.ref p0, V.ref p1, V.ref p2, V.ref p3][f]? = some (.ref p) ∧ H4 p = some (.tup [.int i, .int j]) ∧ (c.1 + i, c.2 + j) = adjI c f :=
      match f, hf with
      | 0, _ => ⟨p0, -1, 0, rfl, a0, rfl⟩
      | 1, _ => ⟨p1, 0, 1, rfl, a1, rfl⟩
      | 2, _ => ⟨p2, 1, 0, rfl, a2, rfl⟩
      | 3, _ => ⟨p3, 0, -1, rfl, a3, rfl⟩
    have hat : atI [V.ref p0, V.ref p1, V.ref p2, V.ref p3] (((f : Nat) : Int) % 4) = some (.ref p) := by
      rw [hm]
      exact atI_nat q1
    refine ⟨_, rfl, .inl ⟨_, rfl, _, _, rfl, rfl, (by show (0 : Int) < 4; decide), l, _, _, _, rfl, rfl, .inl (.inl e4), hat, ?_⟩⟩
    refine ⟨p, _, rfl, .inl (.inl q2), rfl, _, _, rfl, _, _, rfl, rfl, ?_⟩
    refine ⟨_, rfl, ca, _, 0, _, rfl, rfl, hC4, at0, _, rfl, _, _, rfl, rfl, _, rfl, ca, _, 1, _, rfl, rfl, hC4, rfl, _, rfl, _, _, rfl, rfl, by show 2 ≤ sizeLine; decide, fun q hq => ?_⟩
    have kk := k H4 s04 q hq
    rw [← q3] at kk
    exact kk
end
end Om

namespace Om
open PySem PySem.Spec PyProof.Rows L2 LamX He OmH
theorem ownB_ok {K : PySem.W.Frag} {C : Addr} {n : Str} (h : ownB K C n = true) : OwnM K C n (ma K C n) := by
  obtain ⟨h1, h2⟩ := ba h
  obtain ⟨h2, h3⟩ := ba h2
  exact ⟨eqO_ok h1, h2, h3⟩
end Om

/-! states; sign_at, sign_ahead, facing_by, _pace -/
namespace Om
open PySem PySem.Spec PyProof.Rows L2 LamX
abbrev ST := IC × Nat
def stv (s : ST) : List V := [.int s.1.1, .int s.1.2, .int (s.2 : Nat)]
abbrev TS := List (Addr × ST)
def CS (H : Hp) (t : TS) : Prop := ∀ p ∈ t, H p.1 = some (.tup (stv p.2))
def vzS (t : TS) : List V := t.map fun p => V.ref p.1
def csS (t : TS) : List ST := t.map fun p => p.2
theorem CS.same {H H' : Hp} {t : TS} (h : CS H t) (s : Same H H') : CS H' t := fun p hp => s _ _ (h p hp)
theorem vzS_len (t : TS) : (vzS t).length = t.length := List.length_map ..
theorem csS_len (t : TS) : (csS t).length = t.length := List.length_map ..
theorem vzS_app (t u : TS) : vzS (t ++ u) = vzS t ++ vzS u := List.map_append
theorem csS_app (t u : TS) : csS (t ++ u) = csS t ++ csS u := List.map_append
theorem CS.one {H : Hp} {a : Addr} {s : ST} (h : H a = some (.tup (stv s))) : CS H [(a, s)] := fun p hp => by
  rw [List.mem_singleton.mp hp]
  exact h
theorem CS.app {H : Hp} {t u : TS} (h1 : CS H t) (h2 : CS H u) : CS H (t ++ u) := fun p hp => (List.mem_append.mp hp).elim (h1 p) (h2 p)
theorem CS.updL {H : Hp} {D : Addr} {ys zs : List V} {t : TS} (h : CS H t) (hD : H D = some (.lst ys)) : CS (upd H D (.lst zs)) t := fun p hp => by
  rw [upd_ne (ne_of (h p hp) hD fun e => by cases e)]
  exact h p hp
theorem atS {t : TS} {j : Nat} {x : V} (h : (vzS t)[j]? = some x) : ∃ q, t[j]? = some q ∧ x = .ref q.1 ∧ q ∈ t := by
  unfold vzS at h
  rw [List.getElem?_map] at h
  obtain ⟨q, hq, rfl⟩ := Option.map_eq_some_iff.mp h
  exact ⟨q, hq, rfl, List.mem_of_getElem? hq⟩
/-- a state that faces another way -/
def turnS (s : ST) (t : Int) : ST := (s.1, (((s.2 : Nat) : Int) + t).emod 4 |>.toNat)
def paceS (s : ST) : ST := (adjI s.1 s.2, s.2)
def aheadS (rows : List (List Nat)) (s : ST) : Nat := sgW rows (adjI s.1 s.2)
theorem turnS_lt (s : ST) (t : Int) : (turnS s t).2 < 4 := by
  have h1 := Int.emod_nonneg (((s.2 : Nat) : Int) + t) (show (4 : Int) ≠ 0 by decide)
  have h2 := Int.emod_lt_of_pos (((s.2 : Nat) : Int) + t) (show (0 : Int) < 4 by decide)
  show ((((s.2 : Nat) : Int) + t) % 4).toNat < 4
  omega
theorem turnS_v (s : ST) (t : Int) : stv (turnS s t) = [.int s.1.1, .int s.1.2, .int ((((s.2 : Nat) : Int) + t) % 4)] := by
  have h1 := Int.emod_nonneg (((s.2 : Nat) : Int) + t) (show (4 : Int) ≠ 0 by decide)
  show [V.int s.1.1, V.int s.1.2, V.int (((((s.2 : Nat) : Int) + t) % 4).toNat : Nat)] = _
  rw [Int.toNat_of_nonneg h1]
abbrev sSgAt : Stmt := top 22
abbrev sSgAh : Stmt := top 24
abbrev sFaBy : Stmt := top 25
abbrev sPac : Stmt := top 28
def spSgAt (K : PySem.W.Frag) : Sp := fun vs H Q _ => ∃ (ra : Addr) (rows : List (List Nat)) (c : IC), vs = [.ref ra, .int c.1, .int c.2] ∧ SqT K H ra (rows.map vt) ∧ Good2 rows ∧ Q (vt [sgW rows c]) H
def spSgAh (K : PySem.W.Frag) : Sp := fun vs H Q _ => ∃ (ra sa : Addr) (rows : List (List Nat)) (s : ST), vs = [.ref ra, .ref sa] ∧ SqT K H ra (rows.map vt) ∧ Good2 rows ∧ H sa = some (.tup (stv s)) ∧ s.2 < 4 ∧ ∀ H', Same H H' → Q (vt [aheadS rows s]) H'
def spFaBy : Sp := fun vs H Q _ => ∃ (sa : Addr) (s : ST) (t : Int), vs = [.ref sa, .int t] ∧ H sa = some (.tup (stv s)) ∧ ∀ p, H p = none → Q (.ref p) (upd H p (.tup (stv (turnS s t))))
def spPac : Sp := fun vs H Q _ => ∃ (sa : Addr) (s : ST), vs = [.ref sa] ∧ H sa = some (.tup (stv s)) ∧ s.2 < 4 ∧ ∀ H1, Same H H1 → ∀ p, H1 p = none → Q (.ref p) (upd H1 p (.tup (stv (paceS s))))
section
variable {P : Program} {w : World} {K : PySem.W.Frag} {mg : Str → Option Value} {base : Heap}
theorem scSgAt : FnScope ["rows", "row", "column"] ["rows", "row", "column"] (defScope sSgAt) := ⟨rfl, rfl, rfl, by decide +kernel, rfl, by decide +kernel, by decide +kernel⟩
theorem ok_sgat {f : Addr} {fd : FuncData} (F : FnP K "sign_at" "sign_at" sSgAt f fd) (glen : mg "len" = none) (gw : ∃ t, mg "WATER" = some (.str (Str.ofString "~") t)) : FnOk P w K mg base CX0 1 f fd ["rows", "row", "column"] (spSgAt K) := by
  obtain ⟨t0, gw⟩ := gw
  refine F.ok scSgAt (fun vs H Q E h => ?_) (fun cdv A outer s H vs Q E hr h => ?_)
  · obtain ⟨ra, rows, c, rfl, _⟩ := h
    rfl
  · obtain ⟨ra, rows, c, rfl, hS, g, k⟩ := h
    have nd := scSgAt.nd
    refine ⟨_, PSs.nox (pss_cons (ps_if (PW.pt (pw_and (pt_chain op_le op_lt pe_int (pv 1) (pe_callB call_len_seq (by rfl) glen PySem.boot_len (pa_cons (pv 0) pa_nil)))
        (pw_and1 (pt_chain op_le op_lt pe_int (pv 2) (pe_callB call_len_str (by rfl) glen PySem.boot_len (pa_cons (pe_ix ix_tup (pv 0) pe_int (fun _ _ => rfl)) pa_nil))))))
        (pss_one (ps_ret (pe_ix ix_str (pe_ix ix_tup (pv 0) (pv 1) (fun _ _ => rfl)) (pv 2) (fun _ _ => rfl)))) pss_nil)
      (pss_one (ps_ret (pe_glob (v := .str (Str.ofString "~")) rfl gw ⟨_, rfl⟩)))), ?_⟩
    have ez : (Str.ofString "~") = tx [126] := by decide +kernel
    have kw : insd rows c.1 c.2 = false → Q (.str (Str.ofString "~")) H := fun e => by
      rw [ez]
      have e2 : sgW rows c = 126 := by unfold sgW; rw [if_neg (by rw [e]; simp)]
      rw [e2] at k
      exact k
    obtain ⟨r0, rs, hrs⟩ : ∃ r0 rs, rows = r0 :: rs := by
      cases rows with
      | nil => exact absurd rfl g.toShp.ne
      | cons r0 rs => exact ⟨r0, rs, rfl⟩
    have hr0 : (tx r0).length ≤ sizeLine := by rw [tx_len]; exact small_le (g.toShp.row r0 (by rw [hrs]; exact List.mem_cons_self ..))
    have hat0 : atI (rows.map vt) 0 = some (vt r0) := by rw [hrs]; exact at0
    have hI : insd rows c.1 c.2 = (decide (0 ≤ c.1) && decide (c.1 ≤ (rows.length : Int) - 1) && (decide (0 ≤ c.2) && decide (c.2 ≤ (r0.length : Int) - 1))) := by
      unfold insd inR
      rw [show (rows.headD []) = r0 by rw [hrs]; rfl]
    refine ⟨_, rfl, _, _, rfl, rfl, _, rfl, ?_⟩
    by_cases a1 : 0 ≤ c.1
    case neg =>
      refine iteF' (decide_eq_false a1) ⟨_, rfl, iteF' rfl (iteF' rfl (kw ?_))⟩
      rw [hI, decide_eq_false a1, Bool.false_and, Bool.false_and]
    refine iteT' (decide_eq_true a1) ?_
    refine ⟨_, rfl, ra, _, rfl, .inr hS, _, _, rfl, rfl, _, rfl, ?_⟩
    by_cases a2 : c.1 < ((rows.map vt).length : Int)
    case neg =>
      refine iteF' (decide_eq_false a2) (iteF' rfl (kw ?_))
      rw [hI, decide_eq_false (p := c.1 ≤ (rows.length : Int) - 1) (by rw [List.length_map] at a2; omega), Bool.and_false, Bool.false_and]
    refine iteT' (decide_eq_true a2) ?_
    refine ⟨_, rfl, _, _, rfl, rfl, _, rfl, ?_⟩
    by_cases a3 : 0 ≤ c.2
    case neg =>
      refine iteF' (decide_eq_false a3) ⟨_, rfl, iteF' rfl (kw ?_)⟩
      rw [hI, decide_eq_false a3, Bool.false_and, Bool.and_false]
    refine iteT' (decide_eq_true a3) ?_
    refine ⟨_, rfl, ra, _, 0, _, rfl, rfl, hS, hat0, _, rfl, hr0, _, _, rfl, rfl, _, rfl, ?_⟩
    by_cases a4 : c.2 < ((tx r0).length : Int)
    case neg =>
      refine iteF' (decide_eq_false a4) (kw ?_)
      rw [hI, decide_eq_false (p := c.2 ≤ (r0.length : Int) - 1) (by rw [tx_len] at a4; omega), Bool.and_false, Bool.and_false]
    refine iteT' (decide_eq_true a4) ?_
    have e : insd rows c.1 c.2 = true := by
      rw [hI, decide_eq_true a1, decide_eq_true a3, decide_eq_true (p := c.1 ≤ (rows.length : Int) - 1) (by rw [List.length_map] at a2; omega), decide_eq_true (p := c.2 ≤ (r0.length : Int) - 1) (by rw [tx_len] at a4; omega)]
      rfl
    obtain ⟨r, ch, h1, h2, h3, hm, hi, hj⟩ := insd_at g e
    have ei : atI (rows.map vt) c.1 = some (vt r) := by
      have z := atI_nat (xs := rows.map vt) (j := c.1.toNat) (v := vt r) (by rw [List.getElem?_map, h1]; rfl)
      rwa [Int.toNat_of_nonneg hi] at z
    have ejx : atI (tx r).cps.toList c.2 = some ch := by
      have z := atI_nat (xs := (tx r).cps.toList) (j := c.2.toNat) (v := ch) (by rw [tx_cps]; exact h2)
      rwa [Int.toNat_of_nonneg hj] at z
    have e2 : sgW rows c = ch := by unfold sgW; rw [if_pos e]; exact h3
    rw [e2] at k
    exact ⟨_, rfl, _, rfl, ra, _, c.1, _, rfl, rfl, hS, ei, _, rfl, _, c.2, ch, rfl, rfl, (by rw [tx_len]; exact small_le (g.toShp.row r hm)), ejx, k⟩
abbrev nAh : List Str := ["rows", "state", "row", "column"]
theorem scSgAh : FnScope nAh ["rows", "state"] (defScope sSgAh) := ⟨rfl, rfl, rfl, by decide +kernel, rfl, by decide +kernel, by decide +kernel⟩
theorem ok_sgah {f : Addr} {fd : FuncData} (F : FnP K "sign_ahead" "sign_ahead" sSgAh f fd) (NC : Cal P w K mg base CX0 1 "next_cell" ["state"] (spNextC K)) (SG : Cal P w K mg base CX0 1 "sign_at" ["rows", "row", "column"] (spSgAt K)) : FnOk P w K mg base CX0 2 f fd ["rows", "state"] (spSgAh K) := by
  refine F.ok scSgAh (fun vs H Q E h => ?_) (fun cdv A outer s H vs Q E hr h => ?_)
  · obtain ⟨ra, sa, rows, c, rfl, _⟩ := h
    rfl
  · obtain ⟨ra, sa, rows, c, rfl, hS, g, hs, hf, k⟩ := h
    have nd := scSgAh.nd
    refine ⟨_, PSs.nox (pss_cons (ps_asg (pe_cal NC hr pass0 (pa_cons (pv 1) pa_nil)) (pg_tup rfl (pgs_cons (pg_name (i := 2) nd rfl (.inl rfl)) (pgs_cons (pg_name (i := 3) nd rfl (.inl rfl)) pgs_nil))))
      (pss_one (ps_ret (pe_cal SG hr pass0 (pa_cons (pv 0) (pa_cons (pv 2) (pa_cons (pv 3) pa_nil))))))), ?_⟩
    refine ⟨_, rfl, sa, c.1, c.2, rfl, .inl (.inl hs), hf, fun p hp => ?_⟩
    refine ⟨p, _, rfl, .inl (.inl upd_same), rfl, _, _, rfl, _, _, rfl, rfl, ?_⟩
    have s1 := Same.new (Same.refl H) hp (o := .tup (icv (adjI c.1 c.2)))
    refine ⟨_, rfl, _, rfl, _, rfl, ra, rows, adjI c.1 c.2, rfl, Same.tup s1 hS, g, k _ s1⟩
abbrev nFb : List Str := ["state", "turn", "row", "column", "facing"]
theorem scFaBy : FnScope nFb ["state", "turn"] (defScope sFaBy) := ⟨rfl, rfl, rfl, by decide +kernel, rfl, by decide +kernel, by decide +kernel⟩
theorem ok_faby {f : Addr} {fd : FuncData} (F : FnP K "facing_by" "facing_by" sFaBy f fd) : FnOk P w K mg base CX0 1 f fd ["state", "turn"] spFaBy := by
  refine F.ok scFaBy (fun vs H Q E h => ?_) (fun cdv A outer s H vs Q E hr h => ?_)
  · obtain ⟨sa, c, t, rfl, _⟩ := h
    rfl
  · obtain ⟨sa, c, t, rfl, hs, k⟩ := h
    have nd := scFaBy.nd
    refine ⟨_, PSs.nox (pss_cons (ps_asg (pv 0) (pg_tup rfl (pgs_cons (pg_name (i := 2) nd rfl (.inl rfl)) (pgs_cons (pg_name (i := 3) nd rfl (.inl rfl)) (pgs_cons (pg_name (i := 4) nd rfl (.inl rfl)) pgs_nil)))))
      (pss_one (ps_ret (pe_tup (pa_cons (pv 2) (pa_cons (pv 3) (pa_cons (pe_op op_mod (pe_op op_add (pv 4) (pv 1)) pe_int) pa_nil))))))), ?_⟩
    refine ⟨_, rfl, sa, _, rfl, .inl (.inl hs), rfl, _, _, rfl, _, _, rfl, _, _, rfl, rfl, ?_⟩
    refine ⟨_, rfl, _, rfl, _, rfl, _, rfl, _, _, rfl, rfl, _, _, rfl, rfl, (by show (0 : Int) < 4; decide), by show 3 ≤ sizeLine; decide, fun p hp => ?_⟩
    have kk := k p hp
    rw [turnS_v] at kk
    exact kk
abbrev nPc : List Str := ["state", "row", "column"]
theorem scPac : FnScope nPc ["state"] (defScope sPac) := ⟨rfl, rfl, rfl, by decide +kernel, rfl, by decide +kernel, by decide +kernel⟩
theorem ok_pac {f : Addr} {fd : FuncData} (F : FnP K "_pace" "_pace" sPac f fd) (NC : Cal P w K mg base CX0 1 "next_cell" ["state"] (spNextC K)) : FnOk P w K mg base CX0 2 f fd ["state"] spPac := by
  refine F.ok scPac (fun vs H Q E h => ?_) (fun cdv A outer s H vs Q E hr h => ?_)
  · obtain ⟨sa, c, rfl, _⟩ := h
    rfl
  · obtain ⟨sa, c, rfl, hs, hf, k⟩ := h
    have nd := scPac.nd
    refine ⟨_, PSs.nox (pss_cons (ps_asg (pe_cal NC hr pass0 (pa_cons (pv 0) pa_nil)) (pg_tup rfl (pgs_cons (pg_name (i := 1) nd rfl (.inl rfl)) (pgs_cons (pg_name (i := 2) nd rfl (.inl rfl)) pgs_nil))))
      (pss_one (ps_ret (pe_tup (pa_cons (pv 1) (pa_cons (pv 2) (pa_cons (pe_ix ix_tup (pv 0) pe_int (fun _ _ => rfl)) pa_nil))))))), ?_⟩
    refine ⟨_, rfl, sa, c.1, c.2, rfl, .inl (.inl hs), hf, fun p hp => ?_⟩
    refine ⟨p, _, rfl, .inl (.inl upd_same), rfl, _, _, rfl, _, _, rfl, rfl, ?_⟩
    have s1 := Same.new (Same.refl H) hp (o := .tup (icv (adjI c.1 c.2)))
    exact ⟨_, rfl, _, rfl, _, rfl, sa, _, 2, _, rfl, rfl, .inl (.inl (s1 _ _ hs)), rfl, by show 3 ≤ sizeLine; decide, fun q hq => k _ s1 q hq⟩
end
end Om

/-! paces_ahead, _looked, paces_along -/
namespace Om
open PySem PySem.Spec PyProof.Rows L2 LamX
theorem sg_dec {a : Nat} (h : a ≠ 126) : decide (vt [a] = V.str (Str.ofString "~")) = false := by
  refine decide_eq_false fun e => h ?_
  have ez : (Str.ofString "~") = tx [126] := by decide +kernel
  rw [ez] at e
  have e2 : tx [a] = tx [126] := V.str.inj e
  have e3 := congrArg (fun s : Str => s.cps.toList) e2
  simp only [tx_cps] at e3
  exact (List.cons.inj e3).1
theorem sg_dec2 (a : Nat) : decide (vt [a] = V.str (Str.ofString "~")) = decide (a = 126) := by
  by_cases h : a = 126
  · subst h
    have ez : (Str.ofString "~") = tx [126] := by decide +kernel
    rw [decide_eq_true rfl, ez]
    exact decide_eq_true rfl
  · rw [sg_dec h, decide_eq_false h]
def paF (rows : List (List Nat)) : Nat → ST → List ST
  | 0, s => [s]
  | n + 1, s => if aheadS rows s = 126 then [s] else s :: paF rows n (paceS s)
theorem paF_len (rows : List (List Nat)) : ∀ (n : Nat) (s : ST), (paF rows n s).length ≤ n + 1
  | 0, _ => Nat.le_refl _
  | n + 1, s => by
    unfold paF
    split
    · exact Nat.succ_le_succ (Nat.zero_le _)
    · have := paF_len rows n (paceS s)
      rw [List.length_cons]
      omega
theorem paF_face (rows : List (List Nat)) : ∀ (n : Nat) (s x : ST), x ∈ paF rows n s → x.2 = s.2
  | 0, s, x, h => by rw [List.mem_singleton.mp h]
  | n + 1, s, x, h => by
    unfold paF at h
    split at h
    · rw [List.mem_singleton.mp h]
    · rcases List.mem_cons.mp h with rfl | h
      · rfl
      · exact paF_face rows n (paceS s) x h
abbrev sPA : Stmt := top 26
def spPA (K : PySem.W.Frag) : Sp := fun vs H Q _ => ∃ (ra sa : Addr) (rows : List (List Nat)) (s : ST) (m : Int), vs = [.ref ra, .ref sa, .int m] ∧ SqT K H ra (rows.map vt) ∧ Good2 rows ∧ H sa = some (.tup (stv s)) ∧ s.2 < 4 ∧ m ≤ 1000 ∧
  ∀ (D : Addr) (t : TS) (H' : Hp), Same H H' → H D = none → H' D = some (.lst (vzS t)) → CS H' t → csS t = paF rows m.toNat s → Q (.ref D) H'
section
variable {P : Program} {w : World} {K : PySem.W.Frag} {mg : Str → Option Value} {base : Heap}
abbrev nPA : List Str := ["rows", "state", "most", "states"]
theorem scPA : FnScope nPA ["rows", "state", "most"] (defScope sPA) := ⟨rfl, rfl, rfl, by decide +kernel, rfl, by decide +kernel, by decide +kernel⟩
theorem ok_pa {f : Addr} {fd : FuncData} (F : FnP K "paces_ahead" "paces_ahead" sPA f fd) (AH : Cal P w K mg base CX0 2 "sign_ahead" ["rows", "state"] (spSgAh K)) (PC : Cal P w K mg base CX0 2 "_pace" ["state"] spPac) (glen : mg "len" = none) (gw : ∃ t, mg "WATER" = some (.str (Str.ofString "~") t)) :
    FnOk P w K mg base CX0 3 f fd ["rows", "state", "most"] (spPA K) := by
  obtain ⟨t0, gw⟩ := gw
  refine F.ok scPA (fun vs H Q E h => ?_) (fun cdv A outer s H vs Q E hr h => ?_)
  · obtain ⟨ra, sa, rows, s, m, rfl, _⟩ := h
    rfl
  · obtain ⟨ra, sa, rows, s0, m, rfl, hS, g, hs, hf, hm, k⟩ := h
    have nd := scPA.nd
    refine ⟨_, PSs.nox (pss_cons (ps_set (i := 3) nd rfl (.inl rfl) (pe_lst (pa_cons (pv 1) pa_nil)))
      (pss_cons (ps_while PassesOwn.never (PW.pt (pw_and (pt_cmpR op_le (pe_callB call_len_seq (by rfl) glen PySem.boot_len (pa_cons (pv 3) pa_nil)) (pv 2) (nomark _))
          (pw_and1 (pt_cmpR op_ne (pe_cal AH hr pass0 (pa_cons (pv 0) (pa_cons (pe_ix ix_list (pv 3) (pe_un un_neg pe_int) (fun _ _ => rfl)) pa_nil))) (pe_glob (v := .str (Str.ofString "~")) rfl gw ⟨_, rfl⟩) (nomark _)))))
        (pss_one (ps_expr (pe_bm PySem.F.plainAttrs_list PySem.F.slot_list_append PySem.F.type_list_append mt_append (pv 3) (pa_cons (pe_cal PC hr pass0 (pa_cons (pe_ix ix_list (pv 3) (pe_un un_neg pe_int) (fun _ _ => rfl)) pa_nil)) pa_nil)))))
      (pss_one (ps_ret (pv 3))))), ?_⟩
    refine ⟨_, rfl, by show 1 ≤ sizeLine; decide, fun D hD => ?_⟩
    have sD := Same.new (Same.refl H) hD (o := .lst [.ref sa])
    refine ⟨fun m' σ H3 => ∃ (t : TS) (e : Addr × ST), σ = [some (.ref ra), some (.ref sa), some (.int m), some (.ref D)] ∧ Same H H3 ∧ H3 D = some (.lst (vzS (t ++ [e]))) ∧ CS H3 (t ++ [e]) ∧ e.2.2 = s0.2 ∧ csS t ++ paF rows (m.toNat - t.length) e.2 = paF rows m.toNat s0 ∧ t.length ≤ m.toNat ∧ m' = m.toNat - t.length,
      ⟨_, [], (sa, s0), rfl, sD, upd_same, CS.one (sD _ _ hs), rfl, rfl, Nat.zero_le _, rfl⟩, ?_⟩
    rintro m' σ H3 ⟨t, e, rfl, s3, h3, c3, ef, eq, hl, rfl⟩
    have lv : (vzS (t ++ [e])).length = t.length + 1 := by rw [vzS_len, List.length_append]; rfl
    have eat : atI (vzS (t ++ [e])) (-1) = some (.ref e.1) := by
      rw [vzS_app]
      exact atI_last _ _
    have he := c3 e (List.mem_append_right _ List.mem_cons_self)
    have stop : ∀ H4, Same H3 H4 → (paF rows (m.toNat - t.length) e.2 = [e.2]) → Q (.ref D) H4 := fun H4 s4 h => by
      rw [h] at eq
      exact k D (t ++ [e]) H4 (s3.trans s4) hD (s4 _ _ h3) (c3.same s4) (by rw [csS_app]; exact eq)
    refine ⟨_, rfl, D, _, rfl, .inl (.inl (.inl h3)), _, rfl, _, _, rfl, rfl, _, rfl, ?_⟩
    rw [lv]
    by_cases hle : ((t.length + 1 : Nat) : Int) ≤ m
    case neg =>
      refine iteF' (decide_eq_false hle) (iteF' rfl ?_)
      refine ⟨_, rfl, stop H3 (Same.refl H3) ?_⟩
      have : m.toNat - t.length = 0 := by omega
      rw [this]
      rfl
    obtain ⟨n', hn⟩ : ∃ n', m.toNat - t.length = n' + 1 := ⟨m.toNat - t.length - 1, by omega⟩
    refine iteT' (decide_eq_true hle) ?_
    refine ⟨_, rfl, _, rfl, _, rfl, D, _, _, _, rfl, rfl, .inl (.inl h3), eat, ra, e.1, rows, e.2, rfl, Same.tup s3 hS, g, he, by rw [ef]; exact hf, fun H4 s4 => ⟨rfl, _, rfl, ?_⟩⟩
    have h4 := s4 _ _ h3
    have c4 := c3.same s4
    rw [hn] at eq
    by_cases hw : aheadS rows e.2 = 126
    · refine iteF' (by rw [sg_dec2, decide_eq_true hw]; rfl) ?_
      refine ⟨_, rfl, stop H4 s4 ?_⟩
      rw [hn]
      unfold paF
      rw [if_pos hw]
    · refine iteT' (by rw [sg_dec2, decide_eq_false hw]; rfl) ?_
      refine ⟨_, fun σ' H' h => h, ?_⟩
      refine ⟨_, rfl, .inl ⟨rfl, _, .inl (.inl h4)⟩, _, rfl, _, rfl, D, _, _, _, rfl, rfl, .inl (.inl h4), eat, e.1, e.2, rfl, s4 _ _ he, by rw [ef]; exact hf, fun H5 s5 p hp => nilArgs ?_⟩
      have s6 := s5.trans (Same.new (Same.refl H5) hp (o := .tup (stv (paceS e.2))))
      have e6 : (upd H5 p (.tup (stv (paceS e.2)))) p = some (.tup (stv (paceS e.2))) := upd_same
      generalize upd H5 p (.tup (stv (paceS e.2))) = H6 at s6 e6 ⊢
      have h6 := s6 _ _ h4
      have c6 := c4.same s6
      refine ⟨D, _, _, rfl, rfl, h6, Nat.lt_of_le_of_lt (show _ ≤ 1001 by rw [lv]; omega) (by decide), ?_⟩
      refine ⟨m.toNat - (t ++ [e]).length, by rw [List.length_append, List.length_singleton]; omega, t ++ [e], (p, paceS e.2), rfl, Same.updN ((s3.trans s4).trans s6) hD, by rw [upd_same, vzS_app (t ++ [e])]; rfl, (c6.app (CS.one e6)).updL h6, ef, ?_, by rw [List.length_append, List.length_singleton]; omega, rfl⟩
      rw [← eq, csS_app, List.append_assoc]
      have en : m.toNat - (t ++ [e]).length = n' := by rw [List.length_append, List.length_singleton]; omega
      rw [en]
      conv => rhs; unfold paF
      rw [if_neg hw]
      rfl
end
end Om

/-! _looked, paces_along -/
namespace Om
open PySem PySem.Spec PyProof.Rows L2 LamX
def lkF (rows : List (List Nat)) (side : Int) : Nat → ST → ST
  | 0, s => s
  | n + 1, s => if aheadS rows s = 126 then lkF rows side n (turnS s (-side)) else s
def lookF (rows : List (List Nat)) (side : Int) (s : ST) : ST := if aheadS rows (turnS s side) = 126 then lkF rows side 3 s else turnS s side
theorem lkF_lt (rows : List (List Nat)) (side : Int) : ∀ (n : Nat) (s : ST), s.2 < 4 → (lkF rows side n s).2 < 4
  | 0, _, h => h
  | n + 1, s, h => by
    unfold lkF
    split
    · exact lkF_lt rows side n _ (turnS_lt _ _)
    · exact h
theorem lookF_lt (rows : List (List Nat)) (side : Int) {s : ST} (h : s.2 < 4) : (lookF rows side s).2 < 4 := by
  unfold lookF
  split
  · exact lkF_lt rows side 3 s h
  · exact turnS_lt _ _
def plF (rows : List (List Nat)) (side : Int) : Nat → ST → List ST
  | 0, s => [s]
  | n + 1, s => if aheadS rows (lookF rows side s) = 126 then [s] else s :: plF rows side n (paceS (lookF rows side s))
theorem plF_len (rows : List (List Nat)) (side : Int) : ∀ (n : Nat) (s : ST), (plF rows side n s).length ≤ n + 1
  | 0, _ => Nat.le_refl _
  | n + 1, s => by
    unfold plF
    split
    · exact Nat.succ_le_succ (Nat.zero_le _)
    · have := plF_len rows side n (paceS (lookF rows side s))
      rw [List.length_cons]
      omega
theorem plF_lt (rows : List (List Nat)) (side : Int) : ∀ (n : Nat) (s x : ST), s.2 < 4 → x ∈ plF rows side n s → x.2 < 4
  | 0, s, x, h, hx => by rw [List.mem_singleton.mp hx]; exact h
  | n + 1, s, x, h, hx => by
    unfold plF at hx
    split at hx
    · rw [List.mem_singleton.mp hx]; exact h
    · rcases List.mem_cons.mp hx with rfl | hx
      · exact h
      · exact plF_lt rows side n (paceS (lookF rows side s)) x (lookF_lt rows side h) hx
abbrev sLk : Stmt := top 29
abbrev sPL : Stmt := top 27
def spLk (K : PySem.W.Frag) : Sp := fun vs H Q _ => ∃ (ra sa : Addr) (rows : List (List Nat)) (s : ST) (side : Int), vs = [.ref ra, .ref sa, .int side] ∧ SqT K H ra (rows.map vt) ∧ Good2 rows ∧ H sa = some (.tup (stv s)) ∧ s.2 < 4 ∧
  ∀ (p : Addr) (H' : Hp), Same H H' → H' p = some (.tup (stv (lookF rows side s))) → Q (.ref p) H'
def spPL (K : PySem.W.Frag) : Sp := fun vs H Q _ => ∃ (ra sa : Addr) (rows : List (List Nat)) (s : ST) (side m : Int), vs = [.ref ra, .ref sa, .int side, .int m] ∧ SqT K H ra (rows.map vt) ∧ Good2 rows ∧ H sa = some (.tup (stv s)) ∧ s.2 < 4 ∧ m ≤ 1000 ∧
  ∀ (D : Addr) (t : TS) (H' : Hp), Same H H' → H D = none → H' D = some (.lst (vzS t)) → CS H' t → csS t = plF rows side m.toNat s → Q (.ref D) H'
section
variable {P : Program} {w : World} {K : PySem.W.Frag} {mg : Str → Option Value} {base : Heap}
abbrev nLk : List Str := ["rows", "state", "side", "aside", "turns"]
theorem scLk : FnScope nLk ["rows", "state", "side"] (defScope sLk) := ⟨rfl, rfl, rfl, by decide +kernel, rfl, by decide +kernel, by decide +kernel⟩
theorem ok_lk {f : Addr} {fd : FuncData} (F : FnP K "_looked" "_looked" sLk f fd) (AH : Cal P w K mg base CX0 2 "sign_ahead" ["rows", "state"] (spSgAh K)) (FB : Cal P w K mg base CX0 1 "facing_by" ["state", "turn"] spFaBy) (gw : ∃ t, mg "WATER" = some (.str (Str.ofString "~") t)) :
    FnOk P w K mg base CX0 3 f fd ["rows", "state", "side"] (spLk K) := by
  obtain ⟨t0, gw⟩ := gw
  refine F.ok scLk (fun vs H Q E h => ?_) (fun cdv A outer s H vs Q E hr h => ?_)
  · obtain ⟨ra, sa, rows, s, side, rfl, _⟩ := h
    rfl
  · obtain ⟨ra, sa, rows, s0, side, rfl, hS, g, hs, hf, k⟩ := h
    have nd := scLk.nd
    have hr1 : Room 1 _ := hr.mono (by decide)
    refine ⟨_, PSs.nox (pss_cons (ps_set (i := 3) nd rfl (.inl rfl) (pe_cal FB hr1 pass0 (pa_cons (pv 1) (pa_cons (pv 2) pa_nil))))
      (pss_cons (ps_if (pt_cmpR op_ne (pe_cal AH hr pass0 (pa_cons (pv 0) (pa_cons (pv 3) pa_nil))) (pe_glob (v := .str (Str.ofString "~")) rfl gw ⟨_, rfl⟩) (nomark _)) (pss_one (ps_ret (pv 3))) pss_nil)
      (pss_cons (ps_set (i := 4) nd rfl (.inl rfl) pe_int)
      (pss_cons (ps_while PassesOwn.never (PW.pt (pw_and (pt_cmpR op_lt (pv 4) pe_int (nomark _)) (pw_and1 (pt_cmpR op_eq (pe_cal AH hr pass0 (pa_cons (pv 0) (pa_cons (pv 1) pa_nil))) (pe_glob (v := .str (Str.ofString "~")) rfl gw ⟨_, rfl⟩) (nomark _)))))
        (pss_cons (ps_set (i := 1) nd rfl (.inl rfl) (pe_cal FB hr1 pass0 (pa_cons (pv 1) (pa_cons (pe_un un_neg (pv 2)) pa_nil))))
        (pss_one (ps_aug (i := 4) nd rfl (.inl rfl) pe_int ip_add))))
      (pss_one (ps_ret (pv 1))))))), ?_⟩
    refine ⟨_, rfl, _, rfl, sa, s0, side, rfl, hs, fun p hp => ?_⟩
    have s1 := Same.new (Same.refl H) hp (o := .tup (stv (turnS s0 side)))
    have e1 : (upd H p (.tup (stv (turnS s0 side)))) p = some (.tup (stv (turnS s0 side))) := upd_same
    generalize upd H p (.tup (stv (turnS s0 side))) = H1 at s1 e1 ⊢
    refine ⟨_, rfl, _, rfl, ra, p, rows, turnS s0 side, rfl, Same.tup s1 hS, g, e1, turnS_lt _ _, fun H2 s2 => ⟨rfl, _, rfl, ?_⟩⟩
    by_cases hw : aheadS rows (turnS s0 side) = 126
    case neg =>
      refine iteT' (by rw [sg_dec2, decide_eq_false hw]; rfl) ⟨_, rfl, k p H2 (s1.trans s2) ?_⟩
      unfold lookF
      rw [if_neg hw]
      exact s2 _ _ e1
    refine iteF' (by rw [sg_dec2, decide_eq_true hw]; rfl) ?_
    have fin : ∀ (a : Addr) (H' : Hp) (s : ST), Same H H' → H' a = some (.tup (stv s)) → s = lkF rows side 3 s0 → Q (.ref a) H' := fun a H' s s' h e => by
      refine k a H' s' ?_
      unfold lookF
      rw [if_pos hw, ← e]
      exact h
    have s12 := s1.trans s2
    refine ⟨fun m' σ H3 => ∃ (a : Addr) (s : ST) (n : Nat), σ = [some (.ref ra), some (.ref a), some (.int side), some (.ref p), some (.int (n : Nat))] ∧ Same H H3 ∧ H3 a = some (.tup (stv s)) ∧ s.2 < 4 ∧ n ≤ 3 ∧ lkF rows side (3 - n) s = lkF rows side 3 s0 ∧ m' = 3 - n,
      ⟨_, sa, s0, 0, rfl, s12, s12 _ _ hs, hf, by decide, rfl, rfl⟩, ?_⟩
    rintro m' σ H3 ⟨a, s, n, rfl, s3, h3, f3, hn, eq, rfl⟩
    refine ⟨_, rfl, _, _, rfl, rfl, _, rfl, ?_⟩
    by_cases hlt : ((n : Nat) : Int) < 3
    case neg =>
      refine iteF' (decide_eq_false hlt) (iteF' rfl ⟨_, rfl, fin a H3 s s3 h3 ?_⟩)
      rw [← eq, show 3 - n = 0 by omega]
      rfl
    obtain ⟨j, hj⟩ : ∃ j, 3 - n = j + 1 := ⟨2 - n, by omega⟩
    rw [hj] at eq
    refine iteT' (decide_eq_true hlt) ⟨_, rfl, _, rfl, ra, a, rows, s, rfl, Same.tup s3 hS, g, h3, f3, fun H4 s4 => ⟨rfl, _, rfl, ?_⟩⟩
    by_cases hw2 : aheadS rows s = 126
    · refine iteT' (by rw [sg_dec2, decide_eq_true hw2]) ?_
      refine ⟨_, fun σ' H' h => h, ?_⟩
      refine ⟨_, rfl, _, rfl, _, rfl, a, s, -side, rfl, s4 _ _ h3, fun p2 hp2 => ?_⟩
      have s5 := (s3.trans s4).trans (Same.new (Same.refl H4) hp2 (o := .tup (stv (turnS s (-side)))))
      refine ⟨_, rfl, _, _, rfl, rfl, 3 - (n + 1), by omega, p2, turnS s (-side), n + 1, rfl, s5, upd_same, turnS_lt _ _, by omega, ?_, rfl⟩
      rw [← eq, show 3 - (n + 1) = j by omega]
      conv => rhs; unfold lkF
      rw [if_pos hw2]
    · refine iteF' (by rw [sg_dec2, decide_eq_false hw2]) ⟨_, rfl, fin a H4 s (s3.trans s4) (s4 _ _ h3) ?_⟩
      rw [← eq]
      unfold lkF
      rw [if_neg hw2]
abbrev nPL : List Str := ["rows", "state", "side", "most", "states", "ready"]
theorem scPL : FnScope nPL ["rows", "state", "side", "most"] (defScope sPL) := ⟨rfl, rfl, rfl, by decide +kernel, rfl, by decide +kernel, by decide +kernel⟩
theorem ok_pl {f : Addr} {fd : FuncData} (F : FnP K "paces_along" "paces_along" sPL f fd) (AH : Cal P w K mg base CX0 2 "sign_ahead" ["rows", "state"] (spSgAh K)) (PC : Cal P w K mg base CX0 2 "_pace" ["state"] spPac) (LK : Cal P w K mg base CX0 3 "_looked" ["rows", "state", "side"] (spLk K)) (glen : mg "len" = none)
    (gw : ∃ t, mg "WATER" = some (.str (Str.ofString "~") t)) : FnOk P w K mg base CX0 4 f fd ["rows", "state", "side", "most"] (spPL K) := by
  obtain ⟨t0, gw⟩ := gw
  refine F.ok scPL (fun vs H Q E h => ?_) (fun cdv A outer s H vs Q E hr h => ?_)
  · obtain ⟨ra, sa, rows, s, side, m, rfl, _⟩ := h
    rfl
  · obtain ⟨ra, sa, rows, s0, side, m, rfl, hS, g, hs, hf, hm, k⟩ := h
    have nd := scPL.nd
    have hr2 : Room 2 _ := hr.mono (by decide)
    refine ⟨_, PSs.nox (pss_cons (ps_set (i := 4) nd rfl (.inl rfl) (pe_lst (pa_cons (pv 1) pa_nil)))
      (pss_cons (ps_while PassesOwn.never (pt_cmpR op_le (pe_callB call_len_seq (by rfl) glen PySem.boot_len (pa_cons (pv 4) pa_nil)) (pv 3) (nomark _))
        (pss_cons (ps_set (i := 5) nd rfl (.inl rfl) (pe_cal LK hr pass0 (pa_cons (pv 0) (pa_cons (pe_ix ix_list (pv 4) (pe_un un_neg pe_int) (fun _ _ => rfl)) (pa_cons (pv 2) pa_nil)))))
        (pss_cons (ps_if (pt_cmpR op_eq (pe_cal AH hr2 pass0 (pa_cons (pv 0) (pa_cons (pv 5) pa_nil))) (pe_glob (v := .str (Str.ofString "~")) rfl gw ⟨_, rfl⟩) (nomark _)) (pss_one ps_break) pss_nil)
        (pss_one (ps_expr (pe_bm PySem.F.plainAttrs_list PySem.F.slot_list_append PySem.F.type_list_append mt_append (pv 4) (pa_cons (pe_cal PC hr2 pass0 (pa_cons (pv 5) pa_nil)) pa_nil)))))))
      (pss_one (ps_ret (pv 4))))), ?_⟩
    refine ⟨_, rfl, by show 1 ≤ sizeLine; decide, fun D hD => ?_⟩
    have sD := Same.new (Same.refl H) hD (o := .lst [.ref sa])
    refine ⟨fun m' σ H3 => ∃ (t : TS) (e : Addr × ST) (v : Option V), σ = [some (.ref ra), some (.ref sa), some (.int side), some (.int m), some (.ref D), v] ∧ Same H H3 ∧ H3 D = some (.lst (vzS (t ++ [e]))) ∧ CS H3 (t ++ [e]) ∧ e.2.2 < 4 ∧ csS t ++ plF rows side (m.toNat - t.length) e.2 = plF rows side m.toNat s0 ∧ t.length ≤ m.toNat ∧ m' = m.toNat - t.length,
      ⟨_, [], (sa, s0), _, rfl, sD, upd_same, CS.one (sD _ _ hs), hf, rfl, Nat.zero_le _, rfl⟩, ?_⟩
    rintro m' σ H3 ⟨t, e, v, rfl, s3, h3, c3, ef, eq, hl, rfl⟩
    have lv : (vzS (t ++ [e])).length = t.length + 1 := by rw [vzS_len, List.length_append]; rfl
    have eat : atI (vzS (t ++ [e])) (-1) = some (.ref e.1) := by
      rw [vzS_app]
      exact atI_last _ _
    have he := c3 e (List.mem_append_right _ List.mem_cons_self)
    have stop : ∀ H4, Same H3 H4 → (plF rows side (m.toNat - t.length) e.2 = [e.2]) → Q (.ref D) H4 := fun H4 s4 h => by
      rw [h] at eq
      exact k D (t ++ [e]) H4 (s3.trans s4) hD (s4 _ _ h3) (c3.same s4) (by rw [csS_app]; exact eq)
    refine ⟨_, rfl, D, _, rfl, .inl (.inl (.inl h3)), _, rfl, _, _, rfl, rfl, _, rfl, ?_⟩
    rw [lv]
    by_cases hle : ((t.length + 1 : Nat) : Int) ≤ m
    case neg =>
      refine iteF' (decide_eq_false hle) ?_
      refine ⟨_, rfl, stop H3 (Same.refl H3) ?_⟩
      have : m.toNat - t.length = 0 := by omega
      rw [this]
      rfl
    obtain ⟨n', hn⟩ : ∃ n', m.toNat - t.length = n' + 1 := ⟨m.toNat - t.length - 1, by omega⟩
    refine iteT' (decide_eq_true hle) ?_
    refine ⟨_, fun σ' H' h => h, ?_⟩
    refine ⟨_, rfl, _, rfl, _, rfl, D, _, _, _, rfl, rfl, .inl (.inl h3), eat, _, rfl, ra, e.1, rows, e.2, side, rfl, Same.tup s3 hS, g, he, ef, fun p H4 s4 hp4 => ?_⟩
    have lt4 := lookF_lt rows side ef
    refine ⟨_, rfl, _, rfl, ra, p, rows, lookF rows side e.2, rfl, Same.tup (s3.trans s4) hS, g, hp4, lt4, fun H5 s5 => ⟨rfl, _, rfl, ?_⟩⟩
    have s45 := s4.trans s5
    have h5 := s45 _ _ h3
    have c5 := c3.same s45
    have p5 := s5 _ _ hp4
    rw [hn] at eq
    by_cases hw : aheadS rows (lookF rows side e.2) = 126
    · refine iteT' (by rw [sg_dec2, decide_eq_true hw]) ?_
      refine ⟨_, rfl, stop H5 s45 ?_⟩
      rw [hn]
      unfold plF
      rw [if_pos hw]
    · refine iteF' (by rw [sg_dec2, decide_eq_false hw]) ?_
      refine ⟨_, rfl, .inl ⟨rfl, _, .inl (.inl h5)⟩, _, rfl, p, lookF rows side e.2, rfl, p5, lt4, fun H6 s6 q hq => nilArgs ?_⟩
      have s7 := s6.trans (Same.new (Same.refl H6) hq (o := .tup (stv (paceS (lookF rows side e.2)))))
      have e7 : (upd H6 q (.tup (stv (paceS (lookF rows side e.2))))) q = some (.tup (stv (paceS (lookF rows side e.2)))) := upd_same
      generalize upd H6 q (.tup (stv (paceS (lookF rows side e.2)))) = H7 at s7 e7 ⊢
      have h7 := s7 _ _ h5
      have c7 := c5.same s7
      refine ⟨D, _, _, rfl, rfl, h7, Nat.lt_of_le_of_lt (show _ ≤ 1001 by rw [lv]; omega) (by decide), ?_⟩
      refine ⟨m.toNat - (t ++ [e]).length, by rw [List.length_append, List.length_singleton]; omega, t ++ [e], (q, paceS (lookF rows side e.2)), _, rfl, Same.updN ((s3.trans s45).trans s7) hD, by rw [upd_same, vzS_app (t ++ [e])]; rfl, (c7.app (CS.one e7)).updL h7, lt4, ?_, by rw [List.length_append, List.length_singleton]; omega, rfl⟩
      rw [← eq, csS_app, List.append_assoc]
      have en : m.toNat - (t ++ [e]).length = n' := by rw [List.length_append, List.length_singleton]; omega
      rw [en]
      conv => rhs; unfold plF
      rw [if_neg hw]
      rfl
end
end Om

/-! _until, _all_sides, _is_ahead -/
namespace Om
open PySem PySem.Spec PyProof.Rows L2 LamX
theorem slLK {X : Cx} {K : PySem.W.Frag} (hK : X.K = K) : SlR X (rSlL K) := by
  subst hK
  exact sl_list
theorem pi_listK {X : Cx} {K : PySem.W.Frag} {tg l : Expr} {tl : TE} (hK : X.K = K) (h : PE X l tl) : PI X tg l (iList K tl) := by
  subst hK
  exact pi_list h
theorem cut_from (t : TS) (k : Nat) : cutV (vzS t) (some (k : Nat)) none = vzS (t.drop k) := by
  unfold cutV
  rw [HT.sIx_nat, HT.sIx_none, vzS_len]
  unfold vzS
  rw [List.map_drop, List.take_of_length_le (by rw [List.length_drop, List.length_map]; omega)]
  rcases Nat.le_total k t.length with h | h
  · rw [Nat.min_eq_left h]
  · rw [Nat.min_eq_right h, List.drop_eq_nil_of_le (by rw [List.length_map]; exact Nat.le_refl _), List.drop_eq_nil_of_le (by rw [List.length_map]; exact h)]
/-- the sign at a cell is one of these -/
def inSg (rows : List (List Nat)) (sg : List Nat) (c : IC) : Bool := decide (sgW rows c ∈ sg)
def utF (rows : List (List Nat)) (sg : List Nat) (s : ST) : List ST := (((paF rows 12 s).drop 1).find? fun x => inSg rows sg x.1).toList
def sidesF (s : ST) : List ST := (List.range 4).map fun t => turnS s (t : Nat)
def iaF (rows : List (List Nat)) (sg : List Nat) : Nat → ST → Bool
  | 0, _ => false
  | n + 1, s => inSg rows sg (adjI s.1 s.2) || iaF rows sg n (paceS s)
abbrev sUt : Stmt := top 32
abbrev sSid : Stmt := top 33
abbrev sIA : Stmt := top 34
def spUt (K : PySem.W.Frag) : Sp := fun vs H Q _ => ∃ (ra sa : Addr) (rows : List (List Nat)) (s : ST) (sg : List Nat), vs = [.ref ra, .ref sa, .str (tx sg)] ∧ SqT K H ra (rows.map vt) ∧ Good2 rows ∧ H sa = some (.tup (stv s)) ∧ s.2 < 4 ∧
  ∀ (D : Addr) (t : TS) (H' : Hp), Same H H' → H' D = some (.lst (vzS t)) → CS H' t → csS t = utF rows sg s → Q (.ref D) H'
def spSid : Sp := fun vs H Q _ => ∃ (sa : Addr) (s : ST), vs = [.ref sa] ∧ H sa = some (.tup (stv s)) ∧ ∀ (D : Addr) (t : TS) (H' : Hp), Same H H' → H' D = some (.lst (vzS t)) → CS H' t → csS t = sidesF s → Q (.ref D) H'
def spIA (K : PySem.W.Frag) : Sp := fun vs H Q _ => ∃ (ra sa : Addr) (rows : List (List Nat)) (s : ST) (sg : List Nat), vs = [.ref ra, .ref sa, .str (tx sg)] ∧ SqT K H ra (rows.map vt) ∧ Good2 rows ∧ H sa = some (.tup (stv s)) ∧ s.2 < 4 ∧ ∀ H', Same H H' → Q (.bl (iaF rows sg 12 s)) H'
section
variable {P : Program} {w : World} {K : PySem.W.Frag} {mg : Str → Option Value} {base : Heap}
abbrev nUt : List Str := ["rows", "state", "signs", "behind"]
theorem scUt : FnScope nUt ["rows", "state", "signs"] (defScope sUt) := ⟨rfl, rfl, rfl, by decide +kernel, rfl, by decide +kernel, by decide +kernel⟩
theorem ok_ut {f : Addr} {fd : FuncData} (F : FnP K "_until" "_until" sUt f fd) (PA : Cal P w K mg base CX0 3 "paces_ahead" ["rows", "state", "most"] (spPA K)) (SG : Cal P w K mg base CX0 1 "sign_at" ["rows", "row", "column"] (spSgAt K)) (gl : ∃ t, mg "LARGEST" = some (.int 12 t)) :
    FnOk P w K mg base CX0 4 f fd ["rows", "state", "signs"] (spUt K) := by
  obtain ⟨t0, gl⟩ := gl
  refine F.ok scUt (fun vs H Q E h => ?_) (fun cdv A outer s H vs Q E hr h => ?_)
  · obtain ⟨ra, sa, rows, s, sg, rfl, _⟩ := h
    rfl
  · obtain ⟨ra, sa, rows, s0, sg, rfl, hS, g, hs, hf, k⟩ := h
    have nd := scUt.nd
    have hr1 : Room 1 _ := hr.mono (by decide)
    have hr3 : Room 3 _ := hr.mono (by decide)
    refine ⟨_, PSs.nox (pss_cons (ps_for PassesOwn.never rfl (pi_listK (K := K) rfl (pe_slice (slLK (K := K) rfl) (pe_cal PA hr3 pass0 (pa_cons (pv 0) (pa_cons (pv 1) (pa_cons (pe_glob (v := .int 12) rfl gl ⟨_, rfl⟩) pa_nil)))) (po_some pe_int) po_none)) (pg_name (i := 3) nd rfl (.inl rfl))
        (pss_one (ps_if (pt_cmpR op_in_sign (pe_cal SG hr1 pass0 (pa_cons (pv 0) (pa_cons (pe_ix ix_tup (pv 3) pe_int (fun _ _ => rfl)) (pa_cons (pe_ix ix_tup (pv 3) pe_int (fun _ _ => rfl)) pa_nil)))) (pv 2) (by with_unfolding_all rfl)) (pss_one (ps_ret (pe_lst (pa_cons (pv 3) pa_nil)))) pss_nil)))
      (pss_one (ps_ret (pe_lst pa_nil)))), ?_⟩
    refine ⟨_, rfl, _, rfl, ra, sa, rows, s0, 12, rfl, hS, g, hs, hf, by decide, fun D t H1 s1 _ hD hC ht => ?_⟩
    refine ⟨_, rfl, D, _, rfl, .inl (.inl hD), fun q hq => ?_⟩
    rw [show (1 : Int) = ((1 : Nat) : Int) from rfl, cut_from]
    have ht : csS (t.drop 1) = (paF rows 12 s0).drop 1 := by
      have : (12 : Int).toNat = 12 := rfl
      rw [this] at ht
      rw [← ht]
      exact List.map_drop ..
    have c1 : CS H1 (t.drop 1) := fun p hp => hC p (List.mem_of_mem_drop hp)
    generalize t.drop 1 = u at ht c1 ⊢
    have s2 := Same.new (Same.refl H1) hq (o := .lst (vzS u))
    have e2 : (upd H1 q (.lst (vzS u))) q = some (.lst (vzS u)) := upd_same
    have c2 := c1.same s2
    have sH2 := s1.trans s2
    generalize upd H1 q (.lst (vzS u)) = H2 at s2 e2 c2 sH2 ⊢
    have face : ∀ x ∈ csS u, x.2 < 4 := fun x hx => by
      rw [ht] at hx
      rw [paF_face rows 12 s0 x (List.mem_of_mem_drop hx)]
      exact hf
    refine ⟨q, rfl, ⟨_, .inl (.inl e2)⟩, ?_⟩
    refine for_list (K := K) (a := q) (xs := vzS u) (fun i σ H' => Same H2 H' ∧ (∀ j, j < i → ∀ x, (csS u)[j]? = some x → inSg rows sg x.1 = false) ∧ ∃ v3, σ = [some (.ref ra), some (.ref sa), some (.str (tx sg)), v3])
      ⟨Same.refl H2, (fun j hj => absurd hj (Nat.not_lt_zero _)), _, rfl⟩ (fun i σ H' _ z => .inl (.inl (z.1 _ _ e2))) ?_ ?_
    · rintro i x σ H3 hx ⟨s3, hno, v3, rfl⟩
      obtain ⟨y, hy, rfl, my⟩ := atS hx
      have hy3 := s3 _ _ (c2 y my)
      refine ⟨_, rfl, _, rfl, y.1, _, 0, _, rfl, rfl, .inl (.inl hy3), rfl, _, rfl, y.1, _, 1, _, rfl, rfl, .inl (.inl hy3), rfl, ra, rows, y.2.1, rfl, Same.tup (sH2.trans s3) hS, g, ?_⟩
      refine ⟨_, rfl, sgW rows y.2.1, tx sg, rfl, rfl, _, rfl, ?_⟩
      rw [tx_cps]
      have cy : (csS u)[i]? = some y.2 := by
        unfold csS
        rw [List.getElem?_map, hy]
        rfl
      by_cases hin : sgW rows y.2.1 ∈ sg
      · refine iteT' (decide_eq_true hin) ?_
        refine ⟨_, rfl, by show 1 ≤ sizeLine; decide, fun r hr => ?_⟩
        have s4 := Same.new (Same.refl H3) hr (o := .lst [.ref y.1])
        refine k r [y] _ ((sH2.trans s3).trans s4) upd_same (CS.one (s4 _ _ hy3)) ?_
        unfold utF
        rw [← ht]
        have : (csS u).find? (fun x => inSg rows sg x.1) = some y.2 := by
          rw [List.find?_eq_some_iff_getElem]
          refine ⟨decide_eq_true hin, i, (List.getElem?_eq_some_iff.mp cy).1, (List.getElem?_eq_some_iff.mp cy).2, fun j hj => ?_⟩
          rw [hno j hj _ (List.getElem?_eq_getElem (Nat.lt_trans hj (List.getElem?_eq_some_iff.mp cy).1))]
          rfl
        rw [this]
        rfl
      · refine iteF' (decide_eq_false hin) ⟨s3, fun j hj z hz => ?_, _, rfl⟩
        by_cases e : j = i
        · subst e
          rw [cy] at hz
          cases hz
          exact decide_eq_false hin
        · exact hno j (by omega) z hz
    · rintro σ H3 ⟨s3, hno, v3, rfl⟩
      rw [vzS_len, ← csS_len] at hno
      refine ⟨by show 0 ≤ sizeLine; decide, fun r hr => ?_⟩
      have s4 := Same.new (Same.refl H3) hr (o := .lst [])
      refine k r [] _ ((sH2.trans s3).trans s4) upd_same (fun p hp => by cases hp) ?_
      unfold utF
      rw [← ht]
      have : (csS u).find? (fun x => inSg rows sg x.1) = none := by
        rw [List.find?_eq_none]
        intro x hx
        obtain ⟨j, hj⟩ := List.getElem?_of_mem hx
        rw [hno j (List.getElem?_eq_some_iff.mp hj).1 x hj]
        exact Bool.false_ne_true
      rw [this]
      rfl
abbrev nSid : List Str := ["state", "turn"]
theorem scSid : FnScope nSid ["state"] (defScope sSid) := ⟨rfl, rfl, rfl, by decide +kernel, rfl, by decide +kernel, by decide +kernel⟩
def sidLc : Expr := retExpr ((defBody sSid).getD 0 noS)
theorem blkSid : BlkOk nSid (defScope sSid) (lcScope sidLc) [("turn", 1)] := blkOk_by (by decide +kernel)
theorem ok_sid {f : Addr} {fd : FuncData} (F : FnP K "_all_sides" "_all_sides" sSid f fd) (FB : Cal P w K mg base CX0 1 "facing_by" ["state", "turn"] spFaBy) (grange : mg "range" = none) : FnOk P w K mg base CX0 2 f fd ["state"] spSid := by
  refine F.ok scSid (fun vs H Q E h => ?_) (fun cdv A outer s H vs Q E hr h => ?_)
  · obtain ⟨sa, s, rfl, _⟩ := h
    rfl
  · obtain ⟨sa, s0, rfl, hs, k⟩ := h
    have nd := scSid.nd
    have hr1 : Room 1 _ := hr.mono (by decide)
    refine ⟨_, PSs.nox (pss_one (ps_ret (pe_lc (own := [("turn", 1)]) (g := gName 1) rfl nd (pi_range1 rfl grange (pa_cons pe_int pa_nil)) blkSid (fun _ _ _ _ _ => pg_name (i := 1) nd rfl (.inl rfl)) (fun _ _ _ _ _ => pts_nil) (fun _ _ _ _ _ => pe_cal FB hr1 pass0 (pa_cons (pv 0) (pa_cons (pv 1) pa_nil)))))), ?_⟩
    refine ⟨4, rfl, by decide, by decide, fun D hD => ?_⟩
    refine lc_range (lo := 0) (n := (4 : Int).toNat) (fun i H' => Same H H' ∧ ∃ t : TS, H' D = some (.lst (vzS t)) ∧ CS H' t ∧ csS t = (List.range i).map fun t => turnS s0 (t : Nat)) ⟨Same.new (Same.refl H) hD, [], upd_same, (fun p hp => by cases hp), rfl⟩ ?_ ?_
    · rintro i H1 hi ⟨s1, t, h1, c1, ht⟩
      have hi4 : i < 4 := hi
      refine ⟨rfl, tyes ?_⟩
      refine ⟨_, rfl, _, rfl, sa, s0, (0 : Int) + (i : Nat), rfl, s1 _ _ hs, fun p hp => ?_⟩
      have e0 : (0 : Int) + (i : Nat) = (i : Nat) := Int.zero_add _
      rw [e0]
      have s2 := Same.new (Same.refl H1) hp (o := .tup (stv (turnS s0 (i : Nat))))
      have e2 : (upd H1 p (.tup (stv (turnS s0 (i : Nat))))) p = some (.tup (stv (turnS s0 (i : Nat)))) := upd_same
      generalize upd H1 p (.tup (stv (turnS s0 (i : Nat)))) = H2 at s2 e2 ⊢
      have h2 := s2 _ _ h1
      have ln : t.length = i := by
        have := congrArg List.length ht
        rwa [csS_len, List.length_map, List.length_range] at this
      refine ⟨_, h2, Nat.lt_of_le_of_lt (show _ ≤ 100 by rw [vzS_len]; omega) (by decide), Same.updN (s1.trans s2) hD, t ++ [(p, turnS s0 (i : Nat))], by rw [upd_same, vzS_app]; rfl, ((c1.same s2).app (CS.one e2)).updL h2, ?_⟩
      rw [csS_app, ht, List.range_succ, List.map_append]
      rfl
    · rintro H1 ⟨s1, t, h1, c1, ht⟩
      exact k D t H1 s1 h1 c1 ht
abbrev nIA : List Str := ["rows", "state", "signs", "_", "row", "column"]
theorem scIA : FnScope nIA ["rows", "state", "signs"] (defScope sIA) := ⟨rfl, rfl, rfl, by decide +kernel, rfl, by decide +kernel, by decide +kernel⟩
theorem ok_ia {f : Addr} {fd : FuncData} (F : FnP K "_is_ahead" "_is_ahead" sIA f fd) (NC : Cal P w K mg base CX0 1 "next_cell" ["state"] (spNextC K)) (SG : Cal P w K mg base CX0 1 "sign_at" ["rows", "row", "column"] (spSgAt K)) (grange : mg "range" = none) (gl : ∃ t, mg "LARGEST" = some (.int 12 t)) :
    FnOk P w K mg base CX0 2 f fd ["rows", "state", "signs"] (spIA K) := by
  obtain ⟨t0, gl⟩ := gl
  refine F.ok scIA (fun vs H Q E h => ?_) (fun cdv A outer s H vs Q E hr h => ?_)
  · obtain ⟨ra, sa, rows, s, sg, rfl, _⟩ := h
    rfl
  · obtain ⟨ra, sa, rows, s0, sg, rfl, hS, g, hs, hf, k⟩ := h
    have nd := scIA.nd
    have hr1 : Room 1 _ := hr.mono (by decide)
    refine ⟨_, PSs.nox (pss_cons (ps_for PassesOwn.never rfl (pi_range1 rfl grange (pa_cons (pe_glob (v := .int 12) rfl gl ⟨_, rfl⟩) pa_nil)) (pg_name (i := 3) nd rfl (.inl rfl))
        (pss_cons (ps_asg (pe_cal NC hr1 pass0 (pa_cons (pv 1) pa_nil)) (pg_tup rfl (pgs_cons (pg_name (i := 4) nd rfl (.inl rfl)) (pgs_cons (pg_name (i := 5) nd rfl (.inl rfl)) pgs_nil))))
        (pss_cons (ps_if (pt_cmpR op_in_sign (pe_cal SG hr1 pass0 (pa_cons (pv 0) (pa_cons (pv 4) (pa_cons (pv 5) pa_nil)))) (pv 2) (by with_unfolding_all rfl)) (pss_one (ps_ret pe_bl)) pss_nil)
        (pss_one (ps_set (i := 1) nd rfl (.inl rfl) (pe_tup (pa_cons (pv 4) (pa_cons (pv 5) (pa_cons (pe_ix ix_tup (pv 1) pe_int (fun _ _ => rfl)) pa_nil)))))))))
      (pss_one (ps_ret pe_bl))), ?_⟩
    refine ⟨12, rfl, by decide, by decide, ?_⟩
    refine for_range (lo := 0) (n := (12 : Int).toNat) (fun i σ H' => Same H H' ∧ ∃ (a : Addr) (s : ST) (v3 v4 v5 : Option V), H' a = some (.tup (stv s)) ∧ s.2 < 4 ∧ iaF rows sg 12 s0 = iaF rows sg (12 - i) s ∧ σ = [some (.ref ra), some (.ref a), some (.str (tx sg)), v3, v4, v5])
      ⟨Same.refl H, sa, s0, _, _, _, hs, hf, rfl, rfl⟩ ?_ ?_
    · rintro i σ H1 hi ⟨s1, a, s, v3, v4, v5, ha, hf1, eq, rfl⟩
      have hi12 : i < 12 := hi
      obtain ⟨n, hn⟩ : ∃ n, 12 - i = n + 1 := ⟨11 - i, by omega⟩
      rw [hn] at eq
      refine ⟨_, rfl, a, s.1, s.2, rfl, .inl (.inl ha), hf1, fun p hp => ?_⟩
      have s2 := Same.new (Same.refl H1) hp (o := .tup (icv (adjI s.1 s.2)))
      have e2 : (upd H1 p (.tup (icv (adjI s.1 s.2)))) p = some (.tup (icv (adjI s.1 s.2))) := upd_same
      generalize upd H1 p (.tup (icv (adjI s.1 s.2))) = H2 at s2 e2 ⊢
      refine ⟨p, _, rfl, .inl (.inl e2), rfl, _, _, rfl, _, _, rfl, rfl, ?_⟩
      refine ⟨_, rfl, _, rfl, _, rfl, ra, rows, adjI s.1 s.2, rfl, Same.tup (s1.trans s2) hS, g, ?_⟩
      refine ⟨_, rfl, sgW rows (adjI s.1 s.2), tx sg, rfl, rfl, _, rfl, ?_⟩
      rw [tx_cps]
      by_cases hin : sgW rows (adjI s.1 s.2) ∈ sg
      · refine iteT' (decide_eq_true hin) ?_
        have kk := k H2 (s1.trans s2)
        rw [eq] at kk
        unfold iaF inSg at kk
        rw [decide_eq_true hin, Bool.true_or] at kk
        exact kk
      · refine iteF' (decide_eq_false hin) ?_
        refine ⟨_, rfl, _, rfl, _, rfl, a, _, 2, _, rfl, rfl, .inl (.inl (s2 _ _ ha)), rfl, by show 3 ≤ sizeLine; decide, fun q hq => ?_⟩
        refine ⟨(s1.trans s2).trans (Same.new (Same.refl H2) hq), q, paceS s, _, _, _, upd_same, hf1, ?_, rfl⟩
        rw [eq, show 12 - (i + 1) = n by omega]
        conv => lhs; unfold iaF inSg
        rw [decide_eq_false hin, Bool.false_or]
    · rintro σ H1 ⟨s1, a, s, v3, v4, v5, ha, hf1, eq, rfl⟩
      have kk := k H1 s1
      rw [eq] at kk
      exact kk
end
end Om

/-! _is_near -/
namespace Om
open PySem PySem.Spec PyProof.Rows L2 LamX
def NearP (rows : List (List Nat)) (sg : List Nat) (most : Int) (s : ST) (h w : Int) : Prop := ∃ i j : Int, (-1 ≤ i ∧ i < h + 1) ∧ (-1 ≤ j ∧ j < w + 1) ∧ iabs (i - s.1.1) + iabs (j - s.1.2) ≤ most ∧ sgW rows (i, j) ∈ sg
open Classical in
noncomputable def nearF (rows : List (List Nat)) (sg : List Nat) (most : Int) (s : ST) : Bool := decide (NearP rows sg most s (rows.length : Nat) ((rows.headD []).length : Nat))
open Classical in
theorem nearF_t {rows : List (List Nat)} {sg : List Nat} {most : Int} {s : ST} (h : NearP rows sg most s (rows.length : Nat) ((rows.headD []).length : Nat)) : nearF rows sg most s = true := decide_eq_true h
open Classical in
theorem nearF_f {rows : List (List Nat)} {sg : List Nat} {most : Int} {s : ST} (h : ¬ NearP rows sg most s (rows.length : Nat) ((rows.headD []).length : Nat)) : nearF rows sg most s = false := decide_eq_false h
abbrev sNear : Stmt := top 35
def spNear (K : PySem.W.Frag) : Sp := fun vs H Q _ => ∃ (ra sa : Addr) (rows : List (List Nat)) (s : ST) (sg : List Nat) (most : Int), vs = [.ref ra, .ref sa, .str (tx sg), .int most] ∧ SqT K H ra (rows.map vt) ∧ Good2 rows ∧ H sa = some (.tup (stv s)) ∧ Q (.bl (nearF rows sg most s)) H
section
variable {P : Program} {w : World} {K : PySem.W.Frag} {mg : Str → Option Value} {base : Heap}
abbrev nNear : List Str := ["rows", "state", "signs", "most", "row", "column", "away"]
theorem scNear : FnScope nNear ["rows", "state", "signs", "most"] (defScope sNear) := ⟨rfl, rfl, rfl, by decide +kernel, rfl, by decide +kernel, by decide +kernel⟩
theorem ok_near {f : Addr} {fd : FuncData} (F : FnP K "_is_near" "_is_near" sNear f fd) (SG : Cal P w K mg base CX0 1 "sign_at" ["rows", "row", "column"] (spSgAt K)) (grange : mg "range" = none) (glen : mg "len" = none) (gabs : mg "abs" = none) :
    FnOk P w K mg base CX0 2 f fd ["rows", "state", "signs", "most"] (spNear K) := by
  refine F.ok scNear (fun vs H Q E h => ?_) (fun cdv A outer s H vs Q E hr h => ?_)
  · obtain ⟨ra, sa, rows, s, sg, m, rfl, _⟩ := h
    rfl
  · obtain ⟨ra, sa, rows, s0, sg, m, rfl, hS, g, hs, k⟩ := h
    have nd := scNear.nd
    have hr1 : Room 1 _ := hr.mono (by decide)
    obtain ⟨r0, rs, hrs⟩ : ∃ r0 rs, rows = r0 :: rs := by
      cases rows with
      | nil => exact absurd rfl g.toShp.ne
      | cons r0 rs => exact ⟨r0, rs, rfl⟩
    have hr0 : (tx r0).length ≤ sizeLine := by rw [tx_len]; exact small_le (g.toShp.row r0 (by rw [hrs]; exact List.mem_cons_self ..))
    have hat0 : atI (rows.map vt) 0 = some (vt r0) := by rw [hrs]; exact at0
    have hw : (rows.headD []).length = r0.length := by rw [hrs]; rfl
    refine ⟨_, PSs.nox (pss_cons (ps_for PassesOwn.never rfl (pi_range2 rfl grange (pa_cons (pe_un un_neg pe_int) (pa_cons (pe_op op_add (pe_callB call_len_seq (by rfl) glen PySem.boot_len (pa_cons (pv 0) pa_nil)) pe_int) pa_nil))) (pg_name (i := 4) nd rfl (.inl rfl))
        (pss_one (ps_for PassesOwn.never rfl (pi_range2 rfl grange (pa_cons (pe_un un_neg pe_int) (pa_cons (pe_op op_add (pe_callB call_len_str (by rfl) glen PySem.boot_len (pa_cons (pe_ix ix_tup (pv 0) pe_int (fun _ _ => rfl)) pa_nil)) pe_int) pa_nil))) (pg_name (i := 5) nd rfl (.inl rfl))
          (pss_cons (ps_set (i := 6) nd rfl (.inl rfl) (pe_op op_add (pe_callB call_abs (by rfl) gabs (by decide +kernel) (pa_cons (pe_op op_sub (pv 4) (pe_ix ix_tup (pv 1) pe_int (fun _ _ => rfl))) pa_nil)) (pe_callB call_abs (by rfl) gabs (by decide +kernel) (pa_cons (pe_op op_sub (pv 5) (pe_ix ix_tup (pv 1) pe_int (fun _ _ => rfl))) pa_nil))))
          (pss_one (ps_if (PW.pt (pw_and (pt_cmpR op_le (pv 6) (pv 3) (nomark _)) (pw_and1 (pt_cmpR op_in_sign (pe_cal SG hr1 pass0 (pa_cons (pv 0) (pa_cons (pv 4) (pa_cons (pv 5) pa_nil)))) (pv 2) (by with_unfolding_all rfl))))) (pss_one (ps_ret pe_bl)) pss_nil))))))
      (pss_one (ps_ret pe_bl))), ?_⟩
    have hlr := g.toShp.len
    have hlw : r0.length ≤ 1000 := g.toShp.row r0 (by rw [hrs]; exact List.mem_cons_self ..)
    let Bad (a b : Int) : Prop := iabs (a - s0.1.1) + iabs (b - s0.1.2) ≤ m ∧ sgW rows (a, b) ∈ sg
    refine ⟨_, rfl, _, rfl, ra, _, rfl, .inr hS, _, _, rfl, rfl, -1, ((rows.map vt).length : Nat) + 1, rfl, ⟨by decide, by decide, by omega, by rw [List.length_map]; omega⟩, ?_⟩
    refine for_range (lo := -1) (fun i σ H' => H' = H ∧ (∀ a b : Int, -1 ≤ a → a < -1 + (i : Nat) → -1 ≤ b → b < (r0.length : Nat) + 1 → ¬ Bad a b) ∧ ∃ v4 v5 v6, σ = [some (.ref ra), some (.ref sa), some (.str (tx sg)), some (.int m), v4, v5, v6])
      ⟨rfl, (fun a b h1 h2 => by omega), _, _, _, rfl⟩ ?_ ?_
    · rintro i σ H1 hi ⟨rfl, hno, v4, v5, v6, rfl⟩
      rw [List.length_map] at hi
      refine ⟨_, rfl, _, rfl, ra, _, 0, _, rfl, rfl, hS, hat0, _, rfl, hr0, _, _, rfl, rfl, -1, ((tx r0).length : Nat) + 1, rfl, ⟨by decide, by decide, by omega, by rw [tx_len]; omega⟩, ?_⟩
      refine for_range (lo := -1) (fun j σ H' => H' = H1 ∧ (∀ a b : Int, (-1 ≤ a ∧ a < -1 + (i : Nat) ∧ -1 ≤ b ∧ b < (r0.length : Nat) + 1) ∨ (a = -1 + (i : Nat) ∧ -1 ≤ b ∧ b < -1 + (j : Nat)) → ¬ Bad a b) ∧ ∃ v5 v6, σ = [some (.ref ra), some (.ref sa), some (.str (tx sg)), some (.int m), some (.int (-1 + (i : Nat))), v5, v6])
        ⟨rfl, (fun a b h => h.elim (fun h => hno a b h.1 h.2.1 h.2.2.1 h.2.2.2) fun h => by omega), _, _, rfl⟩ ?_ ?_
      · rintro j σ H2 hj ⟨rfl, hno2, v5, v6, rfl⟩
        rw [tx_len] at hj
        refine ⟨_, rfl, _, rfl, sa, _, 0, _, rfl, rfl, .inl (.inl hs), at0, _, _, rfl, rfl, _, rfl, _, rfl, _, rfl, sa, _, 1, _, rfl, rfl, .inl (.inl hs), rfl, _, _, rfl, rfl, _, rfl, _, _, rfl, rfl, ?_⟩
        refine ⟨_, rfl, _, rfl, _, _, rfl, rfl, _, rfl, ?_⟩
        have step : ¬ Bad (-1 + (i : Nat)) (-1 + (j : Nat)) → (∀ a b : Int, (-1 ≤ a ∧ a < -1 + (i : Nat) ∧ -1 ≤ b ∧ b < (r0.length : Nat) + 1) ∨ (a = -1 + (i : Nat) ∧ -1 ≤ b ∧ b < -1 + ((j + 1 : Nat) : Nat)) → ¬ Bad a b) := fun hb a b h => by
          by_cases e : a = -1 + (i : Nat) ∧ b = -1 + (j : Nat)
          · rw [e.1, e.2]; exact hb
          · exact hno2 a b (by omega)
        by_cases hle : iabs (-1 + (i : Nat) - s0.1.1) + iabs (-1 + (j : Nat) - s0.1.2) ≤ m
        case neg =>
          refine iteF' (decide_eq_false hle) (iteF' rfl ⟨rfl, step fun h => hle h.1, _, _, rfl⟩)
        refine iteT' (decide_eq_true hle) ?_
        refine ⟨_, rfl, _, rfl, _, rfl, ra, rows, (-1 + (i : Nat), -1 + (j : Nat)), rfl, hS, g, ?_⟩
        refine ⟨_, rfl, sgW rows (-1 + (i : Nat), -1 + (j : Nat)), tx sg, rfl, rfl, _, rfl, ?_⟩
        rw [tx_cps]
        by_cases hin : sgW rows (-1 + (i : Nat), -1 + (j : Nat)) ∈ sg
        · refine iteT' (decide_eq_true hin) ?_
          rw [nearF_t ⟨-1 + (i : Nat), -1 + (j : Nat), by omega, by rw [hw]; omega, hle, hin⟩] at k
          exact k
        · exact iteF' (decide_eq_false hin) ⟨rfl, step fun h => hin h.2, _, _, rfl⟩
      · rintro σ H2 ⟨rfl, hno2, v5, v6, rfl⟩
        rw [tx_len] at hno2
        refine ⟨rfl, fun a b h1 h2 h3 h4 => hno2 a b (by omega), _, _, _, rfl⟩
    · rintro σ H1 ⟨rfl, hno, v4, v5, v6, rfl⟩
      rw [List.length_map] at hno
      have nn : nearF rows sg m s0 = false := nearF_f fun ⟨a, b, h1, h2, h3, h4⟩ => by
        rw [hw] at h2
        exact hno a b h1.1 (by omega) h2.1 h2.2 ⟨h3, h4⟩
      rw [nn] at k
      exact k
end
end Om

/-! sorted of a set of tuples of ints of any lengths -/
namespace Om
open PySem PySem.Spec PyProof.Rows L2 PySem.W PySem.SeqAt
theorem perm_of_map {α β : Type} (f : α → β) : ∀ {vs ws : List β}, vs.Perm ws → ∀ L : List α, ws = L.map f → ∃ L1 : List α, L1.Perm L ∧ vs = L1.map f := by
  intro vs ws p
  induction p with
  | nil => exact fun L e => ⟨L, .refl _, e⟩
  | cons x _ ih =>
    intro L e
    cases L with
    | nil => cases e
    | cons y L =>
      injection e with e1 e2
      obtain ⟨L1, h1, h2⟩ := ih L e2
      exact ⟨y :: L1, h1.cons y, by rw [List.map_cons, ← h2, e1]⟩
  | swap x y l =>
    intro L e
    cases L with
    | nil => cases e
    | cons a L =>
      cases L with
      | nil => cases e
      | cons b L =>
        injection e with e1 e2
        injection e2 with e2 e3
        exact ⟨b :: a :: L, .swap a b L, by rw [List.map_cons, List.map_cons, ← e1, ← e2, ← e3]⟩
  | trans _ _ ih1 ih2 =>
    intro L e
    obtain ⟨L2, h3, h4⟩ := ih2 L e
    obtain ⟨L1, h1, h2⟩ := ih1 L2 h4
    exact ⟨L1, h1.trans h3, h2⟩
/-- a tuple of ints, as data -/
def itup (ns : List Int) : PyData := .tuple (ns.map .int)
theorem itup_alike (a b : List Int) : alike (itup a) (itup b) = true := by
  show alike (.tuple (a.map .int)) (.tuple (b.map .int)) = true
  rw [alike]
  exact PySem.W.alike_ints a b
theorem itup_depth (a : List Int) : (itup a).depth = 1 := by
  show (PyData.tuple (a.map .int)).depth = 1
  simp [PyData.depth, PySem.W.depth_ints]
section
variable {prog : Program} {w : World} {A : Around} {E : Value → Shared → Prop} {s : Shared}
theorem mapM_each {α β : Type} {M : Model} {f : α → Sem β} {g : α → β} : ∀ (l : List α) {Q : List β → Shared → Prop}, (∀ v ∈ l, ∀ (Q' : β → Shared → Prop), Q' (g v) s → wpAny M A (f v) Q' E s) → Q (l.map g) s → wpAny M A (l.mapM f) Q E s
  | [], _, _, h => by rw [List.mapM_nil]; exact wpAny_pure h
  | x :: l, Q, hf, h => by
    rw [List.mapM_cons]
    exact wpAny_bind (hf x (.head _) _ (wpAny_bind (mapM_each l (Q := fun bs s' => wpAny M A (pure (g x :: bs)) Q E s') (fun v hv => hf v (.tail _ hv)) (wpAny_pure h))))
/-- one tuple of ints against another, as sorting compares -/
theorem oneLt_itup {f : Bool} {x y : List Int} {a b : Value} {as bs : List Addr} {Q : Bool → Shared → Prop} (ra : Reads s.heap a (itup x) as) (rb : Reads s.heap b (itup y) bs) (hu : A.units + 1 < cLine) (hq : Q (dataLt (itup x) (itup y)) s) : wpAny (model prog w) A (oneLt' f a b) Q E s := by
  have hroom : A.units + min (itup x).depth (itup y).depth < cLine := by rw [itup_depth, itup_depth]; exact hu
  cases f with
  | false => exact oneLt_alike (fun h => nomatch h) ra rb (itup_alike x y) (fun h => nomatch h) hroom hq
  | true =>
    have hal : alikeAll (x.map PyData.int) (y.map PyData.int) = true := PySem.W.alike_ints x y
    have hq' : Q (dataLt (.tuple (x.map .int)) (.tuple (y.map .int))) s := hq
    cases ra with
    | @tuple l o vs n _ as₁ h1 h2 h3 h4 =>
      cases rb with
      | @tuple l' o' vs' n' _ bs₁ k1 k2 k3 k4 =>
        have n1 : vs.size = (x.map PyData.int).length := by simpa using ReadsAll.length _ _ _ h4
        have n2 : vs'.size = (y.map PyData.int).length := by simpa using ReadsAll.length _ _ _ k4
        rw [dataLt_tuple, ← firstLt_toks _ _ hal, ← n1, ← n2] at hq'
        obtain ⟨cls, dd, data, sl⟩ := o
        obtain ⟨cls2, dd2, data2, sl2⟩ := o'
        simp only at h2 h3 k2 k3
        subst h2 h3 k2 k3
        rw [oneLt'_eq]
        simp only [if_true]
        refine wpAny_bind (wpAny_cRoomFor (by omega) ?_)
        refine wpAny_bind (wpAny_callSpecialIfBound?_slot (T := "tuple") ⟨_, h1, rfl⟩ PySem.F.slot_tuple_lt (call_meets PySem.F.slot_tuple_lt ⟨_, h1, rfl⟩ PySem.F.entry_tuple_lt (PySem.F.args_tuple_lt_2 _ _) (tuple_ltAt l l' vs vs' n n' dd dd2 sl sl2 (pairEq (x.map .int) (y.map .int)) fun j => dataLt ((x.map PyData.int).getD j .none) ((y.map PyData.int).getD j .none)) ⟨h1, k1, fun j j1 j2 => ?_, fun j j1 j2 hj => ?_, ?_⟩))
        · have hr : A.units + min (PyData.tuple (x.map .int)).depth (PyData.tuple (y.map .int)).depth < cLine := hroom
          have := eqAt_alikeAll (x.map .int) (y.map .int) A.in1 s vs.toList vs'.toList _ _ h4 k4 hal (room_in hr) j (by simpa using j1) (by simpa using j2)
          simpa using this
        · have hr : A.units + min (PyData.tuple (x.map .int)).depth (PyData.tuple (y.map .int)).depth < cLine := hroom
          have := rcLt_alikeAll (x.map .int) (y.map .int) A.in1 s vs.toList vs'.toList _ _ h4 k4 hal (room_in hr) j (by simpa using j1) (by simpa using j2) hj
          simpa using this
        · exact wpAny_truthy_bool hq'
/-- the first item of a tuple of ints, if there is one -/
def fstI (h : Heap) (v : Value) : Option Value := match v with
  | .ref a => match h.get? a with
    | some o => match o.data with
      | .seq items _ => items[0]?
      | _ => none
    | none => none
  | _ => none
theorem first_itup {x : List Int} {a : Value} {as : List Addr} {Q : Option Value → Shared → Prop} (ra : Reads s.heap a (itup x) as) (h : Q (fstI s.heap a) s) : wpAny (model prog w) A (firstOfTuple' a) Q E s := by
  cases ra with
  | @tuple l o vs n _ as₁ h1 h2 h3 h4 =>
    have e : fstI s.heap (.ref l) = vs[0]? := by
      unfold fstI
      simp only [h1, h3]
    rw [e] at h
    rw [kas_first_eq]
    refine wpAny_bind (Looks.here (show Looks (model prog w) s.heap (typeOf (.ref l)) o.cls from (Looks.ld h1).andThen .now) ?_)
    rw [h2, if_neg (by first | decide | simp)]
    exact wpAny_bind (listItems_at h1 h3 (wpAny_pure h))
theorem fst_some {h : Heap} {x : List Int} {a : Value} {as : List Addr} (ra : Reads h a (itup x) as) : (fstI h a).isSome = !x.isEmpty := by
  cases ra with
  | @tuple l o vs n _ as₁ h1 h2 h3 h4 =>
    have e : fstI h (.ref l) = vs[0]? := by
      unfold fstI
      simp only [h1, h3]
    have n1 : vs.size = x.length := by
      have := ReadsAll.length _ _ _ h4
      simpa using this
    rw [e]
    cases x with
    | nil => rw [show vs[0]? = none from Array.getElem?_eq_none (by rw [n1]; exact Nat.zero_le _)]; rfl
    | cons y ys =>
      have hp : 0 < vs.size := by rw [n1]; exact Nat.succ_pos _
      rw [Array.getElem?_eq_getElem hp]; rfl
theorem type_itup {M : Model} {h : Heap} {x : List Int} {a : Value} {as : List Addr} (ra : Reads h a (itup x) as) : Looks M h (typeOf a) (.type "tuple") := looks_reads ra
/-- tuples of ints can be sorted, whatever their lengths are -/
theorem sorts_itups {vs : List Value} {bs : List (List Int)} (e : EachIs (fun v d => ∃ as, Reads s.heap v d as) vs (bs.map itup)) (hu : A.units + 1 < cLine) : SortsAt prog w A s (dataKind s.heap (bs.map itup)) vs := by
  have hal : AllAlike (bs.map itup) := AllAlike.of itup_alike
  by_cases hne : ∀ b ∈ bs, b ≠ []
  · refine SortsAt.data e hal (.inl fun d hd => ?_) fun d hd => ?_
    · obtain ⟨b, hb, rfl⟩ := List.mem_map.mp hd
      cases b with
      | nil => exact absurd rfl (hne _ hb)
      | cons y ys => exact ⟨_, _, rfl⟩
    · obtain ⟨b, _, rfl⟩ := List.mem_map.mp hd
      rw [itup_depth]
      exact hu
  have rd : ∀ v ∈ vs, ∃ x ∈ bs, ∃ as, Reads s.heap v (itup x) as := fun v hv => by
    obtain ⟨d, hd, as, r⟩ := e.left v hv
    obtain ⟨x, hx, rfl⟩ := List.mem_map.mp hd
    exact ⟨x, hx, as, r⟩
  have lt : ∀ f : Bool, ∀ (E : Value → Shared → Prop) (x y : Value) (a b : List (Int ⊕ List Nat)) {Q : Bool → Shared → Prop}, (dataKind s.heap (bs.map itup)).keyOf x = some a → (dataKind s.heap (bs.map itup)).keyOf y = some b → Q ((dataKind s.heap (bs.map itup)).blt a b) s → wpAny (model prog w) A (oneLt' f x y) Q E s := by
    intro f E x y a b Q ha hb hq
    obtain ⟨d, as, hd, ra, rfl⟩ := dataKind_inv ha
    obtain ⟨d', as', hd', rb, rfl⟩ := dataKind_inv hb
    obtain ⟨p, _, rfl⟩ := List.mem_map.mp hd
    obtain ⟨q, _, rfl⟩ := List.mem_map.mp hd'
    exact oneLt_itup ra rb hu hq
  have keys : ∀ v, v ∈ vs → ∃ a, (dataKind s.heap (bs.map itup)).keyOf v = some a := fun v hv => by
    obtain ⟨d, hd, as, r⟩ := e.left v hv
    exact ⟨_, dataKind_some hal hd r⟩
  have some_nil : ∃ v ∈ vs, (fstI s.heap v).isSome = false := by
    refine Classical.byContradiction fun hn => hne fun b hb e2 => hn ?_
    subst e2
    have : ∀ {vs : List Value} {bs : List (List Int)}, EachIs (fun v d => ∃ as, Reads s.heap v d as) vs (bs.map itup) → [] ∈ bs → ∃ v ∈ vs, (fstI s.heap v).isSome = false := by
      intro vs bs
      induction bs generalizing vs with
      | nil => exact fun _ hb => absurd hb (by simp)
      | cons b bs ih =>
        intro e hb
        cases e with
        | @cons v _ vs' _ h t =>
          rcases List.mem_cons.mp hb with z | z
          · subst z
            obtain ⟨as, r⟩ := h
            exact ⟨v, List.mem_cons_self, by rw [fst_some r]; rfl⟩
          · obtain ⟨u, hu, k⟩ := ih t z
            exact ⟨u, List.mem_cons_of_mem _ hu, k⟩
    exact this e hb
  obtain ⟨v0, hv0, k0⟩ := some_nil
  have hall : ¬ (((vs.map (fstI s.heap)).toArray.all fun x => x.isSome) = true) := by
    simp only [List.all_toArray, List.all_map, List.all_eq_true]
    intro h
    have := h v0 hv0
    simp only [Function.comp] at this
    rw [k0] at this
    cases this
  have first : ∀ (E : Value → Shared → Prop) {Q : List (Option Value) → Shared → Prop}, Q (vs.map (fstI s.heap)) s → wpAny (model prog w) A (vs.mapM firstOfTuple') Q E s := fun E Q h => mapM_each vs (fun v hv Q' q => by
    obtain ⟨x, _, as, r⟩ := rd v hv
    exact first_itup r q) h
  by_cases h0 : (((vs.map (fstI s.heap)).toArray[0]?).bind id).isSome = true
  · refine ⟨keys, general', fun E x y a b Q ha hb hq => lt false E x y a b ha hb hq, fun h2 E Q hq => ?_⟩
    rw [keyKind'_eq, List.mapM_toArray, map_eq_pure_bind]
    refine wpAny_bind (wpAny_bind (first E (wpAny_pure ?_)))
    rw [if_neg hall, if_pos h0]
    exact wpAny_pure hq
  · refine ⟨keys, oneType', fun E x y a b Q ha hb hq => by rw [keyLt'_oneType]; exact lt true E x y a b ha hb hq, fun h2 E Q hq => ?_⟩
    rw [keyKind'_eq, List.mapM_toArray, map_eq_pure_bind]
    refine wpAny_bind (wpAny_bind (first E (wpAny_pure ?_)))
    rw [if_neg hall, if_neg h0]
    rw [oneTypeOnly'_eq, List.mapM_toArray, map_eq_pure_bind]
    refine wpAny_bind (wpAny_bind (wpAny_bind (kas_mapM (r := Value.type "tuple") _ (fun v hv Q' q => by
      obtain ⟨x, _, as, r⟩ := rd v hv
      exact (type_itup r).here q) (wpAny_pure ?_))))
    obtain ⟨v₁, rest, e1⟩ : ∃ v₁ rest, vs = v₁ :: rest := by
      cases vs with
      | nil => simp at h2
      | cons v r => exact ⟨v, r, rfl⟩
    subst e1
    have hall2 : ((List.map (fun _ => Value.type "tuple") (v₁ :: rest)).toArray.all fun x => x == Value.type "tuple") = true := by
      simp only [List.all_toArray, List.all_map, List.all_eq_true]
      intro _ _
      exact beq_self_eq_true _
    have h0 : (List.map (fun _ => Value.type "tuple") (v₁ :: rest)).toArray[0]? = some (Value.type "tuple") := by simp
    rw [h0]
    simp only [hall2, if_true]
    exact wpAny_pure (wpAny_pure hq)
theorem lt_tup_list (xs ys : List PyData) : dataLt (.tuple xs) (.tuple ys) = dataLt (.list xs) (.list ys) := by
  unfold dataLt
  rw [keyToks, keyToks, keyToks, keyToks]
theorem le_itup {β : Type} (x : β → List Int) : dataLe false (fun b => itup (x b)) = fun p q => decide (x p ≤ x q) := by
  rw [← dataLe_rows, dataLe_eq, dataLe_eq]
  funext a b
  show (!dataLt (.tuple _) (.tuple _)) = (!dataLt (.list _) (.list _))
  rw [lt_tup_list]
theorem sort_itup (L1 : List (Addr × List Int)) : (L1.mergeSort (dataLe false fun q => itup q.2)).Pairwise fun q r => q.2 ≤ r.2 := by
  rw [le_itup fun q : Addr × List Int => q.2]
  refine List.Pairwise.imp (fun h => of_decide_eq_true h) (List.pairwise_mergeSort (le := fun p q : Addr × List Int => decide (p.2 ≤ q.2)) (fun a b c h1 h2 => decide_eq_true (List.le_trans (of_decide_eq_true h1) (of_decide_eq_true h2))) (fun a b => ?_) L1)
  rcases List.le_total a.2 b.2 with h | h
  · rw [decide_eq_true h, Bool.true_or]
  · rw [decide_eq_true h, Bool.or_true]
/-- sorted(a set of tuples of ints): a list of its members -/
theorem sorted_setG {P : Program} {w : World} {A : Around} {E : Value → Shared → Prop} {s : Shared} {a : Addr} {L : List (Addr × List Int)} {es : Array (Int × Value)} {ep : Nat} {t : SetTable} {Q : Value → Shared → Prop} (R : SetTR P w s.heap a L es ep t) (hh : A.handled = none) (hu : A.units + 64 < cLine)
    (hQ : ∀ s' p (out : Array Value) (c : Nat) (L' : List (Addr × List Int)), (∀ b o, s.heap.get? b = some o → s'.heap.get? b = some o) → s'.gens = s.gens → s'.os = s.os → s.heap.objs.size ≤ p →
      s'.heap.get? p = some (seqObj "list" out c) → out.toList = L'.map (fun q => Value.ref q.1) → L'.Perm L → (L'.Pairwise fun q r => q.2 ≤ r.2) → Q (.ref p) s') :
    wpAny (model P w) A (call (.builtin "sorted") [.ref a]) Q E s := by
  obtain ⟨o, ho, hex, hd⟩ := R.ob
  have hsz := R.size
  have hfew := R.few
  refine Calls.call_function_entry kind_sorted plain_sorted entry_sorted (args_sorted1 _) ?_
  unfold Builtin.«sorted»
  refine wpAny_bind (m := checkCount "sorted" 1 1 _) (wpAny_pure ?_)
  refine wpAny_bind (collect_set (A := A.in1) hh ⟨o, ho, hex.1, hd⟩ R.fits (by unfold scanBound; omega) R.tab.ris R.led fun s1 vs k1 hz g1 o1 pm => ?_)
  have hes : es.toList.map (·.2) = L.map fun q => Value.ref q.1 := by
    rw [R.rows]
    unfold L2.rowsOf
    rw [List.map_map]
    rfl
  rw [hes] at pm
  obtain ⟨L1, p1, e1⟩ := perm_of_map (fun q : Addr × List Int => Value.ref q.1) pm L rfl
  have hvl : vs.length ≤ sizeLine := by rw [e1, List.length_map, p1.length_eq, sizeLine_eq]; omega
  refine wpAny_bind (wpAny_newList ?_ hvl)
  have hoL : (s1.heap.push (seqObj "list" vs.toArray 0)).get? s1.heap.objs.size = some (seqObj "list" vs.toArray 0) := Heap.get?_push_size _ rfl
  have old : ∀ b u, s.heap.get? b = some u → (s1.heap.push (seqObj "list" vs.toArray 0)).get? b = some u := fun b u e => Heap.get?_push_of_some _ (k1 b u e)
  have rdAll : ∀ (h' : Heap), (∀ b u, s.heap.get? b = some u → b ≠ s1.heap.objs.size → h'.get? b = some u) → ∀ q ∈ L, ∃ as, Reads h' (.ref q.1) (itup q.2) as := by
    intro h' hk q hq
    obtain ⟨b, items, n, hb⟩ := id (R.tup q hq)
    obtain ⟨hbo, hbc, hbd, hbi⟩ := hb
    have hne : q.1 ≠ s1.heap.objs.size := fun z => by
      have := Heap.lt_size (k1 _ _ hbo)
      rw [z] at this
      exact absurd this (Nat.lt_irrefl _)
    have rdI : ∀ (ks : List Int) (us : List Value), ItemsAre (intKind P w) ks us → ∃ as, ReadsAll h' us (ks.map PyData.int) as := by
      intro ks us it
      induction it with
      | nil => exact ⟨_, .nil⟩
      | @cons k u ks us h1 _ ih =>
        obtain ⟨as, r⟩ := ih
        have hi : Value.isInt k u = true := h1
        obtain ⟨tk, rfl⟩ := Value.isInt_shape hi
        exact ⟨_, .cons (.int _ _) r⟩
    obtain ⟨as, r⟩ := rdI _ _ hbi
    exact ⟨_, .tuple (hk _ _ hbo hne) hbc hbd r⟩
  have eachR : ∀ (h' : Heap), (∀ b u, s.heap.get? b = some u → b ≠ s1.heap.objs.size → h'.get? b = some u) → ∀ L2 : List (Addr × List Int), (∀ q ∈ L2, q ∈ L) → EachIs (fun v d => ∃ as, Reads h' v d as) (L2.map fun q => Value.ref q.1) ((L2.map (·.2)).map itup) := by
    intro h' hk L2
    induction L2 with
    | nil => exact fun _ => .nil
    | cons q L2 ih => exact fun hs => .cons (rdAll h' hk q (hs q List.mem_cons_self)) (ih fun r hr => hs r (List.mem_cons_of_mem _ hr))
  have hk2 : ∀ b u, s.heap.get? b = some u → b ≠ s1.heap.objs.size → (sortingHeap (s1.heap.push (seqObj "list" vs.toArray 0)) s1.heap.objs.size vs).get? b = some u := fun b u e hb => sortingHeap_old hb (old b u e)
  have e2 := eachR _ hk2 L1 fun q hq => p1.mem_iff.mp hq
  rw [← e1] at e2
  have units1 : A.in1.in1.units + 1 < cLine := by show A.units + 1 + 1 + 1 < cLine; omega
  have R' : EachIs (fun (v : Value) (q : Addr × List Int) => v = Value.ref q.1) vs L1 := by
    rw [e1]
    clear e1 e2 hvl p1
    induction L1 with
    | nil => exact .nil
    | cons q L1 ih => exact .cons rfl ih
  have eb : (L1.map (·.2)).map itup = L1.map fun q => itup q.2 := by rw [List.map_map]; rfl
  have er : EachIs (fun (v : Value) (q : Addr × List Int) => ∃ as, Reads (sortingHeap (s1.heap.push (seqObj "list" vs.toArray 0)) s1.heap.objs.size vs) v (itup q.2) as) vs L1 := by
    have : ∀ {vs : List Value} {L1 : List (Addr × List Int)} {h' : Heap}, EachIs (fun v d => ∃ as, Reads h' v d as) vs ((L1.map (·.2)).map itup) → EachIs (fun (v : Value) (q : Addr × List Int) => ∃ as, Reads h' v (itup q.2) as) vs L1 := by
      intro vs L1 h'
      induction L1 generalizing vs with
      | nil => intro e; cases e; exact .nil
      | cons q L1 ih => intro e; cases e with | cons h t => exact .cons h (ih t)
    exact this e2
  have S := sorts_itups (prog := P) (w := w) (A := A.in1.in1) (s := { s1 with heap := sortingHeap (s1.heap.push (seqObj "list" vs.toArray 0)) s1.heap.objs.size vs }) e2 units1
  refine wpAny_bind (wpAny_holding (wpAny_call_entry (s := { s1 with heap := s1.heap.push (seqObj "list" vs.toArray 0) }) slot_list_sort ⟨_, hoL, rfl⟩ entry_list_sort (list_sort_vals hoL S hvl ⟨.none, rfl, ?_⟩) (args_list_sort _)))
  have out := sortVals_data (enc := fun q : Addr × List Int => itup q.2) false R' er (by rw [← eb]; exact AllAlike.of itup_alike)
  rw [eb]
  generalize hov : sortVals (dataKind (sortingHeap (s1.heap.push (seqObj "list" vs.toArray 0)) s1.heap.objs.size vs) (L1.map fun q => itup q.2)) false vs vs = ov at out ⊢
  obtain ⟨c, hc⟩ := sortedHeap_at (vs := vs) (out := ov.toArray) hoL
  have eo : ∀ {ov : List Value} {L2 : List (Addr × List Int)}, EachIs (fun (v : Value) (q : Addr × List Int) => v = Value.ref q.1) ov L2 → ov = L2.map fun q => Value.ref q.1 := by
    intro ov L2 e
    induction e with
    | nil => rfl
    | cons h _ ih => rw [h, ih]; rfl
  refine wpAny_pure ⟨_, rfl, hQ _ s1.heap.objs.size ov.toArray c (L1.mergeSort (dataLe false fun q => itup q.2)) (fun b u e => ?_) g1 o1 hz hc (by simpa using eo out) ((List.mergeSort_perm _ _).trans p1) (sort_itup L1)⟩
  have q := k1 b u e
  have hlt := Heap.lt_size q
  show (sortedHeap (s1.heap.push (seqObj "list" vs.toArray 0)) s1.heap.objs.size vs ov.toArray).get? b = some u
  rw [sortedHeap_old (Nat.ne_of_lt hlt) (by rw [size_push']; exact Nat.lt_succ_of_lt hlt)]
  exact Heap.get?_push_of_some _ q
end
/-! ### over the layer -/
/-- sorted(a set of tuples of ints): a new list of its members, in some order -/
def rSortSet (K : PySem.W.Frag) (P : Program) (w : World) : List V → Hp → VK → Prop := fun vs H Q => ∃ (a : Addr) (L : List (Addr × List Int)), vs = [V.ref a] ∧ H a = some (SetTO P w a L) ∧ (∀ p ∈ L, SqT K H p.1 (p.2.map V.int)) ∧
  ∀ (L' : List (Addr × List Int)) (p : Addr), L'.Perm L → (L'.map (·.2)).Nodup → (L'.Pairwise fun q r => q.2 ≤ r.2) → H p = none → Q (.ref p) (upd H p (.lst (L'.map fun q => V.ref q.1)))
theorem cr_sortSet {X : Cx} (hc : X.calm = true) (hu : X.A.units + 64 < cLine) : CallR X (.builtin "sorted") (rSortSet X.K X.prog X.w) := by
  intro pins s σ H vs us Q I r h
  obtain ⟨a, L, rfl, ha, hk, q⟩ := h
  have R0 : SetT0 X.prog X.w s.heap a L := (I.hok a _ ha).1
  obtain ⟨es, ep, t, R⟩ := R0.full fun p hp => I.isT (hk p hp)
  rw [Vals.ref1 r]
  refine sorted_setG R (I.ok.hd hc) hu fun s' p out c L' k g o hp hg hout pm pw => ?_
  have hlen : (L'.map fun q => V.ref q.1).length ≤ sizeLine := by rw [List.length_map, pm.length_eq, sizeLine_eq]; have := R.few; omega
  have hn : H p = none := I.hok.fresh hp
  have hv : Vals (L'.map fun q => V.ref q.1) out.toList := by rw [hout]; exact vals_of_refs L'
  have J : Inv X pins σ (upd H p (.lst (L'.map fun q => V.ref q.1))) { s with heap := s'.heap, gens := s'.gens, drawn := s'.drawn, toks := s'.toks } :=
    I.call (ch := []) (Un.laid k hp hn) (I.hok.laid k hp ⟨hlen, out.toList, c, hv, hg⟩) (by rw [g]; exact I.bare) (fun _ z => nomatch z)
  have e : s' = { s with heap := s'.heap, gens := s'.gens, drawn := s'.drawn, toks := s'.toks } := by
    cases s'
    cases s
    cases o
    rfl
  rw [e]
  exact ⟨.ref p, _, J, rfl, q L' p pm ((pm.map (·.2)).nodup_iff.mpr R.nd) pw hn⟩
end Om

/-! led_to -/
namespace Om
open PySem PySem.Spec PyProof.Rows L2 LamX PySem.W
/-- instructions as they are accepted -/
inductive VI where
  | turn (ts : List Nat)
  | walk (a b : Nat)
  | upto (s : List Nat)
  | toward (s : List Nat)
  | beside (f : Nat) (s : List Nat)
  | near (s : List Nat) (m : Nat)
  | shore (d a b : Nat)
deriving DecidableEq
def nmN (n : Nat) : Nm := .i (n : Int)
def VI.ins : VI → Ins
  | .turn ts => .turn (ts.map nmN)
  | .walk a b => .walk (nmN a) (nmN b)
  | .upto s => .upto s
  | .toward s => .toward s
  | .beside f s => .beside (nmN f) s
  | .near s m => .near s (nmN m)
  | .shore d a b => .shore (nmN d) (nmN a) (nmN b)
def VI.wf : VI → Prop
  | .turn ts => ts.length ≤ 4
  | .walk _ b => b ≤ 20
  | .shore _ _ b => b ≤ 20
  | _ => True
noncomputable def ledF (rows : List (List Nat)) : VI → ST → List ST
  | .turn ts, s => ts.map fun t => turnS s (t : Nat)
  | .walk a b, s => (paF rows b s).drop a
  | .upto sg, s => utF rows sg s
  | .toward sg, s => (sidesF s).filter fun x => iaF rows sg 12 x
  | .beside f sg, s => if aheadS rows (turnS s (f : Nat)) ∈ sg then [s] else []
  | .near sg m, s => if nearF rows sg (m : Nat) s = true then [s] else []
  | .shore d a b, s => (plF rows (d : Nat) b s).drop a
theorem utF_len (rows : List (List Nat)) (sg : List Nat) (s : ST) : (utF rows sg s).length ≤ 1 := by
  unfold utF
  cases ((paF rows 12 s).drop 1).find? fun x => inSg rows sg x.1 with
  | none => exact Nat.zero_le _
  | some x => exact Nat.le_refl _
theorem ledF_len (rows : List (List Nat)) (v : VI) (hv : v.wf) (s : ST) : (ledF rows v s).length ≤ 21 := by
  cases v with
  | turn ts =>
    have h : ts.length ≤ 4 := hv
    show (ts.map _).length ≤ 21
    rw [List.length_map]
    omega
  | walk a b =>
    have h : b ≤ 20 := hv
    have := paF_len rows b s
    show ((paF rows b s).drop a).length ≤ 21
    rw [List.length_drop]
    omega
  | upto sg => exact Nat.le_trans (utF_len rows sg s) (by decide)
  | toward sg => exact Nat.le_trans (List.length_filter_le ..) (by unfold sidesF; rw [List.length_map, List.length_range]; decide)
  | beside f sg =>
    show (if _ then _ else _ : List ST).length ≤ 21
    split
    · show 1 ≤ 21; decide
    · show 0 ≤ 21; decide
  | near sg m =>
    show (if _ then _ else _ : List ST).length ≤ 21
    split
    · show 1 ≤ 21; decide
    · show 0 ≤ 21; decide
  | shore d a b =>
    have h : b ≤ 20 := hv
    have := plF_len rows (d : Nat) b s
    show ((plF rows (d : Nat) b s).drop a).length ≤ 21
    rw [List.length_drop]
    omega
/-- the ints of a state -/
def stl (s : ST) : List Int := [s.1.1, s.1.2, ((s.2 : Nat) : Int)]
theorem stl_v (s : ST) : (stl s).map V.int = stv s := rfl
theorem stl_inj {s r : ST} (h : stl s = stl r) : s = r := by
  unfold stl at h
  injection h with h1 h
  injection h with h2 h
  injection h with h3 _
  exact Prod.ext (Prod.ext h1 h2) (by omega)
/-- in order, none twice -/
def UpS (l : List ST) : Prop := l.Pairwise fun x y => stl x < stl y
theorem UpS.nd {l : List ST} (h : UpS l) : l.Nodup := by
  unfold List.Nodup
  refine List.Pairwise.imp (fun {a b} (q : stl a < stl b) => ?_) h
  rintro rfl
  exact List.lt_irrefl _ q
theorem UpS.uniq : ∀ {l m : List ST}, UpS l → UpS m → (∀ x, x ∈ l ↔ x ∈ m) → l = m
  | [], [], _, _, _ => rfl
  | [], y :: m, _, _, h => absurd ((h y).mpr List.mem_cons_self) (by simp)
  | x :: l, [], _, _, h => absurd ((h x).mp List.mem_cons_self) (by simp)
  | x :: l, y :: m, hl, hm, h => by
    obtain ⟨l1, l2⟩ := List.pairwise_cons.mp hl
    obtain ⟨m1, m2⟩ := List.pairwise_cons.mp hm
    have e : x = y := by
      rcases List.mem_cons.mp ((h x).mp List.mem_cons_self) with e | hx
      · exact e
      rcases List.mem_cons.mp ((h y).mpr List.mem_cons_self) with e | hy
      · exact e.symm
      exact absurd (List.lt_trans (m1 x hx) (l1 y hy)) (List.lt_irrefl _)
    subst e
    have nx : x ∉ l := fun q => List.lt_irrefl _ (l1 x q)
    have ny : x ∉ m := fun q => List.lt_irrefl _ (m1 x q)
    rw [UpS.uniq l2 m2 fun z => ⟨fun hz => (List.mem_cons.mp ((h z).mp (List.mem_cons_of_mem _ hz))).elim (fun e => absurd (e ▸ hz) nx) id, fun hz => (List.mem_cons.mp ((h z).mpr (List.mem_cons_of_mem _ hz))).elim (fun e => absurd (e ▸ hz) ny) id⟩]
/-- rows of a set as states -/
theorem ts_of {H : Hp} : ∀ {L : List (Addr × List Int)}, (∀ q ∈ L, ∃ s : ST, q.2 = stl s ∧ H q.1 = some (.tup (stv s))) → ∃ t : TS, L = t.map (fun p => (p.1, stl p.2)) ∧ CS H t
  | [], _ => ⟨[], rfl, fun p hp => by cases hp⟩
  | q :: L, h => by
    obtain ⟨t, e, ht⟩ := ts_of fun x hx => h x (List.mem_cons_of_mem _ hx)
    obtain ⟨s, e1, e2⟩ := h q List.mem_cons_self
    refine ⟨(q.1, s) :: t, by rw [e, List.map_cons, ← e1], fun p hp => ?_⟩
    rcases List.mem_cons.mp hp with rfl | hp
    · exact e2
    · exact ht p hp
theorem ups_of {t : TS} (nd : ((t.map fun p => (p.1, stl p.2)).map (·.2)).Nodup) (pw : (t.map fun p : Addr × ST => (p.1, stl p.2)).Pairwise fun q r => q.2 ≤ r.2) : UpS (csS t) := by
  rw [List.map_map] at nd
  have nd : (t.map fun p => stl p.2).Nodup := nd
  have pw := List.pairwise_map.mp pw
  have nd := List.pairwise_map.mp nd
  refine List.pairwise_map.mpr (List.Pairwise.imp₂ (fun a b h1 h2 => ?_) nd pw)
  rcases List.le_iff_lt_or_eq.mp h2 with h | h
  · exact h
  · exact absurd h h1
abbrev sLed : Stmt := top 31
def spLed (K : PySem.W.Frag) : Sp := fun vs H Q _ => ∃ (ra sa : Addr) (iv : V) (rows : List (List Nat)) (s : ST) (v : VI), vs = [.ref ra, iv, .ref sa] ∧ SqT K H ra (rows.map vt) ∧ Good2 rows ∧ Dp K H iv v.ins.d ∧ v.wf ∧ H sa = some (.tup (stv s)) ∧ s.2 < 4 ∧
  ∀ (D : Addr) (t : TS) (H' : Hp), H D = none → Same H H' → H' D = some (.lst (vzS t)) → CS H' t → UpS (csS t) → (∀ x, x ∈ csS t ↔ x ∈ ledF rows v s) → Q (.ref D) H'
section
variable {P : Program} {w : World} {K : PySem.W.Frag} {mg : Str → Option Value} {base : Heap}
abbrev nLed : List Str := ["rows", "instruction", "state", "word", "parts", "states", "turn", "aimed"]
theorem scLed : FnScope nLed ["rows", "instruction", "state"] (defScope sLed) := ⟨rfl, rfl, rfl, by decide +kernel, rfl, by decide +kernel, by decide +kernel⟩
theorem ixl_K {X : Cx} {K : PySem.W.Frag} (hK : X.K = K) : IxR X (rIxL K) := by
  subst hK
  exact ix_list
def ifB (s : Stmt) (i : Nat) : Stmt := match s with
  | .If _ b _ _ => b.getD i (.Pass ⟨0, 0, 0, 0⟩)
  | s => s
def ifE (s : Stmt) : Stmt := match s with
  | .If _ _ b _ => b.getD 0 (.Pass ⟨0, 0, 0, 0⟩)
  | s => s
def ldI : Stmt := (defBody sLed).getD 1 noS
def ldLc1 : Expr := asgExpr (ifB ldI 0)
def ldLc2 : Expr := asgExpr (ifB (ifE (ifE (ifE ldI))) 0)
theorem blkLd1 : BlkOk nLed (defScope sLed) (lcScope ldLc1) [("turn", 6)] := blkOk_by (by decide +kernel)
theorem blkLd2 : BlkOk nLed (defScope sLed) (lcScope ldLc2) [("aimed", 7)] := blkOk_by (by decide +kernel)
theorem ok_led {f : Addr} {fd : FuncData} (F : FnP K "led_to" "led_to" sLed f fd) (FB : Cal P w K mg base CX0 1 "facing_by" ["state", "turn"] spFaBy) (PA : Cal P w K mg base CX0 3 "paces_ahead" ["rows", "state", "most"] (spPA K)) (UT : Cal P w K mg base CX0 4 "_until" ["rows", "state", "signs"] (spUt K))
    (SD : Cal P w K mg base CX0 2 "_all_sides" ["state"] spSid) (IA : Cal P w K mg base CX0 2 "_is_ahead" ["rows", "state", "signs"] (spIA K)) (AH : Cal P w K mg base CX0 2 "sign_ahead" ["rows", "state"] (spSgAh K)) (NR : Cal P w K mg base CX0 2 "_is_near" ["rows", "state", "signs", "most"] (spNear K))
    (PL : Cal P w K mg base CX0 4 "paces_along" ["rows", "state", "side", "most"] (spPL K)) (gsorted : mg "sorted" = none) (gset : mg "set" = none) : FnOk P w K mg base CX0 5 f fd ["rows", "instruction", "state"] (spLed K) := by
  refine F.ok scLed (fun vs H Q E h => ?_) (fun cdv A outer s H vs Q E hr h => ?_)
  · obtain ⟨ra, sa, iv, rows, s, v, rfl, _⟩ := h
    rfl
  · obtain ⟨ra, sa, iv, rows, s0, v, rfl, hS, g, hD, hv, hs, hf, k⟩ := h
    have nd := scLed.nd
    have hu := hr.units
    have hr1 : Room 1 _ := hr.mono (by decide)
    have hr2 : Room 2 _ := hr.mono (by decide)
    have hr3 : Room 3 _ := hr.mono (by decide)
    refine ⟨_, PSs.nox (pss_cons (ps_asg (pv 1) (pg_star rfl (pgs_cons (pg_name (i := 3) nd rfl (.inl rfl)) (pgs_cons (pg_name (i := 4) nd rfl (.inr rfl)) pgs_nil))))
      (pss_cons (ps_if (pt_cmpR op_eq (pv 3) pe_str (nomark _))
        (pss_one (ps_setLc (i := 5) (own := [("turn", 6)]) (g := gName 6) rfl nd rfl rfl (sw_true rfl rfl rfl (by decide +kernel)) (pi_tup (pe_ix ix_list (pv 4) pe_int (fun _ _ => rfl))) blkLd1 (fun _ _ _ _ _ => pg_name (i := 6) nd rfl (.inl rfl)) (fun _ _ _ _ _ => pts_nil) (fun _ _ _ _ _ => pe_cal FB hr1 pass0 (pa_cons (pv 2) (pa_cons (pv 6) pa_nil)))))
        (pss_one (ps_if (pt_cmpR op_eq (pv 3) pe_str (nomark _))
        (pss_one (ps_set (i := 5) nd rfl (.inl rfl) (pe_slice (slLK (K := K) rfl) (pe_cal PA hr3 pass0 (pa_cons (pv 0) (pa_cons (pv 2) (pa_cons (pe_ix ix_list (pv 4) pe_int (fun _ _ => rfl)) pa_nil)))) (po_some (pe_ix ix_list (pv 4) pe_int (fun _ _ => rfl))) po_none)))
        (pss_one (ps_if (pt_cmpR op_eq (pv 3) pe_str (nomark _))
        (pss_one (ps_set (i := 5) nd rfl (.inl rfl) (pe_cal UT hr pass0 (pa_cons (pv 0) (pa_cons (pv 2) (pa_cons (pe_ix ix_list (pv 4) pe_int (fun _ _ => rfl)) pa_nil))))))
        (pss_one (ps_if (pt_cmpR op_eq (pv 3) pe_str (nomark _))
        (pss_one (ps_setLc (i := 5) (own := [("aimed", 7)]) (g := gName 7) rfl nd rfl rfl (sw_true rfl rfl rfl (by decide +kernel)) (pi_listK (K := K) rfl (pe_cal SD hr2 pass0 (pa_cons (pv 2) pa_nil))) blkLd2 (fun _ _ _ _ _ => pg_name (i := 7) nd rfl (.inl rfl)) (fun _ _ _ _ _ => pts_one (pt_val (pe_cal IA hr2 pass0 (pa_cons (pv 0) (pa_cons (pv 7) (pa_cons (pe_ix (ixl_K (K := K) rfl) (pv 4) pe_int (fun _ _ => rfl)) pa_nil)))))) (fun _ _ _ _ _ => pv 7)))
        (pss_one (ps_if (pt_cmpR op_eq (pv 3) pe_str (nomark _))
        (pss_one (ps_set (i := 5) nd rfl (.inl rfl) (pe_ifExp (pt_cmpR op_in_sign (pe_cal AH hr2 pass0 (pa_cons (pv 0) (pa_cons (pe_cal FB hr1 pass0 (pa_cons (pv 2) (pa_cons (pe_ix ix_list (pv 4) pe_int (fun _ _ => rfl)) pa_nil))) pa_nil))) (pe_ix ix_list (pv 4) pe_int (fun _ _ => rfl)) (by with_unfolding_all rfl)) (pe_lst (pa_cons (pv 2) pa_nil)) (pe_lst pa_nil))))
        (pss_one (ps_if (pt_cmpR op_eq (pv 3) pe_str (nomark _))
        (pss_one (ps_set (i := 5) nd rfl (.inl rfl) (pe_ifExp (pt_val (pe_cal NR hr2 pass0 (pa_cons (pv 0) (pa_cons (pv 2) (pa_cons (pe_ix ix_list (pv 4) pe_int (fun _ _ => rfl)) (pa_cons (pe_ix ix_list (pv 4) pe_int (fun _ _ => rfl)) pa_nil)))))) (pe_lst (pa_cons (pv 2) pa_nil)) (pe_lst pa_nil))))
        (pss_one (ps_set (i := 5) nd rfl (.inl rfl) (pe_slice (slLK (K := K) rfl) (pe_cal PL hr pass0 (pa_cons (pv 0) (pa_cons (pv 2) (pa_cons (pe_ix ix_list (pv 4) pe_int (fun _ _ => rfl)) (pa_cons (pe_ix ix_list (pv 4) pe_int (fun _ _ => rfl)) pa_nil))))) (po_some (pe_ix ix_list (pv 4) pe_int (fun _ _ => rfl))) po_none))))))))))))))
      (pss_one (ps_ret (pe_callB (cr_sortSet rfl hu) (by rfl) gsorted (by decide +kernel) (pa_cons (pe_callTy (cr_setOfT rfl hu) (by rfl) gset (by decide +kernel) (pa_cons (pv 5) pa_nil)) pa_nil)))))), ?_⟩
    have fin : ∀ (b : Addr) (t : TS) (H1 : Hp), Same H H1 → H1 b = some (.lst (vzS t)) → CS H1 t → csS t = ledF rows v s0 → rSetOfT K P w [V.ref b] H1 fun u H2 => rSortSet K P w [u] H2 Q := by
      intro b t H1 s1 hb hC ht
      have ln : t.length ≤ 21 := by
        have := ledF_len rows v hv s0
        rw [← ht, csS_len] at this
        exact this
      have hvz : vzS t = (t.map fun p => (p.1, stl p.2)).map fun q : Addr × List Int => V.ref q.1 := by
        unfold vzS
        rw [List.map_map]
        rfl
      refine ⟨b, t.map fun p => (p.1, stl p.2), rfl, .inl (.inl (by rw [← hvz]; exact hb)), fun q hq => ?_, by rw [List.length_map]; omega, fun a L ha hin hall => ?_⟩
      · obtain ⟨p, hp, rfl⟩ := List.mem_map.mp hq
        exact .inl (.inl (hC p hp))
      have s2 := Same.new (Same.refl H1) ha (o := SetTO P w a L)
      refine ⟨a, L, rfl, upd_same, fun q hq => ?_, fun L' p pm nd pw hp => ?_⟩
      · obtain ⟨x, hx, rfl⟩ := List.mem_map.mp (hin q hq)
        exact .inl (.inl (s2 _ _ (hC x hx)))
      have s3 := Same.new (Same.refl (upd H1 a (SetTO P w a L))) hp (o := .lst (L'.map fun q => V.ref q.1))
      have s13 := s2.trans s3
      obtain ⟨t', e, c'⟩ := ts_of (H := upd (upd H1 a (SetTO P w a L)) p (.lst (L'.map fun q => V.ref q.1))) (L := L') fun q hq => by
        obtain ⟨x, hx, rfl⟩ := List.mem_map.mp (hin q (pm.mem_iff.mp hq))
        exact ⟨x.2, rfl, s13 _ _ (hC x hx)⟩
      have hv' : (L'.map fun q => V.ref q.1) = vzS t' := by
        rw [e, List.map_map]
        rfl
      refine k p t' _ (Same.none (s1.trans s2) hp) (s1.trans s13) (by rw [upd_same, hv']) c' (ups_of (e ▸ nd) (e ▸ pw)) fun x => ⟨fun hx => ?_, fun hx => ?_⟩
      · obtain ⟨y, hy, rfl⟩ := List.mem_map.mp hx
        have hm : (y.1, stl y.2) ∈ L' := by
          rw [e]
          exact List.mem_map_of_mem (f := fun p : Addr × ST => (p.1, stl p.2)) hy
        obtain ⟨z, hz, ez⟩ := List.mem_map.mp (hin _ (pm.mem_iff.mp hm))
        have ez := stl_inj (congrArg Prod.snd ez)
        rw [← ht, ← ez]
        exact List.mem_map_of_mem hz
      · rw [← ht] at hx
        obtain ⟨y, hy, rfl⟩ := List.mem_map.mp hx
        obtain ⟨q, hq, eq⟩ := List.mem_map.mp (hall (y.1, stl y.2) (List.mem_map_of_mem (f := fun p : Addr × ST => (p.1, stl p.2)) hy))
        have hq := pm.mem_iff.mpr hq
        rw [e] at hq
        obtain ⟨z, hz, rfl⟩ := List.mem_map.mp hq
        have ez := stl_inj eq
        rw [← ez]
        exact List.mem_map_of_mem hz
    cases v with
    | turn ts =>
      cases hD with
      | tup hS' hA =>
        cases hA with
        | cons h1 hA =>
          cases h1
          cases hA with
          | cons g0 hA =>
            cases hA
            cases g0 with
            | tup hT hB =>
              have eB := dp_nms hB
              subst eB
              rename_i a u
              refine ⟨_, rfl, _, _, _, rfl, hS', fun L hL => ?_⟩
              refine ⟨_, _, rfl, _, _, rfl, rfl, ?_⟩
              have s1 := Same.new (Same.refl H) hL (o := .lst [V.ref u])
              have eL : (upd H L (.lst [V.ref u])) L = some (.lst [V.ref u]) := upd_same
              generalize upd H L (.lst [V.ref u]) = H1 at s1 eL ⊢
              refine ⟨_, rfl, rfl, _, rfl, iteT' (by rw [wtest]; show decide (Str.ofString "turn" = Str.ofString "turn") = true; decide +kernel) ?_⟩
              refine ⟨_, rfl, _, _, 0, _, rfl, rfl, (.inl (.inl eL)), rfl, u, rfl, ⟨_, Same.tup s1 hT⟩, fun D hD => ?_⟩
              have hv4 : ts.length ≤ 4 := hv
              refine lc_tup (K := K) (a := u) (xs := (ts.map nmN).map Nm.v) (fun i H' => Same H1 H' ∧ ∃ t : TS, H' D = some (.lst (vzS t)) ∧ CS H' t ∧ csS t = (ts.take i).map fun t => turnS s0 (t : Nat)) ⟨Same.new (Same.refl H1) hD, [], upd_same, (fun p hp => by cases hp), by rw [List.take_zero]; rfl⟩ (fun i H' _ z => Same.tup (s1.trans z.1) hT) ?_ ?_
              · rintro i x H2 hx ⟨s2, t, h2, c2, ht⟩
                rw [List.map_map, List.getElem?_map] at hx
                obtain ⟨n, hn, rfl⟩ := Option.map_eq_some_iff.mp hx
                refine ⟨rfl, tyes ?_⟩
                refine ⟨_, rfl, _, rfl, sa, s0, (n : Int), rfl, (s1.trans s2) _ _ hs, fun p hp => ?_⟩
                have s3 := Same.new (Same.refl H2) hp (o := .tup (stv (turnS s0 (n : Int))))
                have e3 : (upd H2 p (.tup (stv (turnS s0 (n : Int))))) p = some (.tup (stv (turnS s0 (n : Int)))) := upd_same
                generalize upd H2 p (.tup (stv (turnS s0 (n : Int)))) = H3 at s3 e3 ⊢
                have h3 := s3 _ _ h2
                have ln : t.length ≤ 4 := by
                  have := congrArg List.length ht
                  rw [csS_len, List.length_map, List.length_take] at this
                  omega
                refine ⟨_, h3, Nat.lt_of_le_of_lt (show _ ≤ 100 by rw [vzS_len]; omega) (by decide), Same.updN (s2.trans s3) hD, t ++ [(p, turnS s0 (n : Int))], by rw [upd_same, vzS_app]; rfl, ((c2.same s3).app (CS.one e3)).updL h3, ?_⟩
                rw [csS_app, ht, List.take_add_one, hn, List.map_append]
                rfl
              · rintro H2 ⟨s2, t, h2, c2, ht⟩
                refine ⟨_, rfl, fin D t H2 (s1.trans s2) h2 c2 ?_⟩
                rw [ht, List.length_map, List.length_map, List.take_length]
                rfl
    | walk m n =>
      cases hD with
      | tup hS' hA =>
        cases hA with
        | cons h1 hA =>
          cases h1
          cases hA with
          | cons g0 hA =>
            have e0 := dp_nm g0
            subst e0
            cases hA with
            | cons g1 hA =>
              have e1 := dp_nm g1
              subst e1
              cases hA
              refine ⟨_, rfl, _, _, _, rfl, hS', fun L hL => ?_⟩
              refine ⟨_, _, rfl, _, _, rfl, rfl, ?_⟩
              have s1 := Same.new (Same.refl H) hL (o := .lst [(nmN m).v, (nmN n).v])
              have eL : (upd H L (.lst [(nmN m).v, (nmN n).v])) L = some (.lst [(nmN m).v, (nmN n).v]) := upd_same
              generalize upd H L (.lst [(nmN m).v, (nmN n).v]) = H1 at s1 eL ⊢
              refine ⟨_, rfl, rfl, _, rfl, iteF' (by rw [wtest]; show decide (Str.ofString "walk" = Str.ofString "turn") = false; decide +kernel) ?_⟩
              refine ⟨_, rfl, rfl, _, rfl, iteT' (by rw [wtest]; show decide (Str.ofString "walk" = Str.ofString "walk") = true; decide +kernel) ?_⟩
              have hn : n ≤ 20 := hv
              refine ⟨_, rfl, _, rfl, _, rfl, _, _, 1, _, rfl, rfl, (.inl (.inl eL)), rfl, ra, sa, rows, s0, (n : Int), rfl, Same.tup s1 hS, g, s1 _ _ hs, hf, by omega, fun D t H2 s2 _ hD hC ht => ?_⟩
              have eL := s2 _ _ eL
              refine ⟨_, rfl, _, _, 0, _, rfl, rfl, (.inl (.inl eL)), rfl, (m : Int), rfl, D, _, rfl, .inl (.inl hD), fun q hq => ?_⟩
              rw [cut_from]
              have s3 := Same.new (Same.refl H2) hq (o := .lst (vzS (t.drop m)))
              refine ⟨_, rfl, fin q (t.drop m) _ ((s1.trans s2).trans s3) upd_same (CS.same (fun p hp => hC p (List.mem_of_mem_drop hp)) s3) ?_⟩
              have ht : csS t = paF rows n s0 := ht
              show csS (t.drop m) = (paF rows n s0).drop m
              rw [← ht]
              exact List.map_drop ..
    | upto z =>
      cases hD with
      | tup hS' hA =>
        cases hA with
        | cons h1 hA =>
          cases h1
          cases hA with
          | cons g0 hA =>
            unfold dt at g0
            cases g0
            cases hA
            refine ⟨_, rfl, _, _, _, rfl, hS', fun L hL => ?_⟩
            refine ⟨_, _, rfl, _, _, rfl, rfl, ?_⟩
            have s1 := Same.new (Same.refl H) hL (o := .lst [V.str (tx z)])
            have eL : (upd H L (.lst [V.str (tx z)])) L = some (.lst [V.str (tx z)]) := upd_same
            generalize upd H L (.lst [V.str (tx z)]) = H1 at s1 eL ⊢
            refine ⟨_, rfl, rfl, _, rfl, iteF' (by rw [wtest]; show decide (Str.ofString "until" = Str.ofString "turn") = false; decide +kernel) ?_⟩
            refine ⟨_, rfl, rfl, _, rfl, iteF' (by rw [wtest]; show decide (Str.ofString "until" = Str.ofString "walk") = false; decide +kernel) ?_⟩
            refine ⟨_, rfl, rfl, _, rfl, iteT' (by rw [wtest]; show decide (Str.ofString "until" = Str.ofString "until") = true; decide +kernel) ?_⟩
            refine ⟨_, rfl, _, rfl, _, rfl, _, _, 0, _, rfl, rfl, (.inl (.inl eL)), rfl, ra, sa, rows, s0, z, rfl, Same.tup s1 hS, g, s1 _ _ hs, hf, fun D t H2 s2 hD hC ht => ?_⟩
            exact ⟨_, rfl, fin D t H2 (s1.trans s2) hD hC ht⟩
    | toward z =>
      cases hD with
      | tup hS' hA =>
        cases hA with
        | cons h1 hA =>
          cases h1
          cases hA with
          | cons g0 hA =>
            unfold dt at g0
            cases g0
            cases hA
            refine ⟨_, rfl, _, _, _, rfl, hS', fun L hL => ?_⟩
            refine ⟨_, _, rfl, _, _, rfl, rfl, ?_⟩
            have s1 := Same.new (Same.refl H) hL (o := .lst [V.str (tx z)])
            have eL : (upd H L (.lst [V.str (tx z)])) L = some (.lst [V.str (tx z)]) := upd_same
            generalize upd H L (.lst [V.str (tx z)]) = H1 at s1 eL ⊢
            refine ⟨_, rfl, rfl, _, rfl, iteF' (by rw [wtest]; show decide (Str.ofString "toward" = Str.ofString "turn") = false; decide +kernel) ?_⟩
            refine ⟨_, rfl, rfl, _, rfl, iteF' (by rw [wtest]; show decide (Str.ofString "toward" = Str.ofString "walk") = false; decide +kernel) ?_⟩
            refine ⟨_, rfl, rfl, _, rfl, iteF' (by rw [wtest]; show decide (Str.ofString "toward" = Str.ofString "until") = false; decide +kernel) ?_⟩
            refine ⟨_, rfl, rfl, _, rfl, iteT' (by rw [wtest]; show decide (Str.ofString "toward" = Str.ofString "toward") = true; decide +kernel) ?_⟩
            refine ⟨_, rfl, sa, s0, rfl, s1 _ _ hs, fun D t H2 s2 hD hC ht => ?_⟩
            have eL := s2 _ _ eL
            refine ⟨D, rfl, ⟨_, .inl (.inl hD)⟩, fun M hM => ?_⟩
            have len4 : t.length = 4 := by
              have := congrArg List.length ht
              rw [csS_len] at this
              rw [this]
              unfold sidesF
              rw [List.length_map, List.length_range]
            have face : ∀ x ∈ csS t, x.2 < 4 := fun x hx => by
              rw [ht] at hx
              unfold sidesF at hx
              obtain ⟨y, _, rfl⟩ := List.mem_map.mp hx
              exact turnS_lt _ _
            refine lc_list (K := K) (a := D) (xs := vzS t) (fun i H' => Same H2 H' ∧ ∃ u : TS, H' M = some (.lst (vzS u)) ∧ CS H' u ∧ csS u = ((csS t).take i).filter fun x => iaF rows z 12 x) ⟨Same.new (Same.refl H2) hM, [], upd_same, (fun p hp => by cases hp), by rw [List.take_zero]; rfl⟩ (fun i H' _ q => .inl (.inl (q.1 _ _ hD))) ?_ ?_
            · rintro i x H3 hx ⟨s3, u, h3, c3, hu3⟩
              obtain ⟨y, hy, rfl, my⟩ := atS hx
              have hy' : (csS t)[i]? = some y.2 := by
                unfold csS
                rw [List.getElem?_map, hy]
                rfl
              have hy3 := s3 _ _ (hC y my)
              have sH3 := s1.trans (s2.trans s3)
              refine ⟨rfl, ?_⟩
              refine ⟨_, rfl, _, rfl, _, rfl, _, _, 0, _, rfl, rfl, (.inl (.inl (s3 _ _ eL))), rfl, ra, y.1, rows, y.2, z, rfl, Same.tup sH3 hS, g, hy3, face _ (List.mem_of_getElem? hy'), fun H4 s4 => ?_⟩
              refine ⟨_, rfl, ?_⟩
              have h4 := s4 _ _ h3
              have lu : u.length ≤ 4 := by
                have := congrArg List.length hu3
                rw [csS_len] at this
                rw [this]
                refine Nat.le_trans (List.length_filter_le ..) ?_
                rw [List.length_take, csS_len]
                omega
              cases e : iaF rows z 12 y.2 with
              | true =>
                refine iteT ⟨_, rfl, vzS u, h4, Nat.lt_of_le_of_lt (show _ ≤ 100 by rw [vzS_len]; omega) (by decide), Same.updN (s3.trans s4) hM, u ++ [y], by rw [upd_same, vzS_app]; rfl, ((c3.same s4).app (CS.one (s4 _ _ hy3))).updL h4, ?_⟩
                rw [csS_app, hu3, List.take_add_one, hy', List.filter_append]
                refine congrArg (fun q : List ST => List.filter (fun x => iaF rows z 12 x) (List.take i (csS t)) ++ q) ?_
                show [y.2] = List.filter _ [y.2]
                rw [List.filter_cons, e]
                rfl
              | false =>
                refine iteF ⟨s3.trans s4, u, h4, c3.same s4, ?_⟩
                rw [hu3, List.take_add_one, hy', List.filter_append]
                show _ = _ ++ List.filter _ [y.2]
                rw [List.filter_cons, e]
                exact (List.append_nil _).symm
            · rintro H3 ⟨s3, u, h3, c3, hu3⟩
              refine ⟨_, rfl, fin M u H3 (s1.trans (s2.trans s3)) h3 c3 ?_⟩
              rw [hu3, vzS_len, ← csS_len, List.take_length, ht]
              rfl
    | beside m z =>
      cases hD with
      | tup hS' hA =>
        cases hA with
        | cons h1 hA =>
          cases h1
          cases hA with
          | cons g0 hA =>
            have e0 := dp_nm g0
            subst e0
            cases hA with
            | cons g1 hA =>
              unfold dt at g1
              cases g1
              cases hA
              refine ⟨_, rfl, _, _, _, rfl, hS', fun L hL => ?_⟩
              refine ⟨_, _, rfl, _, _, rfl, rfl, ?_⟩
              have s1 := Same.new (Same.refl H) hL (o := .lst [(nmN m).v, V.str (tx z)])
              have eL : (upd H L (.lst [(nmN m).v, V.str (tx z)])) L = some (.lst [(nmN m).v, V.str (tx z)]) := upd_same
              generalize upd H L (.lst [(nmN m).v, V.str (tx z)]) = H1 at s1 eL ⊢
              refine ⟨_, rfl, rfl, _, rfl, iteF' (by rw [wtest]; show decide (Str.ofString "beside" = Str.ofString "turn") = false; decide +kernel) ?_⟩
              refine ⟨_, rfl, rfl, _, rfl, iteF' (by rw [wtest]; show decide (Str.ofString "beside" = Str.ofString "walk") = false; decide +kernel) ?_⟩
              refine ⟨_, rfl, rfl, _, rfl, iteF' (by rw [wtest]; show decide (Str.ofString "beside" = Str.ofString "until") = false; decide +kernel) ?_⟩
              refine ⟨_, rfl, rfl, _, rfl, iteF' (by rw [wtest]; show decide (Str.ofString "beside" = Str.ofString "toward") = false; decide +kernel) ?_⟩
              refine ⟨_, rfl, rfl, _, rfl, iteT' (by rw [wtest]; show decide (Str.ofString "beside" = Str.ofString "beside") = true; decide +kernel) ?_⟩
              refine ⟨_, rfl, _, rfl, _, rfl, _, _, 0, _, rfl, rfl, (.inl (.inl eL)), rfl, sa, s0, (m : Int), rfl, s1 _ _ hs, fun p hp => ?_⟩
              have s2 := Same.new (Same.refl H1) hp (o := .tup (stv (turnS s0 (m : Int))))
              have e2 : (upd H1 p (.tup (stv (turnS s0 (m : Int))))) p = some (.tup (stv (turnS s0 (m : Int)))) := upd_same
              generalize upd H1 p (.tup (stv (turnS s0 (m : Int)))) = H2 at s2 e2 ⊢
              refine ⟨ra, p, rows, turnS s0 (m : Int), rfl, Same.tup (s1.trans s2) hS, g, e2, turnS_lt _ _, fun H3 s3 => ?_⟩
              have eL := (s2.trans s3) _ _ eL
              have sH3 := s1.trans (s2.trans s3)
              refine ⟨_, rfl, _, _, 1, _, rfl, rfl, (.inl (.inl eL)), rfl, aheadS rows (turnS s0 (m : Int)), tx z, rfl, rfl, _, rfl, ?_⟩
              rw [tx_cps]
              by_cases hin : aheadS rows (turnS s0 (m : Int)) ∈ z
              · refine iteT' (decide_eq_true hin) ⟨_, rfl, by show 1 ≤ sizeLine; decide, fun r hr => ?_⟩
                have s4 := Same.new (Same.refl H3) hr (o := .lst [.ref sa])
                refine ⟨_, rfl, fin r [(sa, s0)] _ (sH3.trans s4) upd_same (CS.one ((sH3.trans s4) _ _ hs)) ?_⟩
                show [s0] = if aheadS rows (turnS s0 (m : Int)) ∈ z then [s0] else []
                rw [if_pos hin]
              · refine iteF' (decide_eq_false hin) ⟨by show 0 ≤ sizeLine; decide, fun r hr => ?_⟩
                have s4 := Same.new (Same.refl H3) hr (o := .lst [])
                refine ⟨_, rfl, fin r [] _ (sH3.trans s4) upd_same (fun p hp => by cases hp) ?_⟩
                show [] = if aheadS rows (turnS s0 (m : Int)) ∈ z then [s0] else []
                rw [if_neg hin]
    | near z m =>
      cases hD with
      | tup hS' hA =>
        cases hA with
        | cons h1 hA =>
          cases h1
          cases hA with
          | cons g0 hA =>
            unfold dt at g0
            cases g0
            cases hA with
            | cons g1 hA =>
              have e1 := dp_nm g1
              subst e1
              cases hA
              refine ⟨_, rfl, _, _, _, rfl, hS', fun L hL => ?_⟩
              refine ⟨_, _, rfl, _, _, rfl, rfl, ?_⟩
              have s1 := Same.new (Same.refl H) hL (o := .lst [V.str (tx z), (nmN m).v])
              have eL : (upd H L (.lst [V.str (tx z), (nmN m).v])) L = some (.lst [V.str (tx z), (nmN m).v]) := upd_same
              generalize upd H L (.lst [V.str (tx z), (nmN m).v]) = H1 at s1 eL ⊢
              refine ⟨_, rfl, rfl, _, rfl, iteF' (by rw [wtest]; show decide (Str.ofString "near" = Str.ofString "turn") = false; decide +kernel) ?_⟩
              refine ⟨_, rfl, rfl, _, rfl, iteF' (by rw [wtest]; show decide (Str.ofString "near" = Str.ofString "walk") = false; decide +kernel) ?_⟩
              refine ⟨_, rfl, rfl, _, rfl, iteF' (by rw [wtest]; show decide (Str.ofString "near" = Str.ofString "until") = false; decide +kernel) ?_⟩
              refine ⟨_, rfl, rfl, _, rfl, iteF' (by rw [wtest]; show decide (Str.ofString "near" = Str.ofString "toward") = false; decide +kernel) ?_⟩
              refine ⟨_, rfl, rfl, _, rfl, iteF' (by rw [wtest]; show decide (Str.ofString "near" = Str.ofString "beside") = false; decide +kernel) ?_⟩
              refine ⟨_, rfl, rfl, _, rfl, iteT' (by rw [wtest]; show decide (Str.ofString "near" = Str.ofString "near") = true; decide +kernel) ?_⟩
              refine ⟨_, rfl, _, rfl, _, rfl, _, _, 0, _, rfl, rfl, (.inl (.inl eL)), rfl, _, rfl, _, _, 1, _, rfl, rfl, (.inl (.inl eL)), rfl, ra, sa, rows, s0, z, (m : Int), rfl, Same.tup s1 hS, g, s1 _ _ hs, ?_⟩
              refine ⟨_, rfl, ?_⟩
              cases e : nearF rows z (m : Int) s0 with
              | true =>
                refine iteT ⟨_, rfl, by show 1 ≤ sizeLine; decide, fun r hr => ?_⟩
                have s4 := Same.new (Same.refl H1) hr (o := .lst [.ref sa])
                refine ⟨_, rfl, fin r [(sa, s0)] _ (s1.trans s4) upd_same (CS.one ((s1.trans s4) _ _ hs)) ?_⟩
                show [s0] = if nearF rows z (m : Int) s0 = true then [s0] else []
                rw [if_pos e]
              | false =>
                refine iteF ⟨by show 0 ≤ sizeLine; decide, fun r hr => ?_⟩
                have s4 := Same.new (Same.refl H1) hr (o := .lst [])
                refine ⟨_, rfl, fin r [] _ (s1.trans s4) upd_same (fun p hp => by cases hp) ?_⟩
                show [] = if nearF rows z (m : Int) s0 = true then [s0] else []
                rw [e]
                rfl
    | shore l m n =>
      cases hD with
      | tup hS' hA =>
        cases hA with
        | cons h1 hA =>
          cases h1
          cases hA with
          | cons g0 hA =>
            have e0 := dp_nm g0
            subst e0
            cases hA with
            | cons g1 hA =>
              have e1 := dp_nm g1
              subst e1
              cases hA with
              | cons g2 hA =>
                have e2 := dp_nm g2
                subst e2
                cases hA
                refine ⟨_, rfl, _, _, _, rfl, hS', fun L hL => ?_⟩
                refine ⟨_, _, rfl, _, _, rfl, rfl, ?_⟩
                have s1 := Same.new (Same.refl H) hL (o := .lst [(nmN l).v, (nmN m).v, (nmN n).v])
                have eL : (upd H L (.lst [(nmN l).v, (nmN m).v, (nmN n).v])) L = some (.lst [(nmN l).v, (nmN m).v, (nmN n).v]) := upd_same
                generalize upd H L (.lst [(nmN l).v, (nmN m).v, (nmN n).v]) = H1 at s1 eL ⊢
                refine ⟨_, rfl, rfl, _, rfl, iteF' (by rw [wtest]; show decide (Str.ofString "shore" = Str.ofString "turn") = false; decide +kernel) ?_⟩
                refine ⟨_, rfl, rfl, _, rfl, iteF' (by rw [wtest]; show decide (Str.ofString "shore" = Str.ofString "walk") = false; decide +kernel) ?_⟩
                refine ⟨_, rfl, rfl, _, rfl, iteF' (by rw [wtest]; show decide (Str.ofString "shore" = Str.ofString "until") = false; decide +kernel) ?_⟩
                refine ⟨_, rfl, rfl, _, rfl, iteF' (by rw [wtest]; show decide (Str.ofString "shore" = Str.ofString "toward") = false; decide +kernel) ?_⟩
                refine ⟨_, rfl, rfl, _, rfl, iteF' (by rw [wtest]; show decide (Str.ofString "shore" = Str.ofString "beside") = false; decide +kernel) ?_⟩
                refine ⟨_, rfl, rfl, _, rfl, iteF' (by rw [wtest]; show decide (Str.ofString "shore" = Str.ofString "near") = false; decide +kernel) ?_⟩
                have hn : n ≤ 20 := hv
                refine ⟨_, rfl, _, rfl, _, rfl, _, _, 0, _, rfl, rfl, (.inl (.inl eL)), rfl, _, rfl, _, _, 2, _, rfl, rfl, (.inl (.inl eL)), rfl, ra, sa, rows, s0, (l : Int), (n : Int), rfl, Same.tup s1 hS, g, s1 _ _ hs, hf, by omega, fun D t H2 s2 _ hD hC ht => ?_⟩
                have eL := s2 _ _ eL
                refine ⟨_, rfl, _, _, 1, _, rfl, rfl, (.inl (.inl eL)), rfl, (m : Int), rfl, D, _, rfl, .inl (.inl hD), fun q hq => ?_⟩
                rw [cut_from]
                have s3 := Same.new (Same.refl H2) hq (o := .lst (vzS (t.drop m)))
                refine ⟨_, rfl, fin q (t.drop m) _ ((s1.trans s2).trans s3) upd_same (CS.same (fun p hp => hC p (List.mem_of_mem_drop hp)) s3) ?_⟩
                have ht : csS t = plF rows (l : Int) n s0 := ht
                show csS (t.drop m) = (plF rows (l : Int) n s0).drop m
                rw [← ht]
                exact List.map_drop ..
end
end Om

/-! a dict whose keys are data of some kind that can be told apart: texts, ints and tuples -/
namespace Om.Gk
open PySem PySem.Spec PyProof.Rows L2 LamX Om
class NKey (α : Type) where
  dec : DecidableEq α
  kd : α → PyData
  kn : α → NestedKey
  inj : ∀ {a b : α}, kn a = kn b → a = b
  reads : ∀ {h : Heap} {v : Value} {as : List Addr} (a : α), Reads h v (kd a) as → NestedIs h (kn a) v
  depth : ∀ a : α, (kn a).depth ≤ 8
instance (priority := low) nkeyDec {α : Type} [i : NKey α] : DecidableEq α := i.dec
mutual
/-- data made of texts, ints, tuples as a key -/
def dk : PyData → NestedKey
  | .int i => .num i
  | .bool b => .num (if b = true then 1 else 0)
  | .str x => .text x
  | .tuple ds => .tup (dkAll ds)
  | _ => .none
def dkAll : List PyData → List NestedKey
  | [] => []
  | d :: ds => dk d :: dkAll ds
end
mutual
def flatD : PyData → Bool
  | .none => true
  | .int _ => true
  | .bool _ => true
  | .str _ => true
  | .tuple ds => flatAll ds
  | _ => false
def flatAll : List PyData → Bool
  | [] => true
  | d :: ds => flatD d && flatAll ds
end
mutual
theorem reads_dk {h : Heap} : ∀ (d : PyData) (v : Value) (as : List Addr), flatD d = true → Reads h v d as → NestedIs h (dk d) v
  | .none, _, _, _, r => by
    cases r
    rw [dk]
    exact .none
    all_goals (intros; contradiction)
  | .int i, _, _, _, r => by
    cases r
    rw [dk]
    exact .int _ _
  | .bool b, _, _, _, r => by
    cases r
    rw [dk]
    exact .bool rfl
  | .str x, _, _, _, r => by
    cases r
    rw [dk]
    exact .text _ _
  | .tuple ds, _, _, f, r => by
    cases r with
    | tuple h1 h2 h3 h4 =>
      rw [dk]
      rw [flatD] at f
      exact .tup h1 h2 h3 (reads_dkAll ds _ _ f h4)
  | .list _, _, _, f, _ => by rw [flatD] at f; cases f; all_goals (intros; contradiction)
  | .dict _, _, _, f, _ => by rw [flatD] at f; cases f; all_goals (intros; contradiction)
theorem reads_dkAll {h : Heap} : ∀ (ds : List PyData) (vs : List Value) (as : List Addr), flatAll ds = true → ReadsAll h vs ds as → NestedAll h (dkAll ds) vs
  | [], _, _, _, r => by
    cases r
    rw [dkAll]
    exact .nil
  | d :: ds, _, _, f, r => by
    rw [flatAll, Bool.and_eq_true] at f
    cases r with
    | cons r1 r2 =>
      rw [dkAll]
      exact .cons (reads_dk d _ _ f.1 r1) (reads_dkAll ds _ _ f.2 r2)
end
theorem dkAll_map {β : Type} (f : β → PyData) : ∀ l : List β, dkAll (l.map f) = l.map fun x => dk (f x)
  | [] => by rw [List.map_nil, List.map_nil, dkAll]
  | x :: l => by rw [List.map_cons, List.map_cons, dkAll, dkAll_map f l]
theorem flatAll_map {β : Type} (f : β → PyData) (h : ∀ x, flatD (f x) = true) : ∀ l : List β, flatAll (l.map f) = true
  | [] => by rw [List.map_nil, flatAll]
  | x :: l => by rw [List.map_cons, flatAll, h x, flatAll_map f h l]; rfl
section
variable {α : Type} [NKey α]
/-- the dict at d, without its keys' tuples: an entry's key, where its tuple stands, its value -/
structure NkE (P : Program) (w : World) (h : Heap) (d : Addr) (xs : List (α × Addr × V)) : Prop where
  ex : (d == sysModules) = false ∧ ∃ (vs : List (NestedKey × Addr × Value)) (o : Obj) (es : Array DictEntry) (ep : Nat), h.get? d = some o ∧ o.ExactDict ∧ o.data = .dict es ep ∧ es.toList = vs.map (entryOfKey (nestedKind P w)) ∧ (vs.map (·.1)).Nodup ∧
    Paired (fun (p : α × Addr × V) (q : NestedKey × Addr × Value) => q.1 = NKey.kn p.1 ∧ q.2.1 = p.2.1 ∧ RelV p.2.2 q.2.2) xs vs
def NkO (P : Program) (w : World) (d : Addr) (xs : List (α × Addr × V)) : HO := .ext fun h => NkE P w h d xs
theorem nkO_new {P : Program} {w : World} {H : Hp} {h : Heap} {d : Addr} {xs : List (α × Addr × V)} (R : NkE P w h d xs) : ObjOk P w H h d (NkO P w d xs) := by
  obtain ⟨_, vs, o, es, ep, ho, _⟩ := R.ex
  refine ⟨R, ⟨o, ho⟩, fun h1 h2 p k => ?_⟩
  obtain ⟨q0, vs', o', es', ep', ho', r'⟩ := NkE.ex p
  exact ⟨q0, vs', o', es', ep', k o' ho', r'⟩
/-- the keys' tuples stand -/
def NkK (K : PySem.W.Frag) (H : Hp) (xs : List (α × Addr × V)) : Prop := ∀ x ∈ xs, Dp K H (.ref x.2.1) (NKey.kd x.1)
def lookN (xs : List (α × Addr × V)) (g : α) : Option V := (xs.find? fun x => decide (x.1 = g)).map fun x => x.2.2
/-- in its place, or at the end -/
def putN (xs : List (α × Addr × V)) (g : α) (a : Addr) (v : V) : List (α × Addr × V) := if (lookN xs g).isSome then xs.map fun x => if x.1 = g then (x.1, x.2.1, v) else x else xs ++ [(g, a, v)]
theorem paired_mem {α1 β : Type} {R : α1 → β → Prop} : ∀ {xs : List α1} {ys : List β}, Paired R xs ys → ∀ y ∈ ys, ∃ x ∈ xs, R x y
  | _, _, .nil, _, h => absurd h (by simp)
  | _, _, .cons h t, y, hy => by
    rcases List.mem_cons.mp hy with rfl | hy
    · exact ⟨_, List.mem_cons_self, h⟩
    · obtain ⟨x, hx, r⟩ := paired_mem t y hy
      exact ⟨x, List.mem_cons_of_mem _ hx, r⟩
section
variable {P : Program} {w : World}
abbrev NkR (p : α × Addr × V) (q : NestedKey × Addr × Value) : Prop := q.1 = NKey.kn p.1 ∧ q.2.1 = p.2.1 ∧ RelV p.2.2 q.2.2
theorem look_rel {g : α} : ∀ {xs : List (α × Addr × V)} {vs : List (NestedKey × Addr × Value)}, Paired NkR xs vs → (lookN xs g = none ∧ atKey vs (NKey.kn g) = none) ∨ ∃ v p, lookN xs g = some v ∧ atKey vs (NKey.kn g) = some p ∧ RelV v p.2
  | _, _, .nil => .inl ⟨rfl, rfl⟩
  | _, _, @Paired.cons _ _ _ x y xs vs h t => by
    by_cases e : x.1 = g
    · refine .inr ⟨x.2.2, y.2, ?_, ?_, h.2.2⟩
      · unfold lookN
        rw [List.find?_cons_of_pos (by simpa using e)]
        rfl
      · simp [atKey, h.1, e]
    · have e2 : ¬ y.1 = NKey.kn g := fun z => e (NKey.inj (by rw [← h.1]; exact z))
      have l1 : lookN (x :: xs) g = lookN xs g := by
        unfold lookN
        rw [List.find?_cons_of_neg (by simpa using e)]
      have l2 : atKey (y :: vs) (NKey.kn g) = atKey vs (NKey.kn g) := by simp [atKey, e2]
      rw [l1, l2]
      exact look_rel t
theorem any_rel {g : α} {xs : List (α × Addr × V)} {vs : List (NestedKey × Addr × Value)} (h : Paired NkR xs vs) : (lookN xs g).isSome = (atKey vs (NKey.kn g)).isSome := by
  rcases look_rel (g := g) h with ⟨h1, h2⟩ | ⟨v, p, h1, h2, _⟩
  · rw [h1, h2]; rfl
  · rw [h1, h2]; rfl
theorem put_rel {g : α} {a : Addr} {v : V} {u : Value} {xs : List (α × Addr × V)} {vs : List (NestedKey × Addr × Value)} (h : Paired NkR xs vs) (r : RelV v u) : Paired NkR (putN xs g a v) (storedH vs (NKey.kn g) a u) := by
  unfold putN storedH
  rw [any_rel h]
  split
  · have : ∀ {xs : List (α × Addr × V)} {vs : List (NestedKey × Addr × Value)}, Paired NkR xs vs → Paired NkR (xs.map fun x => if x.1 = g then (x.1, x.2.1, v) else x) (vs.map (putAt (NKey.kn g) u)) := by
      intro xs vs h
      induction h with
      | nil => exact .nil
      | @cons x y xs vs h t ih =>
        refine .cons ?_ ih
        by_cases e : x.1 = g
        · dsimp only
          rw [if_pos e]
          have e2 : y.1 = NKey.kn g := by rw [h.1, e]
          simp only [putAt, e2, if_true]
          exact ⟨by rw [e], h.2.1, r⟩
        · dsimp only
          rw [if_neg e]
          have e2 : ¬ y.1 = NKey.kn g := fun z => e (NKey.inj (by rw [← h.1]; exact z))
          simp only [putAt, e2, if_false]
          exact h
    exact this h
  · have : ∀ {xs : List (α × Addr × V)} {vs : List (NestedKey × Addr × Value)}, Paired NkR xs vs → Paired NkR (xs ++ [(g, a, v)]) (vs ++ [(NKey.kn g, a, u)]) := by
      intro xs vs h
      induction h with
      | nil => exact .cons ⟨rfl, rfl, r⟩ .nil
      | cons h _ ih => exact .cons h ih
    exact this h
end
section
variable {X : Cx} {pins : List (Addr × Obj)} {σ : L2.St} {H : Hp} {s : Shared}
theorem nk_full {d : Addr} {xs : List (α × Addr × V)} (I : Inv X pins σ H s) (hd : H d = some (NkO X.prog X.w d xs)) (hk : NkK X.K H xs) : (d == sysModules) = false ∧ ∃ vs, s.heap.DictOfH (nestedKind X.prog X.w) d vs ∧ Paired NkR xs vs := by
  have R : NkE X.prog X.w s.heap d xs := (I.hok d _ hd).1
  obtain ⟨h0, vs, o, es, ep, ho, hx, hdat, he, hn, pr⟩ := R.ex
  refine ⟨h0, vs, ⟨o, es, ep, ho, hx, hdat, he, fun y hy => ?_, hn⟩, pr⟩
  obtain ⟨x, hxm, e1, e2, _⟩ := paired_mem pr y hy
  obtain ⟨as, r⟩ := Dp.reads I (NKey.kd x.1) (.ref x.2.1) (.ref x.2.1) (hk x hxm) rfl
  rw [e1, e2]
  exact ⟨NKey.reads _ r, NKey.depth _⟩
theorem nk_key {b : Addr} {g : α} (I : Inv X pins σ H s) (h : Dp X.K H (.ref b) (NKey.kd g)) : (nestedKind X.prog X.w).is s.heap (NKey.kn g) b := by
  obtain ⟨as, r⟩ := Dp.reads I (NKey.kd g) (.ref b) (.ref b) h rfl
  exact ⟨NKey.reads _ r, NKey.depth _⟩
/-- g not in d -/
def rNotInN (α : Type) [NKey α] (K : PySem.W.Frag) (P : Program) (w : World) : R2 := fun x y H Q => ∃ (b d : Addr) (g : α) (xs : List (α × Addr × V)), x = .ref b ∧ y = .ref d ∧ Dp K H (.ref b) (NKey.kd g) ∧ H d = some (NkO P w d xs) ∧ NkK K H xs ∧ Q (.bl (!(lookN xs g).isSome)) H
theorem op_notInN (hu : X.A.units + 16 < cLine) : OpR X (compareOp .NotIn) (rNotInN α X.K X.prog X.w) := by
  intro pins s σ H x y v u Q I rx ry h
  obtain ⟨b, d, g, xs, rfl, rfl, hb, hd, hk, q⟩ := h
  cases rx
  cases ry
  obtain ⟨h0, vs, hm, pr⟩ := nk_full I hd hk
  refine notIn_keyed (knd := nestedKind X.prog X.w) (by show X.A.units + 1 + 8 < cLine; omega) (nk_key I hb) h0 ⟨vs, hm, rfl⟩ ?_
  rw [valueAt_pairsH, Option.isSome_map, ← any_rel pr]
  exact ⟨.bl _, H, I.tok _, rfl, q⟩
/-- d[g], there -/
def rIxN (α : Type) [NKey α] (K : PySem.W.Frag) (P : Program) (w : World) : R2 := fun x y H Q => ∃ (b d : Addr) (g : α) (xs : List (α × Addr × V)) (v : V), x = .ref d ∧ y = .ref b ∧ Dp K H (.ref b) (NKey.kd g) ∧ H d = some (NkO P w d xs) ∧ NkK K H xs ∧ lookN xs g = some v ∧ Q v H
theorem ix_N (hu : X.A.units + 16 < cLine) : IxR X (rIxN α X.K X.prog X.w) := by
  intro value slice pins s σ H x y v u Q I rx ry h hs
  obtain ⟨b, d, g, xs, z, rfl, rfl, hb, hd, hk, hz, q⟩ := h
  cases rx
  cases ry
  obtain ⟨h0, vs, hm, pr⟩ := nk_full I hd hk
  rcases look_rel (g := g) pr with ⟨h1, _⟩ | ⟨v, p, h1, h2, hr⟩
  · rw [h1] at hz; cases hz
  · rw [h1] at hz
    obtain rfl := Option.some.inj hz
    exact tail_any hm.typeIs PySem.F.slot_dict_getitem.lookup (wpAny_getItem_heap (by show X.A.units + 1 + 8 < cLine; omega) (nk_key I hb) hm h2 ⟨_, H, I.tok _, hr, q⟩) hs
/-- d[g] = v -/
def sPutN (α : Type) [NKey α] (K : PySem.W.Frag) (P : Program) (w : World) (td ti tv : TE) : L2.TS := fun D σ H => tv σ H fun v H1 => td σ H1 fun x H2 => ti σ H2 fun y H3 => ∃ (b d : Addr) (g : α) (xs : List (α × Addr × V)), x = .ref d ∧ y = .ref b ∧ Dp K H3 (.ref b) (NKey.kd g) ∧ H3 d = some (NkO P w d xs) ∧ NkK K H3 xs ∧ xs.length ≤ 100000 ∧ D.nx σ (upd H3 d (NkO P w d (putN xs g b v)))
theorem ps_putN {o i value : Expr} {td ti tv : TE} {pos pos' : Pos} (hu : X.A.units + 16 < cLine) (ho : PE X o td) (hi : PE X i ti) (hv : PE X value tv) (hs : swapsWith value (some (.Subscript o i pos')) pos.line X.env = pure false) :
    PS X (.Assign [.Subscript o i pos'] value pos) (sPutN α X.K X.prog X.w td ti tv) := by
  refine ⟨fun pins s σ H D I h => ?_⟩
  refine wpAny_Assign_Subscript (thn (hv.run pins s σ H _ I h) fun r s1 ⟨v, H1, I1, rv, q1⟩ => thn (ho.run pins s1 σ H1 _ I1 q1) fun u s2 ⟨x, H2, I2, rx, q2⟩ => thn (hi.run pins s2 σ H2 _ I2 q2) fun iv s3 ⟨y, H3, I3, ry, b, d, g, xs, ex, ey, hb, hd, hk, hl, q3⟩ => ?_) hs
  subst ex ey
  cases rx
  cases ry
  obtain ⟨h0, vs, hm, pr⟩ := nk_full I3 hd hk
  have hsz : vs.length ≤ sizeLine := by rw [← Paired.length pr, sizeLine_eq]; omega
  refine wpAny_setItem_heap (hsz := hsz) (by show X.A.units + 1 + 8 < cLine; omega) (nk_key I3 hb) hm fun h' hm' sb => ?_
  obtain ⟨o, es, ep, ho', hx', hd', he', hi', hn'⟩ := id hm'
  have he : ∃ u, h'.get? d = some u := ⟨_, ho'⟩
  refine ⟨σ, _, I3.write (e := d) (t' := _) (by rw [hd]; trivial) (.inl rfl) (fun c u hc hu => (sb.2 c hc).trans hu) he (nkO_new ⟨h0, _, o, es, ep, ho', hx', hd', he', hn', put_rel pr rv⟩), q3⟩
/-- {} -/
def tDNewN (α : Type) [NKey α] (P : Program) (w : World) : TE := fun _ H Q => ∀ p, H p = none → Q (.ref p) (upd H p (NkO (α := α) P w p []))
theorem pe_dnewN {pos : Pos} : PE X (.Dict [] [] pos) (tDNewN α X.prog X.w) := ⟨fun pins s σ H Q I h =>
  wpAny_Dict_empty ⟨.ref s.heap.objs.size, _, I.laid (a := s.heap.objs.size) (o := NkO (α := α) X.prog X.w s.heap.objs.size []) (t' := s.toks) (fun _ _ q => Heap.get?_push_of_some _ q) (Nat.le_refl _) (nkO_new ⟨by
    obtain ⟨_, hs, _⟩ := dk_empty (P := X.prog) (w := X.w) (H := upd H s.heap.objs.size (.dK [])) s.heap I.big
    exact hs, [], _, #[], 0, Heap.get?_push_size _ rfl, ⟨rfl, rfl, rfl⟩, rfl, rfl, List.nodup_nil, .nil⟩), rfl, h _ (I.hok.fresh (Nat.le_refl _))⟩⟩
end
end
end Om.Gk

/-! (instruction, state) as a key -/
namespace Om
open PySem PySem.Spec PyProof.Rows L2 LamX Gk
def VI.wd : VI → Str
  | .turn _ => "turn"
  | .walk _ _ => "walk"
  | .upto _ => "until"
  | .toward _ => "toward"
  | .beside _ _ => "beside"
  | .near _ _ => "near"
  | .shore _ _ _ => "shore"
def VI.ks : VI → List NestedKey
  | .turn ts => [.tup (ts.map fun n => .num ((n : Nat) : Int))]
  | .walk a b => [.num ((a : Nat) : Int), .num ((b : Nat) : Int)]
  | .upto s => [.text (tx s)]
  | .toward s => [.text (tx s)]
  | .beside f s => [.num ((f : Nat) : Int), .text (tx s)]
  | .near s m => [.text (tx s), .num ((m : Nat) : Int)]
  | .shore d a b => [.num ((d : Nat) : Int), .num ((a : Nat) : Int), .num ((b : Nat) : Int)]
def VI.kn (v : VI) : NestedKey := .tup (.text v.wd :: v.ks)
theorem nums_inj : ∀ {a b : List Nat}, (a.map fun n => NestedKey.num ((n : Nat) : Int)) = (b.map fun n => NestedKey.num ((n : Nat) : Int)) → a = b
  | [], [], _ => rfl
  | [], _ :: _, h => by cases h
  | _ :: _, [], h => by cases h
  | x :: a, y :: b, h => by
    injection h with h1 h2
    injection h1 with h1
    rw [Int.ofNat.inj h1, nums_inj h2]
theorem VI.kn_inj {v u : VI} (h : v.kn = u.kn) : v = u := by
  unfold VI.kn at h
  injection h with h
  injection h with h1 h2
  injection h1 with h1
  cases v with
  | turn ts =>
    cases u with
    | turn ts' =>
      have h2 : [NestedKey.tup (ts.map fun n => NestedKey.num ((n : Nat) : Int))] = [.tup (ts'.map fun n => .num ((n : Nat) : Int))] := h2
      injection h2 with q0 h2
      injection q0 with q0
      have q0 := nums_inj q0
      rw [q0]
    | walk a' b' =>
      exact absurd h1 (show ¬ (Str.ofString "turn" = Str.ofString "walk") by decide +kernel)
    | upto s' =>
      exact absurd h1 (show ¬ (Str.ofString "turn" = Str.ofString "until") by decide +kernel)
    | toward s' =>
      exact absurd h1 (show ¬ (Str.ofString "turn" = Str.ofString "toward") by decide +kernel)
    | beside f' s' =>
      exact absurd h1 (show ¬ (Str.ofString "turn" = Str.ofString "beside") by decide +kernel)
    | near s' m' =>
      exact absurd h1 (show ¬ (Str.ofString "turn" = Str.ofString "near") by decide +kernel)
    | shore d' a' b' =>
      exact absurd h1 (show ¬ (Str.ofString "turn" = Str.ofString "shore") by decide +kernel)
  | walk a b =>
    cases u with
    | turn ts' =>
      exact absurd h1 (show ¬ (Str.ofString "walk" = Str.ofString "turn") by decide +kernel)
    | walk a' b' =>
      have h2 : [NestedKey.num ((a : Nat) : Int), NestedKey.num ((b : Nat) : Int)] = [.num ((a' : Nat) : Int), .num ((b' : Nat) : Int)] := h2
      injection h2 with q0 h2
      injection q0 with q0
      have q0 := Int.ofNat.inj q0
      injection h2 with q1 h2
      injection q1 with q1
      have q1 := Int.ofNat.inj q1
      rw [q0, q1]
    | upto s' =>
      exact absurd h1 (show ¬ (Str.ofString "walk" = Str.ofString "until") by decide +kernel)
    | toward s' =>
      exact absurd h1 (show ¬ (Str.ofString "walk" = Str.ofString "toward") by decide +kernel)
    | beside f' s' =>
      exact absurd h1 (show ¬ (Str.ofString "walk" = Str.ofString "beside") by decide +kernel)
    | near s' m' =>
      exact absurd h1 (show ¬ (Str.ofString "walk" = Str.ofString "near") by decide +kernel)
    | shore d' a' b' =>
      exact absurd h1 (show ¬ (Str.ofString "walk" = Str.ofString "shore") by decide +kernel)
  | upto s =>
    cases u with
    | turn ts' =>
      exact absurd h1 (show ¬ (Str.ofString "until" = Str.ofString "turn") by decide +kernel)
    | walk a' b' =>
      exact absurd h1 (show ¬ (Str.ofString "until" = Str.ofString "walk") by decide +kernel)
    | upto s' =>
      have h2 : [NestedKey.text (tx s)] = [.text (tx s')] := h2
      injection h2 with q0 h2
      injection q0 with q0
      have q0 := tx_inj q0
      rw [q0]
    | toward s' =>
      exact absurd h1 (show ¬ (Str.ofString "until" = Str.ofString "toward") by decide +kernel)
    | beside f' s' =>
      exact absurd h1 (show ¬ (Str.ofString "until" = Str.ofString "beside") by decide +kernel)
    | near s' m' =>
      exact absurd h1 (show ¬ (Str.ofString "until" = Str.ofString "near") by decide +kernel)
    | shore d' a' b' =>
      exact absurd h1 (show ¬ (Str.ofString "until" = Str.ofString "shore") by decide +kernel)
  | toward s =>
    cases u with
    | turn ts' =>
      exact absurd h1 (show ¬ (Str.ofString "toward" = Str.ofString "turn") by decide +kernel)
    | walk a' b' =>
      exact absurd h1 (show ¬ (Str.ofString "toward" = Str.ofString "walk") by decide +kernel)
    | upto s' =>
      exact absurd h1 (show ¬ (Str.ofString "toward" = Str.ofString "until") by decide +kernel)
    | toward s' =>
      have h2 : [NestedKey.text (tx s)] = [.text (tx s')] := h2
      injection h2 with q0 h2
      injection q0 with q0
      have q0 := tx_inj q0
      rw [q0]
    | beside f' s' =>
      exact absurd h1 (show ¬ (Str.ofString "toward" = Str.ofString "beside") by decide +kernel)
    | near s' m' =>
      exact absurd h1 (show ¬ (Str.ofString "toward" = Str.ofString "near") by decide +kernel)
    | shore d' a' b' =>
      exact absurd h1 (show ¬ (Str.ofString "toward" = Str.ofString "shore") by decide +kernel)
  | beside f s =>
    cases u with
    | turn ts' =>
      exact absurd h1 (show ¬ (Str.ofString "beside" = Str.ofString "turn") by decide +kernel)
    | walk a' b' =>
      exact absurd h1 (show ¬ (Str.ofString "beside" = Str.ofString "walk") by decide +kernel)
    | upto s' =>
      exact absurd h1 (show ¬ (Str.ofString "beside" = Str.ofString "until") by decide +kernel)
    | toward s' =>
      exact absurd h1 (show ¬ (Str.ofString "beside" = Str.ofString "toward") by decide +kernel)
    | beside f' s' =>
      have h2 : [NestedKey.num ((f : Nat) : Int), NestedKey.text (tx s)] = [.num ((f' : Nat) : Int), .text (tx s')] := h2
      injection h2 with q0 h2
      injection q0 with q0
      have q0 := Int.ofNat.inj q0
      injection h2 with q1 h2
      injection q1 with q1
      have q1 := tx_inj q1
      rw [q0, q1]
    | near s' m' =>
      exact absurd h1 (show ¬ (Str.ofString "beside" = Str.ofString "near") by decide +kernel)
    | shore d' a' b' =>
      exact absurd h1 (show ¬ (Str.ofString "beside" = Str.ofString "shore") by decide +kernel)
  | near s m =>
    cases u with
    | turn ts' =>
      exact absurd h1 (show ¬ (Str.ofString "near" = Str.ofString "turn") by decide +kernel)
    | walk a' b' =>
      exact absurd h1 (show ¬ (Str.ofString "near" = Str.ofString "walk") by decide +kernel)
    | upto s' =>
      exact absurd h1 (show ¬ (Str.ofString "near" = Str.ofString "until") by decide +kernel)
    | toward s' =>
      exact absurd h1 (show ¬ (Str.ofString "near" = Str.ofString "toward") by decide +kernel)
    | beside f' s' =>
      exact absurd h1 (show ¬ (Str.ofString "near" = Str.ofString "beside") by decide +kernel)
    | near s' m' =>
      have h2 : [NestedKey.text (tx s), NestedKey.num ((m : Nat) : Int)] = [.text (tx s'), .num ((m' : Nat) : Int)] := h2
      injection h2 with q0 h2
      injection q0 with q0
      have q0 := tx_inj q0
      injection h2 with q1 h2
      injection q1 with q1
      have q1 := Int.ofNat.inj q1
      rw [q0, q1]
    | shore d' a' b' =>
      exact absurd h1 (show ¬ (Str.ofString "near" = Str.ofString "shore") by decide +kernel)
  | shore d a b =>
    cases u with
    | turn ts' =>
      exact absurd h1 (show ¬ (Str.ofString "shore" = Str.ofString "turn") by decide +kernel)
    | walk a' b' =>
      exact absurd h1 (show ¬ (Str.ofString "shore" = Str.ofString "walk") by decide +kernel)
    | upto s' =>
      exact absurd h1 (show ¬ (Str.ofString "shore" = Str.ofString "until") by decide +kernel)
    | toward s' =>
      exact absurd h1 (show ¬ (Str.ofString "shore" = Str.ofString "toward") by decide +kernel)
    | beside f' s' =>
      exact absurd h1 (show ¬ (Str.ofString "shore" = Str.ofString "beside") by decide +kernel)
    | near s' m' =>
      exact absurd h1 (show ¬ (Str.ofString "shore" = Str.ofString "near") by decide +kernel)
    | shore d' a' b' =>
      have h2 : [NestedKey.num ((d : Nat) : Int), NestedKey.num ((a : Nat) : Int), NestedKey.num ((b : Nat) : Int)] = [.num ((d' : Nat) : Int), .num ((a' : Nat) : Int), .num ((b' : Nat) : Int)] := h2
      injection h2 with q0 h2
      injection q0 with q0
      have q0 := Int.ofNat.inj q0
      injection h2 with q1 h2
      injection q1 with q1
      have q1 := Int.ofNat.inj q1
      injection h2 with q2 h2
      injection q2 with q2
      have q2 := Int.ofNat.inj q2
      rw [q0, q1, q2]
def stK (s : ST) : NestedKey := .tup [.num s.1.1, .num s.1.2, .num ((s.2 : Nat) : Int)]
def stD (s : ST) : PyData := .tuple [.int s.1.1, .int s.1.2, .int ((s.2 : Nat) : Int)]
theorem stK_inj {s r : ST} (h : stK s = stK r) : s = r := by
  unfold stK at h
  injection h with h
  injection h with h1 h
  injection h with h2 h
  injection h with h3 _
  injection h1 with h1
  injection h2 with h2
  injection h3 with h3
  exact Prod.ext (Prod.ext h1 h2) (Int.ofNat.inj h3)
theorem dk_nm (n : Nat) : dk (nmN n).d = .num ((n : Nat) : Int) := by
  show dk (.int (n : Int)) = _
  rw [dk]
theorem flat_nm (n : Nat) : flatD (nmN n).d = true := by
  show flatD (.int (n : Int)) = true
  rw [flatD]
theorem dk_dt (s : List Nat) : dk (dt s) = .text (tx s) := by
  unfold dt
  rw [dk]
theorem flat_dt (s : List Nat) : flatD (dt s) = true := by
  unfold dt
  rw [flatD]
theorem VI.dk_ins (v : VI) : dk v.ins.d = v.kn := by
  unfold Ins.d VI.kn
  rw [dk, dkAll, dk]
  refine congrArg NestedKey.tup ?_
  cases v with
  | turn ts =>
    refine congrArg (NestedKey.text _ :: ·) ?_
    show dkAll [.tuple ((ts.map nmN).map Nm.d)] = [.tup (ts.map fun n => .num ((n : Nat) : Int))]
    rw [dkAll, dkAll, dk, List.map_map, dkAll_map]
    refine congrArg (fun q => [NestedKey.tup q]) ?_
    exact List.map_congr_left fun n _ => dk_nm n
  | walk a b =>
    refine congrArg (NestedKey.text _ :: ·) ?_
    show dkAll [(nmN a).d, (nmN b).d] = [.num ((a : Nat) : Int), .num ((b : Nat) : Int)]
    rw [dkAll, dkAll, dkAll]
    rw [dk_nm a, dk_nm b]
  | upto s =>
    refine congrArg (NestedKey.text _ :: ·) ?_
    show dkAll [dt s] = [.text (tx s)]
    rw [dkAll, dkAll]
    rw [dk_dt]
  | toward s =>
    refine congrArg (NestedKey.text _ :: ·) ?_
    show dkAll [dt s] = [.text (tx s)]
    rw [dkAll, dkAll]
    rw [dk_dt]
  | beside f s =>
    refine congrArg (NestedKey.text _ :: ·) ?_
    show dkAll [(nmN f).d, dt s] = [.num ((f : Nat) : Int), .text (tx s)]
    rw [dkAll, dkAll, dkAll]
    rw [dk_nm f, dk_dt]
  | near s m =>
    refine congrArg (NestedKey.text _ :: ·) ?_
    show dkAll [dt s, (nmN m).d] = [.text (tx s), .num ((m : Nat) : Int)]
    rw [dkAll, dkAll, dkAll]
    rw [dk_dt, dk_nm m]
  | shore d a b =>
    refine congrArg (NestedKey.text _ :: ·) ?_
    show dkAll [(nmN d).d, (nmN a).d, (nmN b).d] = [.num ((d : Nat) : Int), .num ((a : Nat) : Int), .num ((b : Nat) : Int)]
    rw [dkAll, dkAll, dkAll, dkAll]
    rw [dk_nm d, dk_nm a, dk_nm b]
theorem VI.flat_ins (v : VI) : flatD v.ins.d = true := by
  unfold Ins.d
  rw [flatD, flatAll, flatD, Bool.true_and]
  cases v with
  | turn ts =>
    show flatAll [.tuple ((ts.map nmN).map Nm.d)] = true
    rw [flatAll, flatAll, flatD, List.map_map, Bool.and_true]
    exact flatAll_map _ (fun n => flat_nm n) ts
  | walk a b =>
    show flatAll [(nmN a).d, (nmN b).d] = true
    rw [flatAll, flatAll, flatAll]
    rw [flat_nm a, flat_nm b]
    try rfl
  | upto s =>
    show flatAll [dt s] = true
    rw [flatAll, flatAll]
    rw [flat_dt]
    try rfl
  | toward s =>
    show flatAll [dt s] = true
    rw [flatAll, flatAll]
    rw [flat_dt]
    try rfl
  | beside f s =>
    show flatAll [(nmN f).d, dt s] = true
    rw [flatAll, flatAll, flatAll]
    rw [flat_nm f, flat_dt]
    try rfl
  | near s m =>
    show flatAll [dt s, (nmN m).d] = true
    rw [flatAll, flatAll, flatAll]
    rw [flat_dt, flat_nm m]
    try rfl
  | shore d a b =>
    show flatAll [(nmN d).d, (nmN a).d, (nmN b).d] = true
    rw [flatAll, flatAll, flatAll, flatAll]
    rw [flat_nm d, flat_nm a, flat_nm b]
    try rfl
theorem VI.depth (v : VI) : v.kn.depth ≤ 3 := by
  have hn : ∀ ts : List Nat, NestedKey.depthAll (ts.map fun n => NestedKey.num ((n : Nat) : Int)) = 0 := by
    intro ts
    induction ts with
    | nil => rfl
    | cons x l ih =>
      rw [List.map_cons, NestedKey.depthAll, ih]
      rfl
  unfold VI.kn
  rw [NestedKey.depth, NestedKey.depthAll]
  cases v with
  | turn ts =>
    show max 0 (NestedKey.depthAll [.tup (ts.map fun n => .num ((n : Nat) : Int))]) + 1 ≤ 3
    rw [NestedKey.depthAll, NestedKey.depth, hn]
    decide
  | walk a b =>
    show max 0 (NestedKey.depthAll [.num ((a : Nat) : Int), .num ((b : Nat) : Int)]) + 1 ≤ 3
    simp [NestedKey.depth, NestedKey.depthAll]
  | upto s =>
    show max 0 (NestedKey.depthAll [.text (tx s)]) + 1 ≤ 3
    simp [NestedKey.depth, NestedKey.depthAll]
  | toward s =>
    show max 0 (NestedKey.depthAll [.text (tx s)]) + 1 ≤ 3
    simp [NestedKey.depth, NestedKey.depthAll]
  | beside f s =>
    show max 0 (NestedKey.depthAll [.num ((f : Nat) : Int), .text (tx s)]) + 1 ≤ 3
    simp [NestedKey.depth, NestedKey.depthAll]
  | near s m =>
    show max 0 (NestedKey.depthAll [.text (tx s), .num ((m : Nat) : Int)]) + 1 ≤ 3
    simp [NestedKey.depth, NestedKey.depthAll]
  | shore d a b =>
    show max 0 (NestedKey.depthAll [.num ((d : Nat) : Int), .num ((a : Nat) : Int), .num ((b : Nat) : Int)]) + 1 ≤ 3
    simp [NestedKey.depth, NestedKey.depthAll]
instance : NKey (VI × ST) where
  dec := instDecidableEqProd
  kd q := .tuple [q.1.ins.d, stD q.2]
  kn q := .tup [q.1.kn, stK q.2]
  inj := fun {a b} h => by
    injection h with h
    injection h with h1 h
    injection h with h2 _
    exact Prod.ext (VI.kn_inj h1) (stK_inj h2)
  reads := fun {h v as} q r => by
    have e : dk (.tuple [q.1.ins.d, stD q.2]) = .tup [q.1.kn, stK q.2] := by
      rw [dk, dkAll, dkAll, dkAll, VI.dk_ins]
      unfold stD stK
      rw [dk, dkAll, dkAll, dkAll, dkAll, dk, dk, dk]
    rw [← e]
    refine reads_dk _ _ _ ?_ r
    rw [flatD, flatAll, flatAll, flatAll, VI.flat_ins]
    unfold stD
    rw [flatD, flatAll, flatAll, flatAll, flatAll, flatD, flatD, flatD]
    rfl
  depth q := by
    have h1 := q.1.depth
    have h2 : (stK q.2).depth ≤ 1 := by
      unfold stK
      simp [NestedKey.depth, NestedKey.depthAll]
    show (NestedKey.tup [q.1.kn, stK q.2]).depth ≤ 8
    rw [NestedKey.depth, NestedKey.depthAll, NestedKey.depthAll, NestedKey.depthAll]
    omega
end Om

/-! Steps: __init__, behind -/
namespace Om
open PySem PySem.Spec PyProof.Rows L2 LamX Gk
def stpFs (ra d : Addr) : List (Str × V) := putF "_known" (.ref d) (putF "_rows" (.ref ra) [])
theorem stpFs_r (ra d : Addr) : (stpFs ra d).lookup ("_rows" : Str) = some (.ref ra) := by
  unfold stpFs
  rw [lookup_putF, if_neg (by decide +kernel), lookup_putF, if_pos rfl]
theorem stpFs_k (ra d : Addr) : (stpFs ra d).lookup ("_known" : Str) = some (.ref d) := by
  unfold stpFs
  rw [lookup_putF, if_pos rfl]
theorem stpFs_no (ra d : Addr) {m : Str} (h1 : m ≠ "_rows") (h2 : m ≠ "_known") : (stpFs ra d).lookup m = none := by
  unfold stpFs
  rw [lookup_putF, if_neg h2, lookup_putF, if_neg h1]
  rfl
structure StpF (K : PySem.W.Frag) (mg : Str → Option Value) (CT fT : Addr) : Prop where
  cl : Cls K CT
  n1 : NoAttr K CT "_rows"
  n2 : NoAttr K CT "_known"
  made : Mk K CT fT
  gT : mg "Steps" = some (.ref CT)
abbrev KS := VI × ST
/-- a list of the states to which an instruction leads, in order -/
def Lead (H : Hp) (rows : List (List Nat)) (g : KS) (D : Addr) (t : TS) : Prop := H D = some (.lst (vzS t)) ∧ CS H t ∧ UpS (csS t) ∧ ∀ s, s ∈ csS t ↔ s ∈ ledF rows g.1 g.2
/-- what is remembered -/
def Stp (K : PySem.W.Frag) (P : Program) (w : World) (CT : Addr) (H : Hp) (a d : Addr) (n : Nat) (rows : List (List Nat)) (Av : Addr → Prop) : Prop :=
  ∃ (dx ra : Addr) (xs : List (KS × Addr × V)), H a = some (.ins CT dx (stpFs ra d)) ∧ SqT K H ra (rows.map vt) ∧ H d = some (NkO P w d xs) ∧ NkK K H xs ∧ xs.length ≤ n ∧ ∀ x ∈ xs, ∃ D t, x.2.2 = .ref D ∧ ¬ Av D ∧ Lead H rows x.1 D t
section
variable {K : PySem.W.Frag} {P : Program} {w : World} {H H' : Hp} {d : Addr} {xs0 : List (KS × Addr × V)}
theorem nk_at {a : Addr} {o : HO} (e : Ex1 d H H') (hd : H d = some (NkO P w d xs0)) (h : H a = some o) (hn : ∀ f, o ≠ .ext f) : H' a = some o := e _ _ h fun z => by
  rw [z, hd] at h
  exact hn _ (Option.some.inj h).symm
theorem nk_tup {a : Addr} {xs : List V} (e : Ex1 d H H') (hd : H d = some (NkO P w d xs0)) (h : SqT K H a xs) : SqT K H' a xs := by
  rcases h with (h | ⟨o, h⟩) | h
  · exact .inl (.inl (nk_at e hd h fun _ z => by cases z))
  · exact .inl (.inr ⟨o, nk_at e hd h fun _ z => by cases z⟩)
  · exact .inr h
theorem nk_lst {a : Addr} {xs : List V} (e : Ex1 d H H') (hd : H d = some (NkO P w d xs0)) (h : SqL K H a xs) : SqL K H' a xs := by
  rcases h with (h | ⟨o, h⟩) | h
  · exact .inl (.inl (nk_at e hd h fun _ z => by cases z))
  · exact .inl (.inr ⟨o, nk_at e hd h fun _ z => by cases z⟩)
  · exact .inr h
theorem nk_dp {x : V} {q : PyData} (e : Ex1 d H H') (hd : H d = some (NkO P w d xs0)) (h : Dp K H x q) : Dp K H' x q := by
  have h2 : DpAll K H [x] [q] := .cons h .nil
  have h3 : DpAll K H' [x] [q] := dpAll_mono (fun _ _ h => nk_tup e hd h) (fun _ _ h => nk_lst e hd h) h2
  cases h3 with
  | cons h _ => exact h
theorem nk_cs {t : TS} (e : Ex1 d H H') (hd : H d = some (NkO P w d xs0)) (h : CS H t) : CS H' t := fun p hp => nk_at e hd (h p hp) fun _ z => by cases z
theorem nk_lead {rows : List (List Nat)} {g : KS} {D : Addr} {t : TS} (e : Ex1 d H H') (hd : H d = some (NkO P w d xs0)) (h : Lead H rows g D t) : Lead H' rows g D t := ⟨nk_at e hd h.1 (fun _ z => by cases z), nk_cs e hd h.2.1, h.2.2⟩
theorem look_mem {g : KS} {v : V} {xs : List (KS × Addr × V)} (h : lookN xs g = some v) : ∃ x ∈ xs, x.1 = g ∧ x.2.2 = v := by
  unfold lookN at h
  obtain ⟨x, hx, rfl⟩ := Option.map_eq_some_iff.mp h
  have := List.find?_some hx
  exact ⟨x, List.mem_of_find?_eq_some hx, by simpa using this, rfl⟩
theorem put_new {g : KS} {a : Addr} {v : V} {xs : List (KS × Addr × V)} (h : lookN xs g = none) : putN xs g a v = xs ++ [(g, a, v)] := by
  unfold putN
  rw [h]
  rfl
theorem look_new {g : KS} {a : Addr} {v : V} {xs : List (KS × Addr × V)} (h : lookN xs g = none) : lookN (xs ++ [(g, a, v)]) g = some v := by
  unfold lookN at h ⊢
  rw [Option.map_eq_none_iff] at h
  rw [List.find?_append, h]
  simp
end
def spStpI (P : Program) (w : World) (CT : Addr) : Sp := fun vs H Q _ => ∃ (p dx ra : Addr), vs = [.ref p, .ref ra] ∧ H p = some (.ins CT dx []) ∧
  ∀ d H', H d = none → Ex1 p H H' → H' p = some (.ins CT dx (stpFs ra d)) → H' d = some (NkO (α := KS) P w d []) → Q .non H'
def spBeh (K : PySem.W.Frag) (P : Program) (w : World) (CT : Addr) : Sp := fun vs H Q _ => ∃ (a sa d : Addr) (iv : V) (n : Nat) (rows : List (List Nat)) (s : ST) (v : VI) (Av : Addr → Prop), vs = [.ref a, iv, .ref sa] ∧ Stp K P w CT H a d n rows Av ∧ (∀ b, Av b → H b ≠ none) ∧ n < 100000 ∧ Good2 rows ∧ Dp K H iv v.ins.d ∧ v.wf ∧ H sa = some (.tup (stv s)) ∧ s.2 < 4 ∧
  ∀ (D : Addr) (t : TS) (H' : Hp), Ex1 d H H' → Stp K P w CT H' a d (n + 1) rows Av → ¬ Av D → Lead H' rows (v, s) D t → Q (.ref D) H'
section
variable {P : Program} {w : World} {K : PySem.W.Frag} {mg : Str → Option Value} {base : Heap} {CT fT : Addr}
theorem scStpI : FnScope ["self", "rows"] ["self", "rows"] (defScope (sStp 0)) := ⟨rfl, rfl, rfl, by decide +kernel, rfl, by decide +kernel, by decide +kernel⟩
theorem ok_stpI {fd : FuncData} (F : FnP K "__init__" "Steps.__init__" (sStp 0) fT fd) (T : StpF K mg CT fT) : FnOk P w K mg base CX0 1 fT fd ["self", "rows"] (spStpI P w CT) := by
  refine F.ok scStpI (fun vs H Q E h => ?_) (fun cdv A outer s H vs Q E hr h => ?_)
  · obtain ⟨p, dx, ra, rfl, _⟩ := h
    rfl
  · obtain ⟨p, dx, ra, rfl, hp, k⟩ := h
    refine ⟨_, PSs.nox (pss_cons (ps_fld (pv 0) (pv 1) rfl) (pss_one (ps_fld (pv 0) (pe_dnewN (α := KS)) rfl))), ?_⟩
    have l1 := putF_len "_rows" (.ref ra) []
    refine ⟨_, rfl, _, rfl, p, CT, dx, [], rfl, hp, T.cl, T.n1, by decide, ?_⟩
    refine fun d hd => ?_
    have q1 : Ex1 p H (upd H p (.ins CT dx (putF "_rows" (.ref ra) []))) := ex1_upd
    have hdp : d ≠ p := fun z => by rw [z, upd_same] at hd; cases hd
    have hd0 : H d = none := by rw [upd_ne hdp] at hd; exact hd
    have s2 := Same.new (Same.refl _) hd (o := NkO (α := KS) P w d [])
    refine ⟨_, rfl, p, CT, dx, _, rfl, s2 _ _ upd_same, T.cl, T.n2, by simp only [List.length_nil] at l1; omega, ?_⟩
    exact k d _ hd0 (q1.trans ((Same.ex1 s2).trans ex1_upd)) upd_same (by rw [upd_ne hdp]; exact upd_same)
abbrev nBeh : List Str := ["self", "instruction", "state", "step"]
theorem scBeh : FnScope nBeh ["self", "instruction", "state"] (defScope (sStp 1)) := ⟨rfl, rfl, rfl, by decide +kernel, rfl, by decide +kernel, by decide +kernel⟩
theorem ok_beh {f : Addr} {fd : FuncData} (F : FnP K "behind" "Steps.behind" (sStp 1) f fd) (T : StpF K mg CT fT) (LD : Cal P w K mg base CX0 5 "led_to" ["rows", "instruction", "state"] (spLed K)) : FnOk P w K mg base CX0 6 f fd ["self", "instruction", "state"] (spBeh K P w CT) := by
  refine F.ok scBeh (fun vs H Q E h => ?_) (fun cdv A outer s H vs Q E hr h => ?_)
  · obtain ⟨a, sa, d, iv, n, rows, s, v, Av, rfl, _⟩ := h
    rfl
  · obtain ⟨a, sa, d, iv, n, rows, s0, v, Av, rfl, ⟨dx, ra, xs, ha, hR, hd, hk, hl, hv⟩, hAv, hn, g, hD, hw, hs, hf, k⟩ := h
    have nd := scBeh.nd
    have hu := hr.units
    have hu2 : (A.deeper (envOfC "Steps.behind" (defScope (sStp 1)) s.heap.objs.size f cdv)).units + 16 < cLine := by omega
    refine ⟨_, PSs.nox (pss_cons (ps_set (i := 3) nd rfl (.inl rfl) (pe_tup (pa_cons (pv 1) (pa_cons (pv 2) pa_nil))))
      (pss_cons (ps_if (pt_cmpR (op_notInN (α := KS) hu2) (pv 3) (pe_fld (pv 0) rfl) (by with_unfolding_all rfl)) (pss_one (ps_putN (α := KS) hu2 (pe_fld (pv 0) rfl) (pv 3) (pe_cal LD hr pass0 (pa_cons (pe_fld (pv 0) rfl) (pa_cons (pv 1) (pa_cons (pv 2) pa_nil)))) rfl)) pss_nil)
      (pss_one (ps_ret (pe_ix (ix_N (α := KS) hu2) (pe_fld (pv 0) rfl) (pv 3) (fun _ _ => rfl)))))), ?_⟩
    refine ⟨_, rfl, _, rfl, by show 2 ≤ sizeLine; decide, fun b hb => ?_⟩
    have s1 := Same.new (Same.refl H) hb (o := .tup [iv, .ref sa])
    have eb : (upd H b (.tup [iv, .ref sa])) b = some (.tup [iv, .ref sa]) := upd_same
    generalize upd H b (.tup [iv, .ref sa]) = H1 at s1 eb ⊢
    have kb : Dp K H1 (.ref b) (NKey.kd (v, s0)) := .tup (.inl (.inl eb)) (.cons (Same.dp s1 hD) (.cons (.tup (.inl (.inl (s1 _ _ hs))) (.cons (.int _) (.cons (.int _) (.cons (.int _) .nil)))) .nil))
    have hk1 : NkK K H1 xs := fun x hx => Same.dp s1 (hk x hx)
    have ha1 := s1 _ _ ha
    have hd1 := s1 _ _ hd
    have hv1 : ∀ x ∈ xs, ∃ D t, x.2.2 = .ref D ∧ ¬ Av D ∧ Lead H1 rows x.1 D t := fun x hx => by
      obtain ⟨D, t, e, h0, h1, h2, h3⟩ := hv x hx
      exact ⟨D, t, e, h0, s1 _ _ h1, h2.same s1, h3⟩
    refine ⟨_, rfl, _, rfl, a, CT, dx, _, .ref d, rfl, ha1, T.cl, T.n2, stpFs_k .., ?_⟩
    refine ⟨b, d, (v, s0), xs, rfl, rfl, kb, hd1, hk1, _, rfl, ?_⟩
    cases e : lookN xs (v, s0) with
    | some z =>
      refine iteF ?_
      refine ⟨_, rfl, a, CT, dx, _, .ref d, rfl, ha1, T.cl, T.n2, stpFs_k .., _, rfl, b, d, (v, s0), xs, z, rfl, rfl, kb, hd1, hk1, e, ?_⟩
      obtain ⟨x, hx, e1, rfl⟩ := look_mem e
      obtain ⟨D, t, e2, h0, hL⟩ := hv1 x hx
      rw [e2]
      rw [e1] at hL
      exact k D t H1 (Same.ex1 s1) ⟨dx, ra, xs, ha1, Same.tup s1 hR, hd1, hk1, by omega, hv1⟩ h0 hL
    | none =>
      refine iteT ?_
      refine ⟨_, rfl, a, CT, dx, _, .ref ra, rfl, ha1, T.cl, T.n1, stpFs_r .., _, rfl, _, rfl, ra, sa, iv, rows, s0, v, rfl, Same.tup s1 hR, g, Same.dp s1 hD, hw, s1 _ _ hs, hf, fun D t H2 hDn s2 h1 h2 h3 h4 => ?_⟩
      have hAD : ¬ Av D := fun z => hAv _ z (Same.none s1 hDn)
      have s12 := s1.trans s2
      have hd2 := s2 _ _ hd1
      have ha2 := s2 _ _ ha1
      refine ⟨_, rfl, a, CT, dx, _, .ref d, rfl, ha2, T.cl, T.n2, stpFs_k .., _, rfl, ?_⟩
      refine ⟨b, d, (v, s0), xs, rfl, rfl, Same.dp s2 kb, hd2, fun x hx => Same.dp s2 (hk1 x hx), by omega, ?_⟩
      rw [put_new e]
      have q : Ex1 d H2 (upd H2 d (NkO P w d (xs ++ [((v, s0), b, V.ref D)]))) := ex1_upd
      have hL : Lead H2 rows (v, s0) D t := ⟨h1, h2, h3, h4⟩
      have hd3 : (upd H2 d (NkO P w d (xs ++ [((v, s0), b, V.ref D)]))) d = some (NkO P w d (xs ++ [((v, s0), b, V.ref D)])) := upd_same
      have ha3 : (upd H2 d (NkO P w d (xs ++ [((v, s0), b, V.ref D)]))) a = some (.ins CT dx (stpFs ra d)) := nk_at q hd2 ha2 fun _ z => by cases z
      have hk3 : NkK K (upd H2 d (NkO P w d (xs ++ [((v, s0), b, V.ref D)]))) (xs ++ [((v, s0), b, V.ref D)]) := fun x hx => by
        rcases List.mem_append.mp hx with hx | hx
        · exact nk_dp q hd2 (Same.dp s2 (hk1 x hx))
        · rw [List.mem_singleton.mp hx]
          exact nk_dp q hd2 (Same.dp s2 kb)
      have hL3 := nk_lead q hd2 hL
      refine ⟨_, rfl, a, CT, dx, _, .ref d, rfl, ha3, T.cl, T.n2, stpFs_k .., _, rfl, b, d, (v, s0), _, _, rfl, rfl, nk_dp q hd2 (Same.dp s2 kb), hd3, hk3, look_new e, ?_⟩
      refine k D t (upd H2 d (NkO P w d (xs ++ [((v, s0), b, V.ref D)]))) ((Same.ex1 s12).trans q) ⟨dx, ra, _, ha3, nk_tup q hd2 (Same.tup s12 hR), hd3, hk3, by rw [List.length_append]; exact Nat.succ_le_succ hl, fun x hx => ?_⟩ hAD hL3
      rcases List.mem_append.mp hx with hx | hx
      · obtain ⟨D', t', e2, h0, h5, h6, h7⟩ := hv1 x hx
        exact ⟨D', t', e2, h0, nk_lead q hd2 ⟨s2 _ _ h5, h6.same s2, h7⟩⟩
      · rw [List.mem_singleton.mp hx]
        exact ⟨D, t, rfl, hAD, hL3⟩
end
end Om

/-! Steps: layers -/
namespace Om
open PySem PySem.Spec PyProof.Rows L2 LamX Gk
theorem wlk_itB {J : It} {n : Nat} {G : Hp → Prop} {Y : Nat → Hp → V → Hp → Prop} (wk : Walk J n G Y) {Fin : Hp → Prop} {Act : V → Hp → (Hp → Prop) → Prop} {H0 : Hp} (Pv : Nat → Hp → Prop) (h0 : Pv 0 H0) (hG : ∀ i H, i ≤ n → Pv i H → G H)
    (hs : ∀ i x H H', i < n → Pv i H → Y i H x H' → Act x H' (Pv (i + 1))) (hd : ∀ H, Pv n H → Fin H) : ∃ W : Nat → Nat → Hp → Prop, (∃ m, W 0 m H0) ∧ Bg.Wlk J W Fin Act := by
  refine ⟨fun i m H => m = n - i ∧ i ≤ n ∧ Pv i H, ⟨n, by simp, Nat.zero_le _, h0⟩, ?_⟩
  rintro i m H ⟨rfl, hi, p⟩
  have q := hG i H hi p
  by_cases hlt : i < n
  · exact .inr ⟨wk.goes i H hlt q, Pv (i + 1), fun H' p' => ⟨n - (i + 1), by omega, rfl, hlt, p'⟩, fun x H' y => hs i x H H' hlt p (wk.yields i H x H' hlt q y)⟩
  · have e : i = n := by omega
    subst e
    exact .inl ⟨wk.stops H q, hd H p⟩
theorem nodup_leB {α : Type} [DecidableEq α] : ∀ (l D : List α), l.Nodup → (∀ x ∈ l, x ∈ D) → l.length ≤ D.length
  | [], _, _, _ => Nat.zero_le _
  | x :: l, D, hn, hs => by
    obtain ⟨h1, h2⟩ := List.nodup_cons.mp hn
    have hx : x ∈ D := hs x List.mem_cons_self
    have h3 := nodup_leB l (D.erase x) h2 fun y hy => (List.mem_erase_of_ne fun e => h1 (by rw [← e]; exact hy)).mpr (hs y (List.mem_cons_of_mem _ hy))
    rw [List.length_erase_of_mem hx] at h3
    have := List.length_pos_of_mem hx
    rw [List.length_cons]
    omega
/-- a set of states in the making: what is in it -/
structure SB (P : Program) (w : World) (H : Hp) (D : Addr) (L : List (Addr × List Int)) (Pr : ST → Prop) : Prop where
  at_ : H D = some (SetQO P w D L)
  nd : (L.map (·.2)).Nodup
  tup : ∀ q ∈ L, ∃ s, q.2 = stl s ∧ H q.1 = some (.tup (stv s))
  mem : ∀ s, stl s ∈ L.map (·.2) ↔ Pr s
section
variable {P : Program} {w : World} {H H' : Hp} {D : Addr} {L L' : List (Addr × List Int)} {Pr Pr' : ST → Prop}
theorem SB.congr (S : SB P w H D L Pr) (h : ∀ s, Pr s ↔ Pr' s) : SB P w H D L Pr' := ⟨S.at_, S.nd, S.tup, fun s => (S.mem s).trans (h s)⟩
theorem SB.keep {d : Addr} (S : SB P w H D L Pr) (e : Ex1 d H H') (hd : d ≠ D) (hn : ∃ f, H d = some (.ext f)) : SB P w H' D L Pr := by
  refine ⟨e _ _ S.at_ (Ne.symm hd), S.nd, fun q hq => ?_, S.mem⟩
  obtain ⟨s, e1, e2⟩ := S.tup q hq
  obtain ⟨f, hf⟩ := hn
  exact ⟨s, e1, e _ _ e2 fun z => by rw [z, hf] at e2; cases e2⟩
theorem SB.put {b : Addr} {s : ST} (S : SB P w H D L Pr) (hb : H b = some (.tup (stv s))) (c1 : stl s ∈ L.map (·.2) → L' = L) (c2 : stl s ∉ L.map (·.2) → L'.Perm ((b, stl s) :: L)) :
    SB P w (upd H D (SetQO P w D L')) D L' (fun x => Pr x ∨ x = s) := by
  have ne : ∀ {a : Addr} {xs : List V}, H a = some (.tup xs) → a ≠ D := fun h e => by rw [e, S.at_] at h; cases h
  by_cases h : stl s ∈ L.map (·.2)
  · rw [c1 h]
    refine ⟨upd_same, S.nd, fun q hq => ?_, fun x => ?_⟩
    · obtain ⟨r, e1, e2⟩ := S.tup q hq
      exact ⟨r, e1, by rw [upd_ne (ne e2)]; exact e2⟩
    · rw [S.mem]
      exact ⟨.inl, fun z => z.elim id fun z => by rw [z]; exact (S.mem s).mp h⟩
  · have pm := c2 h
    have pm2 := pm.map (·.2)
    refine ⟨upd_same, pm2.nodup_iff.mpr (List.nodup_cons.mpr ⟨h, S.nd⟩), fun q hq => ?_, fun x => ?_⟩
    · rcases List.mem_cons.mp (pm.mem_iff.mp hq) with rfl | hq
      · exact ⟨s, rfl, by rw [upd_ne (ne hb)]; exact hb⟩
      · obtain ⟨r, e1, e2⟩ := S.tup q hq
        exact ⟨r, e1, by rw [upd_ne (ne e2)]; exact e2⟩
    · rw [pm2.mem_iff]
      show stl x ∈ stl s :: L.map (·.2) ↔ _
      rw [List.mem_cons, S.mem]
      exact ⟨fun z => z.elim (fun z => .inr (stl_inj z)) .inl, fun z => z.elim .inr fun z => .inl (by rw [z])⟩
theorem SB.few (S : SB P w H D L Pr) {B : List ST} (h : ∀ s, Pr s → s ∈ B) : L.length ≤ B.length := by
  have := nodup_leB (L.map (·.2)) (B.map stl) S.nd fun k hk => by
    obtain ⟨q, hq, rfl⟩ := List.mem_map.mp hk
    obtain ⟨s, e1, _⟩ := S.tup q hq
    rw [e1]
    refine List.mem_map_of_mem (h s ((S.mem s).mp ?_))
    rw [← e1]
    exact List.mem_map_of_mem (f := fun q : Addr × List Int => q.2) hq
  rwa [List.length_map, List.length_map] at this
end
/-- what stays of the memory when an object comes or changes that is no part of it -/
theorem Stp.mono {K : PySem.W.Frag} {P : Program} {w : World} {CT : Addr} {H : Hp} {a d : Addr} {n m : Nat} {rows : List (List Nat)} {Av : Addr → Prop} (h : Stp K P w CT H a d n rows Av) (hn : n ≤ m) : Stp K P w CT H a d m rows Av := by
  obtain ⟨dx, ra, xs, h1, h2, h3, h4, h5, h6⟩ := h
  exact ⟨dx, ra, xs, h1, h2, h3, h4, Nat.le_trans h5 hn, h6⟩
theorem Stp.same {K : PySem.W.Frag} {P : Program} {w : World} {CT : Addr} {H H' : Hp} {a d : Addr} {n : Nat} {rows : List (List Nat)} {Av : Addr → Prop} (h : Stp K P w CT H a d n rows Av) (s : Same H H') : Stp K P w CT H' a d n rows Av := by
  obtain ⟨dx, ra, xs, h1, h2, h3, h4, h5, h6⟩ := h
  refine ⟨dx, ra, xs, s _ _ h1, Same.tup s h2, s _ _ h3, fun x hx => Same.dp s (h4 x hx), h5, fun x hx => ?_⟩
  obtain ⟨D, t, e, h0, h1, h2, h3⟩ := h6 x hx
  exact ⟨D, t, e, h0, s _ _ h1, h2.same s, h3⟩
/-- a set that is no dict of it changes -/
theorem Stp.set {K : PySem.W.Frag} {P : Program} {w : World} {CT : Addr} {H : Hp} {a d D : Addr} {n : Nat} {rows : List (List Nat)} {Av : Addr → Prop} {f : Heap → Prop} {o : HO} (h : Stp K P w CT H a d n rows Av) (hD : H D = some (.ext f)) (nD : d ≠ D) : Stp K P w CT (upd H D o) a d n rows Av := by
  obtain ⟨dx, ra, xs, h1, h2, h3, h4, h5, h6⟩ := h
  have k : ∀ {b : Addr} {q : HO}, H b = some q → (∀ f, q ≠ .ext f) → (upd H D o) b = some q := fun h hq => by
    rw [upd_ne fun z => by rw [z, hD] at h; exact hq _ (Option.some.inj h).symm]
    exact h
  have kT : ∀ {b : Addr} {zs : List V}, SqT K H b zs → SqT K (upd H D o) b zs := fun h => by
    rcases h with (h | ⟨o, h⟩) | h
    · exact .inl (.inl (k h fun _ z => by cases z))
    · exact .inl (.inr ⟨o, k h fun _ z => by cases z⟩)
    · exact .inr h
  have kL : ∀ {b : Addr} {zs : List V}, SqL K H b zs → SqL K (upd H D o) b zs := fun h => by
    rcases h with (h | ⟨o, h⟩) | h
    · exact .inl (.inl (k h fun _ z => by cases z))
    · exact .inl (.inr ⟨o, k h fun _ z => by cases z⟩)
    · exact .inr h
  refine ⟨dx, ra, xs, k h1 (fun _ z => by cases z), kT h2, by rw [upd_ne nD]; exact h3, fun x hx => dp_mono (fun _ _ => kT) (fun _ _ => kL) (h4 x hx), h5, fun x hx => ?_⟩
  obtain ⟨D, t, e, h0, h1, h2, h3⟩ := h6 x hx
  exact ⟨D, t, e, h0, k h1 (fun _ z => by cases z), (fun p hp => k (h2 p hp) fun _ z => by cases z), h3⟩
/-- the states behind one more instruction -/
def NextR (rows : List (List Nat)) (v : VI) (S S' : List ST) : Prop := UpS S' ∧ ∀ x, x ∈ S' ↔ ∃ s ∈ S, x ∈ ledF rows v s
end Om

/-! Steps: layers -/
namespace Om
open PySem PySem.Spec PyProof.Rows L2 LamX Gk
section
variable {K : PySem.W.Frag} {H H' : Hp}
mutual
theorem dp_flat (hT : ∀ b zs, SqT K H b zs → SqT K H' b zs) : ∀ (d : PyData) (v : V), flatD d = true → Dp K H v d → Dp K H' v d
  | .none, _, _, h => by cases h; exact .non
  | .int _, _, _, h => by cases h; exact .int _
  | .bool _, _, _, h => by cases h; exact .bl _
  | .str _, _, _, h => by cases h; exact .str _
  | .tuple ds, _, f, h => by
    cases h with
    | tup h1 h2 =>
      rw [flatD] at f
      exact .tup (hT _ _ h1) (dp_flatAll hT ds _ f h2)
  | .list _, _, f, _ => by rw [flatD] at f; cases f; all_goals (intros; contradiction)
  | .dict _, _, f, _ => by rw [flatD] at f; cases f; all_goals (intros; contradiction)
theorem dp_flatAll (hT : ∀ b zs, SqT K H b zs → SqT K H' b zs) : ∀ (ds : List PyData) (vs : List V), flatAll ds = true → DpAll K H vs ds → DpAll K H' vs ds
  | [], _, _, h => by cases h; exact .nil
  | d :: ds, _, f, h => by
    rw [flatAll, Bool.and_eq_true] at f
    cases h with
    | cons h1 h2 => exact .cons (dp_flat hT d _ f.1 h1) (dp_flatAll hT ds _ f.2 h2)
end
end
theorem kd_flat (q : KS) : flatD (NKey.kd q) = true := by
  show flatD (.tuple [q.1.ins.d, stD q.2]) = true
  rw [flatD, flatAll, flatAll, flatAll, VI.flat_ins]
  unfold stD
  rw [flatD, flatAll, flatAll, flatAll, flatAll, flatD, flatD, flatD]
  rfl
/-- a list that is avoided changes -/
theorem Stp.lst {K : PySem.W.Frag} {P : Program} {w : World} {CT : Addr} {H : Hp} {a d F : Addr} {n : Nat} {rows : List (List Nat)} {Av : Addr → Prop} {ys zs : List V} (h : Stp K P w CT H a d n rows Av) (hF : H F = some (.lst ys)) (hA : Av F) : Stp K P w CT (upd H F (.lst zs)) a d n rows Av := by
  obtain ⟨dx, ra, xs, h1, h2, h3, h4, h5, h6⟩ := h
  have k : ∀ {b : Addr} {q : HO}, H b = some q → (∀ f, q ≠ .lst f) → (upd H F (.lst zs)) b = some q := fun h hq => by
    rw [upd_ne fun z => by rw [z, hF] at h; exact hq _ (Option.some.inj h).symm]
    exact h
  have kT : ∀ (b : Addr) (zs' : List V), SqT K H b zs' → SqT K (upd H F (.lst zs)) b zs' := fun _ _ h => by
    rcases h with (h | ⟨o, h⟩) | h
    · exact .inl (.inl (k h fun _ z => by cases z))
    · exact .inl (.inr ⟨o, k h fun _ z => by cases z⟩)
    · exact .inr h
  refine ⟨dx, ra, xs, k h1 (fun _ z => by cases z), kT _ _ h2, k h3 (fun _ z => by cases z), fun x hx => dp_flat kT _ _ (kd_flat x.1) (h4 x hx), h5, fun x hx => ?_⟩
  obtain ⟨D, t, e, h0, h1, h2, h3⟩ := h6 x hx
  exact ⟨D, t, e, h0, by rw [upd_ne fun z => h0 (by rw [z]; exact hA)]; exact h1, h2.updL hF, h3⟩
/-- lists of states -/
abbrev LY := List (Addr × TS)
def lyV (Ly : LY) : List V := Ly.map fun q => .ref q.1
def lyS (Ly : LY) : List (List ST) := Ly.map fun q => csS q.2
def LyOk (H : Hp) (F : Addr) (Ly : LY) : Prop := ∀ q ∈ Ly, q.1 ≠ F ∧ H q.1 = some (.lst (vzS q.2)) ∧ CS H q.2 ∧ UpS (csS q.2)
/-- from layer to layer -/
def Ch (rows : List (List Nat)) (vs : List VI) (Ls : List (List ST)) (k : Nat) : Prop := ∀ j, j < k → ∀ v S S', vs[j]? = some v → Ls[j]? = some S → Ls[j + 1]? = some S' → NextR rows v S S'
def forB (s : Stmt) : List Stmt := match s with
  | .For _ _ b _ _ => b
  | _ => []
def scS (e : Expr) : Scope := match e with
  | .SetComp _ _ s _ => s
  | _ => defScope sLed
def laySc : Expr := arg0 (asgExpr ((forB ((defBody (sStp 2)).getD 1 noS)).getD 0 noS))
def spLay (K : PySem.W.Frag) (P : Program) (w : World) (CT : Addr) : Sp := fun us H Q _ => ∃ (a ia sa d : Addr) (n : Nat) (rows : List (List Nat)) (vs : List VI) (xs : List V) (t : TS) (B : List ST), us = [.ref a, .ref ia, .ref sa] ∧ Stp K P w CT H a d n rows (fun _ => False) ∧ Good2 rows ∧
  SqT K H ia xs ∧ DpAll K H xs (vs.map fun v => v.ins.d) ∧ (∀ v ∈ vs, v.wf) ∧ H sa = some (.lst (vzS t)) ∧ CS H t ∧ UpS (csS t) ∧ B.length ≤ 900 ∧ (∀ s ∈ B, s.2 < 4) ∧ (∀ v : VI, v.wf → ∀ s ∈ B, ∀ x ∈ ledF rows v s, x ∈ B) ∧ (∀ s ∈ csS t, s ∈ B) ∧ vs.length ≤ 100 ∧ n + 900 * vs.length ≤ 99000 ∧
  ∀ (F : Addr) (Ly : LY) (H' : Hp), Ex1 d H H' → H F = none → Stp K P w CT H' a d (n + 900 * vs.length) rows (fun _ => False) → H' F = some (.lst (lyV Ly)) → LyOk H' F Ly → Ly.length = vs.length + 1 → (lyS Ly)[0]? = some (csS t) → Ch rows vs (lyS Ly) vs.length → (∀ S ∈ lyS Ly, ∀ s ∈ S, s ∈ B) → Q (.ref F) H'
section
variable {P : Program} {w : World} {K : PySem.W.Frag} {mg : Str → Option Value} {base : Heap} {CT fT : Addr}
abbrev nLay : List Str := ["self", "instructions", "states", "found", "instruction", "state", "other"]
theorem scLay : FnScope nLay ["self", "instructions", "states"] (defScope (sStp 2)) := ⟨rfl, rfl, rfl, by decide +kernel, rfl, by decide +kernel, by decide +kernel⟩
theorem blkLay : BlkOk nLay (defScope (sStp 2)) (scS laySc) [("state", 5), ("other", 6)] := blkOk_by (by decide +kernel)
theorem ok_lay {f gB : Addr} {fd fdB : FuncData} (F : FnP K "layers" "Steps.layers" (sStp 2) f fd) (T : StpF K mg CT fT) (mB : Meth K CT "behind" gB) (GB : FnOk P w K mg base CX0 6 gB fdB ["self", "instruction", "state"] (spBeh K P w CT)) (bB : Binds K fdB ["self", "instruction", "state"] []) (gsorted : mg "sorted" = none) : FnOk P w K mg base CX0 7 f fd ["self", "instructions", "states"] (spLay K P w CT) := by
  refine F.ok scLay (fun vs H Q E h => ?_) (fun cdv A outer s H vs Q E hr h => ?_)
  · obtain ⟨a, ia, sa, d, n, rows, vs, xs, t, B, rfl, _⟩ := h
    rfl
  · obtain ⟨a, ia, sa, d, n, rows, vs, xs, t, B, rfl, st, g, hI, hD, hw, hs, hC, hU, hB9, hB4, hcl, hin, hl1, hl2, k⟩ := h
    have nd := scLay.nd
    have hu := hr.units
    have hu3 : _ + 3 < cLine := Nat.lt_of_le_of_lt (Nat.add_le_add_left (show 3 ≤ 64 by decide) _) hu
    refine ⟨_, PSs.nox (pss_cons (ps_set (i := 3) nd rfl (.inl rfl) (pe_lst (pa_cons (pv 2) pa_nil)))
      (pss_cons (ps_for PassesOwn.never rfl (pi_tup (pv 1)) (pg_name (i := 4) nd rfl (.inr rfl))
        (pss_cons (ps_set (i := 2) nd rfl (.inl rfl) (pe_callB (Bg.cr_sortSet rfl hu) (by rfl) gsorted (by decide +kernel) (pa_cons (Bg.pe_sc2 (own := [("state", 5), ("other", 6)]) (vs1 := [6]) (g := gName 5) (g1 := gName 6) rfl hu3 nd (pi_list (pv 2)) blkLay (by decide)
            (fun _ _ _ _ _ => pg_name (i := 5) nd rfl (.inl rfl)) (fun _ _ _ _ _ => pts_nil) (fun _ _ _ _ _ => pi_listK (K := K) rfl (pe_meth (pv 0) T.cl mB GB hr bB .nil pass0 (pa_cons (pv 4) (pa_cons (pv 5) pa_nil)))) (fun _ _ _ _ _ => pg_name (i := 6) nd rfl (.inl rfl))
            (fun _ _ _ _ _ => pts_nil) (fun _ _ _ _ _ => pv 6)) pa_nil)))
        (pss_one (ps_expr (pe_bm PySem.F.plainAttrs_list PySem.F.slot_list_append PySem.F.type_list_append mt_append (pv 3) (pa_cons (pv 2) pa_nil))))))
      (pss_one (ps_ret (pv 3))))), ?_⟩
    refine ⟨_, rfl, by show 1 ≤ sizeLine; decide, fun F hF => ?_⟩
    have sF := Same.new (Same.refl H) hF (o := .lst [.ref sa])
    have hlen : xs.length = vs.length := by rw [dpAll_len hD, List.length_map]
    obtain ⟨dx0, ra0, xs0, ha0, _, hd0, _⟩ := id st
    have stF : Stp K P w CT H a d n rows (fun b => b = F) := by
      obtain ⟨dx, ra, ys, h1, h2, h3, h4, h5, h6⟩ := st
      refine ⟨dx, ra, ys, h1, h2, h3, h4, h5, fun x hx => ?_⟩
      obtain ⟨D, u, e, _, hL⟩ := h6 x hx
      refine ⟨D, u, e, (fun z => ?_), hL⟩
      have z : D = F := z
      rw [← z, hL.1] at hF
      cases hF
    refine ⟨_, rfl, ia, rfl, ⟨_, Same.tup sF hI⟩, for_it (walk_tup (K := K) (a := ia) (xs := xs)) (fun i σ H4 => ∃ (Ly : LY) (c : Addr) (t1 : TS) (v4 : Option V), σ = [some (.ref a), some (.ref ia), some (.ref c), some (.ref F), v4, none, none] ∧ Ex1 d H H4 ∧ Stp K P w CT H4 a d (n + 900 * i) rows (fun b => b = F) ∧
        H4 F = some (.lst (lyV (Ly ++ [(c, t1)]))) ∧ LyOk H4 F (Ly ++ [(c, t1)]) ∧ Ly.length = i ∧ (lyS (Ly ++ [(c, t1)]))[0]? = some (csS t) ∧ Ch rows vs (lyS (Ly ++ [(c, t1)])) i ∧ (∀ S ∈ lyS (Ly ++ [(c, t1)]), ∀ s ∈ S, s ∈ B))
      ⟨[], sa, t, none, rfl, Same.ex1 sF, stF.same sF, upd_same, ?_, rfl, rfl, (fun j hj => absurd hj (Nat.not_lt_zero _)), ?_⟩ (fun i σ H4 _ q => ?_) ?_ ?_⟩
    · intro q hq
      rw [List.mem_singleton.mp hq]
      exact ⟨(fun z => by rw [← z, hs] at hF; cases hF), sF _ _ hs, hC.same sF, hU⟩
    · intro S hS
      rw [List.mem_singleton.mp hS]
      exact hin
    · obtain ⟨_, _, _, _, _, e4, _⟩ := q
      exact nk_tup e4 hd0 hI
    · rintro i x σ H4 H4' hi ⟨Ly, c, t1, v4, rfl, e4, st4, hF4, ly4, hli, h0, hch, hin4⟩ ⟨rfl, hx⟩
      have hiv : i < vs.length := by omega
      have hvi : vs[i]? = some vs[i] := List.getElem?_eq_getElem hiv
      have hwv : (vs[i]).wf := hw _ (List.getElem_mem hiv)
      obtain ⟨x', hx', hdx⟩ := dpAll_at hD (i := i) (e := (vs[i]).ins.d) (by rw [List.getElem?_map, hvi]; rfl)
      obtain rfl : x = x' := by rw [hx] at hx'; exact Option.some.inj hx'
      clear hx'
      generalize vs[i] = v at hvi hwv hdx
      obtain ⟨hcF, hcl4, hcC, hcU⟩ := ly4 (c, t1) (List.mem_append_right _ List.mem_cons_self)
      have hcB : ∀ r ∈ csS t1, r ∈ B := hin4 _ (by
        unfold lyS
        rw [List.map_append]
        exact List.mem_append_right _ List.mem_cons_self)
      have ht1 : t1.length ≤ 900 := by
        have := nodup_leB (csS t1) B hcU.nd hcB
        rw [csS_len] at this
        omega
      have hdn : n + 900 * i ≤ 98100 := by omega
      refine ⟨_, rfl, c, rfl, ⟨_, .inl (.inl hcl4)⟩, fun D hDn => ?_⟩
      obtain ⟨dx4, ra4, xs4, ha4, _, hd4, _⟩ := id st4
      have hdD : d ≠ D := fun z => by rw [z, hDn] at hd4; cases hd4
      have nil0 : ∀ s, (∃ r ∈ (csS t1).take 0, s ∈ ledF rows v r) → stl s ∈ (([] : List (Addr × List Int)).map (·.2)) := fun s h => by
        obtain ⟨r, hr, _⟩ := h
        rw [List.take_zero] at hr
        cases hr
      have sD := Same.new (Same.refl H4') hDn (o := SetQO P w D [])
      refine wlk_itB (walk_list (K := K) (a := c) (xs := vzS t1)) (fun j H5 => ∃ L, SB P w H5 D L (fun s => ∃ r ∈ (csS t1).take j, s ∈ ledF rows v r) ∧ Stp K P w CT H5 a d (n + 900 * i + j) rows (fun b => b = F) ∧ Ex1 d H4' H5)
        ⟨[], ⟨upd_same, List.nodup_nil, (fun q hq => by cases hq), fun s => ⟨(fun h => by cases h), (fun h => nil0 s h)⟩⟩, st4.same sD, Same.ex1 sD⟩ (fun j H5 _ q => ?_) ?_ ?_
      · obtain ⟨_, _, _, e5⟩ := q
        exact nk_lst e5 hd4 (.inl (.inl hcl4))
      · rintro j y0 H5 H5' hj ⟨L, S, st5, e5⟩ ⟨rfl, hy0⟩
        obtain ⟨y, hy, rfl, my⟩ := atS hy0
        rw [vzS_len] at hj
        have hyS : (csS t1)[j]? = some y.2 := by
          unfold csS
          rw [List.getElem?_map, hy]
          rfl
        have hyB := hcB _ (List.mem_of_getElem? hyS)
        have hy5 := nk_at e5 hd4 (hcC y my) fun _ z => by cases z
        have hF5 := nk_at e5 hd4 hF4 fun _ z => by cases z
        obtain ⟨dx5, ra5, xs5, ha5, _, hd5, _⟩ := id st5
        have hdx5 := nk_dp (e4.trans e5) hd0 hdx
        refine ⟨rfl, tyes ?_⟩
        refine ⟨_, rfl, a, dx5, _, rfl, ha5, stpFs_no _ _ (by decide +kernel) (by decide +kernel), ?_⟩
        refine ⟨_, rfl, _, rfl, a, y.1, d, x, n + 900 * i + j, rows, y.2, v, (fun b => b = F), rfl, st5, (fun b hb => by rw [hb, hF5]; exact fun z => by cases z), by omega, g, hdx5, hwv, hy5, hB4 _ hyB, fun D5 t5 H6 e6 st6 hnF hL6 => ⟨D5, rfl, ⟨_, .inl (.inl hL6.1)⟩, ?_⟩⟩
        refine wlk_itB (walk_list (K := K) (a := D5) (xs := vzS t5)) (fun k H7 => ∃ L, SB P w H7 D L (fun s => (∃ r ∈ (csS t1).take j, s ∈ ledF rows v r) ∨ s ∈ (csS t5).take k) ∧ Stp K P w CT H7 a d (n + 900 * i + j + 1) rows (fun b => b = F) ∧ Ex1 d H4' H7 ∧ H7 D5 = some (.lst (vzS t5)) ∧ CS H7 t5)
          ⟨L, (S.keep e6 hdD ⟨_, hd5⟩).congr (fun s => ⟨.inl, fun z => z.elim id fun z => by rw [List.take_zero] at z; cases z⟩), st6, e5.trans e6, hL6.1, hL6.2.1⟩ (fun k H7 _ q => .inl (.inl (by obtain ⟨_, _, _, _, q, _⟩ := q; exact q))) ?_ ?_
        · rintro k z0 H7 H7' hk ⟨L7, S7, st7, e7, h7, c7⟩ ⟨rfl, hz0⟩
          obtain ⟨z, hz, rfl, mz⟩ := atS hz0
          have hzS : (csS t5)[k]? = some z.2 := by
            unfold csS
            rw [List.getElem?_map, hz]
            rfl
          have hz7 := c7 z mz
          refine ⟨rfl, tyes ?_⟩
          refine ⟨_, rfl, z.1, stl z.2, L7, rfl, .inl (.inl hz7), S7.at_, (fun q hq => ?_), ?_, fun L' c1 c2 => ⟨L', (S7.put hz7 c1 c2).congr (fun s => ?_), st7.set S7.at_ hdD, (fun b o hb hne => ?_), ?_, ?_⟩⟩
          · obtain ⟨r, e1, e2⟩ := S7.tup q hq
            rw [e1]
            exact .inl (.inl e2)
          · have := S7.few (B := B) fun s hs => by
              rcases hs with ⟨r, hr, hs⟩ | hs
              · exact hcl v hwv r (hcB r (List.mem_of_mem_take hr)) s hs
              · exact hcl v hwv _ hyB s ((hL6.2.2.2 s).mp (List.mem_of_mem_take hs))
            omega
          · rw [List.take_add_one, hzS]
            show _ ↔ _ ∨ s ∈ _ ++ [z.2]
            rw [List.mem_append, List.mem_singleton, or_assoc]
          · rw [upd_ne fun q => by rw [q, hDn] at hb; cases hb]
            exact e7 b o hb hne
          · rw [upd_ne fun q => by rw [q, S7.at_] at h7; cases h7]
            exact h7
          · intro p hp
            rw [upd_ne fun q => by have := c7 p hp; rw [q, S7.at_] at this; cases this]
            exact c7 p hp
        · rintro H7 ⟨L7, S7, st7, e7, _, _⟩
          refine ⟨L7, S7.congr (fun s => ?_), st7, e7⟩
          rw [vzS_len, ← csS_len, List.take_length, hL6.2.2.2 s, List.take_add_one, hyS]
          constructor
          · rintro (⟨r, hr, h⟩ | h)
            · exact ⟨r, List.mem_append_left _ hr, h⟩
            · exact ⟨y.2, List.mem_append_right _ List.mem_cons_self, h⟩
          · rintro ⟨r, hr, h⟩
            rcases List.mem_append.mp hr with hr | hr
            · exact .inl ⟨r, hr, h⟩
            · have hr : r ∈ [y.2] := hr
              rw [List.mem_singleton.mp hr] at h
              exact .inr h
      · rintro H5 ⟨L, S, st5, e5⟩
        rw [vzS_len, ← csS_len, List.take_length] at S
        rw [vzS_len] at st5
        obtain ⟨dx5, ra5, xs5, ha5, _, hd5, _⟩ := id st5
        refine ⟨D, L, rfl, S.at_, (fun q hq => ?_), fun L' p pm nd2 pw hp => ?_⟩
        · obtain ⟨r, e1, e2⟩ := S.tup q hq
          rw [e1]
          exact .inl (.inl e2)
        have hpF : p ≠ F := fun z => by
          have := nk_at e5 hd4 hF4 fun _ z => by cases z
          rw [← z, hp] at this
          cases this
        have s6 := Same.new (Same.refl H5) hp (o := .lst (L'.map fun q => V.ref q.1))
        obtain ⟨t', e, c'⟩ := ts_of (H := upd H5 p (.lst (L'.map fun q => V.ref q.1))) (L := L') fun q hq => by
          obtain ⟨r, e1, e2⟩ := S.tup q (pm.mem_iff.mp hq)
          exact ⟨r, e1, s6 _ _ e2⟩
        have hv' : (L'.map fun q => V.ref q.1) = vzS t' := by
          rw [e, List.map_map]
          rfl
        have hup : UpS (csS t') := ups_of (e ▸ nd2) (e ▸ pw)
        have hnx : ∀ s, s ∈ csS t' ↔ ∃ r ∈ csS t1, s ∈ ledF rows v r := fun s => by
          rw [← S.mem s, ← (pm.map (·.2)).mem_iff, e, List.map_map]
          constructor
          · intro h
            obtain ⟨y, hy, rfl⟩ := List.mem_map.mp h
            exact List.mem_map_of_mem (f := fun p : Addr × ST => stl p.2) hy
          · intro h
            obtain ⟨y, hy, e2⟩ := List.mem_map.mp h
            have e2 : stl y.2 = stl s := e2
            rw [← stl_inj e2]
            exact List.mem_map_of_mem hy
        have e6 : (upd H5 p (.lst (L'.map fun q => V.ref q.1))) p = some (.lst (vzS t')) := by rw [upd_same, hv']
        have h6 := e5.trans (Same.ex1 s6)
        have st6 := st5.same s6
        generalize upd H5 p (.lst (L'.map fun q => V.ref q.1)) = H6 at s6 c' e6 h6 st6 ⊢
        have hF6 := nk_at h6 hd4 hF4 fun _ z => by cases z
        have lA : (lyS (Ly ++ [(c, t1)])).length = i + 1 := by
          unfold lyS
          rw [List.length_map, List.length_append, hli]
          rfl
        refine ⟨_, rfl, .inl ⟨rfl, _, .inl (.inl hF6)⟩, _, rfl, F, _, _, rfl, rfl, hF6, Nat.lt_of_le_of_lt (show _ ≤ 1000 by unfold lyV; rw [List.length_map, List.length_append, hli, List.length_singleton]; omega) (by decide), ?_⟩
        have ef : lyV (Ly ++ [(c, t1)]) ++ [V.ref p] = lyV ((Ly ++ [(c, t1)]) ++ [(p, t')]) := by
          unfold lyV
          rw [List.map_append, List.map_append, List.map_append]
          rfl
        have eS : lyS ((Ly ++ [(c, t1)]) ++ [(p, t')]) = lyS (Ly ++ [(c, t1)]) ++ [csS t'] := by
          unfold lyS
          rw [List.map_append]
          rfl
        rw [ef]
        refine ⟨Ly ++ [(c, t1)], p, t', some x, rfl, (fun b o hb hne => ?_), (st6.mono (by omega)).lst hF6 rfl, upd_same, (fun q hq => ?_), by rw [List.length_append, hli]; rfl, ?_, (fun j hj v' S1 S2 hv h1 h2 => ?_), (fun S1 hS => ?_)⟩
        · rw [upd_ne fun z => by rw [z, hF] at hb; cases hb]
          exact (e4.trans h6) b o hb hne
        · rcases List.mem_append.mp hq with hq | hq
          · obtain ⟨q1, q2, q3, q4⟩ := ly4 q hq
            exact ⟨q1, by rw [upd_ne q1]; exact nk_at h6 hd4 q2 (fun _ z => by cases z), (nk_cs h6 hd4 q3).updL hF6, q4⟩
          · rw [List.mem_singleton.mp hq]
            exact ⟨hpF, by rw [upd_ne hpF]; exact e6, c'.updL hF6, hup⟩
        · rw [eS, List.getElem?_append_left (by omega)]
          exact h0
        · rw [eS] at h1 h2
          rw [List.getElem?_append_left (by omega)] at h1
          by_cases hji : j = i
          · subst hji
            rw [hvi] at hv
            obtain rfl := Option.some.inj hv
            rw [List.getElem?_append_right (by omega), lA, Nat.sub_self] at h2
            obtain rfl := Option.some.inj h2
            have h3 : (lyS (Ly ++ [(c, t1)]))[j]? = some (csS t1) := by
              have e0 : lyS (Ly ++ [(c, t1)]) = lyS Ly ++ [csS t1] := by
                unfold lyS
                rw [List.map_append]
                rfl
              have l0 : (lyS Ly).length = j := by
                unfold lyS
                rw [List.length_map, hli]
              rw [e0, List.getElem?_append_right (by omega), l0, Nat.sub_self]
              rfl
            rw [h3] at h1
            obtain rfl := Option.some.inj h1
            exact ⟨hup, hnx⟩
          · rw [List.getElem?_append_left (by omega)] at h2
            exact hch j (by omega) v' S1 S2 hv h1 h2
        · rw [eS] at hS
          rcases List.mem_append.mp hS with hS | hS
          · exact hin4 S1 hS
          · rw [List.mem_singleton.mp hS]
            intro s hs
            obtain ⟨r, hr, h⟩ := (hnx s).mp hs
            exact hcl v hwv r (hcB r hr) s h
    · rintro σ H4 ⟨Ly, c, t1, v4, rfl, e4, st4, hF4, ly4, hli, h0, hch, hin4⟩
      refine ⟨_, rfl, k F (Ly ++ [(c, t1)]) H4 e4 hF ?_ hF4 ly4 (by rw [List.length_append, hli, hlen]; rfl) h0 (by rw [← hlen]; exact hch) hin4⟩
      rw [← hlen]
      obtain ⟨dx, ra, ys, h1, h2, h3, h4, h5, h6⟩ := st4
      refine ⟨dx, ra, ys, h1, h2, h3, h4, h5, fun x hx => ?_⟩
      obtain ⟨D, u, e, _, hL⟩ := h6 x hx
      exact ⟨D, u, e, fun z => z, hL⟩
end
end Om

/-! Steps: ends -/
namespace Om
open PySem PySem.Spec PyProof.Rows L2 LamX Gk
/-- the states behind some instructions -/
def FolR (rows : List (List Nat)) : List VI → List ST → List ST → Prop
  | [], S, S' => S' = S
  | v :: vs, S, S' => ∃ S1, NextR rows v S S1 ∧ FolR rows vs S1 S'
theorem fol_of {rows : List (List Nat)} : ∀ (vs : List VI) (Ls : List (List ST)) (S S' : List ST), Ls.length = vs.length + 1 → Ls[0]? = some S → Ls[vs.length]? = some S' → Ch rows vs Ls vs.length → FolR rows vs S S'
  | [], Ls, S, S', _, h0, h1, _ => by
    have h1 : Ls[0]? = some S' := h1
    rw [h0] at h1
    exact (Option.some.inj h1).symm
  | v :: vs, [], S, S', hl, _, _, _ => by cases hl
  | v :: vs, [x], S, S', hl, _, _, _ => by
    simp only [List.length_cons, List.length_nil] at hl
    omega
  | v :: vs, x :: y :: Ls, S, S', hl, h0, h1, hc => by
    have h0 : some x = some S := h0
    obtain rfl := Option.some.inj h0
    refine ⟨y, hc 0 (by rw [List.length_cons]; omega) v x y rfl rfl rfl, fol_of vs (y :: Ls) y S' (by simp only [List.length_cons] at hl ⊢; omega) rfl h1 fun j hj v' T T' hv hT hT' => ?_⟩
    exact hc (j + 1) (by rw [List.length_cons]; omega) v' T T' hv hT hT'
theorem FolR.uniq {rows : List (List Nat)} : ∀ {vs : List VI} {S A B : List ST}, FolR rows vs S A → FolR rows vs S B → A = B
  | [], S, A, B, h1, h2 => by
    have h1 : A = S := h1
    have h2 : B = S := h2
    rw [h1, h2]
  | v :: vs, S, A, B, ⟨S1, n1, f1⟩, ⟨S2, n2, f2⟩ => by
    have e : S1 = S2 := UpS.uniq n1.1 n2.1 fun x => (n1.2 x).trans (n2.2 x).symm
    subst e
    exact FolR.uniq f1 f2
def spEnds (K : PySem.W.Frag) (P : Program) (w : World) (CT : Addr) : Sp := fun us H Q _ => ∃ (a ia sa d : Addr) (n : Nat) (rows : List (List Nat)) (vs : List VI) (xs : List V) (t : TS) (B : List ST), us = [.ref a, .ref ia, .ref sa] ∧ Stp K P w CT H a d n rows (fun _ => False) ∧ Good2 rows ∧
  SqT K H ia xs ∧ DpAll K H xs (vs.map fun v => v.ins.d) ∧ (∀ v ∈ vs, v.wf) ∧ H sa = some (.lst (vzS t)) ∧ CS H t ∧ UpS (csS t) ∧ B.length ≤ 900 ∧ (∀ s ∈ B, s.2 < 4) ∧ (∀ v : VI, v.wf → ∀ s ∈ B, ∀ x ∈ ledF rows v s, x ∈ B) ∧ (∀ s ∈ csS t, s ∈ B) ∧ vs.length ≤ 100 ∧ n + 900 * vs.length ≤ 99000 ∧
  ∀ (c : Addr) (t' : TS) (H' : Hp), Ex1 d H H' → Stp K P w CT H' a d (n + 900 * vs.length) rows (fun _ => False) → H' c = some (.lst (vzS t')) → CS H' t' → UpS (csS t') → FolR rows vs (csS t) (csS t') → (∀ s ∈ csS t', s ∈ B) → Q (.ref c) H'
section
variable {P : Program} {w : World} {K : PySem.W.Frag} {mg : Str → Option Value} {base : Heap} {CT fT : Addr}
theorem scEnds : FnScope ["self", "instructions", "states"] ["self", "instructions", "states"] (defScope (sStp 3)) := ⟨rfl, rfl, rfl, by decide +kernel, rfl, by decide +kernel, by decide +kernel⟩
theorem ok_ends {f gL : Addr} {fd fdL : FuncData} (F : FnP K "ends" "Steps.ends" (sStp 3) f fd) (T : StpF K mg CT fT) (mL : Meth K CT "layers" gL) (GL : FnOk P w K mg base CX0 7 gL fdL ["self", "instructions", "states"] (spLay K P w CT)) (bL : Binds K fdL ["self", "instructions", "states"] []) : FnOk P w K mg base CX0 8 f fd ["self", "instructions", "states"] (spEnds K P w CT) := by
  refine F.ok scEnds (fun vs H Q E h => ?_) (fun cdv A outer s H vs Q E hr h => ?_)
  · obtain ⟨a, ia, sa, d, n, rows, vs, xs, t, B, rfl, _⟩ := h
    rfl
  · obtain ⟨a, ia, sa, d, n, rows, vs, xs, t, B, rfl, st, g, hI, hD, hw, hs, hC, hU, hB9, hB4, hcl, hin, hl1, hl2, k⟩ := h
    obtain ⟨dx0, ra0, xs0, ha0, _⟩ := id st
    refine ⟨_, PSs.nox (pss_one (ps_ret (pe_ix ix_list (pe_meth (pv 0) T.cl mL GL hr bL .nil pass0 (pa_cons (pv 1) (pa_cons (pv 2) pa_nil))) (pe_un un_neg pe_int) (fun _ _ => rfl)))), ?_⟩
    refine ⟨_, rfl, a, dx0, _, rfl, ha0, stpFs_no _ _ (by decide +kernel) (by decide +kernel), ?_⟩
    refine ⟨_, rfl, _, rfl, a, ia, sa, d, n, rows, vs, xs, t, B, rfl, st, g, hI, hD, hw, hs, hC, hU, hB9, hB4, hcl, hin, hl1, hl2, fun F Ly H' e hF st' hF' ly hl h0 hch hin' => ?_⟩
    have lS : (lyS Ly).length = vs.length + 1 := by
      unfold lyS
      rw [List.length_map, hl]
    obtain ⟨q, hq⟩ : ∃ q, Ly[vs.length]? = some q := ⟨_, List.getElem?_eq_getElem (by omega)⟩
    have hqm := List.mem_of_getElem? hq
    obtain ⟨_, q2, q3, q4⟩ := ly q hqm
    have hS : (lyS Ly)[vs.length]? = some (csS q.2) := by
      unfold lyS
      rw [List.getElem?_map, hq]
      rfl
    have hat : atI (lyV Ly) (-1) = some (.ref q.1) := by
      obtain ⟨L0, y, eL⟩ : ∃ L0 y, Ly = L0 ++ [y] := ⟨Ly.dropLast, Ly.getLast (by intro z; rw [z] at hl; cases hl), (List.dropLast_concat_getLast _).symm⟩
      have l0 : L0.length = vs.length := by
        have := congrArg List.length eL
        rw [hl, List.length_append] at this
        simpa using this.symm
      have : y = q := by
        rw [eL, List.getElem?_append_right (by omega), l0, Nat.sub_self] at hq
        exact Option.some.inj hq
      subst this
      rw [eL]
      unfold lyV
      rw [List.map_append]
      exact atI_last _ _
    refine ⟨_, rfl, F, _, _, _, rfl, rfl, .inl (.inl hF'), hat, ?_⟩
    exact k q.1 q.2 H' e st' q2 q3 q4 (fol_of vs (lyS Ly) _ _ lS h0 hS hch) (hin' _ (List.mem_of_getElem? hS))
end
end Om

/-! begin_states -/
namespace Om
open PySem PySem.Spec PyProof.Rows L2 LamX Gk
def stC (c : Nat × Nat) (f : Nat) : ST := (((c.1 : Int), (c.2 : Int)), f)
def begC (rows : List (List Nat)) (sg : List Nat) : List (Nat × Nat) := (cellsOf rows).filter fun c => decide (sgAt rows (c.1 : Nat) (c.2 : Nat) ∈ sg)
def begF (rows : List (List Nat)) (sg fl : List Nat) : List ST := (begC rows sg).flatMap fun c => fl.map (stC c)
theorem cell_has {rows : List (List Nat)} (g : Good2 rows) {a b : Nat} (hm : (a, b) ∈ cellsOf rows) : hasC rows (a : Nat) (b : Nat) = true := by
  rw [← cells_any g]
  refine List.any_eq_true.mpr ⟨cdp (a, b), List.mem_map_of_mem hm, ?_⟩
  rw [eqv_cell]
  simp
theorem cell_insd {rows : List (List Nat)} (g : Good2 rows) {a b : Nat} (hm : (a, b) ∈ cellsOf rows) : insd rows (a : Nat) (b : Nat) = true := by
  have h := cell_has g hm
  unfold hasC at h
  rw [Bool.and_eq_true] at h
  exact h.1
theorem cells_few {rows : List (List Nat)} (vd : Vd rows) : (cellsOf rows).length ≤ 144 := by
  have h := cellsTo_len (fun r hr => (vd.wid r hr).2) rows.length (Nat.le_refl _)
  have h2 := vd.hgt
  show (cellsTo rows rows.length).length ≤ 144
  omega
def spBeg (K : PySem.W.Frag) (CM CI : Addr) : Sp := fun vs H Q _ => ∃ (a : Addr) (rows : List (List Nat)) (sg fl : List Nat) (is : List Ins), vs = [.ref a] ∧ Mp K CM CI H a rows sg (fl.map nmN) is ∧ Vd rows ∧ fl.length ≤ 4 ∧
  ∀ (D : Addr) (t : TS) (H' : Hp), Same H H' → H' D = some (.lst (vzS t)) → CS H' t → csS t = begF rows sg fl → Q (.ref D) H'
abbrev sBeg : Stmt := top 39
section
variable {P : Program} {w : World} {K : PySem.W.Frag} {mg : Str → Option Value} {base : Heap} {CM CI CU fM fN : Addr}
abbrev nBeg : List Str := ["chart", "island", "begins", "cell", "row", "column", "facing"]
theorem scBeg : FnScope nBeg ["chart"] (defScope sBeg) := ⟨rfl, rfl, rfl, by decide +kernel, rfl, by decide +kernel, by decide +kernel⟩
theorem passE0 {P : Program} {w : World} {X : Cx} : Passes (L2.CX P w) X E0 := fun pins σ H s e s' I h => by
  obtain ⟨a, B, H', cls, d, _, _, _, _, _, _, _, z⟩ := h
  exact z.elim
theorem pi_tupK {X : Cx} {K : PySem.W.Frag} {tg l : Expr} {tl : TE} (hK : X.K = K) (h : PE X l tl) : PI X tg l (iTup K tl) := by
  subst hK
  exact pi_tup h
def begLc1 : Expr := asgExpr ((defBody sBeg).getD 1 noS)
def begLc2 : Expr := retExpr ((defBody sBeg).getD 2 noS)
theorem blkBeg1 : BlkOk nBeg (defScope sBeg) (lcScope begLc1) [("cell", 3)] := blkOk_by (by decide +kernel)
theorem blkBeg2 : BlkOk nBeg (defScope sBeg) (lcScope begLc2) [("row", 4), ("column", 5), ("facing", 6)] := blkOk_by (by decide +kernel)
theorem ok_beg {f pI pS pF pC gI gS gF gC gG : Addr} {fd dI dS dF dC dG : FuncData} (F : FnP K "begin_states" "begin_states" sBeg f fd) (TM : MapF K mg CM fM) (TI : IslF K mg CI fN)
    (qI : PropOf K CM "island" pI gI) (GI : FnOk P w K mg base CX0 1 gI dI ["self"] (getSp CM "_island")) (bI : Binds K dI ["self"] [])
    (qS : PropOf K CM "signs" pS gS) (GS : FnOk P w K mg base CX0 1 gS dS ["self"] (getSp CM "_signs")) (bS : Binds K dS ["self"] [])
    (qF : PropOf K CM "facings" pF gF) (GF : FnOk P w K mg base CX0 1 gF dF ["self"] (getSp CM "_facings")) (bF : Binds K dF ["self"] [])
    (qC : PropOf K CI "cells" pC gC) (GC : FnOk P w K mg base CX0 1 gC dC ["self"] (spICells K CI)) (bC : Binds K dC ["self"] [])
    (mG : OwnM K CI "__getitem__" gG) (GG : FnOk P w K mg base (L2.CX P w) 3 gG dG ["self", "cell"] (spGet K CI CU)) (bG : Binds K dG ["self", "cell"] []) : FnOk P w K mg base CX0 5 f fd ["chart"] (spBeg K CM CI) := by
  refine F.ok scBeg (fun vs H Q E h => ?_) (fun cdv A outer s H vs Q E hr h => ?_)
  · obtain ⟨a, rows, sg, fl, is, rfl, _⟩ := h
    rfl
  · obtain ⟨a, rows, sg, fl, is, rfl, ⟨dx, li, lf, lt, xs, ha, hI, hF, hT, hD⟩, vd, hfl, k⟩ := h
    have nd := scBeg.nd
    have hr2 : Room 2 _ := hr.mono (by decide)
    have hr4 : Room 4 _ := hr.mono (by decide)
    refine ⟨_, PSs.nox (pss_cons (ps_set (i := 1) nd rfl (.inr rfl) (pe_prop (pv 0) TM.cl qI GI hr2 bI .nil pass0 rfl))
      (pss_cons (ps_setLc (i := 2) (own := [("cell", 3)]) (g := gName 3) rfl nd rfl rfl (sw_true rfl rfl rfl (by decide +kernel)) (pi_list (pe_prop (pv 1) TI.cl qC GC hr2 bC .nil pass0 rfl)) blkBeg1 (fun _ _ _ _ _ => pg_name (i := 3) nd rfl (.inl rfl))
          (fun _ _ _ _ _ => pts_one (pt_cmpR op_in_sign (pe_ixOwn mG GG hr4 bG passE0 (pv 1) (pv 3)) (pe_prop (pv 0) TM.cl qS GS hr2 bS .nil pass0 rfl) (by with_unfolding_all rfl))) (fun _ _ _ _ _ => pv 3))
      (pss_one (ps_ret (pe_lc2 (own := [("row", 4), ("column", 5), ("facing", 6)]) (vs1 := [6]) (g := gTup K 2 (gCons (gName 4) (gCons (gName 5) gNil))) (g1 := gName 6) rfl nd (pi_list (pv 2)) blkBeg2 (by decide)
          (fun _ _ _ _ _ => pg_tup rfl (pgs_cons (pg_name (i := 4) nd rfl (.inl rfl)) (pgs_cons (pg_name (i := 5) nd rfl (.inl rfl)) pgs_nil))) (fun _ _ _ _ _ => pts_nil)
          (fun _ _ _ _ _ => pi_tupK (K := K) rfl (pe_prop (pv 0) TM.cl qF GF hr2 bF .nil pass0 rfl)) (fun _ _ _ _ _ => pg_name (i := 6) nd rfl (.inl rfl)) (fun _ _ _ _ _ => pts_nil)
          (fun _ _ _ _ _ => pe_tup (pa_cons (pv 4) (pa_cons (pv 5) (pa_cons (pv 6) pa_nil))))))))), ?_⟩
    refine ⟨_, rfl, a, dx, _, rfl, ha, a, dx, _, _, rfl, ha, mapFs_i .., ?_⟩
    obtain ⟨dxi, pr, hli, hrows⟩ := id hI
    refine ⟨_, rfl, li, dxi, _, rfl, hli, li, rows, rfl, hI, vd, fun cv H1 s1 hcv => ?_⟩
    cases hcv with
    | lst hLc hAc =>
      rename_i lc cs
      refine ⟨lc, rfl, ⟨_, hLc⟩, fun D hDn => ?_⟩
      have lcs : cs.length = (cellsOf rows).length := by rw [dpAll_len hAc, List.length_map]
      have hcf := cells_few vd
      refine lc_list (K := K) (a := lc) (xs := cs) (fun i H' => ∃ acc, H' D = some (.lst acc) ∧ acc.length ≤ i ∧ DpAll K H' acc ((((cellsOf rows).take i).filter fun c => decide (sgAt rows (c.1 : Nat) (c.2 : Nat) ∈ sg)).map cdp) ∧ Same H1 H')
        ⟨[], upd_same, Nat.le_refl _, by rw [List.take_zero]; exact .nil, Same.new (Same.refl H1) hDn⟩ (fun i H' _ q => ?_) ?_ ?_
      · obtain ⟨_, _, _, _, q⟩ := q
        exact Same.lst q hLc
      · rintro i x H2 hx ⟨acc, h1, h2, h3, s2⟩
        have hi : i < (cellsOf rows).length := by
          rw [← lcs]
          exact (List.getElem?_eq_some_iff.mp hx).1
        obtain ⟨⟨r, c⟩, hc⟩ : ∃ q, (cellsOf rows)[i]? = some q := ⟨_, List.getElem?_eq_getElem hi⟩
        obtain ⟨x', hx', hdx⟩ := dpAll_at hAc (i := i) (e := cdp (r, c)) (by rw [List.getElem?_map, hc]; rfl)
        obtain rfl : x = x' := by rw [hx] at hx'; exact Option.some.inj hx'
        have hmem := List.mem_of_getElem? hc
        have hdx2 := Same.dp s2 hdx
        have hins := cell_insd vd.toGood2 hmem
        have et : (cellsOf rows).take (i + 1) = (cellsOf rows).take i ++ [(r, c)] := by
          rw [List.take_add_one, hc]
          rfl
        cases hdx with
        | tup hSx hAx =>
          rename_i q zs
          cases hAx with
          | cons z1 hAx =>
            cases z1
            cases hAx with
            | cons z2 hAx =>
              cases z2
              cases hAx
              have s12 := s1.trans s2
              refine ⟨rfl, ?_⟩
              refine ⟨_, rfl, _, rfl, li, dxi, _, rfl, s12 _ _ hli, li, q, rows, (r : Int), (c : Int), rfl, hI.same s12, vd.toGood2, Same.tup s2 hSx, (fun _ => ?_), fun z => by rw [hins] at z; cases z⟩
              refine ⟨_, rfl, a, dx, _, rfl, s12 _ _ ha, a, dx, _, _, rfl, s12 _ _ ha, mapFs_s .., sgAt rows (r : Nat) (c : Nat), tx sg, rfl, rfl, _, rfl, ?_⟩
              rw [tx_cps]
              by_cases hm : sgAt rows (r : Nat) (c : Nat) ∈ sg
              · refine iteT' (decide_eq_true hm) ⟨_, rfl, acc, h1, Nat.lt_of_le_of_lt (show _ ≤ 1000 by omega) (by decide), acc ++ [.ref q], upd_same, by rw [List.length_append]; exact Nat.succ_le_succ h2, ?_, Same.updN s2 hDn⟩
                rw [et, List.filter_append, List.map_append]
                refine dpAll_app (pairs_other h1 h3) ?_
                have e1 : List.filter (fun c : Nat × Nat => decide (sgAt rows (c.1 : Nat) (c.2 : Nat) ∈ sg)) [(r, c)] = [(r, c)] := by
                  rw [List.filter_cons, if_pos (decide_eq_true hm)]
                  rfl
                rw [e1]
                exact pairs_other h1 (.cons hdx2 .nil)
              · refine iteF' (decide_eq_false hm) ⟨acc, h1, Nat.le_succ_of_le h2, ?_, s2⟩
                rw [et, List.filter_append]
                have e1 : List.filter (fun c : Nat × Nat => decide (sgAt rows (c.1 : Nat) (c.2 : Nat) ∈ sg)) [(r, c)] = [] := by
                  rw [List.filter_cons, if_neg (by rw [decide_eq_false hm]; exact Bool.false_ne_true)]
                  rfl
                rw [e1, List.append_nil]
                exact h3
      · rintro H2 ⟨acc, h1, h2, h3, s2⟩
        rw [lcs, List.take_length] at h3
        have h3 : DpAll K H2 acc ((begC rows sg).map cdp) := h3
        have s12 := s1.trans s2
        have lacc : acc.length = (begC rows sg).length := by rw [dpAll_len h3, List.length_map]
        have hbl : (begC rows sg).length ≤ 144 := Nat.le_trans (List.length_filter_le ..) hcf
        refine ⟨_, rfl, D, rfl, ⟨_, .inl (.inl h1)⟩, fun D2 hD2 => ?_⟩
        refine out_it (walk_list (K := K) (a := D) (xs := acc)) (fun i H' => ∃ t : TS, H' D2 = some (.lst (vzS t)) ∧ CS H' t ∧ csS t = ((begC rows sg).take i).flatMap (fun c => fl.map (stC c)) ∧ t.length ≤ 4 * i ∧ Same H2 H')
          ⟨[], upd_same, (fun p hp => by cases hp), by rw [List.take_zero]; rfl, Nat.zero_le _, Same.new (Same.refl H2) hD2⟩ (fun i H' _ q => by obtain ⟨_, _, _, _, _, q⟩ := q; exact .inl (.inl (q _ _ h1))) ?_ ?_
        · rintro i x H3 H3' hi ⟨t, g1, g2, g3, g4, s3⟩ ⟨rfl, hx⟩
          obtain ⟨⟨r, c⟩, hc⟩ : ∃ q, (begC rows sg)[i]? = some q := ⟨_, List.getElem?_eq_getElem (by omega)⟩
          obtain ⟨x', hx', hdx⟩ := dpAll_at h3 (i := i) (e := cdp (r, c)) (by rw [List.getElem?_map, hc]; rfl)
          obtain rfl : x = x' := by rw [hx] at hx'; exact Option.some.inj hx'
          have et : (begC rows sg).take (i + 1) = (begC rows sg).take i ++ [(r, c)] := by
            rw [List.take_add_one, hc]
            rfl
          cases hdx with
          | tup hSx hAx =>
            rename_i q zs
            cases hAx with
            | cons z1 hAx =>
              cases z1
              cases hAx with
              | cons z2 hAx =>
                cases z2
                cases hAx
                have s13 := s12.trans s3
                refine ⟨q, _, rfl, Same.tup s3 hSx, rfl, _, _, rfl, _, _, rfl, rfl, rfl, tyes ?_⟩
                refine ⟨_, rfl, a, dx, _, rfl, s13 _ _ ha, a, dx, _, _, rfl, s13 _ _ ha, mapFs_f .., lf, rfl, ⟨_, Same.tup s13 hF⟩, ?_⟩
                refine in_it (walk_tup (K := K) (a := lf) (xs := (fl.map nmN).map Nm.v)) (fun j H' => ∃ t : TS, H' D2 = some (.lst (vzS t)) ∧ CS H' t ∧ csS t = ((begC rows sg).take i).flatMap (fun c => fl.map (stC c)) ++ (fl.take j).map (stC (r, c)) ∧ t.length ≤ 4 * i + j ∧ Same H2 H')
                  ⟨t, g1, g2, by rw [List.take_zero, List.map_nil, List.append_nil]; exact g3, g4, s3⟩ (fun j H' _ q => by obtain ⟨_, _, _, _, _, q⟩ := q; exact Same.tup (s12.trans q) hF) ?_ ?_
                · rintro j y H4 H4' hj ⟨u, k1, k2, k3, k4, s4⟩ ⟨rfl, hy⟩
                  rw [List.map_map, List.getElem?_map] at hy
                  obtain ⟨f, hf, rfl⟩ := Option.map_eq_some_iff.mp hy
                  rw [List.length_map, List.length_map] at hj
                  refine ⟨rfl, tyes ?_⟩
                  refine ⟨_, rfl, _, rfl, _, rfl, by show 3 ≤ sizeLine; decide, fun p hp => ?_⟩
                  have s5 := Same.new (Same.refl H4') hp (o := .tup (stv (stC (r, c) f)))
                  have e5 : (upd H4' p (.tup (stv (stC (r, c) f)))) p = some (.tup (stv (stC (r, c) f))) := upd_same
                  have k5 := s5 _ _ k1
                  refine ⟨vzS u, k5, Nat.lt_of_le_of_lt (show _ ≤ 1000 by rw [vzS_len]; omega) (by decide), u ++ [(p, stC (r, c) f)], by rw [upd_same, vzS_app]; rfl, ((k2.same s5).app (CS.one e5)).updL k5, ?_, by rw [List.length_append, List.length_singleton]; omega, Same.updN (s4.trans s5) hD2⟩
                  rw [csS_app, k3, List.take_add_one, hf, List.map_append, List.append_assoc]
                  rfl
                · rintro H4 ⟨u, k1, k2, k3, k4, s4⟩
                  rw [List.length_map, List.length_map] at k3 k4
                  rw [List.take_length] at k3
                  refine ⟨u, k1, k2, ?_, by omega, s4⟩
                  rw [k3, et, List.flatMap_append]
                  simp
        · rintro H3 ⟨t, g1, g2, g3, g4, s3⟩
          rw [lacc, List.take_length] at g3
          exact k D2 t H3 (s12.trans s3) g1 g2 g3
end
end Om

/-! the states on land; begin_states is in order -/
namespace Om
open PySem PySem.Spec PyProof.Rows L2 LamX Gk
def allS (rows : List (List Nat)) : List ST := (cellsOf rows).flatMap fun c => (List.range 4).map (stC c)
theorem flatMap_len {α β : Type} (f : α → List β) (n : Nat) : ∀ l : List α, (∀ x ∈ l, (f x).length ≤ n) → (l.flatMap f).length ≤ n * l.length
  | [], _ => Nat.le_refl _
  | x :: l, h => by
    have h1 := h x List.mem_cons_self
    have h2 := flatMap_len f n l fun y hy => h y (List.mem_cons_of_mem _ hy)
    rw [List.flatMap_cons, List.length_append, List.length_cons, Nat.mul_succ]
    omega
theorem allS_len {rows : List (List Nat)} (vd : Vd rows) : (allS rows).length ≤ 900 := by
  have h := flatMap_len (fun c : Nat × Nat => (List.range 4).map (stC c)) 4 (cellsOf rows) fun x _ => by rw [List.length_map, List.length_range]; exact Nat.le_refl _
  have h2 := cells_few vd
  show ((cellsOf rows).flatMap fun c => (List.range 4).map (stC c)).length ≤ 900
  omega
theorem allS_mem {rows : List (List Nat)} (g : Good2 rows) (s : ST) : s ∈ allS rows ↔ hasC rows s.1.1 s.1.2 = true ∧ s.2 < 4 := by
  unfold allS
  rw [List.mem_flatMap]
  constructor
  · rintro ⟨⟨a, b⟩, hc, h⟩
    obtain ⟨f, hf, rfl⟩ := List.mem_map.mp h
    exact ⟨cell_has g hc, List.mem_range.mp hf⟩
  · rintro ⟨h, hf⟩
    rw [← cells_any g, List.any_map, List.any_eq_true] at h
    obtain ⟨⟨a, b⟩, hm, h⟩ := h
    have h : PyData.eqv (cdp (a, b)) (.tuple [.int s.1.1, .int s.1.2]) = true := h
    rw [eqv_cell, Bool.and_eq_true, decide_eq_true_eq, decide_eq_true_eq] at h
    exact ⟨(a, b), hm, List.mem_map.mpr ⟨s.2, List.mem_range.mpr hf, Prod.ext (Prod.ext h.1 h.2) rfl⟩⟩
theorem has_of {rows : List (List Nat)} {c : IC} (h : sgW rows c ≠ 126) : hasC rows c.1 c.2 = true := by
  have := sgW_has (rows := rows) c
  rw [decide_eq_false h] at this
  simpa using this.symm
abbrev Ld (rows : List (List Nat)) (s : ST) : Prop := hasC rows s.1.1 s.1.2 = true ∧ s.2 < 4
theorem paF_land (rows : List (List Nat)) : ∀ (n : Nat) (s x : ST), Ld rows s → x ∈ paF rows n s → Ld rows x
  | 0, s, x, h, hx => by rw [List.mem_singleton.mp hx]; exact h
  | n + 1, s, x, h, hx => by
    unfold paF at hx
    split at hx
    · rw [List.mem_singleton.mp hx]; exact h
    · rename_i hn
      rcases List.mem_cons.mp hx with rfl | hx
      · exact h
      · exact paF_land rows n (paceS s) x ⟨has_of (c := adjI s.1 s.2) hn, h.2⟩ hx
theorem plF_land (rows : List (List Nat)) (side : Int) : ∀ (n : Nat) (s x : ST), Ld rows s → x ∈ plF rows side n s → Ld rows x
  | 0, s, x, h, hx => by rw [List.mem_singleton.mp hx]; exact h
  | n + 1, s, x, h, hx => by
    unfold plF at hx
    split at hx
    · rw [List.mem_singleton.mp hx]; exact h
    · rename_i hn
      rcases List.mem_cons.mp hx with rfl | hx
      · exact h
      · exact plF_land rows side n (paceS (lookF rows side s)) x ⟨has_of (c := adjI (lookF rows side s).1 (lookF rows side s).2) hn, lookF_lt rows side h.2⟩ hx
theorem led_land (rows : List (List Nat)) (v : VI) (s x : ST) (h : Ld rows s) (hx : x ∈ ledF rows v s) : Ld rows x := by
  cases v with
  | turn ts =>
    obtain ⟨t, _, rfl⟩ := List.mem_map.mp (show x ∈ ts.map fun t => turnS s (t : Nat) from hx)
    exact ⟨h.1, turnS_lt _ _⟩
  | walk a b => exact paF_land rows b s x h (List.mem_of_mem_drop hx)
  | upto sg =>
    have hx : x ∈ (((paF rows 12 s).drop 1).find? fun x => inSg rows sg x.1).toList := hx
    exact paF_land rows 12 s x h (List.mem_of_mem_drop (List.mem_of_find?_eq_some (Option.mem_toList.mp hx)))
  | toward sg =>
    obtain ⟨t, _, rfl⟩ := List.mem_map.mp (show x ∈ (List.range 4).map fun t => turnS s (t : Nat) from (List.mem_filter.mp hx).1)
    exact ⟨h.1, turnS_lt _ _⟩
  | beside f sg =>
    have hx : x ∈ (if aheadS rows (turnS s (f : Nat)) ∈ sg then [s] else [] : List ST) := hx
    split at hx
    · rw [List.mem_singleton.mp hx]; exact h
    · cases hx
  | near sg m =>
    have hx : x ∈ (if nearF rows sg (m : Nat) s = true then [s] else [] : List ST) := hx
    split at hx
    · rw [List.mem_singleton.mp hx]; exact h
    · cases hx
  | shore d a b => exact plF_land rows (d : Nat) b s x h (List.mem_of_mem_drop hx)
theorem stl_lt {s r : ST} (h : s.1.1 < r.1.1 ∨ (s.1.1 = r.1.1 ∧ (s.1.2 < r.1.2 ∨ (s.1.2 = r.1.2 ∧ s.2 < r.2)))) : stl s < stl r := by
  unfold stl
  rw [List.cons_lt_cons_iff]
  rcases h with h | ⟨h, h2⟩
  · exact .inl h
  refine .inr ⟨h, ?_⟩
  rw [List.cons_lt_cons_iff]
  rcases h2 with h2 | ⟨h2, h3⟩
  · exact .inl h2
  refine .inr ⟨h2, ?_⟩
  rw [List.cons_lt_cons_iff]
  exact .inl (by omega)
/-- cells row by row -/
def CLt (a b : Nat × Nat) : Prop := a.1 < b.1 ∨ (a.1 = b.1 ∧ a.2 < b.2)
theorem cells_pw (rows : List (List Nat)) : (cellsOf rows).Pairwise CLt := by
  unfold cellsOf cellsTo
  rw [List.pairwise_flatMap]
  refine ⟨fun i _ => ?_, ?_⟩
  · unfold rowCells
    refine List.pairwise_map.mpr (List.Pairwise.imp (fun {a b} h => .inr ⟨rfl, h⟩) (List.Pairwise.filter _ List.pairwise_lt_range))
  · refine List.Pairwise.imp (fun {a b} h => ?_) List.pairwise_lt_range
    intro x hx y hy
    unfold rowCells at hx hy
    obtain ⟨_, _, rfl⟩ := List.mem_map.mp hx
    obtain ⟨_, _, rfl⟩ := List.mem_map.mp hy
    exact .inl h
theorem begF_up (rows : List (List Nat)) (sg fl : List Nat) (hf : fl.Pairwise (· < ·)) : UpS (begF rows sg fl) := by
  unfold UpS begF
  rw [List.pairwise_flatMap]
  refine ⟨fun c _ => List.pairwise_map.mpr (List.Pairwise.imp (fun {a b} (h : a < b) => (stl_lt (s := stC c a) (r := stC c b) (.inr ⟨rfl, .inr ⟨rfl, h⟩⟩))) hf), ?_⟩
  refine List.Pairwise.imp (fun {a b} h => ?_) (List.Pairwise.filter _ (cells_pw rows))
  intro x hx y hy
  obtain ⟨f, _, rfl⟩ := List.mem_map.mp hx
  obtain ⟨f', _, rfl⟩ := List.mem_map.mp hy
  rcases h with h | ⟨h1, h2⟩
  · exact stl_lt (s := stC a f) (r := stC b f') (.inl (show ((a.1 : Nat) : Int) < (b.1 : Nat) by omega))
  · exact stl_lt (s := stC a f) (r := stC b f') (.inr ⟨(show ((a.1 : Nat) : Int) = (b.1 : Nat) by omega), .inl (show ((a.2 : Nat) : Int) < (b.2 : Nat) by omega)⟩)
theorem begF_land {rows : List (List Nat)} (g : Good2 rows) (sg fl : List Nat) (hf : ∀ f ∈ fl, f < 4) : ∀ s ∈ begF rows sg fl, s ∈ allS rows := fun s hs => by
  unfold begF begC at hs
  obtain ⟨c, hc, h⟩ := List.mem_flatMap.mp hs
  obtain ⟨f, h2, rfl⟩ := List.mem_map.mp h
  exact (allS_mem g _).mpr ⟨cell_has g (List.mem_filter.mp hc).1, hf f h2⟩
end Om

/-! final_states -/
namespace Om
open PySem PySem.Spec PyProof.Rows L2 LamX Gk
def spFin (K : PySem.W.Frag) (CM CI : Addr) : Sp := fun us H Q _ => ∃ (a : Addr) (rows : List (List Nat)) (sg fl : List Nat) (vs : List VI), us = [.ref a] ∧ Mp K CM CI H a rows sg (fl.map nmN) (vs.map VI.ins) ∧ Vd rows ∧ fl.length ≤ 4 ∧ fl.Pairwise (· < ·) ∧ (∀ f ∈ fl, f < 4) ∧ (∀ v ∈ vs, v.wf) ∧ vs.length ≤ 100 ∧
  ∀ (c : Addr) (t : TS) (H' : Hp), Same H H' → H' c = some (.lst (vzS t)) → CS H' t → UpS (csS t) → FolR rows vs (begF rows sg fl) (csS t) → (∀ s ∈ csS t, s ∈ allS rows) → Q (.ref c) H'
abbrev sFin : Stmt := top 40
section
variable {P : Program} {w : World} {K : PySem.W.Frag} {mg : Str → Option Value} {base : Heap} {CM CI CT fM fN fT : Addr}
theorem scFin : FnScope ["chart"] ["chart"] (defScope sFin) := ⟨rfl, rfl, rfl, by decide +kernel, rfl, by decide +kernel, by decide +kernel⟩
theorem ok_fin {f pI pN pR gI gN gR gE : Addr} {fd dI dN dR dE dT : FuncData} (F : FnP K "final_states" "final_states" sFin f fd) (TM : MapF K mg CM fM) (TI : IslF K mg CI fN) (T : StpF K mg CT fT)
    (qI : PropOf K CM "island" pI gI) (GI : FnOk P w K mg base CX0 1 gI dI ["self"] (getSp CM "_island")) (bI : Binds K dI ["self"] [])
    (qN : PropOf K CM "instructions" pN gN) (GN : FnOk P w K mg base CX0 1 gN dN ["self"] (getSp CM "_instructions")) (bN : Binds K dN ["self"] [])
    (qR : PropOf K CI "rows" pR gR) (GR : FnOk P w K mg base CX0 1 gR dR ["self"] (spIRows K CI)) (bR : Binds K dR ["self"] [])
    (GT : FnOk P w K mg base CX0 1 fT dT ["self", "rows"] (spStpI P w CT)) (bT : Binds K dT ["self", "rows"] [])
    (mE : Meth K CT "ends" gE) (GE : FnOk P w K mg base CX0 8 gE dE ["self", "instructions", "states"] (spEnds K P w CT)) (bE : Binds K dE ["self", "instructions", "states"] [])
    (BG : Cal P w K mg base CX0 5 "begin_states" ["chart"] (spBeg K CM CI)) : FnOk P w K mg base CX0 9 f fd ["chart"] (spFin K CM CI) := by
  refine F.ok scFin (fun vs H Q E h => ?_) (fun cdv A outer s H vs Q E hr h => ?_)
  · obtain ⟨a, rows, sg, fl, vs, rfl, _⟩ := h
    rfl
  · obtain ⟨a, rows, sg, fl, vs, rfl, hM, vd, hfl, hfp, hf4, hw, hvl, k⟩ := h
    obtain ⟨dx, li, lf, lt, xs, ha, hI, hF, hT, hD⟩ := id hM
    obtain ⟨dxi, pr, hli, hrows⟩ := id hI
    have hr2 : Room 2 _ := hr.mono (by decide)
    have hr5 : Room 5 _ := hr.mono (by decide)
    refine ⟨_, PSs.nox (pss_one (ps_ret (pe_meth (pe_make T.made GT hr2 rfl T.gT bT .nil pass0 (pa_cons (pe_prop (pe_prop (pv 0) TM.cl qI GI hr2 bI .nil pass0 rfl) TI.cl qR GR hr2 bR .nil pass0 rfl) pa_nil)) T.cl mE GE hr bE .nil pass0
      (pa_cons (pe_prop (pv 0) TM.cl qN GN hr2 bN .nil pass0 rfl) (pa_cons (pe_cal BG hr5 pass0 (pa_cons (pv 0) pa_nil)) pa_nil))))), ?_⟩
    refine ⟨_, rfl, a, dx, _, rfl, ha, a, dx, _, _, rfl, ha, mapFs_i .., li, dxi, _, rfl, hli, li, dxi, pr, rfl, hli, fun x dx2 hx hdx hne => ?_⟩
    refine ⟨x, dx2, pr, rfl, upd_same, fun d H2 hd e2 h2 h3 => ⟨rfl, ?_⟩⟩
    have s2 : Same H H2 := fun b o hb => e2 b o (by rw [upd_ne (ne_of_none hb hx), upd_ne (ne_of_none hb hdx)]; exact hb) (ne_of_none hb hx)
    have hdH : H d = none := by
      cases e : H d with
      | none => rfl
      | some o =>
        rw [upd_ne (ne_of_none e hx), upd_ne (ne_of_none e hdx), e] at hd
        cases hd
    have ha2 := s2 _ _ ha
    refine ⟨x, dx2, _, rfl, h2, stpFs_no _ _ (by decide +kernel) (by decide +kernel), ?_⟩
    refine ⟨_, rfl, a, dx, _, rfl, ha2, a, dx, _, .ref lt, rfl, ha2, mapFs_t .., ?_⟩
    refine ⟨_, rfl, a, rows, sg, fl, vs.map VI.ins, rfl, hM.same s2, vd, hfl, fun D t H3 s3 hD3 hC3 ht3 => ?_⟩
    have s23 := s2.trans s3
    have hin : ∀ s ∈ csS t, s ∈ allS rows := by
      rw [ht3]
      exact begF_land vd.toGood2 sg fl hf4
    have hup : UpS (csS t) := by
      rw [ht3]
      exact begF_up rows sg fl hfp
    have hst : Stp K P w CT H3 x d 0 rows (fun _ => False) := ⟨dx2, pr, [], s3 _ _ h2, Same.tup s23 hrows, s3 _ _ h3, (fun z hz => by cases hz), Nat.le_refl _, fun z hz => by cases hz⟩
    have hDv : DpAll K H3 xs (vs.map fun v => v.ins.d) := by
      have := Same.dpAll s23 hD
      rw [List.map_map] at this
      exact this
    refine ⟨x, lt, D, d, 0, rows, vs, xs, t, allS rows, rfl, hst, vd.toGood2, Same.tup s23 hT, hDv, hw, hD3, hC3, hup, allS_len vd, (fun s hs => ((allS_mem vd.toGood2 s).mp hs).2), (fun v _ s hs y hy => (allS_mem vd.toGood2 y).mpr (led_land rows v s y ((allS_mem vd.toGood2 s).mp hs) hy)), hin, hvl, by omega, fun c t' H4 e4 _ h4 c4 u4 f4 b4 => ?_⟩
    rw [ht3] at f4
    exact k c t' H4 (fun b o hb => e4 b o (s23 b o hb) (ne_of_none hb hdH)) h4 c4 u4 f4 b4
end
end Om

/-! what is accepted is made of natural numbers -/
namespace Om
open PySem PySem.Spec PyProof.Rows L2 LamX Gk
theorem nm_of {x : Nm} {lo hi : Int} (h : inN x lo hi = true) (hl : 0 ≤ lo) : ∃ n : Nat, x = nmN n ∧ (n : Int) ≤ hi := by
  cases x with
  | i n =>
    have h : inR n lo hi = true := h
    unfold inR at h
    rw [Bool.and_eq_true, decide_eq_true_eq, decide_eq_true_eq] at h
    refine ⟨n.toNat, ?_, by omega⟩
    show Nm.i n = Nm.i ((n.toNat : Nat) : Int)
    rw [Int.toNat_of_nonneg (by omega)]
  | b _ => cases h
theorem nms_of : ∀ ns : List Nm, ns.all (fun n => inN n 0 3) = true → ∃ ts : List Nat, ns = ts.map nmN ∧ ∀ t ∈ ts, t < 4
  | [], _ => ⟨[], rfl, fun t ht => by cases ht⟩
  | n :: ns, h => by
    rw [List.all_cons, Bool.and_eq_true] at h
    obtain ⟨t, e, ht⟩ := nm_of h.1 (Int.le_refl 0)
    obtain ⟨ts, e2, hts⟩ := nms_of ns h.2
    refine ⟨t :: ts, by rw [List.map_cons, e, e2], fun u hu => ?_⟩
    rcases List.mem_cons.mp hu with rfl | hu
    · omega
    · exact hts u hu
theorem up_of : ∀ ts : List Nat, upN (ts.map nmN) = true → ts.Pairwise (· < ·)
  | [], _ => List.Pairwise.nil
  | [x], _ => List.pairwise_singleton _ _
  | x :: y :: r, h => by
    have h : (ltN (nmN x) (nmN y) && upN ((y :: r).map nmN)) = true := h
    rw [Bool.and_eq_true] at h
    have h1 : decide (((x : Nat) : Int) < ((y : Nat) : Int)) = true := h.1
    have h1 := of_decide_eq_true h1
    have ih := up_of (y :: r) h.2
    refine List.pairwise_cons.mpr ⟨fun z hz => ?_, ih⟩
    rcases List.mem_cons.mp hz with rfl | hz
    · omega
    · have := (List.pairwise_cons.mp ih).1 z hz
      omega
theorem asc_of {ns : List Nm} (h : ascN ns 0 3 = true) : ∃ ts : List Nat, ns = ts.map nmN ∧ (∀ t ∈ ts, t < 4) ∧ ts.Pairwise (· < ·) ∧ ts.length ≤ 4 := by
  unfold ascN at h
  rw [Bool.and_eq_true, Bool.and_eq_true] at h
  obtain ⟨_, h1, h2⟩ := h
  obtain ⟨ts, rfl, h4⟩ := nms_of ns h1
  have hp := up_of ts h2
  refine ⟨ts, rfl, h4, hp, ?_⟩
  have := nodup_leB ts (List.range 4) (List.Pairwise.imp (fun {a b} (q : a < b) => Nat.ne_of_lt q) hp) fun t ht => List.mem_range.mpr (h4 t ht)
  rwa [List.length_range] at this
theorem paces_of {a b : Nm} (h : paces a b = true) : ∃ m n : Nat, a = nmN m ∧ b = nmN n ∧ n ≤ 20 := by
  cases a with
  | i a =>
    have h : (inN (.i a) 0 20 && inN b a 20) = true := h
    rw [Bool.and_eq_true] at h
    obtain ⟨m, e1, _⟩ := nm_of h.1 (Int.le_refl 0)
    have e3 : a = (m : Int) := Nm.i.inj e1
    obtain ⟨n, e2, h2⟩ := nm_of h.2 (by omega)
    exact ⟨m, n, e1, e2, by omega⟩
  | b _ => cases h
theorem side_of {n : Nm} (h : side n = true) : ∃ m : Nat, n = nmN m := by
  unfold side at h
  rw [Bool.and_eq_true] at h
  obtain ⟨m, e, _⟩ := nm_of h.1 (by decide)
  exact ⟨m, e⟩
theorem vi_of : ∀ {i : Ins}, i.ok = true → ∃ v : VI, v.ins = i ∧ v.wf
  | .turn ns, h => by
    obtain ⟨ts, rfl, _, _, hl⟩ := asc_of (show ascN ns 0 3 = true from h)
    exact ⟨.turn ts, rfl, hl⟩
  | .walk a b, h => by
    obtain ⟨m, n, rfl, rfl, hn⟩ := paces_of (show paces a b = true from h)
    exact ⟨.walk m n, rfl, hn⟩
  | .upto s, _ => ⟨.upto s, rfl, trivial⟩
  | .toward s, _ => ⟨.toward s, rfl, trivial⟩
  | .beside n s, h => by
    have h : (inN n 0 3 && ascS s alls) = true := h
    rw [Bool.and_eq_true] at h
    obtain ⟨m, rfl, _⟩ := nm_of h.1 (Int.le_refl 0)
    exact ⟨.beside m s, rfl, trivial⟩
  | .near s n, h => by
    have h : (ascS s alls && inN n 0 22) = true := h
    rw [Bool.and_eq_true] at h
    obtain ⟨m, rfl, _⟩ := nm_of h.2 (Int.le_refl 0)
    exact ⟨.near s m, rfl, trivial⟩
  | .shore s a b, h => by
    have h : (side s && paces a b) = true := h
    rw [Bool.and_eq_true] at h
    obtain ⟨d, rfl⟩ := side_of h.1
    obtain ⟨m, n, rfl, rfl, hn⟩ := paces_of h.2
    exact ⟨.shore d m n, rfl, hn⟩
theorem visok_of : ∀ is : List Ins, (∀ x ∈ is, x.ok = true) → ∃ vs : List VI, vs.map VI.ins = is ∧ ∀ v ∈ vs, v.wf
  | [], _ => ⟨[], rfl, fun v hv => by cases hv⟩
  | i :: is, h => by
    obtain ⟨v, e, hv⟩ := vi_of (h i List.mem_cons_self)
    obtain ⟨vs, e2, hvs⟩ := visok_of is fun x hx => h x (List.mem_cons_of_mem _ hx)
    refine ⟨v :: vs, by rw [List.map_cons, e, e2], fun u hu => ?_⟩
    rcases List.mem_cons.mp hu with rfl | hu
    · exact hv
    · exact hvs u hu
end Om

/-! the law: _law_next of any turn -/
namespace Om
open PySem PySem.Spec PyProof.Rows L2 LamX Gk
def spLNextI (K : PySem.W.Frag) : Sp := fun vs H Q _ => ∃ (ca : Addr) (c : IC) (f : Int), vs = [.ref ca, .int f] ∧ SqT K H ca (icv c) ∧ ∀ H1, Same H H1 → ∀ p, H1 p = none → Q (.ref p) (upd H1 p (.tup (icv (adjI c (f % 4).toNat))))
section
variable {P : Program} {w : World} {K : PySem.W.Frag} {mg : Str → Option Value} {base : Heap}
theorem ok_lnextI {f : Addr} {fd : FuncData} (F : FnP K "_law_next" "_law_next" sLNext f fd) (gint : mg "int" = none) : FnOk P w K mg base CX0 1 f fd ["_law_cell", "_law_facing"] (spLNextI K) := by
  refine F.ok scLN (fun vs H Q E h => ?_) (fun cdv A outer s H vs Q E hr h => ?_)
  · obtain ⟨ca, c, f, rfl, _⟩ := h
    rfl
  · obtain ⟨ca, c, fi, rfl, hC, k⟩ := h
    obtain ⟨f, hm, hf, he⟩ : ∃ f : Nat, fi % 4 = ((f : Nat) : Int) ∧ f < 4 ∧ (fi % 4).toNat = f := ⟨(fi % 4).toNat, by omega, by omega, rfl⟩
    rw [he] at k
    have nd := scLN.nd
    refine ⟨_, PSs.nox (pss_cons (ps_asg (pe_ix ix_list (pe_lst (pa_cons (pe_tup (pa_cons (pe_un un_neg pe_int) (pa_cons pe_int pa_nil))) (pa_cons (pe_tup (pa_cons pe_int (pa_cons pe_int pa_nil))) (pa_cons (pe_tup (pa_cons pe_int (pa_cons pe_int pa_nil))) (pa_cons (pe_tup (pa_cons pe_int (pa_cons (pe_un un_neg pe_int) pa_nil))) pa_nil)))))
        (pe_op op_mod (pe_callTy call_int1 (by rfl) gint boot_int (pa_cons (pv 1) pa_nil)) pe_int) (fun _ _ => rfl)) (pg_tup rfl (pgs_cons (pg_name (i := 2) nd rfl (.inl rfl)) (pgs_cons (pg_name (i := 3) nd rfl (.inl rfl)) pgs_nil))))
      (pss_one (ps_ret (pe_tup (pa_cons (pe_op op_add (pe_ix ix_tup (pv 0) pe_int (fun _ _ => rfl)) (pv 2)) (pa_cons (pe_op op_add (pe_ix ix_tup (pv 0) pe_int (fun _ _ => rfl)) (pv 3)) pa_nil)))))), ?_⟩
    refine ⟨_, rfl, by show 2 ≤ sizeLine; decide, fun p0 h0 => ?_⟩
    refine ⟨by show 2 ≤ sizeLine; decide, fun p1 h1 => ?_⟩
    refine ⟨by show 2 ≤ sizeLine; decide, fun p2 h2 => ?_⟩
    refine ⟨_, rfl, by show 2 ≤ sizeLine; decide, fun p3 h3 => ?_⟩
    refine ⟨by show 4 ≤ sizeLine; decide, fun l hl => ?_⟩
    have s0 : Same H (upd H p0 (.tup [.int (-1), .int 0])) := Same.new (Same.refl H) h0
    have e0 : (upd H p0 (.tup [.int (-1), .int 0])) p0 = some (.tup [.int (-1), .int 0]) := upd_same
    generalize upd H p0 (.tup [.int (-1), .int 0]) = H0 at s0 e0 h1 h2 h3 hl ⊢
    have s1 := Same.new (Same.refl H0) h1 (o := .tup [.int 0, .int 1])
    have e1 : (upd H0 p1 (.tup [.int 0, .int 1])) p1 = some (.tup [.int 0, .int 1]) := upd_same
    generalize upd H0 p1 (.tup [.int 0, .int 1]) = H1 at s1 e1 h2 h3 hl ⊢
    have s2 := Same.new (Same.refl H1) h2 (o := .tup [.int 1, .int 0])
    have e2 : (upd H1 p2 (.tup [.int 1, .int 0])) p2 = some (.tup [.int 1, .int 0]) := upd_same
    generalize upd H1 p2 (.tup [.int 1, .int 0]) = H2 at s2 e2 h3 hl ⊢
    have s3 := Same.new (Same.refl H2) h3 (o := .tup [.int 0, .int (-1)])
    have e3 : (upd H2 p3 (.tup [.int 0, .int (-1)])) p3 = some (.tup [.int 0, .int (-1)]) := upd_same
    generalize upd H2 p3 (.tup [.int 0, .int (-1)]) = H3 at s3 e3 hl ⊢
    have s4 := Same.new (Same.refl H3) hl (o := .lst [.ref p0, .ref p1, .ref p2, .ref p3])
    have e4 : (upd H3 l (.lst [.ref p0, .ref p1, .ref p2, .ref p3])) l = some (.lst [.ref p0, .ref p1, .ref p2, .ref p3]) := upd_same
    generalize upd H3 l (.lst [.ref p0, .ref p1, .ref p2, .ref p3]) = H4 at s4 e4 ⊢
    have s04 := (s0.trans s1).trans ((s2.trans s3).trans s4)
    have a0 := (s1.trans ((s2.trans s3).trans s4)) _ _ e0
    have a1 := ((s2.trans s3).trans s4) _ _ e1
    have a2 := (s3.trans s4) _ _ e2
    have a3 := s4 _ _ e3
    have hC4 := Same.tup s04 hC
    obtain ⟨p, i, j, q1, q2, q3⟩ : ∃ (p : Addr) (i j : Int), [V.ref p0, V.ref p1, V.ref p2, V.ref p3][f]? = some (.ref p) ∧ H4 p = some (.tup [.int i, .int j]) ∧ (c.1 + i, c.2 + j) = adjI c f :=
      match f, hf with
      | 0, _ => ⟨p0, -1, 0, rfl, a0, rfl⟩
      | 1, _ => ⟨p1, 0, 1, rfl, a1, rfl⟩
      | 2, _ => ⟨p2, 1, 0, rfl, a2, rfl⟩
      | 3, _ => ⟨p3, 0, -1, rfl, a3, rfl⟩
    have hat : atI [V.ref p0, V.ref p1, V.ref p2, V.ref p3] (fi % 4) = some (.ref p) := by
      rw [hm]
      exact atI_nat q1
    refine ⟨_, rfl, .inl ⟨_, rfl, _, _, rfl, rfl, (by show (0 : Int) < 4; decide), l, _, _, _, rfl, rfl, .inl (.inl e4), hat, ?_⟩⟩
    refine ⟨p, _, rfl, .inl (.inl q2), rfl, _, _, rfl, _, _, rfl, rfl, ?_⟩
    refine ⟨_, rfl, ca, _, 0, _, rfl, rfl, hC4, at0, _, rfl, _, _, rfl, rfl, _, rfl, ca, _, 1, _, rfl, rfl, hC4, rfl, _, rfl, _, _, rfl, rfl, by show 2 ≤ sizeLine; decide, fun q hq => ?_⟩
    have kk := k H4 s04 q hq
    rw [← q3] at kk
    exact kk
end
end Om

/-! the law: _law_shore -/
namespace Om
open PySem PySem.Spec PyProof.Rows L2 LamX Gk
def rotS (s : ST) (side : Int) (i : Nat) : ST := (s.1, (((s.2 : Nat) : Int) - (i : Int) * side).emod 4 |>.toNat)
theorem rot0 {s : ST} (side : Int) (h : s.2 < 4) : rotS s side 0 = s := by
  unfold rotS
  refine Prod.ext rfl ?_
  show ((((s.2 : Nat) : Int) - ((0 : Nat) : Int) * side) % 4).toNat = s.2
  rw [show ((0 : Nat) : Int) * side = 0 from Int.zero_mul side]
  omega
theorem rot_succ (s : ST) (side : Int) (i : Nat) : turnS (rotS s side i) (-side) = rotS s side (i + 1) := by
  unfold rotS turnS
  refine Prod.ext rfl ?_
  show ((((((((s.2 : Nat) : Int) - (i : Int) * side) % 4).toNat : Nat) : Int) + -side) % 4).toNat = ((((s.2 : Nat) : Int) - ((i + 1 : Nat) : Int) * side) % 4).toNat
  have e : ((i + 1 : Nat) : Int) * side = (i : Int) * side + side := by
    rw [Int.natCast_add, Int.add_mul]
    show _ + 1 * side = _
    rw [Int.one_mul]
  rw [e]
  generalize (i : Int) * side = t
  omega
abbrev sLSh : Stmt := top 64
def spLSh (K : PySem.W.Frag) : Sp := fun vs H Q _ => ∃ (ra sa : Addr) (rows : List (List Nat)) (s : ST) (side : Int), vs = [.ref ra, .ref sa, .int side] ∧ SqT K H ra (rows.map vt) ∧ Good2 rows ∧ H sa = some (.tup (stv s)) ∧ s.2 < 4 ∧
  (aheadS rows (lookF rows side s) = 126 → ∀ H', Same H H' → Q .non H') ∧ (aheadS rows (lookF rows side s) ≠ 126 → ∀ H' p, Same H H' → H' p = some (.tup (stv (paceS (lookF rows side s)))) → Q (.ref p) H')
section
variable {P : Program} {w : World} {K : PySem.W.Frag} {mg : Str → Option Value} {base : Heap}
abbrev nLSh : List Str := ["_law_rows_here", "_law_state", "_law_side", "_law_cell", "_law_facing", "_law_turn"]
theorem scLSh : FnScope nLSh ["_law_rows_here", "_law_state", "_law_side"] (defScope sLSh) := ⟨rfl, rfl, rfl, by decide +kernel, rfl, by decide +kernel, by decide +kernel⟩
theorem ok_lsh {f : Addr} {fd : FuncData} (F : FnP K "_law_shore" "_law_shore" sLSh f fd) (SG : Cal P w K mg base CX0 1 "_law_sign" ["_law_rows_here", "_law_cell"] (spLSign K)) (NX : Cal P w K mg base CX0 1 "_law_next" ["_law_cell", "_law_facing"] (spLNextI K)) (gint : mg "int" = none) (grange : mg "range" = none) : FnOk P w K mg base CX0 2 f fd ["_law_rows_here", "_law_state", "_law_side"] (spLSh K) := by
  refine F.ok scLSh (fun vs H Q E h => ?_) (fun cdv A outer s H vs Q E hr h => ?_)
  · obtain ⟨ra, sa, rows, s, side, rfl, _⟩ := h
    rfl
  · obtain ⟨ra, sa, rows, s0, side, rfl, hS, g, hs, hf, kN, kS⟩ := h
    have nd := scLSh.nd
    refine ⟨_, PSs.nox (pss_cons (ps_par (i := 3) (j := 4) rfl nd rfl rfl (by decide) rfl rfl (pa_cons (pe_slice sl_tup (pv 1) po_none (po_some pe_int)) (pa_cons (pe_ix ix_tup (pv 1) pe_int (fun _ _ => rfl)) pa_nil)) rfl rfl)
      (pss_cons (ps_if (pt_cmpR op_ne (pe_cal SG hr pass0 (pa_cons (pv 0) (pa_cons (pe_cal NX hr pass0 (pa_cons (pv 3) (pa_cons (pe_op op_add (pv 4) (pv 2)) pa_nil))) pa_nil))) pe_str (nomark _))
        (pss_cons (ps_set (i := 4) nd rfl (.inl rfl) (pe_op op_mod (pe_callTy call_int1 (by rfl) gint boot_int (pa_cons (pe_op op_add (pv 4) (pv 2)) pa_nil)) pe_int))
        (pss_one (ps_ret (pe_op op_catA (pe_cal NX hr pass0 (pa_cons (pv 3) (pa_cons (pv 4) pa_nil))) (pe_tup (pa_cons (pv 4) pa_nil)))))) pss_nil)
      (pss_cons (ps_for PassesOwn.never rfl (pi_range1 rfl grange (pa_cons pe_int pa_nil)) (pg_name (i := 5) nd rfl (.inl rfl))
        (pss_cons (ps_if (pt_cmpR op_ne (pe_cal SG hr pass0 (pa_cons (pv 0) (pa_cons (pe_cal NX hr pass0 (pa_cons (pv 3) (pa_cons (pv 4) pa_nil))) pa_nil))) pe_str (nomark _))
          (pss_one (ps_ret (pe_op op_catA (pe_cal NX hr pass0 (pa_cons (pv 3) (pa_cons (pv 4) pa_nil))) (pe_tup (pa_cons (pe_op op_mod (pe_callTy call_int1 (by rfl) gint boot_int (pa_cons (pv 4) pa_nil)) pe_int) pa_nil))))) pss_nil)
        (pss_one (ps_set (i := 4) nd rfl (.inl rfl) (pe_op op_sub (pv 4) (pv 2))))))
      (pss_one (ps_ret pe_non))))), ?_⟩
    refine ⟨_, rfl, noPart ?_⟩
    refine ⟨_, rfl, sa, stv s0, rfl, .inl (.inl hs), by show ¬ (HT.sIx 3 0 none = 0 ∧ HT.sIx 3 3 (some 2) = 3); decide, fun p1 hp1 => ?_⟩
    have ecut : cutV (stv s0) none (some 2) = icv s0.1 := cutV_upto (stv s0) 2
    rw [ecut]
    have s1 := Same.new (Same.refl H) hp1 (o := .tup (icv s0.1))
    have e1 : (upd H p1 (.tup (icv s0.1))) p1 = some (.tup (icv s0.1)) := upd_same
    generalize upd H p1 (.tup (icv s0.1)) = H1 at s1 e1 ⊢
    refine ⟨_, rfl, sa, _, 2, _, rfl, rfl, .inl (.inl (s1 _ _ hs)), rfl, _, _, rfl, ?_⟩
    have ret : ∀ (r : ST) (fi : Int) (H2 : Hp), Same H1 H2 → r.1 = s0.1 → ((r.2 : Nat) : Int) = fi % 4 → aheadS rows (lookF rows side s0) ≠ 126 → r = lookF rows side s0 → ∀ (p4 p5 : Addr) (H3 : Hp), Same H2 H3 → H3 p4 = some (.tup (icv (adjI s0.1 (fi % 4).toNat))) → H3 p5 = some (.tup [.int (fi % 4)]) →
        ∃ a b xs ys, V.ref p4 = .ref a ∧ V.ref p5 = .ref b ∧ SqT K H3 a xs ∧ SqT K H3 b ys ∧ xs.length + ys.length ≤ sizeLine ∧ (xs = [] → Q (.ref b) H3) ∧ (xs ≠ [] → ys = [] → Q (.ref a) H3) ∧ (xs ≠ [] → ys ≠ [] → ∀ p, H3 p = none → Q (.ref p) (upd H3 p (.tup (xs ++ ys)))) := by
      intro r fi H2 s2 h1 h2 h3 h4 p4 p5 H3 s3 h5 h6
      refine ⟨p4, p5, _, _, rfl, rfl, .inl (.inl h5), .inl (.inl h6), by show 3 ≤ sizeLine; decide, (fun z => by cases z), (fun _ z => by cases z), fun _ _ p hp => ?_⟩
      refine kS h3 _ p ((s1.trans s2).trans (s3.trans (Same.new (Same.refl H3) hp))) ?_
      have er : (fi % 4).toNat = r.2 := by omega
      rw [upd_same, ← h4]
      show _ = some (HO.tup (icv (adjI r.1 r.2) ++ [.int ((r.2 : Nat) : Int)]))
      rw [er, h1, h2]
    refine ⟨_, rfl, _, rfl, _, rfl, _, rfl, _, _, rfl, rfl, p1, s0.1, _, rfl, .inl (.inl e1), fun H2 s2 p2 hp2 => ?_⟩
    have s3 := Same.new (Same.refl H2) hp2 (o := .tup (icv (adjI s0.1 ((((s0.2 : Nat) : Int) + side) % 4).toNat)))
    have e3 : (upd H2 p2 (.tup (icv (adjI s0.1 ((((s0.2 : Nat) : Int) + side) % 4).toNat)))) p2 = some (.tup (icv (adjI s0.1 ((((s0.2 : Nat) : Int) + side) % 4).toNat))) := upd_same
    generalize upd H2 p2 (.tup (icv (adjI s0.1 ((((s0.2 : Nat) : Int) + side) % 4).toNat))) = H3 at s3 e3 ⊢
    have s13 := s2.trans s3
    refine ⟨ra, p2, rows, adjI s0.1 ((((s0.2 : Nat) : Int) + side) % 4).toNat, rfl, Same.tup (s1.trans s13) hS, g, .inl (.inl e3), rfl, _, rfl, ?_⟩
    have eA : sgW rows (adjI s0.1 ((((s0.2 : Nat) : Int) + side) % 4).toNat) = aheadS rows (turnS s0 side) := rfl
    by_cases hA : aheadS rows (turnS s0 side) = 126
    case neg =>
      refine iteT' (by rw [eA, sg_dec2, decide_eq_false hA]; rfl) ?_
      refine ⟨_, rfl, _, rfl, _, _, rfl, rfl, .inl ⟨_, rfl, _, _, rfl, rfl, (by show (0 : Int) < 4; decide), ?_⟩⟩
      have eL : lookF rows side s0 = turnS s0 side := by
        unfold lookF
        rw [if_neg hA]
      refine ⟨_, rfl, _, rfl, p1, s0.1, _, rfl, .inl (.inl (s13 _ _ e1)), fun H4 s4 p4 hp4 => ?_⟩
      have s5 := Same.new (Same.refl H4) hp4 (o := .tup (icv (adjI s0.1 ((((s0.2 : Nat) : Int) + side) % 4 % 4).toNat)))
      have e5 : (upd H4 p4 (.tup (icv (adjI s0.1 ((((s0.2 : Nat) : Int) + side) % 4 % 4).toNat)))) p4 = some (.tup (icv (adjI s0.1 ((((s0.2 : Nat) : Int) + side) % 4 % 4).toNat))) := upd_same
      generalize upd H4 p4 (.tup (icv (adjI s0.1 ((((s0.2 : Nat) : Int) + side) % 4 % 4).toNat))) = H5 at s5 e5 ⊢
      refine ⟨_, rfl, by show 1 ≤ sizeLine; decide, fun p5 hp5 => ?_⟩
      have s6 := Same.new (Same.refl H5) hp5 (o := .tup [.int ((((s0.2 : Nat) : Int) + side) % 4)])
      have em : (((s0.2 : Nat) : Int) + side) % 4 % 4 = (((s0.2 : Nat) : Int) + side) % 4 := Int.emod_emod_of_dvd _ (Int.dvd_refl 4)
      refine ret (turnS s0 side) ((((s0.2 : Nat) : Int) + side) % 4) H3 s13 rfl ?_ (by rw [eL]; exact hA) eL.symm p4 p5 _ (s4.trans (s5.trans s6)) (s6 _ _ e5) (by rw [upd_same, em])
      show (((((s0.2 : Nat) : Int) + side) % 4).toNat : Int) = (((s0.2 : Nat) : Int) + side) % 4 % 4
      omega
    case pos =>
      refine iteF' (by rw [eA, sg_dec2, decide_eq_true hA]; rfl) ?_
      have eL : lookF rows side s0 = lkF rows side 3 s0 := by
        unfold lookF
        rw [if_pos hA]
      refine ⟨4, rfl, by decide, by decide, for_range (lo := 0) (n := (4 : Int).toNat) (fun i σ H' => Same H1 H' ∧ (∃ v5, σ = [some (.ref ra), some (.ref sa), some (.int side), some (.ref p1), some (.int (((s0.2 : Nat) : Int) - (i : Nat) * side)), v5]) ∧
          (i ≤ 3 → lookF rows side s0 = lkF rows side (3 - i) (rotS s0 side i)) ∧ (i = 4 → aheadS rows (lookF rows side s0) = 126)) ⟨s13, ⟨none, ?_⟩, (fun _ => by rw [eL, rot0 side hf]), fun z => by cases z⟩ ?_ ?_⟩
      · show _ = [some (V.ref ra), some (V.ref sa), some (V.int side), some (V.ref p1), some (V.int (((s0.2 : Nat) : Int) - ((0 : Nat) : Int) * side)), none]
        rw [show ((0 : Nat) : Int) * side = 0 from Int.zero_mul side, Int.sub_zero]
        rfl
      · rintro i σ H4 hi ⟨s4, ⟨v5, rfl⟩, hl, _⟩
        have hi4 : i < 4 := hi
        have hl := hl (by omega)
        refine ⟨_, rfl, _, rfl, _, rfl, p1, s0.1, _, rfl, .inl (.inl (s4 _ _ e1)), fun H5 s5 p5 hp5 => ?_⟩
        have s6 := Same.new (Same.refl H5) hp5 (o := .tup (icv (adjI s0.1 ((((s0.2 : Nat) : Int) - (i : Nat) * side) % 4).toNat)))
        have e6 : (upd H5 p5 (.tup (icv (adjI s0.1 ((((s0.2 : Nat) : Int) - (i : Nat) * side) % 4).toNat)))) p5 = some (.tup (icv (adjI s0.1 ((((s0.2 : Nat) : Int) - (i : Nat) * side) % 4).toNat))) := upd_same
        generalize upd H5 p5 (.tup (icv (adjI s0.1 ((((s0.2 : Nat) : Int) - (i : Nat) * side) % 4).toNat))) = H6 at s6 e6 ⊢
        have s16 := s4.trans (s5.trans s6)
        refine ⟨ra, p5, rows, _, rfl, Same.tup (s1.trans s16) hS, g, .inl (.inl e6), rfl, _, rfl, ?_⟩
        have eB : sgW rows (adjI s0.1 ((((s0.2 : Nat) : Int) - (i : Nat) * side) % 4).toNat) = aheadS rows (rotS s0 side i) := rfl
        by_cases hB : aheadS rows (rotS s0 side i) = 126
        case neg =>
          refine iteT' (by rw [eB, sg_dec2, decide_eq_false hB]; rfl) ?_
          have eR : rotS s0 side i = lookF rows side s0 := by
            rw [hl]
            cases h : 3 - i with
            | zero => rfl
            | succ m =>
              unfold lkF
              rw [if_neg hB]
          refine ⟨_, rfl, _, rfl, p1, s0.1, _, rfl, .inl (.inl (s16 _ _ e1)), fun H7 s7 p7 hp7 => ?_⟩
          have s8 := Same.new (Same.refl H7) hp7 (o := .tup (icv (adjI s0.1 ((((s0.2 : Nat) : Int) - (i : Nat) * side) % 4).toNat)))
          have e8 : (upd H7 p7 (.tup (icv (adjI s0.1 ((((s0.2 : Nat) : Int) - (i : Nat) * side) % 4).toNat)))) p7 = some (.tup (icv (adjI s0.1 ((((s0.2 : Nat) : Int) - (i : Nat) * side) % 4).toNat))) := upd_same
          generalize upd H7 p7 (.tup (icv (adjI s0.1 ((((s0.2 : Nat) : Int) - (i : Nat) * side) % 4).toNat))) = H8 at s8 e8 ⊢
          refine ⟨_, rfl, .inl ⟨_, rfl, _, _, rfl, rfl, (by show (0 : Int) < 4; decide), by show 1 ≤ sizeLine; decide, fun p9 hp9 => ?_⟩⟩
          have s9 := Same.new (Same.refl H8) hp9 (o := .tup [.int ((((s0.2 : Nat) : Int) - (i : Nat) * side) % 4)])
          refine ret (rotS s0 side i) (((s0.2 : Nat) : Int) - (i : Nat) * side) H6 s16 rfl ?_ (by rw [← eR]; exact hB) eR p7 p9 _ (s7.trans (s8.trans s9)) (s9 _ _ e8) upd_same
          show ((((((s0.2 : Nat) : Int) - (i : Nat) * side) % 4).toNat : Nat) : Int) = _
          generalize (i : Int) * side = t
          omega
        case pos =>
          refine iteF' (by rw [eB, sg_dec2, decide_eq_true hB]; rfl) ?_
          refine ⟨_, rfl, _, rfl, _, _, rfl, rfl, s16, ⟨some (.int ((0 : Int) + (i : Nat))), ?_⟩, (fun h => ?_), fun h => ?_⟩
          · show _ = [some (V.ref ra), some (V.ref sa), some (V.int side), some (V.ref p1), some (V.int (((s0.2 : Nat) : Int) - ((i + 1 : Nat) : Int) * side)), some (.int ((0 : Int) + (i : Nat)))]
            have e : ((s0.2 : Nat) : Int) - ((i + 1 : Nat) : Int) * side = ((s0.2 : Nat) : Int) - (i : Nat) * side - side := by
              rw [Int.natCast_add, Int.add_mul]
              show _ - (_ + 1 * side) = _
              rw [Int.one_mul]
              omega
            rw [e]
            rfl
          · rw [hl]
            have e : 3 - i = (3 - (i + 1)) + 1 := by omega
            rw [e]
            conv => lhs; unfold lkF
            rw [if_pos hB, rot_succ]
          · have h3 : i = 3 := by omega
            subst h3
            rw [hl]
            exact hB
      · rintro σ H4 ⟨s4, ⟨v5, rfl⟩, _, hl⟩
        exact kN (hl rfl) H4 (s1.trans s4)
end
end Om

/-! the law: _law_sees -/
namespace Om
open PySem PySem.Spec PyProof.Rows L2 LamX Gk
/-- the cells ahead -/
def ptA (c : IC) (f : Nat) (j : Nat) : IC := (c.1 + ((j : Int) + 1) * rsL.getD f 0, c.2 + ((j : Int) + 1) * csL.getD f 0)
theorem ptA_zero (c : IC) (f : Nat) : ptA c f 0 = adjI c f := by
  unfold ptA adjI
  refine Prod.ext ?_ ?_
  · show c.1 + (((0 : Nat) : Int) + 1) * _ = _
    rw [show (((0 : Nat) : Int) + 1) = 1 from rfl, Int.one_mul]
  · show c.2 + (((0 : Nat) : Int) + 1) * _ = _
    rw [show (((0 : Nat) : Int) + 1) = 1 from rfl, Int.one_mul]
theorem ptA_next (c : IC) (f j : Nat) : adjI (ptA c f j) f = ptA c f (j + 1) := by
  unfold ptA adjI
  refine Prod.ext ?_ ?_
  · show c.1 + ((j : Int) + 1) * _ + _ = c.1 + (((j + 1 : Nat) : Int) + 1) * _
    rw [Int.natCast_add, Int.add_mul ((j : Int) + ((1 : Nat) : Int)) 1, Int.one_mul]
    show _ = c.1 + (((j : Int) + 1) * _ + _)
    omega
  · show c.2 + ((j : Int) + 1) * _ + _ = c.2 + (((j + 1 : Nat) : Int) + 1) * _
    rw [Int.natCast_add, Int.add_mul ((j : Int) + ((1 : Nat) : Int)) 1, Int.one_mul]
    show _ = c.2 + (((j : Int) + 1) * _ + _)
    omega
theorem ptA_shift (c : IC) (f j : Nat) : ptA (adjI c f) f j = ptA c f (j + 1) := by
  unfold ptA adjI
  refine Prod.ext ?_ ?_
  · show c.1 + _ + ((j : Int) + 1) * _ = c.1 + (((j + 1 : Nat) : Int) + 1) * _
    rw [Int.natCast_add, Int.add_mul ((j : Int) + ((1 : Nat) : Int)) 1, Int.one_mul]
    show _ = c.1 + (((j : Int) + 1) * _ + _)
    omega
  · show c.2 + _ + ((j : Int) + 1) * _ = c.2 + (((j + 1 : Nat) : Int) + 1) * _
    rw [Int.natCast_add, Int.add_mul ((j : Int) + ((1 : Nat) : Int)) 1, Int.one_mul]
    show _ = c.2 + (((j : Int) + 1) * _ + _)
    omega
theorem iaF_iff (rows : List (List Nat)) (sg : List Nat) : ∀ (k : Nat) (c : IC) (f : Nat), iaF rows sg k (c, f) = true ↔ ∃ j, j < k ∧ sgW rows (ptA c f j) ∈ sg
  | 0, c, f => ⟨(fun h => by cases h), (fun ⟨j, hj, _⟩ => absurd hj (Nat.not_lt_zero _))⟩
  | k + 1, c, f => by
    show (inSg rows sg (adjI c f) || iaF rows sg k (adjI c f, f)) = true ↔ _
    rw [Bool.or_eq_true, iaF_iff rows sg k (adjI c f) f]
    unfold inSg
    rw [decide_eq_true_eq]
    constructor
    · rintro (h | ⟨j, hj, h⟩)
      · exact ⟨0, by omega, by rw [ptA_zero]; exact h⟩
      · exact ⟨j + 1, by omega, by rw [← ptA_shift]; exact h⟩
    · rintro ⟨j, hj, h⟩
      cases j with
      | zero =>
        rw [ptA_zero] at h
        exact .inl h
      | succ j => exact .inr ⟨j, by omega, by rw [ptA_shift]; exact h⟩
theorem insd_iff {rows : List (List Nat)} {c : IC} : insd rows c.1 c.2 = true ↔ (0 ≤ c.1 ∧ c.1 ≤ (rows.length : Int) - 1) ∧ 0 ≤ c.2 ∧ c.2 ≤ ((rows.headD []).length : Int) - 1 := by
  unfold insd inR
  simp only [Bool.and_eq_true, decide_eq_true_eq]
/-- within a rectangle of twelve, as long as all are within -/
theorem ptA_few {rows : List (List Nat)} (vd : Vd rows) {c : IC} {f n : Nat} (hf : f < 4) (h : ∀ j, j < n → insd rows (ptA c f j).1 (ptA c f j).2 = true) : n ≤ 12 := by
  cases n with
  | zero => omega
  | succ n =>
    have h0 := insd_iff.mp (h 0 (by omega))
    have h1 := insd_iff.mp (h n (by omega))
    have hr := vd.hgt
    have hw : (rows.headD []).length ≤ 12 := by
      cases hrows : rows with
      | nil => exact absurd hrows vd.ne
      | cons r rs => exact (vd.wid r (by rw [hrows]; exact List.mem_cons_self)).2
    unfold ptA at h0 h1
    match f, hf with
    | 0, _ =>
      have a : rsL.getD 0 0 = -1 := rfl
      rw [a] at h0 h1
      dsimp only at h0 h1
      omega
    | 1, _ =>
      have a : csL.getD 1 0 = 1 := rfl
      rw [a] at h0 h1
      dsimp only at h0 h1
      omega
    | 2, _ =>
      have a : rsL.getD 2 0 = 1 := rfl
      rw [a] at h0 h1
      dsimp only at h0 h1
      omega
    | 3, _ =>
      have a : csL.getD 3 0 = -1 := rfl
      rw [a] at h0 h1
      dsimp only at h0 h1
      omega
/-- once beyond it, for ever -/
theorem ptA_out {rows : List (List Nat)} {c : IC} {f n : Nat} (hf : f < 4) (hc : insd rows c.1 c.2 = true) (h : insd rows (ptA c f n).1 (ptA c f n).2 = false) : ∀ j, n ≤ j → insd rows (ptA c f j).1 (ptA c f j).2 = false := by
  intro j hj
  rw [← Bool.not_eq_true] at h ⊢
  rw [insd_iff] at h ⊢
  rw [insd_iff] at hc
  unfold ptA at h ⊢
  match f, hf with
  | 0, _ =>
    have a : rsL.getD 0 0 = -1 := rfl
    have b : csL.getD 0 0 = 0 := rfl
    rw [a, b] at h ⊢
    dsimp only at h ⊢
    omega
  | 1, _ =>
    have a : rsL.getD 1 0 = 0 := rfl
    have b : csL.getD 1 0 = 1 := rfl
    rw [a, b] at h ⊢
    dsimp only at h ⊢
    omega
  | 2, _ =>
    have a : rsL.getD 2 0 = 1 := rfl
    have b : csL.getD 2 0 = 0 := rfl
    rw [a, b] at h ⊢
    dsimp only at h ⊢
    omega
  | 3, _ =>
    have a : rsL.getD 3 0 = 0 := rfl
    have b : csL.getD 3 0 = -1 := rfl
    rw [a, b] at h ⊢
    dsimp only at h ⊢
    omega
theorem sees_false {rows : List (List Nat)} (vd : Vd rows) {sg : List Nat} {c : IC} {f n : Nat} (hf : f < 4) (hw : 126 ∉ sg) (hc : insd rows c.1 c.2 = true) (h1 : ∀ j, j < n → insd rows (ptA c f j).1 (ptA c f j).2 = true ∧ sgW rows (ptA c f j) ∉ sg) (h2 : insd rows (ptA c f n).1 (ptA c f n).2 = false) : iaF rows sg 12 (c, f) = false := by
  rw [← Bool.not_eq_true, iaF_iff]
  rintro ⟨j, _, h⟩
  by_cases hj : j < n
  · exact (h1 j hj).2 h
  · have := ptA_out hf hc h2 j (by omega)
    unfold sgW at h
    rw [this] at h
    exact hw h
end Om

/-! the law: _law_sees -/
namespace Om
open PySem PySem.Spec PyProof.Rows L2 LamX Gk
abbrev sLSe : Stmt := top 67
def spLSe (K : PySem.W.Frag) : Sp := fun vs H Q _ => ∃ (ra ca : Addr) (rows : List (List Nat)) (c : IC) (f : Nat) (sg : List Nat), vs = [.ref ra, .ref ca, .int (f : Nat), .str (tx sg)] ∧ SqT K H ra (rows.map vt) ∧ Vd rows ∧ SqT K H ca (icv c) ∧ insd rows c.1 c.2 = true ∧ f < 4 ∧ 126 ∉ sg ∧ ∀ H', Same H H' → Q (.bl (iaF rows sg 12 (c, f))) H'
section
variable {P : Program} {w : World} {K : PySem.W.Frag} {mg : Str → Option Value} {base : Heap}
abbrev nLSe : List Str := ["_law_rows_here", "_law_cell", "_law_turn", "_law_signs_here", "_law_here"]
theorem scLSe : FnScope nLSe ["_law_rows_here", "_law_cell", "_law_turn", "_law_signs_here"] (defScope sLSe) := ⟨rfl, rfl, rfl, by decide +kernel, rfl, by decide +kernel, by decide +kernel⟩
theorem ok_lse {f : Addr} {fd : FuncData} (F : FnP K "_law_sees" "_law_sees" sLSe f fd) (NX : Cal P w K mg base CX0 1 "_law_next" ["_law_cell", "_law_facing"] (spLNextI K)) (glen : mg "len" = none) : FnOk P w K mg base CX0 2 f fd ["_law_rows_here", "_law_cell", "_law_turn", "_law_signs_here"] (spLSe K) := by
  refine F.ok scLSe (fun vs H Q E h => ?_) (fun cdv A outer s H vs Q E hr h => ?_)
  · obtain ⟨ra, ca, rows, c, f, sg, rfl, _⟩ := h
    rfl
  · obtain ⟨ra, ca, rows, c, f, sg, rfl, hS, vd, hC, hin, hf, hw, k⟩ := h
    have nd := scLSe.nd
    have g := vd.toGood2
    refine ⟨_, PSs.nox (pss_cons (ps_set (i := 4) nd rfl (.inl rfl) (pe_cal NX hr pass0 (pa_cons (pv 1) (pa_cons (pv 2) pa_nil))))
      (pss_cons (ps_while PassesOwn.never (PW.pt (pw_and (pt_chain op_le op_lt pe_int (pe_ix ix_tup (pv 4) pe_int (fun _ _ => rfl)) (pe_callB call_len_seq (by rfl) glen PySem.boot_len (pa_cons (pv 0) pa_nil)))
          (pw_and1 (pt_chain op_le op_lt pe_int (pe_ix ix_tup (pv 4) pe_int (fun _ _ => rfl)) (pe_callB call_len_str (by rfl) glen PySem.boot_len (pa_cons (pe_ix ix_tup (pv 0) pe_int (fun _ _ => rfl)) pa_nil))))))
        (pss_cons (ps_if (pt_cmpR op_in_sign (pe_ix ix_str (pe_ix ix_tup (pv 0) (pe_ix ix_tup (pv 4) pe_int (fun _ _ => rfl)) (fun _ _ => rfl)) (pe_ix ix_tup (pv 4) pe_int (fun _ _ => rfl)) (fun _ _ => rfl)) (pv 3) (by with_unfolding_all rfl)) (pss_one (ps_ret pe_bl)) pss_nil)
        (pss_one (ps_set (i := 4) nd rfl (.inl rfl) (pe_cal NX hr pass0 (pa_cons (pv 4) (pa_cons (pv 2) pa_nil)))))))
      (pss_one (ps_ret pe_bl)))), ?_⟩
    have ef : (((f : Nat) : Int) % 4).toNat = f := by omega
    obtain ⟨r0, rs, hrs⟩ : ∃ r0 rs, rows = r0 :: rs := by
      cases rows with
      | nil => exact absurd rfl g.toShp.ne
      | cons r0 rs => exact ⟨r0, rs, rfl⟩
    have hr0 : (tx r0).length ≤ sizeLine := by rw [tx_len]; exact small_le (g.toShp.row r0 (by rw [hrs]; exact List.mem_cons_self ..))
    have hat0 : atI (rows.map vt) 0 = some (vt r0) := by rw [hrs]; exact at0
    have hh : (rows.headD []) = r0 := by rw [hrs]; rfl
    refine ⟨_, rfl, _, rfl, ca, c, _, rfl, hC, fun H1 s1 p1 hp1 => ?_⟩
    rw [ef, ← ptA_zero]
    have s2 := s1.trans (Same.new (Same.refl H1) hp1 (o := .tup (icv (ptA c f 0))))
    have e2 : (upd H1 p1 (.tup (icv (ptA c f 0)))) p1 = some (.tup (icv (ptA c f 0))) := upd_same
    generalize upd H1 p1 (.tup (icv (ptA c f 0))) = H2 at s2 e2 ⊢
    refine ⟨fun m σ H3 => ∃ (n : Nat) (p : Addr), σ = [some (.ref ra), some (.ref ca), some (.int (f : Nat)), some (.str (tx sg)), some (.ref p)] ∧ Same H H3 ∧ H3 p = some (.tup (icv (ptA c f n))) ∧ m = 13 - n ∧ (∀ j, j < n → insd rows (ptA c f j).1 (ptA c f j).2 = true ∧ sgW rows (ptA c f j) ∉ sg),
      ⟨_, 0, p1, rfl, s2, e2, rfl, fun j hj => absurd hj (Nat.not_lt_zero _)⟩, ?_⟩
    rintro m σ H3 ⟨n, p, rfl, s3, hp, rfl, hb⟩
    generalize hq : ptA c f n = q at hp
    have hS3 := Same.tup s3 hS
    have out : insd rows q.1 q.2 = false → Q (.bl false) H3 := fun e => by
      have := k H3 s3
      rw [sees_false vd hf hw hin hb (by rw [hq]; exact e)] at this
      exact this
    have hI : insd rows q.1 q.2 = (decide (0 ≤ q.1) && decide (q.1 ≤ (rows.length : Int) - 1) && (decide (0 ≤ q.2) && decide (q.2 ≤ (r0.length : Int) - 1))) := by
      unfold insd inR
      rw [hh]
    refine ⟨_, rfl, p, _, 0, _, rfl, rfl, .inl (.inl hp), at0, _, _, rfl, rfl, _, rfl, ?_⟩
    by_cases a1 : 0 ≤ q.1
    case neg =>
      refine iteF' (decide_eq_false a1) ⟨_, rfl, iteF' rfl (iteF' rfl (out ?_))⟩
      rw [hI, decide_eq_false a1, Bool.false_and, Bool.false_and]
    refine iteT' (decide_eq_true a1) ?_
    refine ⟨_, rfl, ra, _, rfl, .inr hS3, _, _, rfl, rfl, _, rfl, ?_⟩
    by_cases a2 : q.1 < ((rows.map vt).length : Int)
    case neg =>
      refine iteF' (decide_eq_false a2) (iteF' rfl (out ?_))
      rw [hI, decide_eq_false (p := q.1 ≤ (rows.length : Int) - 1) (by rw [List.length_map] at a2; omega), Bool.and_false, Bool.false_and]
    refine iteT' (decide_eq_true a2) ?_
    refine ⟨_, rfl, p, _, 1, _, rfl, rfl, .inl (.inl hp), rfl, _, _, rfl, rfl, _, rfl, ?_⟩
    by_cases a3 : 0 ≤ q.2
    case neg =>
      refine iteF' (decide_eq_false a3) ⟨_, rfl, iteF' rfl (out ?_)⟩
      rw [hI, decide_eq_false a3, Bool.false_and, Bool.and_false]
    refine iteT' (decide_eq_true a3) ?_
    refine ⟨_, rfl, ra, _, 0, _, rfl, rfl, hS3, hat0, _, rfl, hr0, _, _, rfl, rfl, _, rfl, ?_⟩
    by_cases a4 : q.2 < ((tx r0).length : Int)
    case neg =>
      refine iteF' (decide_eq_false a4) (out ?_)
      rw [hI, decide_eq_false (p := q.2 ≤ (r0.length : Int) - 1) (by rw [tx_len] at a4; omega), Bool.and_false, Bool.and_false]
    refine iteT' (decide_eq_true a4) ⟨_, fun σ' H' h => h, ?_⟩
    have e : insd rows q.1 q.2 = true := by
      rw [hI, decide_eq_true a1, decide_eq_true a3, decide_eq_true (p := q.1 ≤ (rows.length : Int) - 1) (by rw [List.length_map] at a2; omega), decide_eq_true (p := q.2 ≤ (r0.length : Int) - 1) (by rw [tx_len] at a4; omega)]
      rfl
    obtain ⟨r, ch, h1, h2, h3, hm, hi, hj⟩ := insd_at g e
    have ei : atI (rows.map vt) q.1 = some (vt r) := by
      have z := atI_nat (xs := rows.map vt) (j := q.1.toNat) (v := vt r) (by rw [List.getElem?_map, h1]; rfl)
      rwa [Int.toNat_of_nonneg hi] at z
    have ej : atI (tx r).cps.toList q.2 = some ch := by
      have z := atI_nat (xs := (tx r).cps.toList) (j := q.2.toNat) (v := ch) (by rw [tx_cps]; exact h2)
      rwa [Int.toNat_of_nonneg hj] at z
    have e2' : sgW rows q = ch := by unfold sgW; rw [if_pos e]; exact h3
    have hn : n + 1 ≤ 12 := ptA_few vd hf fun j hj => by
      by_cases hjn : j < n
      · exact (hb j hjn).1
      · have : j = n := by omega
        rw [this, hq]
        exact e
    refine ⟨_, rfl, _, rfl, p, _, 0, _, rfl, rfl, .inl (.inl hp), at0, ra, _, q.1, _, rfl, rfl, hS3, ei, _, rfl, p, _, 1, _, rfl, rfl, .inl (.inl hp), rfl, _, q.2, ch, rfl, rfl, (by rw [tx_len]; exact small_le (g.toShp.row r hm)), ej, ?_⟩
    refine ⟨_, rfl, ch, tx sg, rfl, rfl, _, rfl, ?_⟩
    rw [tx_cps]
    by_cases hin2 : ch ∈ sg
    · refine iteT' (decide_eq_true hin2) ?_
      have := k H3 s3
      rw [(iaF_iff rows sg 12 c f).mpr ⟨n, by omega, by rw [hq, e2']; exact hin2⟩] at this
      exact this
    · refine iteF' (decide_eq_false hin2) ?_
      refine ⟨_, rfl, _, rfl, p, q, _, rfl, .inl (.inl hp), fun H4 s4 p4 hp4 => ?_⟩
      rw [ef, ← hq, ptA_next]
      refine ⟨13 - (n + 1), by omega, n + 1, p4, rfl, (s3.trans s4).trans (Same.new (Same.refl H4) hp4), upd_same, rfl, fun j hj => ?_⟩
      by_cases hjn : j < n
      · exact hb j hjn
      · have : j = n := by omega
        rw [this, hq]
        exact ⟨e, by rw [e2']; exact hin2⟩
end
end Om

/-! the law: _law_begins -/
namespace Om
open PySem PySem.Spec PyProof.Rows L2 LamX Gk
def cellB (rows : List (List Nat)) (sg fl : List Nat) (i j : Nat) : List ST := if sgAt rows (i : Nat) (j : Nat) ∈ sg then fl.map (stC (i, j)) else []
def rowB (rows : List (List Nat)) (sg fl : List Nat) (w i : Nat) : List ST := (List.range w).flatMap (cellB rows sg fl i)
theorem cellB_list (rows : List (List Nat)) (sg fl : List Nat) (i : Nat) (hw : 126 ∉ sg) : ∀ l : List Nat, (((l.filter fun j => !decide ((rows.getD i []).getD j 0 = 126)).map fun j => (i, j)).filter fun c : Nat × Nat => decide (sgAt rows (c.1 : Nat) (c.2 : Nat) ∈ sg)).flatMap (fun c => fl.map (stC c)) = l.flatMap (cellB rows sg fl i)
  | [] => rfl
  | j :: l => by
    have ih := cellB_list rows sg fl i hw l
    have es : sgAt rows (i : Nat) (j : Nat) = (rows.getD i []).getD j 0 := by
      unfold sgAt
      rw [Int.toNat_natCast, Int.toNat_natCast]
    rw [List.flatMap_cons, ← ih]
    unfold cellB
    by_cases h : sgAt rows (i : Nat) (j : Nat) ∈ sg
    · have hn : (rows.getD i []).getD j 0 ≠ 126 := fun z => hw (by rw [← z, ← es]; exact h)
      rw [if_pos h, List.filter_cons, if_pos (by rw [decide_eq_false hn]; rfl), List.map_cons, List.filter_cons, if_pos (by exact decide_eq_true h), List.flatMap_cons]
    · rw [if_neg h, List.nil_append, List.filter_cons]
      split
      · rw [List.map_cons, List.filter_cons, if_neg (by show ¬ decide (sgAt rows (i : Nat) (j : Nat) ∈ sg) = true; rw [decide_eq_false h]; exact Bool.false_ne_true)]
      · rfl
theorem flatMap_eq {α β : Type} {f g : α → List β} : ∀ {l : List α}, (∀ x ∈ l, f x = g x) → l.flatMap f = l.flatMap g
  | [], _ => rfl
  | x :: l, h => by rw [List.flatMap_cons, List.flatMap_cons, h x List.mem_cons_self, flatMap_eq fun y hy => h y (List.mem_cons_of_mem _ hy)]
theorem begF_law {rows : List (List Nat)} (g : Good2 rows) (sg fl : List Nat) (hw : 126 ∉ sg) : begF rows sg fl = (List.range rows.length).flatMap (rowB rows sg fl (rows.headD []).length) := by
  unfold begF begC cellsOf cellsTo
  rw [List.filter_flatMap, List.flatMap_assoc]
  refine flatMap_eq fun i hi => ?_
  have hi := List.mem_range.mp hi
  have hl : (rows.getD i []).length = (rows.headD []).length := by
    have : rows.getD i [] ∈ rows := by
      rw [List.getD_eq_getElem?_getD, List.getElem?_eq_getElem hi, Option.getD_some]
      exact List.getElem_mem hi
    exact g.rect _ this
  rw [hl]
  unfold rowCells rowB
  exact cellB_list rows sg fl i hw _
end Om

/-! the law: _law_begins -/
namespace Om
open PySem PySem.Spec PyProof.Rows L2 LamX Gk
def spLBe (K : PySem.W.Frag) (CM CI : Addr) : Sp := fun vs H Q _ => ∃ (a : Addr) (rows : List (List Nat)) (sg fl : List Nat) (is : List Ins), vs = [.ref a] ∧ Mp K CM CI H a rows sg (fl.map nmN) is ∧ Vd rows ∧ fl.length ≤ 4 ∧ 126 ∉ sg ∧
  ∀ (D : Addr) (t : TS) (H' : Hp), H D = none → Same H H' → H' D = some (.lst (vzS t)) → CS H' t → csS t = begF rows sg fl → Q (.ref D) H'
abbrev sLBe : Stmt := top 68
section
variable {P : Program} {w : World} {K : PySem.W.Frag} {mg : Str → Option Value} {base : Heap} {CM CI fM fN : Addr}
abbrev nLBe : List Str := ["_law_chart_here", "_law_found", "_law_rows_here", "_law_row", "_law_column", "_law_facing"]
theorem scLBe : FnScope nLBe ["_law_chart_here"] (defScope sLBe) := ⟨rfl, rfl, rfl, by decide +kernel, rfl, by decide +kernel, by decide +kernel⟩
def argM (s : Stmt) : Expr := match s with
  | .Expr e _ => arg0 e
  | _ => .Constant .none 0 ⟨0, 0, 0, 0⟩
def lbLc : Expr := argM (ifB ((forB ((forB ((defBody sLBe).getD 1 noS)).getD 0 noS)).getD 0 noS) 0)
theorem blkLBe : BlkOk nLBe (defScope sLBe) (lcScope lbLc) [("_law_facing", 5)] := blkOk_by (by decide +kernel)
theorem ok_lbe {f pI pS pF pR gI gS gF gR : Addr} {fd dI dS dF dR : FuncData} (F : FnP K "_law_begins" "_law_begins" sLBe f fd) (TM : MapF K mg CM fM) (TI : IslF K mg CI fN)
    (qI : PropOf K CM "island" pI gI) (GI : FnOk P w K mg base CX0 1 gI dI ["self"] (getSp CM "_island")) (bI : Binds K dI ["self"] [])
    (qS : PropOf K CM "signs" pS gS) (GS : FnOk P w K mg base CX0 1 gS dS ["self"] (getSp CM "_signs")) (bS : Binds K dS ["self"] [])
    (qF : PropOf K CM "facings" pF gF) (GF : FnOk P w K mg base CX0 1 gF dF ["self"] (getSp CM "_facings")) (bF : Binds K dF ["self"] [])
    (qR : PropOf K CI "rows" pR gR) (GR : FnOk P w K mg base CX0 1 gR dR ["self"] (spIRows K CI)) (bR : Binds K dR ["self"] [])
    (glen : mg "len" = none) (grange : mg "range" = none) : FnOk P w K mg base CX0 3 f fd ["_law_chart_here"] (spLBe K CM CI) := by
  refine F.ok scLBe (fun vs H Q E h => ?_) (fun cdv A outer s H vs Q E hr h => ?_)
  · obtain ⟨a, rows, sg, fl, is, rfl, _⟩ := h
    rfl
  · obtain ⟨a, rows, sg, fl, is, rfl, ⟨dx, li, lf, lt, xs, ha, hI, hF, hT, hD⟩, vd, hfl, hw, k⟩ := h
    have nd := scLBe.nd
    have g := vd.toGood2
    have hr2 : Room 2 _ := hr.mono (by decide)
    refine ⟨_, PSs.nox (pss_cons (ps_par (i := 1) (j := 2) rfl nd rfl rfl (by decide) rfl rfl (pa_cons (pe_lst pa_nil) (pa_cons (pe_prop (pe_prop (pv 0) TM.cl qI GI hr2 bI .nil pass0 rfl) TI.cl qR GR hr2 bR .nil pass0 rfl) pa_nil)) (by rfl))
      (pss_cons (ps_for PassesOwn.never rfl (pi_range1 rfl grange (pa_cons (pe_callB call_len_seq (by rfl) glen PySem.boot_len (pa_cons (pv 2) pa_nil)) pa_nil)) (pg_name (i := 3) nd rfl (.inr rfl))
        (pss_one (ps_for PassesOwn.never rfl (pi_range1 rfl grange (pa_cons (pe_callB call_len_str (by rfl) glen PySem.boot_len (pa_cons (pe_ix ix_tup (pv 2) pe_int (fun _ _ => rfl)) pa_nil)) pa_nil)) (pg_name (i := 4) nd rfl (.inr rfl))
          (pss_one (ps_if (pt_cmpR op_in_sign (pe_ix ix_str (pe_ix ix_tup (pv 2) (pv 3) (fun _ _ => rfl)) (pv 4) (fun _ _ => rfl)) (pe_prop (pv 0) TM.cl qS GS hr2 bS .nil pass0 rfl) (by with_unfolding_all rfl))
            (pss_one (ps_expr (pe_bm PySem.F.plainAttrs_list PySem.F.slot_list_extend PySem.F.type_list_extend mt_extend (pv 1) (pa_cons (pe_lc (own := [("_law_facing", 5)]) (g := gName 5) rfl nd (pi_tup (pe_prop (pv 0) TM.cl qF GF hr2 bF .nil pass0 rfl)) blkLBe (fun _ _ _ _ _ => pg_name (i := 5) nd rfl (.inl rfl)) (fun _ _ _ _ _ => pts_nil) (fun _ _ _ _ _ => pe_tup (pa_cons (pv 3) (pa_cons (pv 4) (pa_cons (pv 5) pa_nil))))) pa_nil)))) pss_nil)))))
      (pss_one (ps_ret (pv 1))))), ?_⟩
    refine ⟨by show 0 ≤ sizeLine; decide, fun D hDn => ?_⟩
    have s1 := Same.new (Same.refl H) hDn (o := .lst [])
    have e1 : (upd H D (.lst [])) D = some (.lst (vzS [])) := upd_same
    generalize upd H D (.lst []) = H1 at s1 e1 ⊢
    obtain ⟨dxi, pr, hli, hrows⟩ := id hI
    refine ⟨_, rfl, a, dx, _, rfl, s1 _ _ ha, a, dx, _, _, rfl, s1 _ _ ha, mapFs_i .., li, dxi, _, rfl, s1 _ _ hli, li, dxi, pr, rfl, s1 _ _ hli, _, _, rfl, ?_⟩
    obtain ⟨r0, rs, hrs⟩ : ∃ r0 rs, rows = r0 :: rs := by
      cases rows with
      | nil => exact absurd rfl g.toShp.ne
      | cons r0 rs => exact ⟨r0, rs, rfl⟩
    have hr0 : (tx r0).length ≤ sizeLine := by rw [tx_len]; exact small_le (g.toShp.row r0 (by rw [hrs]; exact List.mem_cons_self ..))
    have hat0 : atI (rows.map vt) 0 = some (vt r0) := by rw [hrs]; exact at0
    have hh : (rows.headD []) = r0 := by rw [hrs]; rfl
    have hw12 : r0.length ≤ 12 := (vd.wid r0 (by rw [hrs]; exact List.mem_cons_self)).2
    have hh12 := vd.hgt
    have hm1 : (rows.map vt).length = rows.length := List.length_map ..
    have hm2 : (tx r0).length = r0.length := tx_len _
    refine ⟨_, rfl, pr, _, rfl, .inr (Same.tup s1 hrows), _, rfl, by omega, by omega, for_range (lo := 0) (n := (((rows.map vt).length : Nat) : Int).toNat) (fun i σ H3 => ∃ (t : TS) (v3 v4 : Option V), σ = [some (.ref a), some (.ref D), some (.ref pr), v3, v4, none] ∧ Same H H3 ∧ H3 D = some (.lst (vzS t)) ∧ CS H3 t ∧ csS t = (List.range i).flatMap (rowB rows sg fl r0.length) ∧ t.length ≤ 48 * i)
      ⟨[], _, _, rfl, s1, e1, (fun p hp => by cases hp), rfl, Nat.le_refl _⟩ ?_ ?_⟩
    · rintro i σ H3 hi ⟨t, v3, v4, rfl, s3, h3, c3, ht, hl⟩
      have hi : i < rows.length := by
        have : i < ((((rows.map vt).length : Nat) : Int).toNat) := hi
        rwa [List.length_map] at this
      rw [show (0 : Int) + (i : Nat) = (i : Nat) from Int.zero_add _]
      refine ⟨_, rfl, pr, _, 0, _, rfl, rfl, Same.tup s3 hrows, hat0, _, rfl, hr0, _, rfl, by omega, by omega, for_range (lo := 0) (n := (((tx r0).length : Nat) : Int).toNat) (fun j σ H4 => ∃ (t : TS) (v4 : Option V), σ = [some (.ref a), some (.ref D), some (.ref pr), some (.int (i : Nat)), v4, none] ∧ Same H H4 ∧ H4 D = some (.lst (vzS t)) ∧ CS H4 t ∧ csS t = (List.range i).flatMap (rowB rows sg fl r0.length) ++ (List.range j).flatMap (cellB rows sg fl i) ∧ t.length ≤ 48 * i + 4 * j)
        ⟨t, v4, rfl, s3, h3, c3, by rw [ht, List.range_zero, List.flatMap_nil, List.append_nil], hl⟩ ?_ ?_⟩
      · rintro j σ H4 hj ⟨u, v5, rfl, s4, h4, c4, hu, hlu⟩
        have hj : j < r0.length := by
          have : j < ((((tx r0).length : Nat) : Int).toNat) := hj
          rwa [tx_len] at this
        rw [show (0 : Int) + (j : Nat) = (j : Nat) from Int.zero_add _]
        obtain ⟨r, hr⟩ : ∃ r, rows[i]? = some r := ⟨_, List.getElem?_eq_getElem hi⟩
        have hrm := List.mem_of_getElem? hr
        have hrl : r.length = r0.length := by rw [g.rect r hrm, hh]
        obtain ⟨ch, hch⟩ : ∃ ch, r[j]? = some ch := ⟨_, List.getElem?_eq_getElem (by omega)⟩
        have es : sgAt rows (i : Nat) (j : Nat) = ch := by
          unfold sgAt
          rw [Int.toNat_natCast, Int.toNat_natCast, getD_at hr, List.getD_eq_getElem?_getD, hch]
          rfl
        have ei : atI (rows.map vt) (i : Nat) = some (vt r) := atI_nat (by rw [List.getElem?_map, hr]; rfl)
        have ej : atI (tx r).cps.toList (j : Nat) = some ch := atI_nat (by rw [tx_cps]; exact hch)
        have ha4 := s4 _ _ ha
        refine ⟨_, rfl, _, rfl, pr, _, (i : Nat), _, rfl, rfl, Same.tup s4 hrows, ei, _, rfl, _, (j : Nat), ch, rfl, rfl, (by rw [tx_len]; exact small_le (g.toShp.row r hrm)), ej, ?_⟩
        refine ⟨_, rfl, a, dx, _, rfl, ha4, a, dx, _, _, rfl, ha4, mapFs_s .., ch, tx sg, rfl, rfl, _, rfl, ?_⟩
        rw [tx_cps]
        have eR : (List.range (j + 1)).flatMap (cellB rows sg fl i) = (List.range j).flatMap (cellB rows sg fl i) ++ cellB rows sg fl i j := by
          rw [List.range_succ, List.flatMap_append]
          simp
        by_cases hm : ch ∈ sg
        · refine iteT' (decide_eq_true hm) ?_
          refine ⟨_, rfl, .inl ⟨rfl, _, .inl (.inl h4)⟩, ?_⟩
          refine ⟨_, rfl, a, dx, _, rfl, ha4, a, dx, _, _, rfl, ha4, mapFs_f .., lf, rfl, ⟨_, Same.tup s4 hF⟩, fun M hM => ?_⟩
          refine lc_tup (K := K) (a := lf) (xs := (fl.map nmN).map Nm.v) (fun k H' => Same H4 H' ∧ ∃ z : TS, H' M = some (.lst (vzS z)) ∧ CS H' z ∧ csS z = (fl.take k).map (stC (i, j)) ∧ z.length ≤ k) ⟨Same.new (Same.refl H4) hM, [], upd_same, (fun p hp => by cases hp), by rw [List.take_zero]; rfl, Nat.le_refl _⟩ (fun k H' _ z => Same.tup (s4.trans z.1) hF) ?_ ?_
          · rintro k x H5 hx ⟨s5, z, h5, c5, hz, hzl⟩
            rw [List.map_map, List.getElem?_map] at hx
            obtain ⟨f, hf, rfl⟩ := Option.map_eq_some_iff.mp hx
            have hk := (List.getElem?_eq_some_iff.mp hf).1
            refine ⟨rfl, tyes ?_⟩
            refine ⟨_, rfl, _, rfl, _, rfl, by show 3 ≤ sizeLine; decide, fun p hp => ?_⟩
            have s6 := Same.new (Same.refl H5) hp (o := .tup (stv (stC (i, j) f)))
            have e6 : (upd H5 p (.tup (stv (stC (i, j) f)))) p = some (.tup (stv (stC (i, j) f))) := upd_same
            have h6 := s6 _ _ h5
            refine ⟨vzS z, h6, Nat.lt_of_le_of_lt (show _ ≤ 1000 by rw [vzS_len]; omega) (by decide), Same.updN (s5.trans s6) hM, z ++ [(p, stC (i, j) f)], by rw [upd_same, vzS_app]; rfl, ((c5.same s6).app (CS.one e6)).updL h6, ?_, by rw [List.length_append, List.length_singleton]; omega⟩
            rw [csS_app, hz, List.take_add_one, hf, List.map_append]
            rfl
          · rintro H5 ⟨s5, z, h5, c5, hz, hzl⟩
            rw [List.length_map, List.length_map] at hz hzl
            rw [List.take_length] at hz
            have h45 := s5 _ _ h4
            have hDM : D ≠ M := fun q => by rw [q, hM] at h4; cases h4
            refine nilArgs ⟨D, M, _, _, rfl, rfl, h45, h5, Nat.le_trans (show _ ≤ 1000 by rw [vzS_len, vzS_len]; omega) (by decide), ?_⟩
            refine ⟨u ++ z, some (.int (j : Nat)), rfl, Same.updN (s4.trans s5) hDn, by rw [upd_same, vzS_app], ((c4.same s5).app c5).updL h45, ?_, by rw [List.length_append]; omega⟩
            rw [csS_app, hu, hz, eR, List.append_assoc]
            unfold cellB
            rw [es, if_pos hm]
        · refine iteF' (decide_eq_false hm) ⟨u, some (.int (j : Nat)), rfl, s4, h4, c4, ?_, by omega⟩
          rw [hu, eR]
          have : cellB rows sg fl i j = [] := by
            unfold cellB
            rw [es, if_neg hm]
          rw [this, List.append_nil]
      · rintro σ H4 ⟨u, v5, rfl, s4, h4, c4, hu, hlu⟩
        have eT : (((tx r0).length : Nat) : Int).toNat = r0.length := by rw [tx_len]; rfl
        rw [eT] at hu hlu
        refine ⟨u, some (.int (i : Nat)), v5, rfl, s4, h4, c4, ?_, by omega⟩
        rw [hu, List.range_succ, List.flatMap_append]
        simp [rowB]
    · rintro σ H3 ⟨t, v3, v4, rfl, s3, h3, c3, ht, hl⟩
      refine ⟨_, rfl, k D t H3 hDn s3 h3 c3 ?_⟩
      rw [ht, begF_law g sg fl hw, hh, List.length_map]
      rfl
end
end Om

/-! no two states of an island have one hash -/
namespace Om
open PySem PySem.Spec PyProof.Rows L2 LamX
def hS3 (a b c : Nat) : Int := reduceHash (Builtin.Tuple.tupleHashOf [hashInt (a : Int), hashInt (b : Int), hashInt (c : Int)])
def box3 : List (Nat × Nat × Nat) := (List.range 12).flatMap fun a => (List.range 12).flatMap fun b => (List.range 4).map fun c => (a, b, c)
def hN (x : Nat × Nat × Nat) : Nat := (hS3 x.1 x.2.1 x.2.2 % 7950).toNat
def bitsOk : List Nat → Nat → Bool
  | [], _ => true
  | x :: r, m => !m.testBit x && bitsOk r (m ||| (1 <<< x))
theorem bits_nd : ∀ (l : List Nat) (m : Nat), bitsOk l m = true → l.Nodup ∧ ∀ x ∈ l, m.testBit x = false
  | [], _, _ => ⟨List.nodup_nil, fun x hx => by cases hx⟩
  | x :: r, m, h => by
    have h : (!m.testBit x && bitsOk r (m ||| (1 <<< x))) = true := h
    rw [Bool.and_eq_true, Bool.not_eq_true'] at h
    obtain ⟨n, k⟩ := bits_nd r _ h.2
    have hx : ∀ y ∈ r, m.testBit y = false ∧ x ≠ y := fun y hy => by
      have := k y hy
      rw [Nat.testBit_or, Bool.or_eq_false_iff] at this
      refine ⟨this.1, fun e => ?_⟩
      rw [← e, Nat.one_shiftLeft, Nat.testBit_two_pow_self] at this
      exact Bool.noConfusion this.2
    refine ⟨List.nodup_cons.mpr ⟨fun z => (hx x z).2 rfl, n⟩, fun y hy => ?_⟩
    rcases List.mem_cons.mp hy with rfl | hy
    · exact h.1
    · exact (hx y hy).1
set_option maxRecDepth 1000000 in
theorem box_bits : bitsOk (box3.map hN) 0 = true := by decide +kernel
theorem map_nd_inj {α β : Type} {f : α → β} : ∀ {l : List α}, (l.map f).Nodup → ∀ x ∈ l, ∀ y ∈ l, f x = f y → x = y
  | [], _, x, hx, _, _, _ => by cases hx
  | a :: l, h, x, hx, y, hy, e => by
    rw [List.map_cons, List.nodup_cons] at h
    rcases List.mem_cons.mp hx with hx | hx
    · rcases List.mem_cons.mp hy with hy | hy
      · rw [hx, hy]
      · rw [hx] at e
        exact absurd (List.mem_map.mpr ⟨y, hy, e.symm⟩) h.1
    · rcases List.mem_cons.mp hy with hy | hy
      · rw [hy] at e
        exact absurd (List.mem_map.mpr ⟨x, hx, e⟩) h.1
      · exact map_nd_inj h.2 x hx y hy e
theorem hS3_inj {a b c a' b' c' : Nat} (h1 : a < 12) (h2 : b < 12) (h3 : c < 4) (h1' : a' < 12) (h2' : b' < 12) (h3' : c' < 4) (e : hS3 a b c = hS3 a' b' c') : a = a' ∧ b = b' ∧ c = c' := by
  have mem : ∀ {a b c : Nat}, a < 12 → b < 12 → c < 4 → (a, b, c) ∈ box3 := fun h1 h2 h3 => List.mem_flatMap.mpr ⟨_, List.mem_range.mpr h1, List.mem_flatMap.mpr ⟨_, List.mem_range.mpr h2, List.mem_map.mpr ⟨_, List.mem_range.mpr h3, rfl⟩⟩⟩
  have := map_nd_inj (bits_nd _ _ box_bits).1 _ (mem h1 h2 h3) _ (mem h1' h2' h3') (by show (hS3 a b c % 7950).toNat = (hS3 a' b' c' % 7950).toNat; rw [e])
  injection this with e1 e2
  injection e2 with e2 e3
  exact ⟨e1, e2, e3⟩
/-- a state as a key -/
def kS (s : ST) : List L2.Key := (stl s).map Sum.inl
theorem kS_v (s : ST) : (kS s).map kV = stv s := rfl
theorem kS_inj {s r : ST} (h : kS s = kS r) : s = r := by
  unfold kS stl at h
  injection h with h1 h
  injection h with h2 h
  injection h with h3 _
  exact Prod.ext (Prod.ext (Sum.inl.inj h1) (Sum.inl.inj h2)) (by have := Sum.inl.inj h3; omega)
theorem hash_kS {P : Program} {w : World} (a b c : Nat) : tupleKeyHash (mixKind P w) (kS (stC (a, b) c)) = hS3 a b c := rfl
theorem allS_box {rows : List (List Nat)} (vd : Vd rows) {s : ST} (h : s ∈ allS rows) : ∃ a b, a < 12 ∧ b < 12 ∧ s = stC (a, b) s.2 ∧ s.2 < 4 := by
  unfold allS at h
  obtain ⟨⟨a, b⟩, hc, h⟩ := List.mem_flatMap.mp h
  obtain ⟨f, hf, rfl⟩ := List.mem_map.mp h
  refine ⟨a, b, ?_, ?_, rfl, List.mem_range.mp hf⟩
  · have := (insd_iff (c := ((a : Int), (b : Int))).mp (cell_insd vd.toGood2 hc)).1.2
    have := vd.hgt
    omega
  · have h2 := (insd_iff (c := ((a : Int), (b : Int))).mp (cell_insd vd.toGood2 hc)).2.2
    have : (rows.headD []).length ≤ 12 := by
      cases rows with
      | nil => exact absurd rfl vd.toGood2.toShp.ne
      | cons r rs => exact (vd.wid r List.mem_cons_self).2
    omega
theorem hash_inj {P : Program} {w : World} {rows : List (List Nat)} (vd : Vd rows) {s r : ST} (hs : s ∈ allS rows) (hr : r ∈ allS rows) (e : tupleKeyHash (mixKind P w) (kS s) = tupleKeyHash (mixKind P w) (kS r)) : s = r := by
  obtain ⟨a, b, ha, hb, e1, hf⟩ := allS_box vd hs
  obtain ⟨a', b', ha', hb', e2, hf'⟩ := allS_box vd hr
  rw [e1, e2, hash_kS, hash_kS] at e
  obtain ⟨q1, q2, q3⟩ := hS3_inj ha hb hf ha' hb' hf' e
  rw [e1, e2, q1, q2, q3]
end Om

/-! dicts whose keys are tuples of ints: {}, {k: v}, list(d), sorted(d), d.update(e), dict(pairs) -/
namespace Om
open PySem PySem.Spec PyProof.Rows L2 PySem.W PySem.SeqAt
section
variable {X : Cx}
theorem d_setT {pins : List (Addr × Obj)} {σ : L2.St} {H : Hp} {s : Shared} {E : Value → Shared → Prop} {D b : Addr} {kvs : List (List L2.Key × V)} {k : List L2.Key} {v : V} {r : Value} {Q : Unit → Shared → Prop} (I : Inv X pins σ H s) (hu : X.A.units + 1 < cLine) (hD : H D = some (.dT kvs)) (hb : H b = some (.tup (k.map kV))) (hl : kvs.length < sizeLine)
    (rv : RelV v r) (h : ∀ s', Inv X pins σ (upd H D (.dT (putK kvs k v))) s' → Q () s') : wpAny (model X.prog X.w) X.A (dictSet D (.ref b) r) Q E s := by
  obtain ⟨z, hd, xs, rel, dd⟩ := dt_of I.hok hD
  have hz : xs.length ≤ sizeLine := by rw [← Paired.length rel]; exact z
  have hl2 : (putK kvs k v).length ≤ sizeLine := by have := length_putK kvs k v; omega
  refine wpAny_dictSet_heap (hsz := hz) (show _ < cLine from by omega) (key_of I.hok hb) dd fun h' dd' hs => h _ ?_
  obtain ⟨q, es, ep, hq, h2, h3, h4, _, h5⟩ := dd'
  refine d_write I (by rw [hD]; exact True.intro) hs ⟨q, hq⟩ ⟨hl2, hd, _, (rel.put k hb rv).keeps fun c ys ec => ?_, q, es, ep, hq, h2, h3, h4, h5⟩
  rw [upd_ne (ne_of ec hD (fun z => nomatch z))]
  exact ec
def tDisp1T (tk tv : TE) : TE := fun σ H Q => ∀ p, H p = none → tk σ (upd H p (.dT [])) fun y H1 => tv σ H1 fun z H2 => ∃ (b : Addr) (k : List L2.Key), y = .ref b ∧ H2 b = some (.tup (k.map kV)) ∧ H2 p = some (.dT []) ∧ Q (.ref p) (upd H2 p (.dT [(k, z)]))
theorem pe_disp1T {pos : Pos} {k v : Expr} {tk tv : TE} (hu : X.A.units + 1 < cLine) (hk : PE X k tk) (hv : PE X v tv) : PE X (.Dict [some k] [v] pos) (tDisp1T tk tv) := by
  refine ⟨fun pins s σ H Q I h => ?_⟩
  have hn := I.hok.fresh (Nat.le_refl s.heap.objs.size)
  have I1 := I.laid (a := s.heap.objs.size) (o := .dT []) (h' := s.heap.push { cls := .type "dict", data := .dict #[] }) (t' := s.toks) (fun _ _ q => Heap.get?_push_of_some _ q) (Nat.le_refl _) (dt_empty s.heap I.big)
  refine wpAny_Dict_any rfl rfl (by simp) (show 1 ≤ 15 by decide) ?_
  refine pairTrees_cons_walk (thn (hk.run pins _ σ _ _ I1 (h _ hn)) fun u s1 ⟨y, H1, I2, r1, q1⟩ => thn (hv.run pins s1 σ H1 _ I2 q1) fun u2 s2 ⟨z, H2, I3, r2, b, kk, ey, hb, hD, q⟩ => ?_)
  subst ey
  cases r1
  refine pairTrees_nil_walk ?_
  show wpAny _ _ (storeAll s.heap.objs.size [(Value.ref b, u2)]) _ _ _
  unfold storeAll
  refine wpAny_bind (wpAny_bind (d_setT I3 hu hD hb (by decide) r2 fun s' I' => wpAny_pure ?_))
  exact wpAny_pure ⟨.ref s.heap.objs.size, _, I', rfl, q⟩
end
def KeyI (H : Hp) (L : List (Addr × List Int)) : Prop := ∀ q ∈ L, H q.1 = some (.tup (q.2.map V.int))
theorem keys_of {H : Hp} : ∀ {kvs : List (List L2.Key × V)} {xs : List (List L2.Key × Addr × Value)} {ks : List (List Int)}, KT H kvs xs → kvs.map (·.1) = ks.map (fun l => l.map Sum.inl) → ∃ L : List (Addr × List Int), L.map (·.2) = ks ∧ L.map (·.1) = xs.map (·.2.1) ∧ KeyI H L := by
  intro kvs xs ks h
  unfold KT at h
  induction h generalizing ks with
  | nil =>
    intro e
    cases ks with
    | nil => exact ⟨[], rfl, rfl, fun q hq => by cases hq⟩
    | cons k r => cases e
  | @cons p q ps qs hpq t ih =>
    intro e
    cases ks with
    | nil => cases e
    | cons k r =>
      rw [List.map_cons, List.map_cons] at e
      injection e with e1 e2
      obtain ⟨L, h1, h2, h3⟩ := ih e2
      obtain ⟨g1, g2, _⟩ := hpq
      refine ⟨(q.2.1, k) :: L, by rw [List.map_cons, h1], by rw [List.map_cons, List.map_cons, h2], fun x hx => ?_⟩
      rcases List.mem_cons.mp hx with rfl | hx
      · show H q.2.1 = some (.tup (k.map V.int))
        rw [g2, e1, List.map_map]
        rfl
      · exact h3 x hx
section
variable {X : Cx}
/-- what the keys of a dict are, collected -/
theorem keys_acc {P : Program} {w : World} {H : Hp} {h : Heap} {d : Addr} {kvs : List (List L2.Key × V)} {xs : List (List L2.Key × Addr × Value)} {ks : List (List Int)} {es : Array DictEntry} {acc : Array Value} (rel : KT H kvs xs) (e : kvs.map (·.1) = ks.map (fun l => l.map Sum.inl)) (hsz : es.size = xs.length)
    (hent : ∀ i (hi : i < es.size), ∃ y, xs[i]? = some y ∧ es[i].key = .ref y.2.1) (hacc : acc.size = es.size ∧ ∀ (j : Nat) (v : Value), acc[j]? = some v → ∃ hi : j < es.size, v = es[j].key) :
    ∃ L : List (Addr × List Int), L.map (·.2) = ks ∧ KeyI H L ∧ acc.toList = L.map (fun q => Value.ref q.1) := by
  obtain ⟨L, h1, h2, h3⟩ := keys_of rel e
  refine ⟨L, h1, h3, List.ext_getElem? fun j => ?_⟩
  have hl : L.length = xs.length := by
    have := congrArg List.length h2
    rw [List.length_map, List.length_map] at this
    exact this
  by_cases hj : j < es.size
  · obtain ⟨y, hy, hk⟩ := hent j hj
    have hja : j < acc.size := by rw [hacc.1]; exact hj
    obtain ⟨hi, hv⟩ := hacc.2 j acc[j] (Array.getElem?_eq_getElem hja)
    have hL : (L.map (·.1))[j]? = some y.2.1 := by rw [h2, List.getElem?_map, hy]; rfl
    rw [List.getElem?_map] at hL
    obtain ⟨q, hq, eq⟩ := Option.map_eq_some_iff.mp hL
    rw [Array.getElem?_toList, Array.getElem?_eq_getElem hja, hv, hk, List.getElem?_map, hq, ← eq]
    rfl
  · rw [Array.getElem?_toList, Array.getElem?_eq_none (by rw [hacc.1]; omega), List.getElem?_map, List.getElem?_eq_none (by omega)]
    rfl
def rListT : List V → Hp → VK → Prop := fun vs H Q => ∃ (a : Addr) (kvs : List (List L2.Key × V)) (ks : List (List Int)), vs = [V.ref a] ∧ H a = some (.dT kvs) ∧ kvs.map (·.1) = ks.map (fun l => l.map Sum.inl) ∧
  ∀ (L : List (Addr × List Int)) (p : Addr), L.map (·.2) = ks → KeyI H L → H p = none → Q (.ref p) (upd H p (.lst (L.map fun q => V.ref q.1)))
theorem cr_listT (hc : X.calm = true) : CallR X (.type "list") rListT := by
  intro pins s σ H vs us Q I r h
  obtain ⟨a, kvs, ks, rfl, ha, hks, q⟩ := h
  rw [Vals.ref1 r]
  obtain ⟨z, hd, xs, rel, dd⟩ := dt_of I.hok ha
  obtain ⟨es, ep, raw, hsz, hent⟩ := dd.raw
  have hz : es.size ≤ sizeLine := by rw [hsz, ← Paired.length rel]; exact z
  refine PySem.W.kdl_call (KdlSrc.rawDict (prog := X.prog) (w := X.w) (d := a) (es := es) (ep := ep) hd) (I.ok.hd hc) raw hz fun h' tk acc c hk hS hacc => ?_
  obtain ⟨L, h1, h3, e⟩ := keys_acc (P := X.prog) (w := X.w) (h := s.heap) (d := a) rel hks hsz (fun i hi => let ⟨y, h1, h2, _⟩ := hent i hi; ⟨y, h1, h2⟩) hacc
  have hn : H s.heap.objs.size = none := I.hok.fresh (Nat.le_refl _)
  have hll : L.length ≤ sizeLine := by
    have := congrArg List.length e
    rw [Array.length_toList, List.length_map, hacc.1] at this
    omega
  exact ⟨.ref s.heap.objs.size, upd H s.heap.objs.size (.lst (L.map fun q => V.ref q.1)), I.laid (t' := tk) (fun b o q => hk b o q) (Nat.le_refl _) ⟨by rw [List.length_map]; exact hll, acc.toList, c, by rw [e]; exact vals_of_refs L, by rw [Array.toArray_toList]; exact hS⟩, rfl, q L _ h1 h3 hn⟩
/-- sorted(d), the keys tuples of ints, with its order -/
def rSortDO : List V → Hp → VK → Prop := fun vs H Q => ∃ (a : Addr) (kvs : List (List L2.Key × V)) (ks : List (List Int)), vs = [V.ref a] ∧ H a = some (.dT kvs) ∧ kvs.map (·.1) = ks.map (fun l => l.map Sum.inl) ∧
  ∀ (L : List (Addr × List Int)) (p : Addr), (L.map (·.2)).Perm ks → ks.Nodup → KeyI H L → L.Pairwise (fun q r => q.2 ≤ r.2) → H p = none → Q (.ref p) (upd H p (.lst (L.map fun q => V.ref q.1)))
theorem inl_inj : ∀ {a b : List Int}, (a.map (Sum.inl : Int → L2.Key)) = b.map Sum.inl → a = b
  | [], [], _ => rfl
  | [], _ :: _, h => by cases h
  | _ :: _, [], h => by cases h
  | x :: a, y :: b, h => by
    rw [List.map_cons, List.map_cons] at h
    injection h with h1 h2
    rw [Sum.inl.inj h1, inl_inj h2]
theorem cr_sortDO (hc : X.calm = true) (hu : X.A.units + 64 < cLine) : CallR X (.builtin "sorted") rSortDO := by
  intro pins s σ H vs us Q I r h
  obtain ⟨a, kvs, ks, rfl, ha, hks, q⟩ := h
  rw [Vals.ref1 r]
  obtain ⟨z, hd, xs, rel, dd⟩ := dt_of I.hok ha
  have hnd : ks.Nodup := by
    have h1 := dd.nodup
    have h2 : xs.map (·.1) = kvs.map (·.1) := by
      have : ∀ {kvs : List (List L2.Key × V)} {xs : List (List L2.Key × Addr × Value)}, KT H kvs xs → xs.map (·.1) = kvs.map (·.1) := by
        intro kvs xs h
        unfold KT at h
        induction h with
        | nil => rfl
        | cons hp _ ih => rw [List.map_cons, List.map_cons, ih]; exact congrArg (· :: _) hp.1.symm
      exact this rel
    rw [h2, hks] at h1
    exact List.Pairwise.imp (fun {a b} hne e => hne (by rw [e])) (List.pairwise_map.mp h1)
  obtain ⟨es, ep, raw, hsz, hent⟩ := dd.raw
  have hz : es.size ≤ sizeLine := by rw [hsz, ← Paired.length rel]; exact z
  refine Calls.call_function_entry kind_sorted plain_sorted entry_sorted (args_sorted1 _) ?_
  unfold Builtin.«sorted»
  refine wpAny_bind (m := checkCount "sorted" 1 1 _) (wpAny_pure ?_)
  refine wpAny_bind (PySem.W.kdu_collect (A := X.A.in1) (KdlSrc.rawDict (prog := X.prog) (w := X.w) (d := a) (es := es) (ep := ep) hd) (I.ok.hd hc) raw hz fun h' tk acc hk hacc => ?_)
  obtain ⟨L1, h1, h3, e⟩ := keys_acc (P := X.prog) (w := X.w) (h := s.heap) (d := a) rel hks hsz (fun i hi => let ⟨y, h1, h2, _⟩ := hent i hi; ⟨y, h1, h2⟩) hacc
  generalize hvs : acc.toList = vs at e
  have hvl : vs.length ≤ sizeLine := by rw [← hvs, Array.length_toList, hacc.1]; exact hz
  generalize hs1 : ({ s with heap := h', toks := tk } : Shared) = s1
  have hh1 : s1.heap = h' := by rw [← hs1]
  refine wpAny_bind (wpAny_newList ?_ hvl)
  have k1 : ∀ b u, s.heap.get? b = some u → s1.heap.get? b = some u := fun b u eb => by rw [hh1]; exact hk b u eb
  have hoL : (s1.heap.push (seqObj "list" vs.toArray 0)).get? s1.heap.objs.size = some (seqObj "list" vs.toArray 0) := Heap.get?_push_size _ rfl
  have old : ∀ b u, s.heap.get? b = some u → (s1.heap.push (seqObj "list" vs.toArray 0)).get? b = some u := fun b u e => Heap.get?_push_of_some _ (k1 b u e)
  have rdAll : ∀ (h' : Heap), (∀ b u, s.heap.get? b = some u → b ≠ s1.heap.objs.size → h'.get? b = some u) → ∀ q ∈ L1, ∃ as, Reads h' (.ref q.1) (itup q.2) as := by
    intro h' hk q hq
    obtain ⟨b, items, n, hb⟩ := key_of (ks := q.2.map Sum.inl) I.hok (by rw [h3 q hq, List.map_map]; rfl)
    obtain ⟨hbo, hbc, hbd, hbi⟩ := hb
    have hne : q.1 ≠ s1.heap.objs.size := fun z => by
      have := Heap.lt_size (k1 _ _ hbo)
      rw [z] at this
      exact absurd this (Nat.lt_irrefl _)
    have rdI : ∀ (ks : List Int) (us : List Value), ItemsAre (mixKind X.prog X.w) (ks.map Sum.inl) us → ∃ as, ReadsAll h' us (ks.map PyData.int) as := by
      intro ks
      induction ks with
      | nil => intro us it; cases it; exact ⟨_, .nil⟩
      | cons k ks ih =>
        intro us it
        cases it with
        | cons h1 h2 =>
          obtain ⟨as, r⟩ := ih _ h2
          have hi : Value.isInt k _ = true := h1
          obtain ⟨tk, rfl⟩ := Value.isInt_shape hi
          exact ⟨_, .cons (.int _ _) r⟩
    obtain ⟨as, r⟩ := rdI _ _ hbi
    exact ⟨_, .tuple (hk _ _ hbo hne) hbc hbd r⟩
  have eachR : ∀ (h' : Heap), (∀ b u, s.heap.get? b = some u → b ≠ s1.heap.objs.size → h'.get? b = some u) → ∀ L2 : List (Addr × List Int), (∀ q ∈ L2, q ∈ L1) → EachIs (fun v d => ∃ as, Reads h' v d as) (L2.map fun q => Value.ref q.1) ((L2.map (·.2)).map itup) := by
    intro h' hk L2
    induction L2 with
    | nil => exact fun _ => .nil
    | cons q L2 ih => exact fun hs => .cons (rdAll h' hk q (hs q List.mem_cons_self)) (ih fun r hr => hs r (List.mem_cons_of_mem _ hr))
  have hk2 : ∀ b u, s.heap.get? b = some u → b ≠ s1.heap.objs.size → (sortingHeap (s1.heap.push (seqObj "list" vs.toArray 0)) s1.heap.objs.size vs).get? b = some u := fun b u e hb => sortingHeap_old hb (old b u e)
  have e2 := eachR _ hk2 L1 fun q hq => hq
  rw [← e] at e2
  have units1 : X.A.in1.in1.units + 1 < cLine := by show X.A.units + 1 + 1 + 1 < cLine; omega
  have R' : EachIs (fun (v : Value) (q : Addr × List Int) => v = Value.ref q.1) vs L1 := by
    rw [e]
    have : ∀ M : List (Addr × List Int), EachIs (fun (v : Value) (q : Addr × List Int) => v = Value.ref q.1) (M.map fun q => Value.ref q.1) M := by
      intro M
      induction M with
      | nil => exact .nil
      | cons q M ih => exact .cons rfl ih
    exact this L1
  have eb : (L1.map (·.2)).map itup = L1.map fun q => itup q.2 := by rw [List.map_map]; rfl
  have er : EachIs (fun (v : Value) (q : Addr × List Int) => ∃ as, Reads (sortingHeap (s1.heap.push (seqObj "list" vs.toArray 0)) s1.heap.objs.size vs) v (itup q.2) as) vs L1 := by
    have : ∀ {vs : List Value} {L1 : List (Addr × List Int)} {h' : Heap}, EachIs (fun v d => ∃ as, Reads h' v d as) vs ((L1.map (·.2)).map itup) → EachIs (fun (v : Value) (q : Addr × List Int) => ∃ as, Reads h' v (itup q.2) as) vs L1 := by
      intro vs L1 h'
      induction L1 generalizing vs with
      | nil => intro e; cases e; exact .nil
      | cons q L1 ih => intro e; cases e with | cons h t => exact .cons h (ih t)
    exact this e2
  have S := sorts_itups (prog := X.prog) (w := X.w) (A := X.A.in1.in1) (s := { s1 with heap := sortingHeap (s1.heap.push (seqObj "list" vs.toArray 0)) s1.heap.objs.size vs }) e2 units1
  refine wpAny_bind (wpAny_holding (wpAny_call_entry (s := { s1 with heap := s1.heap.push (seqObj "list" vs.toArray 0) }) slot_list_sort ⟨_, hoL, rfl⟩ entry_list_sort (list_sort_vals hoL S hvl ⟨.none, rfl, ?_⟩) (args_list_sort _)))
  have out := sortVals_data (enc := fun q : Addr × List Int => itup q.2) false R' er (by rw [← eb]; exact AllAlike.of itup_alike)
  rw [eb]
  generalize hov : sortVals (dataKind (sortingHeap (s1.heap.push (seqObj "list" vs.toArray 0)) s1.heap.objs.size vs) (L1.map fun q => itup q.2)) false vs vs = ov at out ⊢
  obtain ⟨c, hcc⟩ := sortedHeap_at (vs := vs) (out := ov.toArray) hoL
  have eo : ∀ {ov : List Value} {L2 : List (Addr × List Int)}, EachIs (fun (v : Value) (q : Addr × List Int) => v = Value.ref q.1) ov L2 → ov = L2.map fun q => Value.ref q.1 := by
    intro ov L2 e
    induction e with
    | nil => rfl
    | cons h _ ih => rw [h, ih]; rfl
  have pm : (L1.mergeSort (dataLe false fun q => itup q.2)).Perm L1 := List.mergeSort_perm _ _
  have pw := sort_itup L1
  have eov : ov = (L1.mergeSort (dataLe false fun q => itup q.2)).map fun q => Value.ref q.1 := eo out
  generalize L1.mergeSort (dataLe false fun q => itup q.2) = L' at pm pw eov
  have hlen : (L'.map fun q => V.ref q.1).length ≤ sizeLine := by
    rw [List.length_map, pm.length_eq]
    have : vs.length = L1.length := by rw [e, List.length_map]
    omega
  have hgone : s.heap.get? s1.heap.objs.size = none := by
    cases eg : s.heap.get? s1.heap.objs.size with
    | none => rfl
    | some u => exact absurd (Heap.lt_size (k1 _ _ eg)) (Nat.lt_irrefl _)
  have hn2 : H s1.heap.objs.size = none := I.hok.gone hgone
  refine wpAny_pure ⟨_, rfl, .ref s1.heap.objs.size, upd H s1.heap.objs.size (.lst (L'.map fun q => V.ref q.1)), ?_, rfl, q L' _ (by rw [← h1]; exact pm.map _) hnd (fun y hy => h3 y (pm.mem_iff.mp hy)) pw hn2⟩
  have kp : ∀ b u, s.heap.get? b = some u → (sortedHeap (s1.heap.push (seqObj "list" vs.toArray 0)) s1.heap.objs.size vs ov.toArray).get? b = some u := fun b u eb => by
    have q1 := k1 b u eb
    have hlt := Heap.lt_size q1
    rw [sortedHeap_old (Nat.ne_of_lt hlt) (by rw [size_push']; exact Nat.lt_succ_of_lt hlt)]
    exact Heap.get?_push_of_some _ q1
  rw [← hs1] at kp hcc hgone hn2 ⊢
  exact I.laidN (t' := tk) kp hgone hn2 ⟨hlen, ov, c, by rw [eov]; exact vals_of_refs L', hcc⟩
end
def mergeT (kvs more : List (List L2.Key × V)) : List (List L2.Key × V) := more.foldl (fun acc x => putK acc x.1 x.2) kvs
theorem putK_len2 {κ : Type} [DecidableEq κ] (kvs : List (κ × V)) (k : κ) (v : V) : (putK kvs k v).length ≤ kvs.length + 1 := by
  unfold putK
  split
  · rw [List.length_map]; omega
  · rw [List.length_append, List.length_singleton]; exact Nat.le_refl _
theorem mergeT_len : ∀ (more kvs : List (List L2.Key × V)), (mergeT kvs more).length ≤ kvs.length + more.length
  | [], kvs => Nat.le_refl _
  | x :: r, kvs => by
    have h1 := mergeT_len r (putK kvs x.1 x.2)
    have h2 := putK_len2 kvs x.1 x.2
    show (mergeT (putK kvs x.1 x.2) r).length ≤ _
    rw [List.length_cons]
    omega
theorem KT.merge {H : Hp} : ∀ {more kvs : List (List L2.Key × V)} {xs ys : List (List L2.Key × Addr × Value)}, KT H more ys → KT H kvs xs → KT H (mergeT kvs more) (storedAllH xs ys) := by
  intro more kvs xs ys r
  unfold KT at r
  induction r generalizing kvs xs with
  | nil => exact id
  | @cons p q ps qs h t ih =>
    intro r0
    obtain ⟨h1, h2, h3⟩ := h
    have e : KT H (putK kvs p.1 p.2) (storedH xs q.1 q.2.1 q.2.2) := by
      have := KT.put r0 p.1 h2 h3
      rw [← h1]
      exact this
    exact ih e
theorem type_dict_update : typeOf (.builtin "dict.update") = pure (.type "method_descriptor") := by show builtinType _ = _; rw [builtinType_eq_fast]; kernel_rfl
/-- d.update(e): e may be put into an empty d where no two keys of e have one hash -/
def rDUpdE (P : Program) (w : World) : V → List V → Hp → VK → Prop := fun x vs H Q => ∃ (d o : Addr) (kvs more : List (List L2.Key × V)), x = .ref d ∧ vs = [.ref o] ∧ H d = some (.dT kvs) ∧ H o = some (.dT more) ∧ d ≠ o ∧ (kvs ≠ [] ∨ ∀ a ∈ more.map (·.1), ∀ b ∈ more.map (·.1), tupleKeyHash (mixKind P w) a = tupleKeyHash (mixKind P w) b → a = b) ∧ kvs.length + more.length ≤ 100000 ∧ Q .non (upd H d (.dT (mergeT kvs more)))
theorem kt_keys {H : Hp} {kvs : List (List L2.Key × V)} {xs : List (List L2.Key × Addr × Value)} (h : KT H kvs xs) : xs.map (·.1) = kvs.map (·.1) := by
  unfold KT at h
  induction h with
  | nil => rfl
  | cons hp _ ih => rw [List.map_cons, List.map_cons, ih]; exact congrArg (· :: _) hp.1.symm
theorem mt_dupdE {X : Cx} (hu : X.A.units + 16 < cLine) : MtR X "dict.update" (rDUpdE X.prog X.w) := by
  intro pins s σ H x vs v us Q I rx rv h
  obtain ⟨d, o, kvs, more, rfl, rfl, hd, ho, hdo, hne, hlen, q⟩ := h
  cases rx
  obtain rfl := Vals.ref1 rv
  obtain ⟨_, sd, xs, rd, dd⟩ := dt_of I.hok hd
  obtain ⟨_, so, ys, ro, dO⟩ := dt_of I.hok ho
  have l1 : kvs.length = xs.length := Paired.length rd
  have l2 : more.length = ys.length := Paired.length ro
  have hx : xs ≠ [] ∨ ((∀ x ∈ ys, s.TypeIs (.ref x.2.1) "tuple") ∧ (ys.map fun x => (tupleKind (mixKind X.prog X.w)).hash x.1).Nodup) := by
    rcases hne with hne | hne'
    · exact .inl fun e => hne (List.length_eq_zero_iff.mp (by rw [l1, e]; rfl))
    · refine .inr ⟨fun x hx => ?_, ?_⟩
      · obtain ⟨_, _, _, _, _, _, _, his, _⟩ := id dO
        exact (his x hx).typeIs
      · show (ys.map fun x => tupleKeyHash (mixKind X.prog X.w) x.1).Nodup
        have nd := dO.nodup
        refine List.pairwise_map.mpr (List.Pairwise.imp_of_mem (fun {a b} ha hb hne e => hne ?_) (List.pairwise_map.mp nd))
        refine hne' a.1 ?_ b.1 ?_ e
        · rw [← kt_keys ro]; exact List.mem_map_of_mem ha
        · rw [← kt_keys ro]; exact List.mem_map_of_mem hb
  refine call_update_dictH (knd := tupleKind (mixKind X.prog X.w)) (tupleKind_room_in1 (by omega)) hdo so dd dO hx (by rw [← l1, ← l2, sizeLine_eq]; omega) fun h' hd' ho' hs' => ?_
  have hl : (mergeT kvs more).length ≤ sizeLine := by
    have := mergeT_len more kvs
    rw [sizeLine_eq]
    omega
  have kt : KT (upd H d (.dT (mergeT kvs more))) (mergeT kvs more) (storedAllH xs ys) := (KT.merge ro rd).keeps fun b zs hb => by rw [upd_ne (fun e => by rw [e, hd] at hb; cases hb)]; exact hb
  obtain ⟨o', es, ep, d1, d2, d3, d4, d5, d6⟩ := hd'
  exact ⟨.non, upd H d (.dT (mergeT kvs more)), d_write (t' := s.toks) I (by rw [hd]; exact True.intro) hs' ⟨o', d1⟩ (show ObjOk X.prog X.w _ _ _ (.dT (mergeT kvs more)) from ⟨hl, sd, storedAllH xs ys, kt, o', es, ep, d1, d2, d3, d4, d6⟩), rfl, q⟩
/-- the pairs: where the pair stands, where its key stands, the key, the value -/
abbrev DPs := List (Addr × Addr × List L2.Key × V)
def putAll (kvs : List (List L2.Key × V)) (L : DPs) : List (List L2.Key × V) := L.foldl (fun acc x => putK acc x.2.2.1 x.2.2.2) kvs
theorem putK_len' {κ : Type} [DecidableEq κ] (kvs : List (κ × V)) (k : κ) (v : V) : (putK kvs k v).length ≤ kvs.length + 1 := by
  unfold putK
  split
  · rw [List.length_map]; omega
  · rw [List.length_append, List.length_singleton]; exact Nat.le_refl _
theorem putAll_len : ∀ (L : DPs) (kvs : List (List L2.Key × V)), (putAll kvs L).length ≤ kvs.length + L.length
  | [], kvs => Nat.le_refl _
  | x :: L, kvs => by
    have h1 := putAll_len L (putK kvs x.2.2.1 x.2.2.2)
    have h2 := putK_len' kvs x.2.2.1 x.2.2.2
    show (putAll (putK kvs x.2.2.1 x.2.2.2) L).length ≤ _
    rw [List.length_cons]
    omega
def rDictP (K : PySem.W.Frag) : List V → Hp → VK → Prop := fun vs H Q => ∃ (a : Addr) (L : DPs), vs = [V.ref a] ∧ SqL K H a (L.map fun x => V.ref x.1) ∧ (∀ x ∈ L, H x.1 = some (.tup [.ref x.2.1, x.2.2.2]) ∧ H x.2.1 = some (.tup (x.2.2.1.map kV))) ∧ L.length ≤ 1000 ∧
  ∀ D, H D = none → Q (.ref D) (upd H D (.dT (putAll [] L)))
section
variable {X : Cx} {pins : List (Addr × Obj)} {σ : L2.St} {H : Hp} {s : Shared}
abbrev PrR (h : Heap) (x : Addr × Addr × List L2.Key × V) (p : List L2.Key × Addr × Value) : Prop := p.1 = x.2.2.1 ∧ p.2.1 = x.2.1 ∧ RelV x.2.2.2 p.2.2 ∧ h.IsTuple x.1 #[.ref p.2.1, p.2.2]
theorem pairsT_of (I : Inv X pins σ H s) : ∀ {L : DPs}, (∀ x ∈ L, H x.1 = some (.tup [.ref x.2.1, x.2.2.2])) → ∃ ps : List (List L2.Key × Addr × Value), Paired (PrR s.heap) L ps
  | [], _ => ⟨[], .nil⟩
  | x :: L, h => by
    obtain ⟨ps, hp⟩ := pairsT_of I fun y hy => h y (List.mem_cons_of_mem _ hy)
    obtain ⟨_, its, r, o, h1, h2, n, h3⟩ := (show ObjOk X.prog X.w H s.heap x.1 (.tup [.ref x.2.1, x.2.2.2]) from I.hok _ _ (h x List.mem_cons_self))
    obtain ⟨u, y, ei, ru, ry⟩ := vals2 r
    subst ei
    cases ru
    exact ⟨(x.2.2.1, x.2.1, y) :: ps, .cons ⟨rfl, rfl, ry, o, h1, h2, n, h3⟩ hp⟩
theorem KT.all {H : Hp} {h : Heap} : ∀ {L : DPs} {ps : List (List L2.Key × Addr × Value)} {kvs : List (List L2.Key × V)} {xs : List (List L2.Key × Addr × Value)}, Paired (PrR h) L ps → (∀ x ∈ L, H x.2.1 = some (.tup (x.2.2.1.map kV))) → KT H kvs xs → KT H (putAll kvs L) (storedAllH xs ps)
  | _, _, _, _, .nil, _, r => r
  | _, _, _, _, @Paired.cons _ _ _ x p L ps hx t, hk, r => by
    obtain ⟨e1, e2, e3, _⟩ := hx
    have h1 := KT.put r x.2.2.1 (hk x List.mem_cons_self) e3
    have h2 := KT.all t (fun y hy => hk y (List.mem_cons_of_mem _ hy)) h1
    show KT H (putAll (putK _ x.2.2.1 x.2.2.2) L) (storedAllH (storedH _ p.1 p.2.1 p.2.2) ps)
    rw [e1, e2]
    exact h2
theorem cr_dictP (hc : X.calm = true) (hu : X.A.units + 16 < cLine) : CallR X (.type "dict") (rDictP X.K) := by
  intro pins s σ H vs us Q I r h
  obtain ⟨a, L, rfl, ha, hL, hlen, q⟩ := h
  rw [Vals.ref1 r]
  obtain ⟨its, rv, pl, hz⟩ := I.list ha
  have ei : its = L.map fun x => Value.ref x.1 := by
    have : (L.map fun x => V.ref x.1) = (L.map fun x => x.1).map V.ref := by rw [List.map_map]; rfl
    rw [this] at rv
    rw [refs_at rv, List.map_map]
    rfl
  subst ei
  obtain ⟨ps, hp⟩ := pairsT_of I fun x hx => (hL x hx).1
  have hlp : L.length = ps.length := Paired.length hp
  obtain ⟨o, n, ho, hcl, hd, hdat⟩ := pl
  have tsd : ∀ (j : Nat) (p : List L2.Key × Addr × Value), ps[j]? = some p → ∃ x, L[j]? = some x ∧ PrR s.heap x p := fun j p e => by
    have hj := (List.getElem?_eq_some_iff.mp e).1
    obtain ⟨p', e', hx⟩ := paired_get hp (List.getElem?_eq_getElem (by omega : j < L.length))
    rw [e] at e'
    cases e'
    exact ⟨_, List.getElem?_eq_getElem _, hx⟩
  have his : ∀ h' : Heap, (∀ b o, s.heap.get? b = some o → h'.get? b = some o) → ∀ p ∈ ps, (tupleKind (mixKind X.prog X.w)).is h' p.1 p.2.1 := fun h' hk p hp' => by
    obtain ⟨j, hj⟩ := List.mem_iff_getElem?.mp hp'
    obtain ⟨x, hx, e1, e2, _⟩ := tsd j p hj
    have k1 := key_of I.hok (hL x (List.mem_of_getElem? hx)).2
    rw [← e1, ← e2] at k1
    obtain ⟨o1, i1, n1, g1, g2, g3, g4⟩ := k1
    exact ⟨o1, i1, n1, hk _ _ g1, g2, g3, g4⟩
  refine call_dict_pairsH (knd := tupleKind (mixKind X.prog X.w)) (ps := ps) (PairArg.list a (L.map fun x => Value.ref x.1).toArray (fun j => ((L[j]?).map (·.1)).getD 0) (ps.map fun p => (Value.ref p.2.1, p.2.2))) (I.ok.hd hc) (by show X.A.units + 2 < cLine; omega)
    ⟨⟨o, n, ho, hcl, hd, hdat⟩, by simp [hlp], fun j k v e => ?_⟩ ⟨by rw [List.length_map], fun i key v e => ?_⟩ (fun h' hk x hx => his h' (fun b o e => hk b o (Nat.ne_of_lt (Heap.lt_size e)) (by simp) e) x hx) (by rw [List.length_map, ← hlp, sizeLine_eq]; omega) fun h' tk hd' hk => ?_
  · rw [List.getElem?_map] at e
    obtain ⟨p, hp2, e⟩ := Option.map_eq_some_iff.mp e
    obtain ⟨x, hx, e1, e2, e3, e4⟩ := tsd j p hp2
    cases e
    have et : ((L[j]?).map (·.1)).getD 0 = x.1 := by rw [hx]; rfl
    refine ⟨?_, .inl ?_⟩
    · show _ = some (Value.ref (((L[j]?).map (·.1)).getD 0))
      rw [et]
      simp [hx]
    · show s.heap.IsTuple (((L[j]?).map (·.1)).getD 0) _
      rw [et]
      exact e4
  · have e : (ps.map fun p => (Value.ref p.2.1, p.2.2))[i]? = some (key, v) := e
    rw [List.getElem?_map] at e
    obtain ⟨p, hp2, e⟩ := Option.map_eq_some_iff.mp e
    cases e
    exact ⟨p.1, p.2.1, hp2, rfl⟩
  · have hm : (s.heap.objs.size == sysModules) = false := beq_eq_false_iff_ne.mpr (Nat.ne_of_gt I.big)
    have hn := I.hok.fresh (Nat.le_refl s.heap.objs.size)
    have hlen2 : (putAll [] L).length ≤ sizeLine := by
      have h1 := putAll_len L []
      rw [List.length_nil] at h1
      rw [sizeLine_eq]
      omega
    have kt : KT (upd H s.heap.objs.size (.dT (putAll [] L))) (putAll [] L) (storedAllH [] ps) := (KT.all hp (fun x hx => (hL x hx).2) .nil).keeps fun b ys hb => by rw [upd_ne (ne_of_none hb hn)]; exact hb
    obtain ⟨o', es, ep, d1, d2, d3, d4, d5, d6⟩ := hd'
    exact ⟨.ref s.heap.objs.size, upd H s.heap.objs.size (.dT (putAll [] L)), I.laid (t' := tk) (fun b o e => hk b o (by simp) e) (Nat.le_refl _) (show ObjOk X.prog X.w _ _ _ (.dT (putAll [] L)) from ⟨hlen2, hm, storedAllH [] ps, kt, o', es, ep, d1, d2, d3, d4, d6⟩), rfl, q _ hn⟩
end
/-! what keys there are -/
theorem mem_putK {κ : Type} [DecidableEq κ] {kvs : List (κ × V)} {k x : κ} {v : V} : x ∈ (putK kvs k v).map (·.1) ↔ x = k ∨ x ∈ kvs.map (·.1) := by
  unfold putK
  split
  · rename_i h
    obtain ⟨kv, hm, e⟩ := List.any_eq_true.mp h
    have e := of_decide_eq_true e
    have e2 : (kvs.map fun kv => if kv.1 = k then (kv.1, v) else kv).map (·.1) = kvs.map (·.1) := by
      rw [List.map_map]
      refine List.map_congr_left fun y _ => ?_
      show (if y.1 = k then (y.1, v) else y).1 = y.1
      split <;> rfl
    rw [e2]
    exact ⟨.inr, fun z => z.elim (fun z => by rw [z, ← e]; exact List.mem_map_of_mem hm) id⟩
  · rw [List.map_append, List.mem_append]
    show x ∈ _ ∨ x ∈ [k] ↔ _
    rw [List.mem_singleton]
    exact ⟨fun z => z.elim .inr .inl, fun z => z.elim .inr .inl⟩
theorem mem_mergeT : ∀ {more kvs : List (List L2.Key × V)} {x : List L2.Key}, x ∈ (mergeT kvs more).map (·.1) ↔ x ∈ kvs.map (·.1) ∨ x ∈ more.map (·.1)
  | [], kvs, x => by
    show x ∈ kvs.map (·.1) ↔ _
    simp
  | y :: r, kvs, x => by
    have h := mem_mergeT (more := r) (kvs := putK kvs y.1 y.2) (x := x)
    show x ∈ (mergeT (putK kvs y.1 y.2) r).map (·.1) ↔ _
    rw [h, mem_putK, List.map_cons, List.mem_cons]
    constructor
    · rintro ((h | h) | h)
      · exact .inr (.inl h)
      · exact .inl h
      · exact .inr (.inr h)
    · rintro (h | h | h)
      · exact .inl (.inr h)
      · exact .inl (.inl h)
      · exact .inr h
theorem mem_putAll : ∀ {L : DPs} {kvs : List (List L2.Key × V)} {x : List L2.Key}, x ∈ (putAll kvs L).map (·.1) ↔ x ∈ kvs.map (·.1) ∨ x ∈ L.map (·.2.2.1)
  | [], kvs, x => by
    show x ∈ kvs.map (·.1) ↔ _
    simp
  | y :: r, kvs, x => by
    have h := mem_putAll (L := r) (kvs := putK kvs y.2.2.1 y.2.2.2) (x := x)
    show x ∈ (putAll (putK kvs y.2.2.1 y.2.2.2) r).map (·.1) ↔ _
    rw [h, mem_putK, List.map_cons, List.mem_cons]
    constructor
    · rintro ((h | h) | h)
      · exact .inr (.inl h)
      · exact .inl h
      · exact .inr (.inr h)
    · rintro (h | h | h)
      · exact .inl (.inr h)
      · exact .inl (.inl h)
      · exact .inr h
end Om

/-! the law: _law_paced, its mathematics -/
namespace Om
open PySem PySem.Spec PyProof.Rows L2 LamX Gk
/-- the state behind a pace ahead (side 0) or along the shore -/
def nxA (rows : List (List Nat)) (s : ST) : Option ST := if aheadS rows s = 126 then none else some (paceS s)
def nxL (rows : List (List Nat)) (side : Int) (s : ST) : Option ST := if aheadS rows (lookF rows side s) = 126 then none else some (paceS (lookF rows side s))
def nxF (rows : List (List Nat)) (side : Int) (s : ST) : Option ST := if 0 < side then nxL rows side s else nxA rows s
def pthF (nx : ST → Option ST) : Nat → ST → List ST
  | 0, s => [s]
  | n + 1, s => match nx s with
    | none => [s]
    | some r => s :: pthF nx n r
theorem pth_pa (rows : List (List Nat)) : ∀ (n : Nat) (s : ST), pthF (nxA rows) n s = paF rows n s
  | 0, _ => rfl
  | n + 1, s => by
    unfold pthF paF nxA
    by_cases h : aheadS rows s = 126
    · rw [if_pos h, if_pos h]
    · rw [if_neg h, if_neg h]
      exact congrArg (s :: ·) (pth_pa rows n (paceS s))
theorem pth_pl (rows : List (List Nat)) (side : Int) : ∀ (n : Nat) (s : ST), pthF (nxL rows side) n s = plF rows side n s
  | 0, _ => rfl
  | n + 1, s => by
    unfold pthF plF nxL
    by_cases h : aheadS rows (lookF rows side s) = 126
    · rw [if_pos h, if_pos h]
    · rw [if_neg h, if_neg h]
      exact congrArg (s :: ·) (pth_pl rows side n (paceS (lookF rows side s)))
theorem nxA_lt {rows : List (List Nat)} {s r : ST} (h : s.2 < 4) (e : nxA rows s = some r) : r.2 < 4 := by
  unfold nxA at e
  split at e
  · cases e
  · rw [← Option.some.inj e]; exact h
theorem nxL_lt {rows : List (List Nat)} {side : Int} {s r : ST} (h : s.2 < 4) (e : nxL rows side s = some r) : r.2 < 4 := by
  unfold nxL at e
  split at e
  · cases e
  · rw [← Option.some.inj e]; exact lookF_lt rows side h
theorem nxF_lt {rows : List (List Nat)} {side : Int} {s r : ST} (h : s.2 < 4) (e : nxF rows side s = some r) : r.2 < 4 := by
  unfold nxF at e
  split at e
  · exact nxL_lt h e
  · exact nxA_lt h e
theorem pthF_len (nx : ST → Option ST) : ∀ (n : Nat) (s : ST), (pthF nx n s).length ≤ n + 1
  | 0, _ => Nat.le_refl _
  | n + 1, s => by
    unfold pthF
    split
    · show 1 ≤ _; omega
    · rename_i r _
      rw [List.length_cons]
      have := pthF_len nx n r
      omega
/-- a fewer: the head of the longer -/
theorem pthF_take (nx : ST → Option ST) : ∀ (m n : Nat) (s : ST), m ≤ n → (pthF nx n s).take (m + 1) = pthF nx m s
  | 0, 0, _, _ => rfl
  | 0, n + 1, s, _ => by
    unfold pthF
    split <;> rfl
  | m + 1, 0, _, h => absurd h (by omega)
  | m + 1, n + 1, s, h => by
    unfold pthF
    cases nx s with
    | none => rfl
    | some r =>
      show s :: (pthF nx n r).take (m + 1) = _
      rw [pthF_take nx m n r (by omega)]
/-- the rest of a way, i paces on -/
def restF (nx : ST → Option ST) (most i : Nat) (r : ST) : List ST := if i ≤ most then pthF nx (most - i) r else []
theorem restF_none {nx : ST → Option ST} {most i : Nat} {r : ST} (hi : i ≤ most) (h : nx r = none) : restF nx most i r = [r] := by
  unfold restF
  rw [if_pos hi]
  cases most - i with
  | zero => rfl
  | succ n => unfold pthF; rw [h]
theorem restF_some {nx : ST → Option ST} {most i : Nat} {r r' : ST} (hi : i ≤ most) (h : nx r = some r') : restF nx most i r = r :: restF nx most (i + 1) r' := by
  unfold restF
  rw [if_pos hi]
  by_cases h2 : i + 1 ≤ most
  · rw [if_pos h2]
    have e : most - i = (most - (i + 1)) + 1 := by omega
    rw [e]
    conv => lhs; unfold pthF
    rw [h]
  · rw [if_neg h2]
    have e : most - i = 0 := by omega
    rw [e]
    rfl
theorem drop_one {α : Type} (pre : List α) (r x : α) (a : Nat) : x ∈ (pre ++ [r]).drop a ↔ x ∈ pre.drop a ∨ (a ≤ pre.length ∧ x = r) := by
  by_cases h : a ≤ pre.length
  · rw [List.drop_append_of_le_length h, List.mem_append, List.mem_singleton]
    exact or_congr Iff.rfl ⟨fun e => ⟨h, e⟩, fun e => e.2⟩
  · rw [List.drop_eq_nil_of_le (by rw [List.length_append, List.length_singleton]; omega), List.drop_eq_nil_of_le (as := pre) (by omega)]
    refine ⟨fun z => absurd z List.not_mem_nil, fun z => ?_⟩
    rcases z with z | z
    · exact z
    · exact absurd z.1 h
/-- a dict from states -/
def DKeys (kvs : List (List L2.Key × V)) (ks : List ST) : Prop := kvs.map (·.1) = ks.map kS
theorem dk_mem {kvs : List (List L2.Key × V)} {ks : List ST} (h : DKeys kvs ks) (s : ST) : kS s ∈ kvs.map (·.1) ↔ s ∈ ks := by
  rw [h]
  exact ⟨fun z => by obtain ⟨r, hr, e⟩ := List.mem_map.mp z; rw [← kS_inj e]; exact hr, fun z => List.mem_map_of_mem z⟩
theorem valV_none_iff {κ : Type} [DecidableEq κ] {kvs : List (κ × V)} {k : κ} : valV kvs k = none ↔ k ∉ kvs.map (·.1) := by
  unfold valV
  rw [Option.map_eq_none_iff, List.find?_eq_none]
  constructor
  · intro h z
    obtain ⟨x, hx, e⟩ := List.mem_map.mp z
    exact h x hx (decide_eq_true e)
  · intro h x hx z
    exact h (List.mem_map.mpr ⟨x, hx, of_decide_eq_true z⟩)
theorem dk_put {kvs : List (List L2.Key × V)} {ks : List ST} (h : DKeys kvs ks) {s : ST} {v : V} (hs : s ∉ ks) : DKeys (putK kvs (kS s) v) (ks ++ [s]) := by
  unfold DKeys putK
  rw [if_neg, List.map_append, List.map_append, h]
  · rfl
  · rw [List.any_eq_true]
    rintro ⟨x, hx, e⟩
    exact hs ((dk_mem h s).mp (List.mem_map.mpr ⟨x, hx, of_decide_eq_true e⟩))
end Om

/-! the law: _law_paced -/
namespace Om
open PySem PySem.Spec PyProof.Rows L2 LamX Gk
abbrev sLPd : Stmt := top 65
def spLPd (K : PySem.W.Frag) : Sp := fun vs H Q _ => ∃ (ra sa : Addr) (rows : List (List Nat)) (s : ST) (side : Int) (a b : Nat), vs = [.ref ra, .ref sa, .int side, .int (a : Nat), .int (b : Nat)] ∧ SqT K H ra (rows.map vt) ∧ Good2 rows ∧ H sa = some (.tup (stv s)) ∧ s.2 < 4 ∧ b ≤ 100 ∧
  ∀ (D : Addr) (kvs : List (List L2.Key × V)) (ks : List ST) (H' : Hp), H D = none → Same H H' → H' D = some (.dT kvs) → DKeys kvs ks → kvs.length ≤ b + 1 → (∀ x, x ∈ ks ↔ x ∈ (pthF (nxF rows side) b s).drop a) → Q (.ref D) H'
section
variable {P : Program} {w : World} {K : PySem.W.Frag} {mg : Str → Option Value} {base : Heap}
abbrev nLPd : List Str := ["_law_rows_here", "_law_state", "_law_side", "_law_least", "_law_most", "_law_found", "_law_cells_here", "_law_here", "_law_paces", "_law_later"]
theorem scLPd : FnScope nLPd ["_law_rows_here", "_law_state", "_law_side", "_law_least", "_law_most"] (defScope sLPd) := ⟨rfl, rfl, rfl, by decide +kernel, rfl, by decide +kernel, by decide +kernel⟩
theorem ok_lpd {f : Addr} {fd : FuncData} (F : FnP K "_law_paced" "_law_paced" sLPd f fd) (SG : Cal P w K mg base CX0 1 "_law_sign" ["_law_rows_here", "_law_cell"] (spLSign K)) (NX : Cal P w K mg base CX0 1 "_law_next" ["_law_cell", "_law_facing"] (spLNextI K)) (SH : Cal P w K mg base CX0 2 "_law_shore" ["_law_rows_here", "_law_state", "_law_side"] (spLSh K)) (grange : mg "range" = none) (glist : mg "list" = none) : FnOk P w K mg base CX0 3 f fd ["_law_rows_here", "_law_state", "_law_side", "_law_least", "_law_most"] (spLPd K) := by
  refine F.ok scLPd (fun vs H Q E h => ?_) (fun cdv A outer s H vs Q E hr h => ?_)
  · obtain ⟨ra, sa, rows, s, side, a, b, rfl, _⟩ := h
    rfl
  · obtain ⟨ra, sa, rows, s0, side, a, b, rfl, hS, g, hs, hf, hb, k⟩ := h
    have nd := scLPd.nd
    have hr1 : Room 1 _ := hr.mono (by decide)
    have hr2 : Room 2 _ := hr.mono (by decide)
    have hu := hr.units
    have hu1 : _ + 1 < cLine := Nat.lt_of_le_of_lt (Nat.add_le_add_left (show 1 ≤ 64 by decide) _) hu
    refine ⟨_, PSs.nox (pss_cons (ps_par3 (i := 5) (j := 6) (l := 7) rfl nd rfl rfl rfl (by decide) (by decide) (by decide) rfl rfl rfl (pa_cons pe_dnewT (pa_cons (pe_lst pa_nil) (pa_cons (pv 1) pa_nil))) (by rfl))
      (pss_cons (ps_for PassesOwn.never rfl (pi_range1 rfl grange (pa_cons (pe_op op_add (pv 4) pe_int) pa_nil)) (pg_name (i := 8) nd rfl (.inl rfl))
        (pss_cons (ps_if (PW.pt (pw_and (pt_cmpR op_ge (pv 8) (pv 3) (nomark _)) (pw_and1 (pt_cmp (pc_dnotin hu1 (pv 7) (pv 5)) (by with_unfolding_all rfl)))))
          (pss_one (ps_dput hu1 (pv 5) (pv 7) (pe_callTy call_list_of (by rfl) glist (by decide +kernel) (pa_cons (pv 6) pa_nil)) rfl)) pss_nil)
        (pss_cons (ps_if (pt_cmpR op_gt (pv 2) pe_int (nomark _))
          (pss_one (ps_set (i := 7) nd rfl (.inl rfl) (pe_cal SH hr2 pass0 (pa_cons (pv 0) (pa_cons (pv 7) (pa_cons (pv 2) pa_nil))))))
          (pss_cons (ps_set (i := 9) nd rfl (.inl rfl) (pe_cal NX hr1 pass0 (pa_cons (pe_slice sl_tup (pv 7) po_none (po_some pe_int)) (pa_cons (pe_ix ix_tup (pv 7) pe_int (fun _ _ => rfl)) pa_nil))))
          (pss_one (ps_set (i := 7) nd rfl (.inl rfl) (pe_ifExp (pt_cmpR op_eq (pe_cal SG hr1 pass0 (pa_cons (pv 0) (pa_cons (pv 9) pa_nil))) pe_str (nomark _)) pe_non (pe_op op_catA (pv 9) (pe_tup (pa_cons (pe_ix ix_tup (pv 7) pe_int (fun _ _ => rfl)) pa_nil))))))))
        (pss_cons (ps_if (pt_cmpR op_isN (pv 7) pe_non (nomark _)) (pss_one (ps_ret (pv 5))) pss_nil)
        (pss_one (ps_expr (pe_bm PySem.F.plainAttrs_list PySem.F.slot_list_append PySem.F.type_list_append mt_append (pv 6) (pa_cons (pe_slice sl_tup (pv 7) po_none (po_some pe_int)) pa_nil))))))))
      (pss_one (ps_ret (pv 5))))), ?_⟩
    refine fun D hD0 => ⟨by show 0 ≤ sizeLine; decide, fun C hC0 => ⟨_, rfl, _, _, _, rfl, ?_⟩⟩
    have sD := Same.new (Same.refl H) hD0 (o := .dT [])
    have eD : (upd H D (.dT [])) D = some (.dT []) := upd_same
    generalize upd H D (.dT []) = H1 at sD eD hC0 ⊢
    have hC0' := Same.none sD hC0
    have sC := sD.trans (Same.new (Same.refl H1) hC0 (o := .lst []))
    have eC : (upd H1 C (.lst [])) C = some (.lst []) := upd_same
    have eD2 : (upd H1 C (.lst [])) D = some (.dT []) := by rw [upd_ne (ne_of_none eD hC0)]; exact eD
    generalize upd H1 C (.lst []) = H2 at sC eC eD2 ⊢
    have ebn : ((b : Nat) : Int) + 1 = ((b + 1 : Nat) : Int) := by omega
    refine ⟨_, rfl, _, _, rfl, rfl, _, rfl, by omega, by omega, for_range (lo := 0) (n := (((b : Nat) : Int) + 1).toNat) (fun i σ H' => ∃ (pre : List ST) (r : ST) (p : Addr) (kvs : List (List L2.Key × V)) (ks : List ST) (xs : List V) (v8 v9 : Option V),
        σ = [some (.ref ra), some (.ref sa), some (.int side), some (.int (a : Nat)), some (.int (b : Nat)), some (.ref D), some (.ref C), some (.ref p), v8, v9] ∧ Same H H' ∧ H' D = some (.dT kvs) ∧ H' C = some (.lst xs) ∧ xs.length ≤ i ∧ H' p = some (.tup (stv r)) ∧ r.2 < 4 ∧
        DKeys kvs ks ∧ kvs.length ≤ i ∧ (∀ x, x ∈ ks ↔ x ∈ pre.drop a) ∧ pre.length = i ∧ pthF (nxF rows side) b s0 = pre ++ restF (nxF rows side) b i r)
      ⟨[], s0, sa, [], [], [], none, none, rfl, sC, eD2, eC, Nat.le_refl _, sC _ _ hs, hf, rfl, Nat.le_refl _, (fun x => by rw [List.drop_nil]), rfl, ?_⟩ ?_ ?_⟩
    · unfold restF
      rw [if_pos (Nat.zero_le _), Nat.sub_zero]
      rfl
    · rintro i σ H4 hi ⟨pre, r, p, kvs, ks, xs, v8, v9, rfl, s4, hD4, hC4, hxl, hp4, hr4, hk, hkl, hm, hpl, hpath⟩
      have hi : i < b + 1 := by
        have : i < (((b : Nat) : Int) + 1).toNat := hi
        omega
      rw [show (0 : Int) + (i : Nat) = (i : Nat) from Int.zero_add _]
      refine ⟨_, rfl, _, rfl, _, _, rfl, rfl, _, rfl, ?_⟩
      have noD : ∀ {q : Addr} {o : HO}, H4 q = some o → (∀ kv, o ≠ .dT kv) → q ≠ D := fun h1 h2 e => by
        rw [e, hD4] at h1
        exact h2 _ (Option.some.inj h1).symm
      have hx5 : xs.length ≤ 101 := by omega
      rcases Classical.em (a ≤ i) with c1 | c1
      case' inr =>
        have hm5 : ∀ x, x ∈ ks ↔ x ∈ (pre ++ [r]).drop a := fun x => by rw [drop_one, hm x]; exact ⟨.inl, fun z => z.elim id fun z => absurd z.1 (by omega)⟩
        have hkl5 : kvs.length ≤ i + 1 := by omega
        refine iteF' (decide_eq_false (by omega)) (iteF' rfl ?leaf)
      case' inl =>
        rcases Classical.em (r ∈ ks) with c2 | c2
        case' inl =>
          have hm5 : ∀ x, x ∈ ks ↔ x ∈ (pre ++ [r]).drop a := fun x => by rw [drop_one, hm x]; exact ⟨.inl, fun z => z.elim id fun z => by rw [z.2]; exact (hm r).mp c2⟩
          have hkl5 : kvs.length ≤ i + 1 := by omega
          refine iteT' (decide_eq_true (by omega)) ⟨_, rfl, _, rfl, D, _, rfl, DGet.t (k := kS r) hD4 hp4, _, rfl, ?_⟩
          obtain ⟨v, hv⟩ : ∃ v, valV kvs (kS r) = some v := by
            cases hv : valV kvs (kS r) with
            | none => exact absurd ((dk_mem hk r).mpr c2) (valV_none_iff.mp hv)
            | some v => exact ⟨v, rfl⟩
          rw [hv]
          refine iteF' rfl ?leaf2
        case' inr =>
          refine iteT' (decide_eq_true (by omega)) ⟨_, rfl, _, rfl, D, _, rfl, DGet.t (k := kS r) hD4 hp4, _, rfl, ?_⟩
          rw [valV_none_iff.mpr fun z => c2 ((dk_mem hk r).mp z)]
          refine iteT' rfl ⟨_, rfl, C, _, rfl, .inl (.inl (.inl hC4)), fun l hl => ?_⟩
          have s6 := Same.new (Same.refl H4) hl (o := .lst xs)
          have hD6 := s6 _ _ hD4
          have hC6 := s6 _ _ hC4
          have hp6 := s6 _ _ hp4
          have s06 := s4.trans s6
          refine ⟨_, rfl, _, rfl, D, _, rfl, DPut.t (k := kS r) hD6 hp6 (Nat.lt_of_le_of_lt (show _ ≤ 101 by omega) (by decide)), ?_⟩
          generalize upd H4 l (.lst xs) = H6 at s6 hD6 hC6 hp6 s06 ⊢
          have s7 : Same H (upd H6 D (.dT (putK kvs (kS r) (.ref l)))) := Same.updN s06 hD0
          have hD7 : (upd H6 D (.dT (putK kvs (kS r) (.ref l)))) D = some (.dT (putK kvs (kS r) (.ref l))) := upd_same
          have hC7 : (upd H6 D (.dT (putK kvs (kS r) (.ref l)))) C = some (.lst xs) := by rw [upd_ne (ne_of hC6 hD6 fun e => by cases e)]; exact hC6
          have hp7 : (upd H6 D (.dT (putK kvs (kS r) (.ref l)))) p = some (.tup (stv r)) := by rw [upd_ne (ne_of hp6 hD6 fun e => by cases e)]; exact hp6
          have hk7 := dk_put hk (v := .ref l) c2
          have hkl5 : (putK kvs (kS r) (.ref l)).length ≤ i + 1 := by
            have := length_putK kvs (kS r) (.ref l)
            omega
          have hm5 : ∀ x, x ∈ ks ++ [r] ↔ x ∈ (pre ++ [r]).drop a := fun x => by
            rw [drop_one, List.mem_append, List.mem_singleton, hm x]
            exact or_congr Iff.rfl ⟨fun e => ⟨by omega, e⟩, fun e => e.2⟩
          clear s4 hD4 hC4 hp4 hk
          have s4 := s7
          have hD4 := hD7
          have hC4 := hC7
          have hp4 := hp7
          have hk := hk7
          refine ?leaf3
      all_goals
        have stop : nxF rows side r = none → pthF (nxF rows side) b s0 = pre ++ [r] := fun hn => by rw [hpath, restF_none (by omega) hn]
        have go : ∀ r', nxF rows side r = some r' → pthF (nxF rows side) b s0 = (pre ++ [r]) ++ restF (nxF rows side) b (i + 1) r' := fun r' hn => by rw [hpath, restF_some (by omega) hn, List.append_assoc]; rfl
        refine ⟨_, rfl, _, _, rfl, rfl, _, rfl, ?_⟩
        by_cases c3 : 0 < side
        · refine iteT' (decide_eq_true c3) ?_
          refine ⟨_, rfl, _, rfl, _, rfl, ra, p, rows, r, side, rfl, Same.tup s4 hS, g, hp4, hr4, fun h126 H6 s6 => ?_, fun hne H6 q s6 hq => ?_⟩
          · refine ⟨_, rfl, rfl, _, rfl, iteT' rfl ⟨_, rfl, k D _ _ H6 hD0 (s4.trans s6) (s6 _ _ hD4) hk (by omega) fun x => ?_⟩⟩
            rw [stop (by unfold nxF nxL; rw [if_pos c3, if_pos h126])]
            exact hm5 x
          · refine ⟨_, rfl, rfl, _, rfl, iteF' rfl ?_⟩
            have hnx : nxF rows side r = some (paceS (lookF rows side r)) := by
              unfold nxF nxL
              rw [if_pos c3, if_neg hne]
            generalize paceS (lookF rows side r) = r' at hq hnx
            have hr5 := nxF_lt hr4 hnx
            have hC6 := s6 _ _ hC4
            refine ⟨_, rfl, .inl ⟨rfl, _, .inl (.inl hC6)⟩, _, rfl, noPart ⟨_, rfl, q, stv r', rfl, .inl (.inl hq), by show ¬ (HT.sIx 3 0 none = 0 ∧ HT.sIx 3 3 (some 2) = 3); decide, fun z hz => nilArgs ?_⟩⟩
            have s8 := Same.new (Same.refl H6) hz (o := .tup (cutV (stv r') none (some 2)))
            have hC8 := s8 _ _ hC6
            refine ⟨C, _, _, rfl, rfl, hC8, Nat.lt_of_le_of_lt (show _ ≤ 102 by omega) (by decide), ?_⟩
            refine ⟨pre ++ [r], r', q, _, _, _, _, _, rfl, Same.updN ((s4.trans s6).trans s8) hC0', ?_, upd_same, ?_, ?_, hr5, hk, hkl5, hm5, ?_, go r' hnx⟩
            · rw [upd_ne (ne_of ((s6.trans s8) _ _ hD4) hC8 fun e => by cases e)]
              exact (s6.trans s8) _ _ hD4
            · rw [List.length_append, List.length_singleton]; omega
            · rw [upd_ne (ne_of (s8 _ _ hq) hC8 fun e => by cases e)]
              exact s8 _ _ hq
            · rw [List.length_append, List.length_singleton, hpl]
        · refine iteF' (decide_eq_false c3) ?_
          refine ⟨_, rfl, noPart ⟨_, rfl, p, stv r, rfl, .inl (.inl hp4), by show ¬ (HT.sIx 3 0 none = 0 ∧ HT.sIx 3 3 (some 2) = 3); decide, fun z hz => ?_⟩⟩
          have ecut : cutV (stv r) none (some 2) = icv r.1 := cutV_upto (stv r) 2
          rw [ecut]
          have f1 := Same.new (Same.refl _) hz (o := .tup (icv r.1))
          have ef : (((r.2 : Nat) : Int) % 4).toNat = r.2 := by omega
          refine ⟨_, rfl, p, _, 2, _, rfl, rfl, .inl (.inl (f1 _ _ hp4)), rfl, z, r.1, ((r.2 : Nat) : Int), rfl, .inl (.inl upd_same), fun H6 s6 q hq => ?_⟩
          rw [ef]
          have s7 := (f1.trans s6).trans (Same.new (Same.refl H6) hq (o := .tup (icv (adjI r.1 r.2))))
          have e7 : (upd H6 q (.tup (icv (adjI r.1 r.2)))) q = some (.tup (icv (adjI r.1 r.2))) := upd_same
          generalize upd H6 q (.tup (icv (adjI r.1 r.2))) = H7 at s7 e7 ⊢
          refine ⟨_, rfl, _, rfl, ra, q, rows, adjI r.1 r.2, rfl, Same.tup (s4.trans s7) hS, g, .inl (.inl e7), rfl, _, rfl, ?_⟩
          have eA : sgW rows (adjI r.1 r.2) = aheadS rows r := rfl
          rw [eA, sg_dec2]
          by_cases hw : aheadS rows r = 126
          · refine iteT' (decide_eq_true hw) ⟨_, rfl, rfl, _, rfl, iteT' rfl ⟨_, rfl, k D _ _ H7 hD0 (s4.trans s7) (s7 _ _ hD4) hk (by omega) fun x => ?_⟩⟩
            rw [stop (by unfold nxF nxA; rw [if_neg c3, if_pos hw])]
            exact hm5 x
          · have hnx : nxF rows side r = some (paceS r) := by
              unfold nxF nxA
              rw [if_neg c3, if_neg hw]
            refine iteF' (decide_eq_false hw) ⟨_, rfl, _, rfl, p, _, 2, _, rfl, rfl, .inl (.inl (s7 _ _ hp4)), rfl, by show 1 ≤ sizeLine; decide, fun y hy => ?_⟩
            have s8 := s7.trans (Same.new (Same.refl H7) hy (o := .tup [.int ((r.2 : Nat) : Int)]))
            have f8 := Same.new (Same.refl H7) hy (o := .tup [.int ((r.2 : Nat) : Int)])
            refine ⟨q, y, _, _, rfl, rfl, .inl (.inl (f8 _ _ e7)), .inl (.inl upd_same), by show 3 ≤ sizeLine; decide, (fun z => by cases z), (fun _ z => by cases z), fun _ _ x hx => ?_⟩
            have s9 := s8.trans (Same.new (Same.refl _) hx (o := .tup (stv (paceS r))))
            have e9 : (upd (upd H7 y (.tup [.int ((r.2 : Nat) : Int)])) x (.tup (icv (adjI r.1 r.2) ++ [.int ((r.2 : Nat) : Int)]))) x = some (.tup (stv (paceS r))) := upd_same
            have s9 : Same _ (upd (upd H7 y (.tup [.int ((r.2 : Nat) : Int)])) x (.tup (icv (adjI r.1 r.2) ++ [.int ((r.2 : Nat) : Int)]))) := s9
            generalize upd (upd H7 y (.tup [.int ((r.2 : Nat) : Int)])) x (.tup (icv (adjI r.1 r.2) ++ [.int ((r.2 : Nat) : Int)])) = H9 at s9 e9 ⊢
            refine ⟨_, rfl, rfl, _, rfl, iteF' rfl ?_⟩
            generalize paceS r = r' at e9 hnx
            have hr5 := nxF_lt hr4 hnx
            have hC9 := s9 _ _ hC4
            refine ⟨_, rfl, .inl ⟨rfl, _, .inl (.inl hC9)⟩, _, rfl, noPart ⟨_, rfl, x, stv r', rfl, .inl (.inl e9), by show ¬ (HT.sIx 3 0 none = 0 ∧ HT.sIx 3 3 (some 2) = 3); decide, fun u hu => nilArgs ?_⟩⟩
            have s10 := Same.new (Same.refl H9) hu (o := .tup (cutV (stv r') none (some 2)))
            have hC10 := s10 _ _ hC9
            refine ⟨C, _, _, rfl, rfl, hC10, Nat.lt_of_le_of_lt (show _ ≤ 102 by omega) (by decide), ?_⟩
            refine ⟨pre ++ [r], r', x, _, _, _, _, _, rfl, Same.updN ((s4.trans s9).trans s10) hC0', ?_, upd_same, ?_, ?_, hr5, hk, hkl5, hm5, ?_, go r' hnx⟩
            · rw [upd_ne (ne_of ((s9.trans s10) _ _ hD4) hC10 fun e => by cases e)]
              exact (s9.trans s10) _ _ hD4
            · rw [List.length_append, List.length_singleton]; omega
            · rw [upd_ne (ne_of (s10 _ _ e9) hC10 fun e => by cases e)]
              exact s10 _ _ e9
            · rw [List.length_append, List.length_singleton, hpl]
    · rintro σ H4 ⟨pre, r, p, kvs, ks, xs, v8, v9, rfl, s4, hD4, hC4, hxl, hp4, hr4, hk, hkl, hm, hpl, hpath⟩
      have en : (((b : Nat) : Int) + 1).toNat = b + 1 := by omega
      rw [en] at hkl hpath
      refine ⟨_, rfl, k D kvs ks H4 hD0 s4 hD4 hk hkl fun x => ?_⟩
      have e : restF (nxF rows side) b (b + 1) r = [] := by
        unfold restF
        rw [if_neg (by omega)]
      rw [hpath, e, List.append_nil]
      exact hm x
end
end Om

/-! the law: what _law_lead rests on -/
namespace Om
open PySem PySem.Spec PyProof.Rows L2 LamX Gk
theorem cut1 (x : V) (ws : List V) : cutV (x :: ws) (some 1) none = ws := by
  unfold cutV
  rw [show (1 : Int) = ((1 : Nat) : Int) from rfl, HT.sIx_nat, HT.sIx_none]
  have e : min 1 (x :: ws).length = 1 := by rw [List.length_cons]; omega
  rw [e]
  show ws.take _ = ws
  exact List.take_of_length_le (by rw [List.length_cons]; omega)
theorem cut1_not (x : V) (ws : List V) : ¬ (HT.sIx (x :: ws).length 0 (some 1) = 0 ∧ HT.sIx (x :: ws).length (x :: ws).length none = (x :: ws).length) := by
  rw [show (1 : Int) = ((1 : Nat) : Int) from rfl, HT.sIx_nat]
  intro h
  have := h.1
  rw [List.length_cons] at this
  omega
def VI.wl : VI → Prop
  | .toward s => 126 ∉ s
  | .near _ m => m ≤ 22
  | .shore d _ _ => 0 < d
  | _ => True
theorem ascS_sub {t l : List Nat} (h : ascS t l = true) : ∀ c ∈ t, c ∈ l := fun c hc => by
  unfold ascS at h
  rw [Bool.and_eq_true, decide_eq_true_eq] at h
  rw [h.2] at hc
  exact (List.mem_filter.mp hc).1
theorem lands_126 : 126 ∉ lands := by decide
/-- what is accepted, told with what the law wants besides -/
theorem vi_of2 {i : Ins} (h : i.ok = true) : ∃ v : VI, v.ins = i ∧ v.wf ∧ v.wl := by
  obtain ⟨v, e, hv⟩ := vi_of h
  refine ⟨v, e, hv, ?_⟩
  cases v with
  | toward s =>
    rw [← e] at h
    have h : ascS s lands = true := h
    exact fun z => lands_126 (ascS_sub h _ z)
  | near s m =>
    rw [← e] at h
    have h : (ascS s alls && inN (nmN m) 0 22) = true := h
    rw [Bool.and_eq_true] at h
    obtain ⟨n, e2, h2⟩ := nm_of h.2 (Int.le_refl 0)
    have e3 : (m : Int) = (n : Int) := Nm.i.inj e2
    show m ≤ 22
    omega
  | shore d a b =>
    rw [← e] at h
    have h : (side (nmN d) && paces (nmN a) (nmN b)) = true := h
    rw [Bool.and_eq_true] at h
    have h1 := h.1
    unfold side at h1
    rw [Bool.and_eq_true] at h1
    have h2 : inR (d : Int) 1 3 = true := h1.1
    unfold inR at h2
    rw [Bool.and_eq_true, decide_eq_true_eq, decide_eq_true_eq] at h2
    show 0 < d
    omega
  | _ => trivial
/-- pairs of a dict in the making -/
def LOk (H : Hp) (L : DPs) : Prop := ∀ x ∈ L, H x.1 = some (.tup [.ref x.2.1, x.2.2.2]) ∧ H x.2.1 = some (.tup (x.2.2.1.map kV))
theorem LOk.same {H H' : Hp} {L : DPs} (h : LOk H L) (s : Same H H') : LOk H' L := fun x hx => ⟨s _ _ (h x hx).1, s _ _ (h x hx).2⟩
theorem LOk.updL {H : Hp} {D : Addr} {ys zs : List V} {L : DPs} (h : LOk H L) (hD : H D = some (.lst ys)) : LOk (upd H D (.lst zs)) L := fun x hx => by
  refine ⟨?_, ?_⟩
  · rw [upd_ne (ne_of (h x hx).1 hD fun e => by cases e)]; exact (h x hx).1
  · rw [upd_ne (ne_of (h x hx).2 hD fun e => by cases e)]; exact (h x hx).2
theorem LOk.app {H : Hp} {L : DPs} {x : Addr × Addr × List L2.Key × V} (h : LOk H L) (h1 : H x.1 = some (.tup [.ref x.2.1, x.2.2.2])) (h2 : H x.2.1 = some (.tup (x.2.2.1.map kV))) : LOk H (L ++ [x]) := fun y hy => by
  rcases List.mem_append.mp hy with hy | hy
  · exact h y hy
  · rw [List.mem_singleton.mp hy]; exact ⟨h1, h2⟩
theorem keys_kS : ∀ {ks : List (List L2.Key)}, (∀ k ∈ ks, ∃ s : ST, k = kS s) → ∃ l : List ST, ks = l.map kS
  | [], _ => ⟨[], rfl⟩
  | k :: r, h => by
    obtain ⟨s, e⟩ := h k List.mem_cons_self
    obtain ⟨l, e2⟩ := keys_kS fun x hx => h x (List.mem_cons_of_mem _ hx)
    exact ⟨s :: l, by rw [List.map_cons, e, e2]⟩
theorem putAll_keys {L : DPs} {S : List ST} (h : ∀ k, k ∈ L.map (·.2.2.1) ↔ k ∈ S.map kS) : ∃ ks, DKeys (putAll [] L) ks ∧ ∀ x, x ∈ ks ↔ x ∈ S := by
  have hk : ∀ k, k ∈ (putAll [] L).map (·.1) ↔ k ∈ S.map kS := fun k => by
    rw [mem_putAll, h k]
    exact ⟨fun z => z.elim (fun z => by cases z) id, .inr⟩
  obtain ⟨ks, e⟩ := keys_kS (ks := (putAll [] L).map (·.1)) fun k hk' => by
    obtain ⟨s, _, e⟩ := List.mem_map.mp ((hk k).mp hk')
    exact ⟨s, e.symm⟩
  refine ⟨ks, e, fun x => ?_⟩
  rw [← dk_mem e x, hk]
  exact ⟨fun z => by obtain ⟨r, hr, e⟩ := List.mem_map.mp z; rw [← kS_inj e]; exact hr, fun z => List.mem_map_of_mem z⟩
theorem nxF0 (rows : List (List Nat)) : nxF rows 0 = nxA rows := by
  funext s
  unfold nxF
  rw [if_neg (by decide)]
theorem nxFL (rows : List (List Nat)) {side : Int} (h : 0 < side) : nxF rows side = nxL rows side := by
  funext s
  unfold nxF
  rw [if_pos h]
theorem take_drop_one {α : Type} {l : List α} {p : Nat} {x : α} : x ∈ (l.take (p + 1)).drop p ↔ l[p]? = some x := by
  rw [List.take_add_one, List.drop_append]
  have e : (List.take p l).drop p = [] := List.drop_eq_nil_of_le (by rw [List.length_take]; omega)
  rw [e, List.nil_append]
  cases h : l[p]? with
  | none => simp
  | some y =>
    have hp := (List.getElem?_eq_some_iff.mp h).1
    have e2 : p - (List.take p l).length = 0 := by rw [List.length_take]; omega
    rw [e2]
    simp
    exact eq_comm
theorem paced_one (rows : List (List Nat)) (s x : ST) {p : Nat} (hp : p ≤ 12) : x ∈ (pthF (nxF rows 0) p s).drop p ↔ (paF rows 12 s)[p]? = some x := by
  rw [nxF0, ← pth_pa, ← pthF_take (nxA rows) p 12 s hp]
  exact take_drop_one
theorem find_first {α : Type} {f : α → Bool} : ∀ {l : List α} {p : Nat} {x : α}, l[p]? = some x → f x = true → (∀ j, j < p → ∀ y, l[j]? = some y → f y = false) → l.find? f = some x
  | [], _, _, h, _, _ => by cases h
  | a :: l, 0, x, h, hx, _ => by
    have e : a = x := Option.some.inj h
    rw [List.find?_cons, e, hx]
  | a :: l, p + 1, x, h, hx, hn => by
    rw [List.find?_cons, hn 0 (Nat.succ_pos _) a rfl]
    exact find_first (p := p) h hx fun j hj y hy => hn (j + 1) (by omega) y hy
theorem utF_some {rows : List (List Nat)} {sg : List Nat} {s x : ST} {p : Nat} (hp : 1 ≤ p) (h : (paF rows 12 s)[p]? = some x) (hx : inSg rows sg x.1 = true) (hn : ∀ j, 1 ≤ j → j < p → ∀ y, (paF rows 12 s)[j]? = some y → inSg rows sg y.1 = false) : utF rows sg s = [x] := by
  unfold utF
  have e : ((paF rows 12 s).drop 1).find? (fun x => inSg rows sg x.1) = some x := by
    refine find_first (p := p - 1) ?_ hx fun j hj y hy => ?_
    · rw [List.getElem?_drop, show 1 + (p - 1) = p by omega]; exact h
    · rw [List.getElem?_drop] at hy
      exact hn (1 + j) (by omega) (by omega) y hy
  rw [e]
  rfl
theorem utF_none {rows : List (List Nat)} {sg : List Nat} {s : ST} (hn : ∀ j, 1 ≤ j → j ≤ 12 → ∀ y, (paF rows 12 s)[j]? = some y → inSg rows sg y.1 = false) : utF rows sg s = [] := by
  unfold utF
  have e : ((paF rows 12 s).drop 1).find? (fun x => inSg rows sg x.1) = none := by
    rw [List.find?_eq_none]
    intro y hy
    obtain ⟨j, hj⟩ := List.mem_iff_getElem?.mp hy
    rw [List.getElem?_drop] at hj
    have hl := (List.getElem?_eq_some_iff.mp hj).1
    have := paF_len rows 12 s
    rw [hn (1 + j) (by omega) (by omega) y hj]
    exact Bool.false_ne_true
  rw [e]
  rfl
/-! the farness of the nearest -/
abbrev dst (s : ST) (a b : Int) : Int := iabs (a - s.1.1) + iabs (b - s.1.2)
def FarI (rows : List (List Nat)) (sg : List Nat) (s : ST) (Sn : Int → Int → Prop) (f : Int) : Prop :=
  (f = 99 ∨ ∃ a b, Sn a b ∧ sgW rows (a, b) ∈ sg ∧ f = dst s a b) ∧ f ≤ 99 ∧ ∀ a b, Sn a b → sgW rows (a, b) ∈ sg → f ≤ dst s a b
theorem FarI.skip {rows : List (List Nat)} {sg : List Nat} {s : ST} {Sn Sn' : Int → Int → Prop} {f : Int} {p q : Int} (h : FarI rows sg s Sn f) (hn : sgW rows (p, q) ∉ sg) (e : ∀ a b, Sn' a b ↔ Sn a b ∨ (a = p ∧ b = q)) : FarI rows sg s Sn' f := by
  obtain ⟨h1, h2, h3⟩ := h
  refine ⟨h1.elim .inl fun ⟨a, b, q1, q2⟩ => .inr ⟨a, b, (e a b).mpr (.inl q1), q2⟩, h2, fun a b hs hm => ?_⟩
  rcases (e a b).mp hs with hs | ⟨e1, e2⟩
  · exact h3 a b hs hm
  · rw [e1, e2] at hm
    exact absurd hm hn
theorem FarI.put {rows : List (List Nat)} {sg : List Nat} {s : ST} {Sn Sn' : Int → Int → Prop} {f : Int} {p q : Int} (h : FarI rows sg s Sn f) (hi : sgW rows (p, q) ∈ sg) (e : ∀ a b, Sn' a b ↔ Sn a b ∨ (a = p ∧ b = q)) : FarI rows sg s Sn' (if dst s p q < f then dst s p q else f) := by
  obtain ⟨h1, h2, h3⟩ := h
  refine ⟨?_, ?_, fun a b hs hm => ?_⟩
  · split
    · exact .inr ⟨p, q, (e p q).mpr (.inr ⟨rfl, rfl⟩), hi, rfl⟩
    · exact h1.elim .inl fun ⟨a, b, q1, q2⟩ => .inr ⟨a, b, (e a b).mpr (.inl q1), q2⟩
  · split <;> omega
  · rcases (e a b).mp hs with hs | ⟨e1, e2⟩
    · have := h3 a b hs hm
      split <;> omega
    · rw [e1, e2]
      split <;> omega
theorem FarI.congr {rows : List (List Nat)} {sg : List Nat} {s : ST} {Sn Sn' : Int → Int → Prop} {f : Int} (h : FarI rows sg s Sn f) (e : ∀ a b, Sn' a b ↔ Sn a b) : FarI rows sg s Sn' f := by
  obtain ⟨h1, h2, h3⟩ := h
  exact ⟨h1.elim .inl fun ⟨a, b, q1, q2⟩ => .inr ⟨a, b, (e a b).mpr q1, q2⟩, h2, fun a b hs => h3 a b ((e a b).mp hs)⟩
theorem FarI.near {rows : List (List Nat)} {sg : List Nat} {s : ST} {f : Int} {m : Nat} (hm : m ≤ 22) (h : FarI rows sg s (fun a b => (-1 ≤ a ∧ a < (rows.length : Nat) + 1) ∧ (-1 ≤ b ∧ b < ((rows.headD []).length : Nat) + 1)) f) : nearF rows sg (m : Nat) s = decide (f ≤ (m : Nat)) := by
  obtain ⟨h1, h2, h3⟩ := h
  by_cases hf : f ≤ (m : Nat)
  · rw [decide_eq_true hf]
    rcases h1 with h1 | ⟨a, b, q1, q2, q3⟩
    · omega
    · exact nearF_t ⟨a, b, q1.1, q1.2, by rw [q3] at hf; exact hf, q2⟩
  · rw [decide_eq_false hf]
    refine nearF_f fun ⟨a, b, q1, q2, q3, q4⟩ => hf ?_
    have := h3 a b ⟨q1, q2⟩ q4
    have q3 : dst s a b ≤ (m : Nat) := q3
    omega
end Om

/-! the law: _law_lead -/
namespace Om
open PySem PySem.Spec PyProof.Rows L2 LamX Gk
abbrev sLLd : Stmt := top 66
def spLLd (K : PySem.W.Frag) : Sp := fun vs H Q _ => ∃ (ra sa : Addr) (iv : V) (rows : List (List Nat)) (s : ST) (v : VI), vs = [.ref ra, .ref sa, iv] ∧ SqT K H ra (rows.map vt) ∧ Vd rows ∧ H sa = some (.tup (stv s)) ∧ insd rows s.1.1 s.1.2 = true ∧ s.2 < 4 ∧ Dp K H iv v.ins.d ∧ v.wf ∧ v.wl ∧
  ∀ (D : Addr) (kvs : List (List L2.Key × V)) (ks : List ST) (H' : Hp), H D = none → Same H H' → H' D = some (.dT kvs) → DKeys kvs ks → kvs.length ≤ 21 → (∀ x, x ∈ ks ↔ x ∈ ledF rows v s) → Q (.ref D) H'
section
variable {P : Program} {w : World} {K : PySem.W.Frag} {mg : Str → Option Value} {base : Heap}
abbrev nLLd : List Str := ["_law_rows_here", "_law_state", "_law_instruction_here", "_law_word", "_law_parts", "_law_cell", "_law_facing", "_law_paces", "_law_found", "_law_later", "_law_sign_here", "_law_far", "_law_row", "_law_column", "_law_turn"]
theorem scLLd : FnScope nLLd ["_law_rows_here", "_law_state", "_law_instruction_here"] (defScope sLLd) := ⟨rfl, rfl, rfl, by decide +kernel, rfl, by decide +kernel, by decide +kernel⟩
theorem opCatAK {X : Cx} {K : PySem.W.Frag} (hK : X.K = K) : OpR X (binaryOp .Add) (rCatA K) := by
  subst hK
  exact op_catA
theorem ixt_K {X : Cx} {K : PySem.W.Frag} (hK : X.K = K) : IxR X (rIxT K) := by
  subst hK
  exact ix_tup
def lldLc1 : Expr := arg0 (retExpr (ifB ((defBody sLLd).getD 2 noS) 0))
def lldLc2 : Expr := arg0 (retExpr (ifB ((defBody sLLd).getD 6 noS) 0))
theorem blkLLd1 : BlkOk nLLd (defScope sLLd) (lcScope lldLc1) [("_law_turn", 14)] := blkOk_by (by decide +kernel)
theorem blkLLd2 : BlkOk nLLd (defScope sLLd) (lcScope lldLc2) [("_law_turn", 14)] := blkOk_by (by decide +kernel)
theorem ok_lld {f : Addr} {fd : FuncData} (F : FnP K "_law_lead" "_law_lead" sLLd f fd) (SG : Cal P w K mg base CX0 1 "_law_sign" ["_law_rows_here", "_law_cell"] (spLSign K)) (NX : Cal P w K mg base CX0 1 "_law_next" ["_law_cell", "_law_facing"] (spLNextI K)) (PD : Cal P w K mg base CX0 3 "_law_paced" ["_law_rows_here", "_law_state", "_law_side", "_law_least", "_law_most"] (spLPd K)) (SE : Cal P w K mg base CX0 2 "_law_sees" ["_law_rows_here", "_law_cell", "_law_turn", "_law_signs_here"] (spLSe K))
    (gint : mg "int" = none) (grange : mg "range" = none) (gdict : mg "dict" = none) (glen : mg "len" = none) (gmin : mg "min" = none) (gabs : mg "abs" = none) : FnOk P w K mg base CX0 4 f fd ["_law_rows_here", "_law_state", "_law_instruction_here"] (spLLd K) := by
  refine F.ok scLLd (fun vs H Q E h => ?_) (fun cdv A outer s H vs Q E hr h => ?_)
  · obtain ⟨ra, sa, iv, rows, s, v, rfl, _⟩ := h
    rfl
  · obtain ⟨ra, sa, iv, rows, s0, v, rfl, hS, vd, hs, hin, hf, hD, hv, hl, k⟩ := h
    have nd := scLLd.nd
    have g := vd.toGood2
    have hu := hr.units
    have hu1 : _ + 1 < cLine := Nat.lt_of_le_of_lt (Nat.add_le_add_left (show 1 ≤ 64 by decide) _) hu
    have hu16 : _ + 16 < cLine := Nat.lt_of_le_of_lt (Nat.add_le_add_left (show 16 ≤ 64 by decide) _) hu
    have hr1 : Room 1 _ := hr.mono (by decide)
    have hr2 : Room 2 _ := hr.mono (by decide)
    refine ⟨_, PSs.nox (pss_cons (ps_asg (pe_tup (pa_cons (pe_ix ix_tup (pv 2) pe_int (fun _ _ => rfl)) (pa_cons (pe_slice sl_tup (pv 2) (po_some pe_int) po_none) pa_nil))) (pg_tup rfl (pgs_cons (pg_name (i := 3) nd rfl (.inl rfl)) (pgs_cons (pg_name (i := 4) nd rfl (.inr rfl)) pgs_nil))))
      (pss_cons (ps_asg (pe_tup (pa_cons (pe_slice sl_tup (pv 1) po_none (po_some pe_int)) (pa_cons (pe_ix ix_tup (pv 1) pe_int (fun _ _ => rfl)) pa_nil))) (pg_tup rfl (pgs_cons (pg_name (i := 5) nd rfl (.inr rfl)) (pgs_cons (pg_name (i := 6) nd rfl (.inr rfl)) pgs_nil))))
      (pss_cons (ps_if (pt_cmpR op_eq (pv 3) pe_str (nomark _))
        (pss_one (ps_ret (pe_callTy (cr_dictP rfl hu16) (by rfl) gdict (by decide +kernel) (pa_cons (pe_lc (own := [("_law_turn", 14)]) (g := gName 14) rfl nd (pi_tup (pe_ix ix_tup (pv 4) pe_int (fun _ _ => rfl))) blkLLd1 (fun _ _ _ _ _ => pg_name (i := 14) nd rfl (.inl rfl)) (fun _ _ _ _ _ => pts_nil)
          (fun _ _ _ _ _ => pe_tup (pa_cons (pe_op (opCatAK (K := K) rfl) (pv 5) (pe_tup (pa_cons (pe_op op_mod (pe_callTy call_int1 (by rfl) gint boot_int (pa_cons (pe_op op_add (pv 6) (pv 14)) pa_nil)) pe_int) pa_nil))) (pa_cons (pe_lst pa_nil) pa_nil)))) pa_nil)))) pss_nil)
      (pss_cons (ps_if (pt_cmpR op_eq (pv 3) pe_str (nomark _))
        (pss_one (ps_ret (pe_cal PD (hr.mono (by decide)) pass0 (pa_cons (pv 0) (pa_cons (pv 1) (pa_cons pe_int (pa_cons (pe_ix ix_tup (pv 4) pe_int (fun _ _ => rfl)) (pa_cons (pe_ix ix_tup (pv 4) pe_int (fun _ _ => rfl)) pa_nil)))))))) pss_nil)
      (pss_cons (ps_if (pt_cmpR op_eq (pv 3) pe_str (nomark _))
        (pss_one (ps_ret (pe_cal PD (hr.mono (by decide)) pass0 (pa_cons (pv 0) (pa_cons (pv 1) (pa_cons (pe_ix ix_tup (pv 4) pe_int (fun _ _ => rfl)) (pa_cons (pe_ix ix_tup (pv 4) pe_int (fun _ _ => rfl)) (pa_cons (pe_ix ix_tup (pv 4) pe_int (fun _ _ => rfl)) pa_nil)))))))) pss_nil)
      (pss_cons (ps_if (pt_cmpR op_eq (pv 3) pe_str (nomark _))
        (pss_cons (ps_for PassesOwn.never rfl (pi_range2 rfl grange (pa_cons pe_int (pa_cons pe_int pa_nil))) (pg_name (i := 7) nd rfl (.inl rfl))
          (pss_cons (ps_set (i := 8) nd rfl (.inl rfl) (pe_cal PD (hr.mono (by decide)) pass0 (pa_cons (pv 0) (pa_cons (pv 1) (pa_cons pe_int (pa_cons (pv 7) (pa_cons (pv 7) pa_nil)))))))
          (pss_one (ps_lock (ps_for PassesOwn.never rfl (pi_keys (pv 8)) (pg_name (i := 9) nd rfl (.inl rfl))
            (pss_one (ps_if (pt_cmpR op_in_sign (pe_cal SG hr1 pass0 (pa_cons (pv 0) (pa_cons (pe_slice sl_tup (pv 9) po_none (po_some pe_int)) pa_nil))) (pe_ix ix_tup (pv 4) pe_int (fun _ _ => rfl)) (by with_unfolding_all rfl)) (pss_one (ps_ret (pv 8))) pss_nil)))))))
        (pss_one (ps_ret pe_dnewT))) pss_nil)
      (pss_cons (ps_if (pt_cmpR op_eq (pv 3) pe_str (nomark _))
        (pss_one (ps_ret (pe_callTy (cr_dictP rfl hu16) (by rfl) gdict (by decide +kernel) (pa_cons (pe_lc (own := [("_law_turn", 14)]) (g := gName 14) rfl nd (pi_range1 rfl grange (pa_cons pe_int pa_nil)) blkLLd2 (fun _ _ _ _ _ => pg_name (i := 14) nd rfl (.inl rfl)) (fun _ _ _ _ _ => pts_one (pt_val (pe_cal SE hr2 pass0 (pa_cons (pv 0) (pa_cons (pv 5) (pa_cons (pv 14) (pa_cons (pe_ix (ixt_K (K := K) rfl) (pv 4) pe_int (fun _ _ => rfl)) pa_nil)))))))
          (fun _ _ _ _ _ => pe_tup (pa_cons (pe_op (opCatAK (K := K) rfl) (pv 5) (pe_tup (pa_cons (pv 14) pa_nil))) (pa_cons (pe_lst pa_nil) pa_nil)))) pa_nil)))) pss_nil)
      (pss_cons (ps_if (pt_cmpR op_eq (pv 3) pe_str (nomark _))
        (pss_cons (ps_set (i := 10) nd rfl (.inl rfl) (pe_cal SG hr1 pass0 (pa_cons (pv 0) (pa_cons (pe_cal NX hr1 pass0 (pa_cons (pv 5) (pa_cons (pe_op op_add (pv 6) (pe_ix ix_tup (pv 4) pe_int (fun _ _ => rfl))) pa_nil))) pa_nil))))
        (pss_one (ps_ret (pe_ifExp (pt_cmpR op_in_sign (pv 10) (pe_ix ix_tup (pv 4) pe_int (fun _ _ => rfl)) (by with_unfolding_all rfl)) (pe_disp1T hu1 (pv 1) (pe_lst pa_nil)) pe_dnewT)))) pss_nil)
      (pss_cons (ps_set (i := 11) nd rfl (.inl rfl) pe_int)
      (pss_cons (ps_for PassesOwn.never rfl (pi_range2 rfl grange (pa_cons (pe_un un_neg pe_int) (pa_cons (pe_op op_add (pe_callB call_len_seq (by rfl) glen PySem.boot_len (pa_cons (pv 0) pa_nil)) pe_int) pa_nil))) (pg_name (i := 12) nd rfl (.inl rfl))
        (pss_one (ps_for PassesOwn.never rfl (pi_range2 rfl grange (pa_cons (pe_un un_neg pe_int) (pa_cons (pe_op op_add (pe_callB call_len_str (by rfl) glen PySem.boot_len (pa_cons (pe_ix ix_tup (pv 0) pe_int (fun _ _ => rfl)) pa_nil)) pe_int) pa_nil))) (pg_name (i := 13) nd rfl (.inl rfl))
          (pss_one (ps_if (pt_cmpR op_in_sign (pe_cal SG hr1 pass0 (pa_cons (pv 0) (pa_cons (pe_tup (pa_cons (pv 12) (pa_cons (pv 13) pa_nil))) pa_nil))) (pe_ix ix_tup (pv 4) pe_int (fun _ _ => rfl)) (by with_unfolding_all rfl))
            (pss_one (ps_set (i := 11) nd rfl (.inl rfl) (pe_callB (call_min2 rfl) (by rfl) gmin (by decide +kernel) (pa_cons (pv 11) (pa_cons (pe_op op_add (pe_callB call_abs (by rfl) gabs (by decide +kernel) (pa_cons (pe_op op_sub (pv 12) (pe_ix ix_tup (pv 5) pe_int (fun _ _ => rfl))) pa_nil)) (pe_callB call_abs (by rfl) gabs (by decide +kernel) (pa_cons (pe_op op_sub (pv 13) (pe_ix ix_tup (pv 5) pe_int (fun _ _ => rfl))) pa_nil))) pa_nil))))) pss_nil)))))
      (pss_one (ps_ret (pe_ifExp (pt_cmpR op_le (pv 11) (pe_ix ix_tup (pv 4) pe_int (fun _ _ => rfl)) (nomark _)) (pe_disp1T hu1 (pv 1) (pe_lst pa_nil)) pe_dnewT))))))))))))), ?_⟩
    have hD : Dp K H iv (.tuple (.str v.ins.word :: v.ins.parts)) := hD
    obtain ⟨u, ws, rfl, hU, hP⟩ : ∃ (u : Addr) (ws : List V), iv = .ref u ∧ SqT K H u (.str v.ins.word :: ws) ∧ DpAll K H ws v.ins.parts := by
      cases hD with
      | tup hU hA =>
        cases hA with
        | cons h1 hA =>
          cases h1
          exact ⟨_, _, rfl, hU, hA⟩
    refine ⟨_, rfl, u, _, 0, _, rfl, rfl, hU, at0, _, rfl, _, rfl, u, _, rfl, hU, cut1_not _ _, fun tp htp => ?_⟩
    rw [cut1]
    have s1 := Same.new (Same.refl H) htp (o := .tup ws)
    have hW : (upd H tp (.tup ws)) tp = some (.tup ws) := upd_same
    generalize upd H tp (.tup ws) = H1 at s1 hW ⊢
    refine ⟨by show 2 ≤ sizeLine; decide, fun qp hqp => ?_⟩
    have s2 := s1.trans (Same.new (Same.refl H1) hqp (o := .tup [.str v.ins.word, .ref tp]))
    have hW2 := (Same.new (Same.refl H1) hqp (o := .tup [.str v.ins.word, .ref tp])) _ _ hW
    have hq2 : (upd H1 qp (.tup [.str v.ins.word, .ref tp])) qp = some (.tup [.str v.ins.word, .ref tp]) := upd_same
    generalize upd H1 qp (.tup [.str v.ins.word, .ref tp]) = H2 at s2 hW2 hq2 ⊢
    refine ⟨qp, _, rfl, .inl (.inl hq2), rfl, _, _, rfl, _, _, rfl, rfl, ?_⟩
    refine ⟨_, rfl, noPart ⟨_, rfl, sa, stv s0, rfl, .inl (.inl (s2 _ _ hs)), by show ¬ (HT.sIx 3 0 none = 0 ∧ HT.sIx 3 3 (some 2) = 3); decide, fun pc hpc => ?_⟩⟩
    have ecut : cutV (stv s0) none (some 2) = icv s0.1 := cutV_upto (stv s0) 2
    rw [ecut]
    have s3 := s2.trans (Same.new (Same.refl H2) hpc (o := .tup (icv s0.1)))
    have hW3 := (Same.new (Same.refl H2) hpc (o := .tup (icv s0.1))) _ _ hW2
    have hC3 : (upd H2 pc (.tup (icv s0.1))) pc = some (.tup (icv s0.1)) := upd_same
    generalize upd H2 pc (.tup (icv s0.1)) = H3 at s3 hW3 hC3 ⊢
    refine ⟨_, rfl, sa, _, 2, _, rfl, rfl, .inl (.inl (s3 _ _ hs)), rfl, by show 2 ≤ sizeLine; decide, fun rp hrp => ?_⟩
    have s4 := s3.trans (Same.new (Same.refl H3) hrp (o := .tup [.ref pc, .int (s0.2 : Nat)]))
    have hW4 := (Same.new (Same.refl H3) hrp (o := .tup [.ref pc, .int (s0.2 : Nat)])) _ _ hW3
    have hC4 := (Same.new (Same.refl H3) hrp (o := .tup [.ref pc, .int (s0.2 : Nat)])) _ _ hC3
    have hr4 : (upd H3 rp (.tup [.ref pc, .int (s0.2 : Nat)])) rp = some (.tup [.ref pc, .int (s0.2 : Nat)]) := upd_same
    generalize upd H3 rp (.tup [.ref pc, .int (s0.2 : Nat)]) = H4 at s4 hW4 hC4 hr4 ⊢
    refine ⟨rp, _, rfl, .inl (.inl hr4), rfl, _, _, rfl, _, _, rfl, rfl, ?_⟩
    clear hW hW2 hW3 hC3 hq2 hr4 s1 s2 s3 hD
    have hs4 := s4 _ _ hs
    have hS4 := Same.tup s4 hS
    have hP4 := Same.dpAll s4 hP
    have disp : ∀ H5, Same H4 H5 → ledF rows v s0 = [s0] → ∀ p, H5 p = none → ∀ l, (upd H5 p (.dT [])) l = none → ∃ (b : Addr) (kk : List L2.Key), V.ref sa = .ref b ∧ (upd (upd H5 p (.dT [])) l (.lst [])) b = some (.tup (kk.map kV)) ∧ (upd (upd H5 p (.dT [])) l (.lst [])) p = some (.dT []) ∧ Q (.ref p) (upd (upd (upd H5 p (.dT [])) l (.lst [])) p (.dT [(kk, .ref l)])) := by
      intro H5 s5 e p hp l hl
      have s6 := s5.trans (Same.new (Same.refl H5) hp (o := .dT []))
      have s7 := s6.trans (Same.new (Same.refl (upd H5 p (.dT []))) hl (o := .lst []))
      have hpH := Same.none (s4.trans s5) hp
      have npl : p ≠ l := fun z => by rw [← z, upd_same] at hl; cases hl
      exact ⟨sa, kS s0, rfl, s7 _ _ hs4, by rw [upd_ne npl, upd_same], k p _ [s0] _ hpH (Same.updN (s4.trans s7) hpH) upd_same rfl (by show 1 ≤ 21; decide) fun x => by rw [e]⟩
    have non : ∀ H5, Same H4 H5 → ledF rows v s0 = [] → ∀ p, H5 p = none → Q (.ref p) (upd H5 p (.dT [])) := fun H5 s5 e p hp =>
      k p [] [] _ (Same.none (s4.trans s5) hp) ((s4.trans s5).trans (Same.new (Same.refl H5) hp)) upd_same rfl (by show 0 ≤ 21; decide) fun x => by rw [e]
    cases v with
    | turn ts =>
      refine ⟨_, rfl, rfl, _, rfl, iteT' (by rw [wtest]; show decide (Str.ofString "turn" = Str.ofString "turn") = true; decide +kernel) ?_⟩
      cases hP4 with
      | cons g0 hA =>
        cases hA
        cases g0 with
        | tup hT hB =>
          have eB := dp_nms hB
          subst eB
          rename_i tu
          have hv4 : ts.length ≤ 4 := hv
          refine ⟨_, rfl, tp, _, 0, _, rfl, rfl, .inl (.inl hW4), rfl, tu, rfl, ⟨_, hT⟩, fun D hDn => ?_⟩
          refine lc_tup (K := K) (a := tu) (xs := (ts.map nmN).map Nm.v) (fun i H' => Same H4 H' ∧ ∃ L : DPs, H' D = some (.lst (L.map fun x => V.ref x.1)) ∧ LOk H' L ∧ L.map (·.2.2.1) = (ts.take i).map (fun t => kS (turnS s0 (t : Nat))) ∧ L.length ≤ i) ⟨Same.new (Same.refl H4) hDn, [], upd_same, (fun p hp => by cases hp), by rw [List.take_zero]; rfl, Nat.le_refl _⟩ (fun i H' _ z => Same.tup z.1 hT) ?_ ?_
          · rintro i x H5 hx ⟨s5, L, h5, c5, ht, hll⟩
            rw [List.map_map, List.getElem?_map] at hx
            obtain ⟨n, hn, rfl⟩ := Option.map_eq_some_iff.mp hx
            have hi4 := (List.getElem?_eq_some_iff.mp hn).1
            refine ⟨rfl, tyes ?_⟩
            refine ⟨_, rfl, _, rfl, _, rfl, _, _, rfl, rfl, .inl ⟨_, rfl, _, _, rfl, rfl, (by show (0 : Int) < 4; decide), by show 1 ≤ sizeLine; decide, fun y hy => ?_⟩⟩
            have e7 := turnS_v s0 (n : Nat)
            have f6 := Same.new (Same.refl H5) hy (o := .tup [.int ((((s0.2 : Nat) : Int) + (n : Nat)) % 4)])
            refine ⟨pc, y, _, _, rfl, rfl, .inl (.inl ((s5.trans f6) _ _ hC4)), .inl (.inl upd_same), by show 3 ≤ sizeLine; decide, (fun z => by cases z), (fun _ z => by cases z), fun _ _ q hq => ?_⟩
            have f7 := f6.trans (Same.new (Same.refl _) hq (o := .tup (stv (turnS s0 (n : Nat)))))
            have eq7 : (icv s0.1 ++ [V.int ((((s0.2 : Nat) : Int) + (n : Nat)) % 4)]) = stv (turnS s0 (n : Nat)) := by rw [e7]; rfl
            rw [eq7]
            have g7 : (upd (upd H5 y (.tup [.int ((((s0.2 : Nat) : Int) + (n : Nat)) % 4)])) q (.tup (stv (turnS s0 (n : Nat))))) q = some (.tup (stv (turnS s0 (n : Nat)))) := upd_same
            generalize upd (upd H5 y (.tup [.int ((((s0.2 : Nat) : Int) + (n : Nat)) % 4)])) q (.tup (stv (turnS s0 (n : Nat)))) = H7 at f7 g7 ⊢
            refine ⟨by show 0 ≤ sizeLine; decide, fun l hl0 => ?_⟩
            have f8 := f7.trans (Same.new (Same.refl H7) hl0 (o := .lst []))
            have g8 := (Same.new (Same.refl H7) hl0 (o := .lst [])) _ _ g7
            generalize upd H7 l (.lst []) = H8 at f8 g8 ⊢
            refine ⟨by show 2 ≤ sizeLine; decide, fun pp hpp => ?_⟩
            have f9 := f8.trans (Same.new (Same.refl H8) hpp (o := .tup [.ref q, .ref l]))
            have g9 := (Same.new (Same.refl H8) hpp (o := .tup [.ref q, .ref l])) _ _ g8
            have p9 : (upd H8 pp (.tup [.ref q, .ref l])) pp = some (.tup [.ref q, .ref l]) := upd_same
            generalize upd H8 pp (.tup [.ref q, .ref l]) = H9 at f9 g9 p9 ⊢
            refine ⟨_, f9 _ _ h5, Nat.lt_of_le_of_lt (show _ ≤ 100 by rw [List.length_map]; omega) (by decide), Same.updN (s5.trans f9) hDn, L ++ [(pp, q, kS (turnS s0 (n : Nat)), .ref l)], by rw [upd_same, List.map_append]; rfl, ((c5.same f9).app p9 g9).updL (f9 _ _ h5), ?_, by rw [List.length_append, List.length_singleton]; omega⟩
            rw [List.map_append, ht, List.take_add_one, hn, List.map_append]
            rfl
          · rintro H5 ⟨s5, L, h5, c5, ht, hll⟩
            rw [List.length_map, List.length_map] at ht hll
            rw [List.take_length] at ht
            obtain ⟨ks, k5, m5⟩ := putAll_keys (L := L) (S := ledF rows (.turn ts) s0) fun x => by
              rw [ht]
              show _ ↔ x ∈ (ts.map fun t => turnS s0 (t : Nat)).map kS
              rw [List.map_map]
              exact Iff.rfl
            refine nilArgs ⟨D, L, rfl, .inl (.inl h5), c5, by omega, fun E hE => ?_⟩
            have hl2 := putAll_len L []
            rw [List.length_nil] at hl2
            exact k E _ ks _ (Same.none (s4.trans s5) hE) ((s4.trans s5).trans (Same.new (Same.refl H5) hE)) upd_same k5 (by omega) m5
    | walk m n =>
      refine ⟨_, rfl, rfl, _, rfl, iteF' (by rw [wtest]; show decide (Str.ofString "walk" = Str.ofString "turn") = false; decide +kernel) ?_⟩
      refine ⟨_, rfl, rfl, _, rfl, iteT' (by rw [wtest]; show decide (Str.ofString "walk" = Str.ofString "walk") = true; decide +kernel) ?_⟩
      cases hP4 with
      | cons g0 hA =>
        have e0 := dp_nm g0
        subst e0
        cases hA with
        | cons g1 hA =>
          have e1 := dp_nm g1
          subst e1
          cases hA
          have hn : n ≤ 20 := hv
          refine ⟨_, rfl, _, rfl, _, rfl, tp, _, 0, _, rfl, rfl, .inl (.inl hW4), rfl, _, rfl, tp, _, 1, _, rfl, rfl, .inl (.inl hW4), rfl, ra, sa, rows, s0, 0, m, n, rfl, hS4, g, hs4, hf, by omega, fun D kvs ks H5 hD5 s5 d5 k5 l5 m5 => ?_⟩
          exact k D kvs ks H5 (Same.none s4 hD5) (s4.trans s5) d5 k5 (by omega) fun x => by rw [m5 x, nxF0, pth_pa]; rfl
    | upto z =>
      refine ⟨_, rfl, rfl, _, rfl, iteF' (by rw [wtest]; show decide (Str.ofString "until" = Str.ofString "turn") = false; decide +kernel) ?_⟩
      refine ⟨_, rfl, rfl, _, rfl, iteF' (by rw [wtest]; show decide (Str.ofString "until" = Str.ofString "walk") = false; decide +kernel) ?_⟩
      refine ⟨_, rfl, rfl, _, rfl, iteF' (by rw [wtest]; show decide (Str.ofString "until" = Str.ofString "shore") = false; decide +kernel) ?_⟩
      refine ⟨_, rfl, rfl, _, rfl, iteT' (by rw [wtest]; show decide (Str.ofString "until" = Str.ofString "until") = true; decide +kernel) ?_⟩
      cases hP4 with
      | cons g0 hA =>
        unfold dt at g0
        cases g0
        cases hA
        refine ⟨1, 13, rfl, ⟨by decide, by decide, by decide, by decide⟩, ?_⟩
        refine for_range (lo := 1) (fun i σ H' => Same H4 H' ∧ (∀ j, 1 ≤ j → j < 1 + i → ∀ y, (paF rows 12 s0)[j]? = some y → inSg rows z y.1 = false) ∧ ∃ v7 v8 v9, σ = [some (.ref ra), some (.ref sa), some (.ref u), some (.str "until"), some (.ref tp), some (.ref pc), some (.int (s0.2 : Nat)), v7, v8, v9, none, none, none, none, none])
          ⟨Same.refl H4, (fun j h1 h2 => by omega), _, _, _, rfl⟩ ?_ ?_
        · rintro i σ H5 hi ⟨s5, hno, v7, v8, v9, rfl⟩
          have hi : i < 12 := hi
          rw [show (1 : Int) + (i : Nat) = ((i + 1 : Nat) : Int) by omega]
          refine ⟨_, rfl, _, rfl, _, rfl, _, rfl, ra, sa, rows, s0, 0, i + 1, i + 1, rfl, Same.tup s5 hS4, g, s5 _ _ hs4, hf, by omega, fun D kvs ks H6 hD6 s6 d6 k6 l6 m6 => ?_⟩
          have s46 := s5.trans s6
          have hD4 := Same.none s5 hD6
          have mem : ∀ x, x ∈ ks ↔ (paF rows 12 s0)[i + 1]? = some x := fun x => (m6 x).trans (paced_one rows s0 x (by omega))
          refine ⟨D, _, d6, trivial, fun od => ?_⟩
          have s4F : Same H4 (upd H6 D (.frz od (.dT kvs))) := Same.updN s46 hD4
          have eF : (upd H6 D (.frz od (.dT kvs))) D = some (.frz od (.dT kvs)) := upd_same
          generalize upd H6 D (.frz od (.dT kvs)) = HF at s4F eF ⊢
          refine ⟨_, rfl, D, od, rfl, .inr ⟨kvs, eF, ?_⟩⟩
          refine for_it (walk_keysT (d := D) (o := od) (kvs := kvs)) (fun j σ H' => Same HF H' ∧ (∀ j', j' < j → ∀ y, ks[j']? = some y → inSg rows z y.1 = false) ∧ ∃ v9, σ = [some (.ref ra), some (.ref sa), some (.ref u), some (.str "until"), some (.ref tp), some (.ref pc), some (.int (s0.2 : Nat)), some (.int ((i + 1 : Nat) : Int)), some (.ref D), v9, none, none, none, none, none])
            ⟨Same.refl HF, (fun j' h => absurd h (Nat.not_lt_zero _)), _, rfl⟩ (fun j σ H' _ q => q.1 _ _ eF) ?_ ?_
          · rintro j x σ H7 H7' hj ⟨s7, hno2, v9, rfl⟩ ⟨rfl, kk, vv, q, hkv, rfl, hq⟩
            obtain ⟨y, hy, rfl⟩ : ∃ y, ks[j]? = some y ∧ kk = kS y := by
              have : (kvs.map (·.1))[j]? = some kk := by rw [List.getElem?_map, hkv]; rfl
              rw [k6, List.getElem?_map] at this
              obtain ⟨y, hy, e⟩ := Option.map_eq_some_iff.mp this
              exact ⟨y, hy, e.symm⟩
            have hq : H7' q = some (.tup (stv y)) := hq
            have s47 := s4F.trans s7
            refine ⟨_, rfl, _, rfl, noPart ⟨_, rfl, q, stv y, rfl, .inl (.inl hq), by show ¬ (HT.sIx 3 0 none = 0 ∧ HT.sIx 3 3 (some 2) = 3); decide, fun yc hyc => ?_⟩⟩
            have ecut2 : cutV (stv y) none (some 2) = icv y.1 := cutV_upto (stv y) 2
            rw [ecut2]
            have s8 := s7.trans (Same.new (Same.refl H7') hyc (o := .tup (icv y.1)))
            have e8 : (upd H7' yc (.tup (icv y.1))) yc = some (.tup (icv y.1)) := upd_same
            generalize upd H7' yc (.tup (icv y.1)) = H8 at s8 e8 ⊢
            have s48 := s4F.trans s8
            refine ⟨ra, yc, rows, y.1, rfl, Same.tup s48 hS4, g, .inl (.inl e8), ?_⟩
            refine ⟨_, rfl, tp, _, 0, _, rfl, rfl, .inl (.inl (s48 _ _ hW4)), rfl, sgW rows y.1, tx z, rfl, rfl, _, rfl, ?_⟩
            rw [tx_cps]
            by_cases hm : sgW rows y.1 ∈ z
            · refine iteT' (decide_eq_true hm) ⟨_, rfl, s8 _ _ eF, ?_⟩
              have hy6 := (mem y).mp (List.mem_of_getElem? hy)
              have hDH := Same.none s4 hD4
              have e9 := utF_some (p := i + 1) (by omega) hy6 (decide_eq_true hm) fun j h1 h2 => hno j h1 (by omega)
              refine k D kvs ks _ hDH (Same.updN (s4.trans s48) hDH) upd_same k6 (by omega) fun x => ?_
              show x ∈ ks ↔ x ∈ utF rows z s0
              rw [mem x, e9, List.mem_singleton, hy6]
              exact ⟨fun h => (Option.some.inj h).symm, fun h => by rw [h]⟩
            · refine iteF' (decide_eq_false hm) ⟨s8, fun j' h y' hy' => ?_, _, rfl⟩
              rcases Nat.lt_succ_iff_lt_or_eq.mp h with h | h
              · exact hno2 j' h y' hy'
              · rw [h, hy] at hy'
                rw [← Option.some.inj hy']
                exact decide_eq_false hm
          · rintro σ H7 ⟨s7, hno2, v9, rfl⟩
            refine ⟨s7 _ _ eF, Same.updN (s4F.trans s7) hD4, fun j h1 h2 y hy => ?_, _, _, _, rfl⟩
            by_cases hji : j = i + 1
            · rw [hji] at hy
              obtain ⟨j', hj'⟩ := List.mem_iff_getElem?.mp ((mem y).mpr hy)
              have hlt := (List.getElem?_eq_some_iff.mp hj').1
              have hlen : kvs.length = ks.length := by
                have := congrArg List.length k6
                rw [List.length_map, List.length_map] at this
                exact this
              exact hno2 j' (by omega) y hj'
            · exact hno j h1 (by omega) y hy
        · rintro σ H5 ⟨s5, hno, v7, v8, v9, rfl⟩
          refine fun p hp => non H5 s5 ?_ p hp
          exact utF_none fun j h1 h2 => hno j h1 (by show j < 1 + 12; omega)
    | toward z =>
      refine ⟨_, rfl, rfl, _, rfl, iteF' (by rw [wtest]; show decide (Str.ofString "toward" = Str.ofString "turn") = false; decide +kernel) ?_⟩
      refine ⟨_, rfl, rfl, _, rfl, iteF' (by rw [wtest]; show decide (Str.ofString "toward" = Str.ofString "walk") = false; decide +kernel) ?_⟩
      refine ⟨_, rfl, rfl, _, rfl, iteF' (by rw [wtest]; show decide (Str.ofString "toward" = Str.ofString "shore") = false; decide +kernel) ?_⟩
      refine ⟨_, rfl, rfl, _, rfl, iteF' (by rw [wtest]; show decide (Str.ofString "toward" = Str.ofString "until") = false; decide +kernel) ?_⟩
      refine ⟨_, rfl, rfl, _, rfl, iteT' (by rw [wtest]; show decide (Str.ofString "toward" = Str.ofString "toward") = true; decide +kernel) ?_⟩
      cases hP4 with
      | cons g0 hA =>
        unfold dt at g0
        cases g0
        cases hA
        have hw : 126 ∉ z := hl
        refine ⟨4, rfl, by decide, by decide, fun D hDn => ?_⟩
        refine lc_range (lo := 0) (n := (4 : Int).toNat) (fun i H' => Same H4 H' ∧ ∃ L : DPs, H' D = some (.lst (L.map fun x => V.ref x.1)) ∧ LOk H' L ∧ L.map (·.2.2.1) = ((List.range i).filter fun t => iaF rows z 12 (s0.1, t)).map (fun t => kS (s0.1, t)) ∧ L.length ≤ i) ⟨Same.new (Same.refl H4) hDn, [], upd_same, (fun p hp => by cases hp), rfl, Nat.le_refl _⟩ ?_ ?_
        · rintro i H5 hi ⟨s5, L, h5, c5, ht, hll⟩
          have hi4 : i < 4 := hi
          rw [show (0 : Int) + (i : Nat) = (i : Nat) from Int.zero_add _]
          refine ⟨rfl, ?_⟩
          refine ⟨_, rfl, _, rfl, _, rfl, _, rfl, tp, _, 0, _, rfl, rfl, .inl (.inl (s5 _ _ hW4)), rfl, ra, pc, rows, s0.1, i, z, rfl, Same.tup s5 hS4, vd, .inl (.inl (s5 _ _ hC4)), hin, hi4, hw, fun H6 s6 => ⟨_, rfl, ?_⟩⟩
          have er : ((List.range (i + 1)).filter fun t => iaF rows z 12 (s0.1, t)) = ((List.range i).filter fun t => iaF rows z 12 (s0.1, t)) ++ (if iaF rows z 12 (s0.1, i) = true then [i] else []) := by
            rw [List.range_succ, List.filter_append]
            refine congrArg (((List.range i).filter fun t => iaF rows z 12 (s0.1, t)) ++ ·) ?_
            rw [List.filter_cons]
            split <;> rfl
          cases e : iaF rows z 12 (s0.1, i) with
          | false =>
            refine iteF ⟨s5.trans s6, L, s6 _ _ h5, c5.same s6, ?_, by omega⟩
            rw [er, e, ht]
            simp
          | true =>
            refine iteT ?_
            refine ⟨_, rfl, _, rfl, by show 1 ≤ sizeLine; decide, fun y hy => ?_⟩
            have f6 := s6.trans (Same.new (Same.refl H6) hy (o := .tup [.int (i : Nat)]))
            refine ⟨pc, y, _, _, rfl, rfl, .inl (.inl ((s5.trans f6) _ _ hC4)), .inl (.inl upd_same), by show 3 ≤ sizeLine; decide, (fun z => by cases z), (fun _ z => by cases z), fun _ _ q hq => ?_⟩
            have f7 := f6.trans (Same.new (Same.refl _) hq (o := .tup (stv (s0.1, i))))
            have eq7 : (icv s0.1 ++ [V.int (i : Nat)]) = stv (s0.1, i) := rfl
            rw [eq7]
            have g7 : (upd (upd H6 y (.tup [.int (i : Nat)])) q (.tup (stv (s0.1, i)))) q = some (.tup (stv (s0.1, i))) := upd_same
            generalize upd (upd H6 y (.tup [.int (i : Nat)])) q (.tup (stv (s0.1, i))) = H7 at f7 g7 ⊢
            refine ⟨by show 0 ≤ sizeLine; decide, fun l hl0 => ?_⟩
            have f8 := f7.trans (Same.new (Same.refl H7) hl0 (o := .lst []))
            have g8 := (Same.new (Same.refl H7) hl0 (o := .lst [])) _ _ g7
            generalize upd H7 l (.lst []) = H8 at f8 g8 ⊢
            refine ⟨by show 2 ≤ sizeLine; decide, fun pp hpp => ?_⟩
            have f9 := f8.trans (Same.new (Same.refl H8) hpp (o := .tup [.ref q, .ref l]))
            have g9 := (Same.new (Same.refl H8) hpp (o := .tup [.ref q, .ref l])) _ _ g8
            have p9 : (upd H8 pp (.tup [.ref q, .ref l])) pp = some (.tup [.ref q, .ref l]) := upd_same
            generalize upd H8 pp (.tup [.ref q, .ref l]) = H9 at f9 g9 p9 ⊢
            refine ⟨_, f9 _ _ h5, Nat.lt_of_le_of_lt (show _ ≤ 100 by rw [List.length_map]; omega) (by decide), Same.updN (s5.trans f9) hDn, L ++ [(pp, q, kS (s0.1, i), .ref l)], by rw [upd_same, List.map_append]; rfl, ((c5.same f9).app p9 g9).updL (f9 _ _ h5), ?_, by rw [List.length_append, List.length_singleton]; omega⟩
            rw [List.map_append, ht, er, e, List.map_append]
            rfl
        · rintro H5 ⟨s5, L, h5, c5, ht, hll⟩
          have hll : L.length ≤ 4 := hll
          have ht : L.map (·.2.2.1) = ((List.range 4).filter fun t => iaF rows z 12 (s0.1, t)).map (fun t => kS (s0.1, t)) := ht
          obtain ⟨ks, k5, m5⟩ := putAll_keys (L := L) (S := ((List.range 4).filter fun t => iaF rows z 12 (s0.1, t)).map fun t => (s0.1, t)) fun x => by
            rw [ht, List.map_map]
            exact Iff.rfl
          refine nilArgs ⟨D, L, rfl, .inl (.inl h5), c5, by omega, fun E hE => ?_⟩
          have hl2 := putAll_len L []
          rw [List.length_nil] at hl2
          refine k E _ ks _ (Same.none (s4.trans s5) hE) ((s4.trans s5).trans (Same.new (Same.refl H5) hE)) upd_same k5 (by omega) fun x => (m5 x).trans ?_
          show _ ↔ x ∈ ((List.range 4).map fun t => turnS s0 (t : Nat)).filter fun x => iaF rows z 12 x
          rw [List.mem_map, List.mem_filter, List.mem_map]
          constructor
          · rintro ⟨t, ht, rfl⟩
            obtain ⟨h1, h2⟩ := List.mem_filter.mp ht
            have h1 := List.mem_range.mp h1
            refine ⟨⟨(t + 4 - s0.2) % 4, List.mem_range.mpr (Nat.mod_lt _ (by decide)), ?_⟩, h2⟩
            refine Prod.ext rfl ?_
            show ((((s0.2 : Nat) : Int) + (((t + 4 - s0.2) % 4 : Nat) : Int)) % 4).toNat = t
            omega
          · rintro ⟨⟨t, ht, rfl⟩, h2⟩
            exact ⟨(turnS s0 (t : Nat)).2, List.mem_filter.mpr ⟨List.mem_range.mpr (turnS_lt _ _), h2⟩, rfl⟩
    | beside m z =>
      refine ⟨_, rfl, rfl, _, rfl, iteF' (by rw [wtest]; show decide (Str.ofString "beside" = Str.ofString "turn") = false; decide +kernel) ?_⟩
      refine ⟨_, rfl, rfl, _, rfl, iteF' (by rw [wtest]; show decide (Str.ofString "beside" = Str.ofString "walk") = false; decide +kernel) ?_⟩
      refine ⟨_, rfl, rfl, _, rfl, iteF' (by rw [wtest]; show decide (Str.ofString "beside" = Str.ofString "shore") = false; decide +kernel) ?_⟩
      refine ⟨_, rfl, rfl, _, rfl, iteF' (by rw [wtest]; show decide (Str.ofString "beside" = Str.ofString "until") = false; decide +kernel) ?_⟩
      refine ⟨_, rfl, rfl, _, rfl, iteF' (by rw [wtest]; show decide (Str.ofString "beside" = Str.ofString "toward") = false; decide +kernel) ?_⟩
      refine ⟨_, rfl, rfl, _, rfl, iteT' (by rw [wtest]; show decide (Str.ofString "beside" = Str.ofString "beside") = true; decide +kernel) ?_⟩
      cases hP4 with
      | cons g0 hA =>
        have e0 := dp_nm g0
        subst e0
        cases hA with
        | cons g1 hA =>
          unfold dt at g1
          cases g1
          cases hA
          refine ⟨_, rfl, _, rfl, _, rfl, _, rfl, tp, _, 0, _, rfl, rfl, .inl (.inl hW4), rfl, _, _, rfl, rfl, pc, s0.1, ((s0.2 : Nat) : Int) + (m : Nat), rfl, .inl (.inl hC4), fun H5 s5 q hq => ?_⟩
          have s6 := s5.trans (Same.new (Same.refl H5) hq (o := .tup (icv (adjI s0.1 ((((s0.2 : Nat) : Int) + (m : Nat)) % 4).toNat))))
          have e6 : (upd H5 q (.tup (icv (adjI s0.1 ((((s0.2 : Nat) : Int) + (m : Nat)) % 4).toNat)))) q = some (.tup (icv (adjI s0.1 ((((s0.2 : Nat) : Int) + (m : Nat)) % 4).toNat))) := upd_same
          generalize upd H5 q (.tup (icv (adjI s0.1 ((((s0.2 : Nat) : Int) + (m : Nat)) % 4).toNat))) = H6 at s6 e6 ⊢
          refine ⟨ra, q, rows, _, rfl, Same.tup s6 hS4, g, .inl (.inl e6), ?_⟩
          have eA : sgW rows (adjI s0.1 ((((s0.2 : Nat) : Int) + (m : Nat)) % 4).toNat) = aheadS rows (turnS s0 (m : Nat)) := rfl
          rw [eA]
          refine ⟨_, rfl, _, rfl, tp, _, 1, _, rfl, rfl, .inl (.inl (s6 _ _ hW4)), rfl, aheadS rows (turnS s0 (m : Nat)), tx z, rfl, rfl, _, rfl, ?_⟩
          rw [tx_cps]
          by_cases hm : aheadS rows (turnS s0 (m : Nat)) ∈ z
          · refine iteT' (decide_eq_true hm) fun p hp => ⟨_, rfl, by show 0 ≤ sizeLine; decide, fun l hl => disp H6 s6 ?_ p hp l hl⟩
            show (if aheadS rows (turnS s0 (m : Nat)) ∈ z then [s0] else [] : List ST) = [s0]
            rw [if_pos hm]
          · refine iteF' (decide_eq_false hm) fun p hp => non H6 s6 ?_ p hp
            show (if aheadS rows (turnS s0 (m : Nat)) ∈ z then [s0] else [] : List ST) = []
            rw [if_neg hm]
    | near z m =>
      refine ⟨_, rfl, rfl, _, rfl, iteF' (by rw [wtest]; show decide (Str.ofString "near" = Str.ofString "turn") = false; decide +kernel) ?_⟩
      refine ⟨_, rfl, rfl, _, rfl, iteF' (by rw [wtest]; show decide (Str.ofString "near" = Str.ofString "walk") = false; decide +kernel) ?_⟩
      refine ⟨_, rfl, rfl, _, rfl, iteF' (by rw [wtest]; show decide (Str.ofString "near" = Str.ofString "shore") = false; decide +kernel) ?_⟩
      refine ⟨_, rfl, rfl, _, rfl, iteF' (by rw [wtest]; show decide (Str.ofString "near" = Str.ofString "until") = false; decide +kernel) ?_⟩
      refine ⟨_, rfl, rfl, _, rfl, iteF' (by rw [wtest]; show decide (Str.ofString "near" = Str.ofString "toward") = false; decide +kernel) ?_⟩
      refine ⟨_, rfl, rfl, _, rfl, iteF' (by rw [wtest]; show decide (Str.ofString "near" = Str.ofString "beside") = false; decide +kernel) ?_⟩
      cases hP4 with
      | cons g0 hA =>
        unfold dt at g0
        cases g0
        cases hA with
        | cons g1 hA =>
          have e1 := dp_nm g1
          subst e1
          cases hA
          have hm22 : m ≤ 22 := hl
          obtain ⟨r0, rs, hrs⟩ : ∃ r0 rs, rows = r0 :: rs := by
            cases rows with
            | nil => exact absurd rfl g.toShp.ne
            | cons r0 rs => exact ⟨r0, rs, rfl⟩
          have hr0 : (tx r0).length ≤ sizeLine := by rw [tx_len]; exact small_le (g.toShp.row r0 (by rw [hrs]; exact List.mem_cons_self ..))
          have hat0 : atI (rows.map vt) 0 = some (vt r0) := by rw [hrs]; exact at0
          have hw : (rows.headD []).length = r0.length := by rw [hrs]; rfl
          have hlr := g.toShp.len
          have hlw : r0.length ≤ 1000 := g.toShp.row r0 (by rw [hrs]; exact List.mem_cons_self ..)
          refine ⟨_, rfl, _, rfl, ra, _, rfl, .inr hS4, _, _, rfl, rfl, -1, ((rows.map vt).length : Nat) + 1, rfl, ⟨by decide, by decide, by omega, by rw [List.length_map]; omega⟩, ?_⟩
          refine for_range (lo := -1) (fun i σ H' => Same H4 H' ∧ ∃ f v12 v13, FarI rows z s0 (fun a b => (-1 ≤ a ∧ a < -1 + (i : Nat)) ∧ (-1 ≤ b ∧ b < (r0.length : Nat) + 1)) f ∧ σ = [some (.ref ra), some (.ref sa), some (.ref u), some (.str "near"), some (.ref tp), some (.ref pc), some (.int (s0.2 : Nat)), none, none, none, none, some (.int f), v12, v13, none])
            ⟨Same.refl H4, 99, _, _, ⟨.inl rfl, Int.le_refl _, fun a b h => by omega⟩, rfl⟩ ?_ ?_
          · rintro i σ H5 hi ⟨s5, f, v12, v13, hf5, rfl⟩
            rw [List.length_map] at hi
            refine ⟨_, rfl, _, rfl, ra, _, 0, _, rfl, rfl, Same.tup s5 hS4, hat0, _, rfl, hr0, _, _, rfl, rfl, -1, ((tx r0).length : Nat) + 1, rfl, ⟨by decide, by decide, by omega, by rw [tx_len]; omega⟩, ?_⟩
            refine for_range (lo := -1) (fun j σ H' => Same H4 H' ∧ ∃ f v13, FarI rows z s0 (fun a b => ((-1 ≤ a ∧ a < -1 + (i : Nat)) ∧ (-1 ≤ b ∧ b < (r0.length : Nat) + 1)) ∨ (a = -1 + (i : Nat) ∧ -1 ≤ b ∧ b < -1 + (j : Nat))) f ∧ σ = [some (.ref ra), some (.ref sa), some (.ref u), some (.str "near"), some (.ref tp), some (.ref pc), some (.int (s0.2 : Nat)), none, none, none, none, some (.int f), some (.int (-1 + (i : Nat))), v13, none])
              ⟨s5, f, _, hf5.congr fun a b => ⟨fun h => h.elim id fun h => by omega, .inl⟩, rfl⟩ ?_ ?_
            · rintro j σ H6 hj ⟨s6, f, v13, hf6, rfl⟩
              rw [tx_len] at hj
              refine ⟨_, rfl, _, rfl, _, rfl, by show 2 ≤ sizeLine; decide, fun y hy => ?_⟩
              have s7 := s6.trans (Same.new (Same.refl H6) hy (o := .tup (icv (-1 + (i : Nat), -1 + (j : Nat)))))
              have e7 : (upd H6 y (.tup [.int (-1 + (i : Nat)), .int (-1 + (j : Nat))])) y = some (.tup (icv (-1 + (i : Nat), -1 + (j : Nat)))) := upd_same
              have s7 : Same H4 (upd H6 y (.tup [.int (-1 + (i : Nat)), .int (-1 + (j : Nat))])) := s7
              generalize upd H6 y (.tup [.int (-1 + (i : Nat)), .int (-1 + (j : Nat))]) = H7 at s7 e7 ⊢
              refine ⟨ra, y, rows, _, rfl, Same.tup s7 hS4, g, .inl (.inl e7), ?_⟩
              refine ⟨_, rfl, tp, _, 0, _, rfl, rfl, .inl (.inl (s7 _ _ hW4)), rfl, sgW rows (-1 + (i : Nat), -1 + (j : Nat)), tx z, rfl, rfl, _, rfl, ?_⟩
              rw [tx_cps]
              have sn : ∀ a b : Int, (((-1 ≤ a ∧ a < -1 + (i : Nat)) ∧ (-1 ≤ b ∧ b < (r0.length : Nat) + 1)) ∨ (a = -1 + (i : Nat) ∧ -1 ≤ b ∧ b < -1 + ((j + 1 : Nat) : Nat))) ↔ (((-1 ≤ a ∧ a < -1 + (i : Nat)) ∧ (-1 ≤ b ∧ b < (r0.length : Nat) + 1)) ∨ (a = -1 + (i : Nat) ∧ -1 ≤ b ∧ b < -1 + (j : Nat))) ∨ (a = -1 + (i : Nat) ∧ b = -1 + (j : Nat)) := fun a b => by
                constructor
                · intro h; omega
                · intro h; omega
              by_cases hm : sgW rows (-1 + (i : Nat), -1 + (j : Nat)) ∈ z
              · refine iteT' (decide_eq_true hm) ?_
                have hC7 := s7 _ _ hC4
                refine ⟨_, rfl, _, rfl, _, rfl, pc, _, 0, _, rfl, rfl, .inl (.inl hC7), at0, _, _, rfl, rfl, _, rfl, _, rfl, _, rfl, pc, _, 1, _, rfl, rfl, .inl (.inl hC7), rfl, _, _, rfl, rfl, _, rfl, _, _, rfl, rfl, _, _, rfl, ?_⟩
                exact ⟨s7, _, _, FarI.put hf6 hm sn, rfl⟩
              · exact iteF' (decide_eq_false hm) ⟨s7, f, _, FarI.skip hf6 hm sn, rfl⟩
            · rintro σ H6 ⟨s6, f, v13, hf6, rfl⟩
              rw [tx_len] at hf6
              exact ⟨s6, f, _, _, hf6.congr fun a b => ⟨fun h => by omega, fun h => by omega⟩, rfl⟩
          · rintro σ H5 ⟨s5, f, v12, v13, hf5, rfl⟩
            rw [List.length_map] at hf5
            have hn := FarI.near hm22 (hf5.congr (Sn' := fun a b => (-1 ≤ a ∧ a < (rows.length : Nat) + 1) ∧ (-1 ≤ b ∧ b < ((rows.headD []).length : Nat) + 1)) fun a b => by rw [hw]; exact ⟨fun h => by omega, fun h => by omega⟩)
            refine ⟨_, rfl, _, rfl, tp, _, 1, _, rfl, rfl, .inl (.inl (s5 _ _ hW4)), rfl, _, _, rfl, rfl, _, rfl, ?_⟩
            by_cases hle : f ≤ (m : Nat)
            · rw [decide_eq_true hle] at hn
              refine iteT' (decide_eq_true hle) fun p hp => ⟨_, rfl, by show 0 ≤ sizeLine; decide, fun l hl => disp H5 s5 ?_ p hp l hl⟩
              show (if nearF rows z (m : Nat) s0 = true then [s0] else [] : List ST) = [s0]
              rw [if_pos hn]
            · rw [decide_eq_false hle] at hn
              refine iteF' (decide_eq_false hle) fun p hp => non H5 s5 ?_ p hp
              show (if nearF rows z (m : Nat) s0 = true then [s0] else [] : List ST) = []
              rw [hn]
              rfl
    | shore d m n =>
      refine ⟨_, rfl, rfl, _, rfl, iteF' (by rw [wtest]; show decide (Str.ofString "shore" = Str.ofString "turn") = false; decide +kernel) ?_⟩
      refine ⟨_, rfl, rfl, _, rfl, iteF' (by rw [wtest]; show decide (Str.ofString "shore" = Str.ofString "walk") = false; decide +kernel) ?_⟩
      refine ⟨_, rfl, rfl, _, rfl, iteT' (by rw [wtest]; show decide (Str.ofString "shore" = Str.ofString "shore") = true; decide +kernel) ?_⟩
      cases hP4 with
      | cons g0 hA =>
        have e0 := dp_nm g0
        subst e0
        cases hA with
        | cons g1 hA =>
          have e1 := dp_nm g1
          subst e1
          cases hA with
          | cons g2 hA =>
            have e2 := dp_nm g2
            subst e2
            cases hA
            have hn : n ≤ 20 := hv
            have hd : 0 < d := hl
            refine ⟨_, rfl, _, rfl, _, rfl, tp, _, 0, _, rfl, rfl, .inl (.inl hW4), rfl, _, rfl, tp, _, 1, _, rfl, rfl, .inl (.inl hW4), rfl, _, rfl, tp, _, 2, _, rfl, rfl, .inl (.inl hW4), rfl, ra, sa, rows, s0, (d : Int), m, n, rfl, hS4, g, hs4, hf, by omega, fun D kvs ks H5 hD5 s5 d5 k5 l5 m5 => ?_⟩
            exact k D kvs ks H5 (Same.none s4 hD5) (s4.trans s5) d5 k5 (by omega) fun x => by rw [m5 x, nxFL rows (by omega), pth_pl]; rfl
end
end Om

/-! the law: _law_behind -/
namespace Om
open PySem PySem.Spec PyProof.Rows L2 LamX Gk
abbrev sLBh : Stmt := top 69
def spLBh (K : PySem.W.Frag) : Sp := fun vs H Q _ => ∃ (ra la : Addr) (iv : V) (rows : List (List Nat)) (t : TS) (v : VI), vs = [.ref ra, .ref la, iv] ∧ SqT K H ra (rows.map vt) ∧ Vd rows ∧ H la = some (.lst (vzS t)) ∧ CS H t ∧ t.length ≤ 1000 ∧ (∀ s ∈ csS t, s ∈ allS rows) ∧ Dp K H iv v.ins.d ∧ v.wf ∧ v.wl ∧
  ∀ (c : Addr) (u : TS) (H' : Hp), H c = none → Same H H' → H' c = some (.lst (vzS u)) → CS H' u → NextR rows v (csS t) (csS u) → (∀ s ∈ csS u, s ∈ allS rows) → Q (.ref c) H'
theorem allS_ins {rows : List (List Nat)} (vd : Vd rows) {s : ST} (h : s ∈ allS rows) : insd rows s.1.1 s.1.2 = true ∧ s.2 < 4 := by
  unfold allS at h
  obtain ⟨⟨a, b⟩, hc, h⟩ := List.mem_flatMap.mp h
  obtain ⟨f, hf, rfl⟩ := List.mem_map.mp h
  exact ⟨cell_insd vd.toGood2 hc, List.mem_range.mp hf⟩
theorem next_land {rows : List (List Nat)} (vd : Vd rows) {v : VI} {S S' : List ST} (h : NextR rows v S S') (hS : ∀ s ∈ S, s ∈ allS rows) : ∀ s ∈ S', s ∈ allS rows := fun s hs => by
  obtain ⟨r, hr, hx⟩ := (h.2 s).mp hs
  exact (allS_mem vd.toGood2 s).mpr (led_land rows v r s ((allS_mem vd.toGood2 r).mp (hS r hr)) hx)
section
variable {P : Program} {w : World} {K : PySem.W.Frag} {mg : Str → Option Value} {base : Heap}
abbrev nLBh : List Str := ["_law_rows_here", "_law_states", "_law_instruction_here", "_law_found", "_law_state"]
theorem scLBh : FnScope nLBh ["_law_rows_here", "_law_states", "_law_instruction_here"] (defScope sLBh) := ⟨rfl, rfl, rfl, by decide +kernel, rfl, by decide +kernel, by decide +kernel⟩
theorem ok_lbh {f : Addr} {fd : FuncData} (F : FnP K "_law_behind" "_law_behind" sLBh f fd) (LD : Cal P w K mg base CX0 4 "_law_lead" ["_law_rows_here", "_law_state", "_law_instruction_here"] (spLLd K)) (gsorted : mg "sorted" = none) : FnOk P w K mg base CX0 5 f fd ["_law_rows_here", "_law_states", "_law_instruction_here"] (spLBh K) := by
  refine F.ok scLBh (fun vs H Q E h => ?_) (fun cdv A outer s H vs Q E hr h => ?_)
  · obtain ⟨ra, la, iv, rows, t, v, rfl, _⟩ := h
    rfl
  · obtain ⟨ra, la, iv, rows, t, v, rfl, hS, vd, hL, hC, htl, hin, hD, hv, hl, k⟩ := h
    have nd := scLBh.nd
    have g := vd.toGood2
    have hu := hr.units
    have hu16 : _ + 16 < cLine := Nat.lt_of_le_of_lt (Nat.add_le_add_left (show 16 ≤ 64 by decide) _) hu
    refine ⟨_, PSs.nox (pss_cons (ps_set (i := 3) nd rfl (.inl rfl) pe_dnewT)
      (pss_cons (ps_for PassesOwn.never rfl (pi_list (pv 1)) (pg_name (i := 4) nd rfl (.inl rfl))
        (pss_one (ps_expr (pe_bm PySem.F.plainAttrs_dict PySem.F.slot_dict_update type_dict_update (mt_dupdE hu16) (pv 3) (pa_cons (pe_cal LD hr pass0 (pa_cons (pv 0) (pa_cons (pv 4) (pa_cons (pv 2) pa_nil)))) pa_nil)))))
      (pss_one (ps_ret (pe_callB (cr_sortDO rfl hu) (by rfl) gsorted (by decide +kernel) (pa_cons (pv 3) pa_nil)))))), ?_⟩
    refine fun D hD0 => ?_
    have s1 := Same.new (Same.refl H) hD0 (o := .dT [])
    have e1 : (upd H D (.dT [])) D = some (.dT []) := upd_same
    generalize upd H D (.dT []) = H1 at s1 e1 ⊢
    refine ⟨_, rfl, la, rfl, ⟨_, .inl (.inl (s1 _ _ hL))⟩, ?_⟩
    refine for_list (K := K) (a := la) (xs := vzS t) (fun i σ H' => Same H H' ∧ ∃ (kvs : List (List L2.Key × V)) (ks : List ST) (v4 : Option V), σ = [some (.ref ra), some (.ref la), some iv, some (.ref D), v4] ∧ H' D = some (.dT kvs) ∧ DKeys kvs ks ∧ kvs.length ≤ 21 * i ∧ ∀ x, x ∈ ks ↔ ∃ s ∈ (csS t).take i, x ∈ ledF rows v s)
      ⟨s1, [], [], _, rfl, e1, rfl, Nat.le_refl _, fun x => by simp⟩ (fun i σ H' _ q => .inl (.inl (q.1 _ _ hL))) ?_ ?_
    · rintro i x σ H2 hx ⟨s2, kvs, ks, v4, rfl, d2, k2, l2, m2⟩
      obtain ⟨q, hq, rfl, mq⟩ := atS hx
      have hsq : (csS t)[i]? = some q.2 := by
        unfold csS
        rw [List.getElem?_map, hq]
        rfl
      have hi := (List.getElem?_eq_some_iff.mp hq).1
      have hsm := List.mem_of_getElem? hsq
      obtain ⟨h1, h2⟩ := allS_ins vd (hin _ hsm)
      refine ⟨_, rfl, .inr (.inr (.inl ⟨rfl, .inr ⟨_, d2⟩⟩)), _, rfl, _, rfl, _, rfl, ra, q.1, iv, rows, q.2, v, rfl, Same.tup s2 hS, vd, s2 _ _ (hC q mq), h1, h2, Same.dp s2 hD, hv, hl, fun D2 kvs2 ks2 H3 hD2 s3 d3 k3 l3 m3 => ?_⟩
      have nD : D ≠ D2 := fun e => by rw [← e, d2] at hD2; cases hD2
      have in2 : ∀ x ∈ ks2, x ∈ allS rows := fun x hx => (allS_mem g x).mpr (led_land rows v q.2 x ((allS_mem g q.2).mp (hin _ hsm)) ((m3 x).mp hx))
      refine nilArgs ⟨D, D2, kvs, kvs2, rfl, rfl, s3 _ _ d2, d3, nD, .inr fun a ha b hb e => ?_, by omega, ?_⟩
      · rw [k3] at ha hb
        obtain ⟨x, hx, rfl⟩ := List.mem_map.mp ha
        obtain ⟨y, hy, rfl⟩ := List.mem_map.mp hb
        rw [hash_inj vd (in2 x hx) (in2 y hy) e]
      · have hm : ∀ kk, kk ∈ (mergeT kvs kvs2).map (·.1) ↔ kk ∈ (ks ++ ks2).map kS := fun kk => by
          rw [mem_mergeT, k2, k3, List.map_append, List.mem_append]
        obtain ⟨ks4, e4⟩ := keys_kS (ks := (mergeT kvs kvs2).map (·.1)) fun kk hk => by
          obtain ⟨s, _, e⟩ := List.mem_map.mp ((hm kk).mp hk)
          exact ⟨s, e.symm⟩
        refine ⟨Same.updN (s2.trans s3) hD0, _, ks4, _, rfl, upd_same, e4, ?_, fun x => ?_⟩
        · have := mergeT_len kvs2 kvs
          rw [Nat.mul_succ]
          omega
        · rw [← dk_mem e4 x, hm, List.take_add_one, hsq]
          constructor
          · intro z
            obtain ⟨r, hr, e⟩ := List.mem_map.mp z
            rw [kS_inj e] at hr
            rcases List.mem_append.mp hr with hr | hr
            · obtain ⟨s, hs, h⟩ := (m2 x).mp hr
              exact ⟨s, List.mem_append_left _ hs, h⟩
            · exact ⟨q.2, List.mem_append_right _ List.mem_cons_self, (m3 x).mp hr⟩
          · rintro ⟨s, hs, h⟩
            refine List.mem_map_of_mem ?_
            rcases List.mem_append.mp hs with hs | hs
            · exact List.mem_append_left _ ((m2 x).mpr ⟨s, hs, h⟩)
            · have e : s = q.2 := List.mem_singleton.mp hs
              rw [e] at h
              exact List.mem_append_right _ ((m3 x).mpr h)
    · rintro σ H2 ⟨s2, kvs, ks, v4, rfl, d2, k2, l2, m2⟩
      rw [vzS_len, ← csS_len, List.take_length] at m2
      refine ⟨_, rfl, D, kvs, ks.map stl, rfl, d2, ?_, fun L p hpm hnd hki hpw hp => ?_⟩
      · rw [k2, List.map_map]
        rfl
      obtain ⟨u, eu, _⟩ := ts_of (H := H2) (L := L) fun q hq => by
        obtain ⟨s, _, e⟩ := List.mem_map.mp (hpm.mem_iff.mp (List.mem_map_of_mem hq))
        refine ⟨s, e.symm, ?_⟩
        rw [hki q hq, ← e]
        rfl
      have hki2 : CS H2 u := fun x hx => by
        have := hki (x.1, stl x.2) (by rw [eu]; exact List.mem_map_of_mem (f := fun p : Addr × ST => (p.1, stl p.2)) hx)
        exact this
      have hv' : (L.map fun q => V.ref q.1) = vzS u := by
        rw [eu, List.map_map]
        rfl
      rw [hv']
      have s3 := Same.new (Same.refl H2) hp (o := .lst (vzS u))
      have nx : NextR rows v (csS t) (csS u) := by
        refine ⟨ups_of (by rw [← eu]; exact hpm.nodup_iff.mpr hnd) (by rw [← eu]; exact hpw), fun x => ?_⟩
        rw [← m2 x]
        have hx : stl x ∈ (L.map (·.2)) ↔ stl x ∈ ks.map stl := hpm.mem_iff
        rw [eu, List.map_map] at hx
        constructor
        · intro h
          obtain ⟨y, hy, rfl⟩ := List.mem_map.mp h
          obtain ⟨z, hz, e⟩ := List.mem_map.mp (hx.mp (List.mem_map.mpr ⟨y, hy, rfl⟩))
          rw [← stl_inj e]
          exact hz
        · intro h
          obtain ⟨y, hy, e⟩ := List.mem_map.mp (hx.mpr (List.mem_map_of_mem h))
          rw [← stl_inj e]
          exact List.mem_map_of_mem hy
      exact k p u _ (Same.none s2 hp) (s2.trans s3) upd_same (hki2.same s3) nx (next_land vd nx hin)
end
end Om

namespace Om
open PySem PySem.Spec PyProof.Rows L2
/-! ### charts side by side -/
def LoS (s : List Nat) : Prop := ∀ c ∈ s, c < 1000
def Ins.lo : Ins → Prop
  | .upto s => LoS s
  | .toward s => LoS s
  | .beside _ s => LoS s
  | .near s _ => LoS s
  | _ => True
theorem nm_lay (n : Nm) : n.d.canLay0 = true := by cases n <;> simp [Nm.d, PyData.canLay0]
theorem nms_lay : ∀ ns : List Nm, PyData.canLayAll0 (ns.map Nm.d) = true
  | [] => by simp [PyData.canLayAll0]
  | n :: r => by simp only [List.map_cons, PyData.canLayAll0, nm_lay, nms_lay r, Bool.and_self]
theorem nm_dep (n : Nm) : n.d.depth = 0 := by cases n <;> simp [Nm.d, PyData.depth]
theorem nms_dep : ∀ ns : List Nm, PyData.depthAll (ns.map Nm.d) = 0
  | [] => by simp [PyData.depthAll]
  | n :: r => by simp [PyData.depthAll, nm_dep, nms_dep r]
theorem dt_lay {s : List Nat} (h : LoS s) : (dt s).canLay0 = true := by
  simp only [dt, PyData.canLay0]
  exact strOk_tx h
theorem dt_dep (s : List Nat) : (dt s).depth = 0 := by simp [dt, PyData.depth]
theorem word_ok (i : Ins) : PyData.strOk i.word = true := by cases i <;> (show PyData.strOk (Str.ofString _) = true; decide +kernel)
theorem ins_lay {i : Ins} (h : i.lo) : i.d.canLay0 = true := by
  have w := word_ok i
  cases i <;> simp only [Ins.d, Ins.parts, PyData.canLay0, PyData.canLayAll0, w, nm_lay, nms_lay, Bool.and_self] <;> first | rfl | (rw [dt_lay h] <;> rfl)
theorem ins_dep (i : Ins) : i.d.depth ≤ 2 := by
  cases i <;> simp [Ins.d, Ins.parts, PyData.depth, PyData.depthAll, nm_dep, nms_dep, dt_dep]
theorem inss_lay : ∀ {is : List Ins}, (∀ i ∈ is, i.lo) → PyData.canLayAll0 (is.map Ins.d) = true
  | [], _ => by simp [PyData.canLayAll0]
  | i :: r, h => by simp only [List.map_cons, PyData.canLayAll0, ins_lay (h i (List.mem_cons_self ..)), inss_lay (is := r) fun j hj => h j (List.mem_cons_of_mem _ hj), Bool.and_self]
theorem inss_dep : ∀ is : List Ins, PyData.depthAll (is.map Ins.d) ≤ 2
  | [] => by simp [PyData.depthAll]
  | i :: r => by
    have h1 := ins_dep i
    have h2 := inss_dep r
    simp only [List.map_cons, PyData.depthAll]
    omega
theorem sh_nms (ns : List Nm) : SeqAt.shaped (.tuple (ns.map Nm.d)) = true := shaped_of (by simp only [PyData.canLay0]; exact nms_lay ns) (by simp only [PyData.depth, nms_dep]; omega)
theorem sh_inss {is : List Ins} (h : ∀ i ∈ is, i.lo) : SeqAt.shaped (.tuple (is.map Ins.d)) = true := shaped_of (by simp only [PyData.canLay0]; exact inss_lay h) (by have := inss_dep is; simp only [PyData.depth]; omega)
end Om

/-! sorted(text) -/
namespace Om
open PySem PySem.Spec PySem.Calls PyProof.Rows L2
section
variable {P : Program} {w : World} {A : Around} {E : Value → Shared → Prop} {s : Shared}
theorem strsAre_signs {x : Str} : ∀ {vs : List Value} {cs : List Nat}, vs.length = cs.length → (∀ (i : Nat) v, vs[i]? = some v → ∃ c u, cs[i]? = some c ∧ v = .str ⟨#[c]⟩ u) → StrsAre vs (cs.map fun c => (⟨#[c]⟩ : Str))
  | [], [], _, _ => .nil
  | v :: vs, c :: cs, hl, h => by
    obtain ⟨c', u, e1, e2⟩ := h 0 v rfl
    have e1 : some c = some c' := e1
    cases e1
    subst e2
    exact .cons _ _ (strsAre_signs (x := x) (by simpa using hl) fun i v hv => h (i + 1) v hv)
theorem sorted_text {x : Str} {t : Tok} {Q : Value → Shared → Prop} (hh : A.handled = none) (h64 : x.cps.size < 64)
    (hQ : ∀ s' p (out : Array Value) (c : Nat) (ss : List Str), (∀ b o, s.heap.get? b = some o → s'.heap.get? b = some o) → s'.gens = s.gens → s'.os = s.os → s'.heap.get? p = some (seqObj "list" out c) → s.heap.get? p = none → StrsAre out.toList ss → ss.Perm (x.cps.toList.map fun c => (⟨#[c]⟩ : Str)) → sortedS ss = true → Q (.ref p) s') :
    wpAny (model P w) A (call (.builtin "sorted") [.str x t]) Q E s := by
  refine Calls.call_function_entry kind_sorted plain_sorted entry_sorted (args_sorted1 _) ?_
  unfold Builtin.«sorted»
  refine wpAny_bind (m := checkCount "sorted" 1 1 _) (wpAny_pure ?_)
  refine wpAny_bind (wpAny_collect_str (A := A.in1) hh x t (fun s1 acc k1 g1 d1 o1 io => ?_) (by rw [sizeLine_eq]; omega))
  have hl : acc.toList.length = x.cps.toList.length := by rw [Array.length_toList, Array.length_toList]; exact io.1
  have hS : StrsAre acc.toList (x.cps.toList.map fun c => (⟨#[c]⟩ : Str)) := strsAre_signs (x := x) hl fun i v hv => by
    rw [Array.getElem?_toList] at hv
    obtain ⟨c, u, e1, e2⟩ := io.2 i v hv
    exact ⟨c, u, by rw [Array.getElem?_toList]; exact e1, e2⟩
  have hlen : acc.toList.length < 64 := by rw [Array.length_toList, io.1]; exact h64
  refine wpAny_bind (wpAny_newList ?_ (by rw [sizeLine_eq]; omega))
  have hoL : (s1.heap.push (seqObj "list" acc.toList.toArray 0)).get? s1.heap.objs.size = some (seqObj "list" acc.toList.toArray 0) := Heap.get?_push_size _ rfl
  refine wpAny_bind (wpAny_holding (wpAny_call_entry slot_list_sort ⟨_, hoL, rfl⟩ entry_list_sort (list_sort_treeK strKind_oneLt hoL hS.keysOf (fun v₁ v₂ rest e => keyKind_strs (by rw [← e]; exact hS)) hlen fun st' hp hs => ⟨_, rfl, ?_⟩) (args_list_sort _)))
  obtain ⟨ss', h1, h2, h3⟩ := sorted_out_str hS hp hs
  obtain ⟨c, hc⟩ := sortedHeap_at (vs := acc.toList) (out := (arrOf st').map (·.2)) hoL
  refine wpAny_pure ⟨_, rfl, hQ _ s1.heap.objs.size _ c ss' (fun b u e => ?_) g1 o1 hc ?_ h1 h2 h3⟩
  · have q := k1 b u e
    have hlt := Heap.lt_size q
    show (sortedHeap (s1.heap.push (seqObj "list" acc.toList.toArray 0)) s1.heap.objs.size acc.toList _).get? b = some u
    rw [sortedHeap_old (Nat.ne_of_lt hlt) (by rw [size_push']; exact Nat.lt_succ_of_lt hlt)]
    exact Heap.get?_push_of_some _ q
  · cases q : s.heap.get? s1.heap.objs.size with
    | none => rfl
    | some o => exact absurd (Heap.lt_size (k1 _ _ q)) (Nat.lt_irrefl _)
end
end Om

namespace Om
open PySem PySem.Spec PyProof.Rows L2
/-! ### a sorted text is told -/
theorem eq_of_perm_le : ∀ (l1 l2 : List Nat), l1.Perm l2 → l1.Pairwise (· ≤ ·) → l2.Pairwise (· ≤ ·) → l1 = l2
  | [], l2, h, _, _ => (List.Perm.nil_eq h)
  | a :: r1, [], h, _, _ => absurd h.length_eq (by simp)
  | a :: r1, b :: r2, h, p1, p2 => by
    obtain ⟨q1, q1'⟩ := List.pairwise_cons.mp p1
    obtain ⟨q2, q2'⟩ := List.pairwise_cons.mp p2
    have ha : a ∈ b :: r2 := h.mem_iff.mp (List.mem_cons_self ..)
    have hb : b ∈ a :: r1 := h.mem_iff.mpr (List.mem_cons_self ..)
    have e : a = b := by
      rcases List.mem_cons.mp ha with h1 | h1
      · exact h1
      · rcases List.mem_cons.mp hb with h2 | h2
        · exact h2.symm
        · have := q1 b h2
          have := q2 a h1
          omega
    subst e
    rw [eq_of_perm_le r1 r2 (List.Perm.cons_inv h) q1' q2']
theorem rising_pw : ∀ (l : List Nat) (p : Nat), risingS (tx [p]) (l.map fun c => tx [c]) = true → (p :: l).Pairwise (· ≤ ·)
  | [], p, _ => by simp
  | x :: r, p, h => by
    have h : (!ltCps (tx [x]).cps.toList (tx [p]).cps.toList && risingS (tx [x]) (r.map fun c => tx [c])) = true := h
    obtain ⟨h1, h2⟩ := Bool.and_eq_true_iff.mp h
    have ih := rising_pw r x h2
    rw [tx_cps, tx_cps] at h1
    have hle : p ≤ x := by
      by_cases hlt : x < p
      · have e : ltCps [x] [p] = true := by
          unfold ltCps
          simp [hlt]
        rw [e] at h1
        cases h1
      · omega
    refine List.pairwise_cons.mpr ⟨fun y hy => ?_, ih⟩
    rcases List.mem_cons.mp hy with rfl | hy
    · exact hle
    · exact Nat.le_trans hle ((List.pairwise_cons.mp ih).1 y hy)
theorem sorted_exact {ss : List Str} {cs : List Nat} (h1 : ss.Perm (cs.map fun c => (⟨#[c]⟩ : Str))) (h2 : sortedS ss = true) (h3 : cs.Pairwise (· ≤ ·)) : ss = cs.map fun c => tx [c] := by
  have e0 : (fun c : Nat => (⟨#[c]⟩ : Str)) = fun c => tx [c] := rfl
  rw [e0] at h1
  have hm : ∀ y ∈ ss, ∃ c, y = tx [c] := fun y hy => by
    obtain ⟨c, _, e⟩ := List.mem_map.mp (h1.mem_iff.mp hy)
    exact ⟨c, e.symm⟩
  let hd : Str → Nat := fun y => y.cps.toList.headD 0
  have e1 : ss = (ss.map hd).map fun c => tx [c] := by
    rw [List.map_map]
    have : ∀ l : List Str, (∀ y ∈ l, ∃ c, y = tx [c]) → l = l.map ((fun c => tx [c]) ∘ hd) := by
      intro l
      induction l with
      | nil => intro _; rfl
      | cons y r ih =>
        intro h
        obtain ⟨c, rfl⟩ := h y (List.mem_cons_self ..)
        rw [List.map_cons, ← ih fun z hz => h z (List.mem_cons_of_mem _ hz)]
        rfl
    exact this ss hm
  have p1 : (ss.map hd).Perm cs := by
    have q := h1.map hd
    rw [List.map_map] at q
    have e2 : (hd ∘ fun c => tx [c]) = id := by
      funext c
      rfl
    rw [e2, List.map_id] at q
    exact q
  have p2 : (ss.map hd).Pairwise (· ≤ ·) := by
    rw [e1] at h2
    cases hq : ss.map hd with
    | nil => exact .nil
    | cons a r =>
      rw [hq] at h2
      exact rising_pw r a h2
  rw [e1, eq_of_perm_le _ _ p1 p2 h3]
def rSortTx : List V → Hp → VK → Prop := fun xs H Q => ∃ cs : List Nat, xs = [.str (tx cs)] ∧ cs.length < 64 ∧ cs.Pairwise (· ≤ ·) ∧ ∀ p, H p = none → Q (.ref p) (upd H p (.lst (cs.map fun c => vt [c])))
theorem cr_sortTx {X : Cx} (hc : X.calm = true) : CallR X (.builtin "sorted") rSortTx := by
  intro pins s σ H xs us Q I r h
  obtain ⟨cs, rfl, h64, hp, q⟩ := h
  obtain ⟨u, rfl, rx⟩ := vals1 r
  obtain ⟨t, rfl⟩ := rx
  have hsz : (tx cs).cps.size = cs.length := by rw [← Array.length_toList, tx_cps]
  refine sorted_text (I.ok.hd hc) (by rw [hsz]; exact h64) fun s' p out c ss k g o hg hn hS pm so => ?_
  rw [tx_cps] at pm
  have e := sorted_exact pm so hp
  subst e
  have hn2 : H p = none := HOk.gone I.hok hn
  have hlen : (cs.map fun c => vt [c]).length ≤ sizeLine := by rw [List.length_map, sizeLine_eq]; omega
  have hv : Vals (cs.map fun c => vt [c]) out.toList := by
    have z := vals_of_strs hS
    rw [List.map_map] at z
    exact z
  have J : Inv X pins σ (upd H p (.lst (cs.map fun c => vt [c]))) { s with heap := s'.heap, gens := s'.gens, drawn := s'.drawn, toks := s'.toks } :=
    I.call (ch := []) (Un.laidN k hn hn2) (I.hok.laidN k hn2 ⟨hlen, out.toList, c, hv, hg⟩) (by rw [g]; exact I.bare) (fun _ z => nomatch z)
  have es : s' = { s with heap := s'.heap, gens := s'.gens, drawn := s'.drawn, toks := s'.toks } := by
    cases s'
    cases s
    cases o
    rfl
  rw [es]
  exact ⟨.ref p, _, J, rfl, q p hn2⟩
end Om

namespace Om
open PySem PySem.Spec PyProof.Rows L2
/-! ### _law_signs -/
abbrev sSigns : Stmt := top 61
def spSigns : Sp := fun vs H Q _ => ∃ (b l : Addr) (cs : List Nat), vs = [.ref b, .str (tx cs)] ∧ Box H b l ∧ cs.Pairwise (· < ·) ∧ cs ≠ [] ∧ cs.length ≤ 60 ∧ (∀ c ∈ cs, c < 1000) ∧
  ∀ (t : List Nat) (H' : Hp), t ≠ [] → t.Sublist cs → Box H' b l → Kp b l H H' → Q (vt t) H'
theorem dpAll_cs {K : PySem.W.Frag} {H : Hp} : ∀ cs : List Nat, DpAll K H (cs.map fun c => vt [c]) (cs.map fun c => dt [c])
  | [] => .nil
  | c :: r => .cons (.str _) (dpAll_cs r)
theorem cs_lay : ∀ {cs : List Nat}, (∀ c ∈ cs, c < 1000) → PyData.canLayAll0 (cs.map fun c => dt [c]) = true
  | [], _ => by simp [PyData.canLayAll0]
  | c :: r, h => by
    have h1 : (dt [c]).canLay0 = true := dt_lay fun x hx => by rw [List.mem_singleton.mp hx]; exact h c (List.mem_cons_self ..)
    simp only [List.map_cons, PyData.canLayAll0, h1, cs_lay (cs := r) fun x hx => h x (List.mem_cons_of_mem _ hx), Bool.and_self]
theorem cs_dep : ∀ cs : List Nat, PyData.depthAll (cs.map fun c => dt [c]) = 0
  | [] => by simp [PyData.depthAll]
  | c :: r => by simp [PyData.depthAll, dt_dep, cs_dep r]
theorem sh_cs {cs : List Nat} (h : ∀ c ∈ cs, c < 1000) : SeqAt.shaped (.list (cs.map fun c => dt [c])) = true := shaped_of (by simp only [PyData.canLay0]; exact cs_lay h) (by simp only [PyData.depth, cs_dep]; omega)
theorem sh_lnil : SeqAt.shaped (.list []) = true := shaped_of (by simp [PyData.canLay0, PyData.canLayAll0]) (by simp [PyData.depth, PyData.depthAll])
theorem eqv_lnil {α : Type} (f : α → PyData) (cs : List α) : PyData.eqv (.list (cs.map f)) (.list []) = cs.isEmpty := by
  cases cs <;> simp [PyData.eqv, PyData.eqvAll]
section
variable {P : Program} {w : World} {K : PySem.W.Frag} {mg : Str → Option Value} {base : Heap}
abbrev nSigns : List Str := ["_law_box", "_law_known", "_law_found", "_law_sign_here"]
theorem scSigns : FnScope nSigns ["_law_box", "_law_known"] (defScope sSigns) := ⟨rfl, rfl, rfl, by decide +kernel, rfl, by decide +kernel, by decide +kernel⟩
def signsLc : Expr := asgExpr ((defBody sSigns).getD 0 (.Pass ⟨0, 0, 0, 0⟩))
theorem blkSigns : BlkOk nSigns (defScope sSigns) (lcScope signsLc) [("_law_sign_here", 3)] := blkOk_by (by decide +kernel)
theorem ok_signs {f : Addr} {fd : FuncData} (F : FnP K "_law_signs" "_law_signs" sSigns f fd) (T : Cal P w K mg base CX0 1 "_law_take" ["_law_box", "_law_many"] spTake) (gsorted : mg "sorted" = none) (glen : mg "len" = none) :
    FnOk P w K mg base CX0 2 f fd ["_law_box", "_law_known"] spSigns := by
  refine F.ok scSigns (fun vs H Q E h => ?_) (fun cdv A outer s H vs Q E hr h => ?_)
  · obtain ⟨b, l, cs, rfl, _⟩ := h
    rfl
  · obtain ⟨b, l, cs, rfl, B, hpw, hne, hl, hlo, k⟩ := h
    have nd := scSigns.nd
    have hle : cs.Pairwise (· ≤ ·) := hpw.imp fun h => Nat.le_of_lt h
    refine ⟨_, PSs.nox (pss_cons (ps_setLc (i := 2) (own := [("_law_sign_here", 3)]) (g := gName 3) rfl nd rfl rfl (sw_true rfl rfl rfl (by decide +kernel)) (pi_list (pe_callB (cr_sortTx rfl) (by rfl) gsorted (by decide +kernel) (pa_cons (pv 1) pa_nil))) blkSigns
          (fun _ _ _ _ _ => pg_name (i := 3) nd rfl (.inl rfl)) (fun _ _ _ _ _ => pts_one (pt_cmpR op_eq (pe_cal T hr pass0 (pa_cons (pv 0) (pa_cons pe_int pa_nil))) pe_int (nomark _))) (fun _ _ _ _ _ => pv 3))
      (pss_one (ps_ret (pe_ifExp (pt_cmpR (op_neD hr.units) (pv 2) (pe_lst pa_nil) (nomark _)) (pe_joinK pe_str (pv 2))
        (pe_ix ix_list (pe_callB (cr_sortTx rfl) (by rfl) gsorted (by decide +kernel) (pa_cons (pv 1) pa_nil)) (pe_cal T hr pass0 (pa_cons (pv 0) (pa_cons (pe_callB call_len_str (by rfl) glen PySem.boot_len (pa_cons (pv 1) pa_nil)) pa_nil))) (fun _ _ => rfl)))))), ?_⟩
    refine ⟨_, rfl, cs, rfl, by omega, hle, fun u hu => ⟨u, rfl, ⟨_, .inl (.inl upd_same)⟩, fun D hD => ?_⟩⟩
    have s1 := Same.new (Same.refl H) hu (o := .lst (cs.map fun c => vt [c]))
    have B1 := B.same s1
    have hU := (upd_same (H := H) (a := u) (o := .lst (cs.map fun c => vt [c])))
    generalize (upd H u (.lst (cs.map fun c => vt [c]))) = H1 at s1 B1 hU hD ⊢
    have bx : ∀ {c : Addr} {o : HO}, H1 c = none → Box H1 b l → c ≠ b ∧ c ≠ l := fun {c o} hc B => by
      obtain ⟨_, _, x1, x2, _⟩ := B.ex
      exact ⟨(fun e => by rw [← e, hc] at x1; cases x1), (fun e => by rw [← e, hc] at x2; cases x2)⟩
    have ub : u ≠ b ∧ u ≠ l := by
      obtain ⟨_, _, x1, x2, _⟩ := B.ex
      exact ⟨(fun e => by rw [← e, hu] at x1; cases x1), (fun e => by rw [← e, hu] at x2; cases x2)⟩
    obtain ⟨Db, Dl⟩ := bx (o := .tup []) hD B1
    have uD : u ≠ D := fun e => by rw [e, hD] at hU; cases hU
    refine lc_list (K := K) (a := u) (xs := cs.map fun c => vt [c]) (fun i H' => ∃ fs : List Nat, fs.Sublist (cs.take i) ∧ H' D = some (.lst (fs.map fun c => vt [c])) ∧ H' u = some (.lst (cs.map fun c => vt [c])) ∧ Box H' b l ∧ Kp b l H1 H')
      ⟨[], List.nil_sublist _, upd_same, by rw [upd_ne uD]; exact hU, B1.same (Same.new (Same.refl _) hD), Kp.of (Same.new (Same.refl _) hD)⟩ (fun i H' _ q => by obtain ⟨_, _, _, q, _⟩ := q; exact .inl (.inl q)) ?_ ?_
    · rintro i x H2 hx ⟨fs, q1, q2, q3, q4, q5⟩
      rw [List.getElem?_map] at hx
      cases hci : cs[i]? with
      | none => rw [hci] at hx; cases hx
      | some c =>
        rw [hci] at hx
        obtain rfl : vt [c] = x := Option.some.inj hx
        have et : cs.take (i + 1) = cs.take i ++ [c] := by rw [List.take_succ, hci]; rfl
        refine ⟨rfl, ?_⟩
        refine ⟨_, rfl, b, l, 3, rfl, q4, by decide, by decide, fun n H3 a1 a2 B3 K3 => ⟨rfl, _, rfl, ?_⟩⟩
        have r2 := K3 D _ q2 Db Dl
        have r3 := K3 u _ q3 ub.1 ub.2
        refine ite2 (fun hz => ?_) (fun hz => ?_)
        · have hfl : fs.length ≤ 60 := Nat.le_trans q1.length_le (by rw [List.length_take]; omega)
          refine ⟨_, rfl, _, r2, Nat.lt_of_le_of_lt (show _ ≤ 60 by rw [List.length_map]; exact hfl) (by decide), fs ++ [c], ?_, ?_, ?_, ?_, ?_⟩
          · rw [et]; exact q1.append (List.Sublist.refl _)
          · rw [upd_same, List.map_append]; rfl
          · rw [upd_ne uD]; exact r3
          · obtain ⟨u1, u2, u3, u4, u5⟩ := B3.ex
            exact ⟨u1, u2, by rw [upd_ne Db.symm]; exact u3, by rw [upd_ne Dl.symm]; exact u4, u5⟩
          · intro x o hx n1 n2
            rw [upd_ne (ne_of_none hx hD)]
            exact K3 x o (q5 x o hx n1 n2) n1 n2
        · exact ⟨fs, by rw [et]; exact q1.trans (List.sublist_append_left _ _), r2, r3, B3, q5.trans K3⟩
    · rintro H2 ⟨fs, q1, q2, q3, q4, q5⟩
      have e0 : cs.take (cs.map fun c => vt [c]).length = cs := List.take_of_length_le (by rw [List.length_map]; exact Nat.le_refl _)
      rw [e0] at q1
      have kk : Kp b l H H2 := (Kp.of s1).trans q5
      have hfl : fs.length ≤ 60 := Nat.le_trans q1.length_le hl
      refine ⟨_, rfl, by show 0 ≤ sizeLine; decide, fun e he => ?_⟩
      have s2 := Same.new (Same.refl H2) he (o := .lst [])
      refine ⟨_, _, .lst (.inl (.inl (s2 _ _ q2))) (dpAll_cs fs), .lst (.inl (.inl upd_same)) .nil, sh_cs fun c hc => hlo c (q1.subset hc), sh_lnil, _, rfl, ?_⟩
      rw [eqv_lnil]
      cases fs with
      | nil =>
        refine iteF' rfl ?_
        refine ⟨_, rfl, cs, rfl, by omega, hle, fun v hv => ?_⟩
        have s3 := s2.trans (Same.new (Same.refl _) hv (o := .lst (cs.map fun c => vt [c])))
        have B3 := q4.same s3
        have hl1 : 1 ≤ cs.length := by
          cases cs with
          | nil => exact absurd rfl hne
          | cons c r => simp
        have hV := (upd_same (H := upd H2 e (.lst [])) (a := v) (o := .lst (cs.map fun c => vt [c])))
        have vb : v ≠ b ∧ v ≠ l := by
          obtain ⟨_, _, x1, x2, _⟩ := (q4.same s2).ex
          exact ⟨(fun z => by rw [← z, hv] at x1; cases x1), (fun z => by rw [← z, hv] at x2; cases x2)⟩
        refine ⟨_, rfl, _, rfl, _, rfl, (by rw [tx_len]; exact small_le (by omega)), b, l, _, rfl, B3, (by rw [tx_len]; omega), (by rw [tx_len]; omega), fun n H4 a1 a2 B4 K4 => ?_⟩
        rw [tx_len] at a2
        have hn : n.toNat < cs.length := by omega
        obtain ⟨c, hc⟩ : ∃ c, cs[n.toNat]? = some c := ⟨cs[n.toNat], by simp [hn]⟩
        have hcm : c ∈ cs := List.mem_of_getElem? hc
        have hat : atI (cs.map fun c => vt [c]) n = some (vt [c]) := by
          have z := atI_nat (xs := cs.map fun c => vt [c]) (j := n.toNat) (v := vt [c]) (by rw [List.getElem?_map, hc]; rfl)
          rwa [Int.toNat_of_nonneg a1] at z
        refine ⟨v, _, n, _, rfl, rfl, .inl (.inl (K4 v _ hV vb.1 vb.2)), hat, ?_⟩
        exact k [c] H4 (by simp) (List.singleton_sublist.mpr hcm) B4 (kk.trans ((Kp.of s3).trans K4))
      | cons c r =>
        refine iteT' rfl ?_
        refine ⟨⟨_, rfl⟩, _, rfl, _, D, (c :: r).map fun c => tx [c], rfl, rfl, .inl (.inl (.inl (by rw [List.map_map]; exact s2 _ _ q2))), ?_, ?_⟩
        · rw [empty_tx]
          have e5 : ∀ l : List Nat, ((l.map fun c => tx [c]).map (·.length)).sum = l.length := by
            intro l
            induction l with
            | nil => rfl
            | cons a r ih => simp only [List.map_cons, List.sum_cons, ih, tx_len, List.length_cons, List.length_nil]; omega
          rw [e5, List.length_map]
          show _ + _ * 0 ≤ _
          omega
        · rw [empty_tx, TL.join_eq, join_tx]
          exact k (c :: r) _ (by simp) q1 (q4.same s2) (kk.trans (Kp.of s2))
end
end Om

namespace Om
open PySem PySem.Spec PyProof.Rows L2
/-! ### _law_turns -/
abbrev sTurns : Stmt := top 62
def nm (n : Nat) : Nm := .i ((n : Nat) : Int)
theorem upN_of : ∀ ms : List Nat, ms.Pairwise (· < ·) → upN (ms.map nm) = true
  | [], _ => rfl
  | [_], _ => rfl
  | a :: b :: r, h => by
    obtain ⟨h1, h2⟩ := List.pairwise_cons.mp h
    have ih := upN_of (b :: r) h2
    have hab := h1 b (List.mem_cons_self ..)
    show (decide ((a : Int) < (b : Int)) && upN ((b :: r).map nm)) = true
    rw [ih, decide_eq_true (by omega)]
    rfl
theorem ascN_of {ms : List Nat} (hne : ms ≠ []) (hp : ms.Pairwise (· < ·)) (h4 : ∀ m ∈ ms, m < 4) : ascN (ms.map nm) 0 3 = true := by
  unfold ascN
  have e1 : (ms.map nm).isEmpty = false := by
    cases ms with
    | nil => exact absurd rfl hne
    | cons a r => rfl
  have e2 : (ms.map nm).all (fun n => inN n 0 3) = true := by
    rw [List.all_map]
    refine List.all_eq_true.mpr fun m hm => ?_
    have := h4 m hm
    show (decide ((0 : Int) ≤ (m : Int)) && decide ((m : Int) ≤ 3)) = true
    rw [decide_eq_true (by omega), decide_eq_true (by omega)]
    rfl
  rw [e1, e2, upN_of ms hp]
  rfl
def spTurns : Sp := fun vs H Q _ => ∃ (b l : Addr), vs = [.ref b] ∧ Box H b l ∧ ∀ (ns : List Nm) (p : Addr) (H' : Hp), ascN ns 0 3 = true → ns.length ≤ 4 → H' p = some (.tup (ns.map Nm.v)) → Box H' b l → Kp b l H H' → Q (.ref p) H'
section
variable {P : Program} {w : World} {K : PySem.W.Frag} {mg : Str → Option Value} {base : Heap}
abbrev nTurns : List Str := ["_law_box", "_law_found", "_law_turn"]
theorem scTurns : FnScope nTurns ["_law_box"] (defScope sTurns) := ⟨rfl, rfl, rfl, by decide +kernel, rfl, by decide +kernel, by decide +kernel⟩
def turnsLc : Expr := asgExpr ((defBody sTurns).getD 0 (.Pass ⟨0, 0, 0, 0⟩))
theorem blkTurns : BlkOk nTurns (defScope sTurns) (lcScope turnsLc) [("_law_turn", 2)] := blkOk_by (by decide +kernel)
theorem dpAll_nats {K : PySem.W.Frag} {H : Hp} : ∀ ms : List Nat, DpAll K H (ms.map fun n => (nm n).v) (ms.map fun n => (nm n).d)
  | [] => .nil
  | c :: r => .cons (.int _) (dpAll_nats r)
theorem sh_nats (ms : List Nat) : SeqAt.shaped (.list (ms.map fun n => (nm n).d)) = true := by
  have e : (ms.map fun n => (nm n).d) = (ms.map nm).map Nm.d := by rw [List.map_map]; rfl
  rw [e]
  exact shaped_of (by simp only [PyData.canLay0]; exact nms_lay _) (by simp only [PyData.depth, nms_dep]; omega)
theorem ok_turns {f : Addr} {fd : FuncData} (F : FnP K "_law_turns" "_law_turns" sTurns f fd) (T : Cal P w K mg base CX0 1 "_law_take" ["_law_box", "_law_many"] spTake) (grange : mg "range" = none) (gtuple : mg "tuple" = none) :
    FnOk P w K mg base CX0 2 f fd ["_law_box"] spTurns := by
  refine F.ok scTurns (fun vs H Q E h => ?_) (fun cdv A outer s H vs Q E hr h => ?_)
  · obtain ⟨b, l, rfl, _⟩ := h
    rfl
  · obtain ⟨b, l, rfl, B, k⟩ := h
    have nd := scTurns.nd
    refine ⟨_, PSs.nox (pss_cons (ps_setLc (i := 1) (own := [("_law_turn", 2)]) (g := gName 2) rfl nd rfl rfl (sw_true rfl rfl rfl (by decide +kernel)) (pi_range1 rfl grange (pa_cons pe_int pa_nil)) blkTurns
          (fun _ _ _ _ _ => pg_name (i := 2) nd rfl (.inl rfl)) (fun _ _ _ _ _ => pts_one (pt_cmpR op_eq (pe_cal T hr pass0 (pa_cons (pv 0) (pa_cons pe_int pa_nil))) pe_int (nomark _))) (fun _ _ _ _ _ => pv 2))
      (pss_one (ps_ret (pe_ifExp (pt_cmpR (op_neD hr.units) (pv 1) (pe_lst pa_nil) (nomark _)) (pe_callTy call_tuple_of (by rfl) gtuple (by decide +kernel) (pa_cons (pv 1) pa_nil))
        (pe_tup (pa_cons (pe_cal T hr pass0 (pa_cons (pv 0) (pa_cons pe_int pa_nil))) pa_nil)))))), ?_⟩
    refine ⟨4, rfl, by decide, by decide, fun D hD => ?_⟩
    have bx : D ≠ b ∧ D ≠ l := by
      obtain ⟨_, _, x1, x2, _⟩ := B.ex
      exact ⟨(fun e => by rw [← e, hD] at x1; cases x1), (fun e => by rw [← e, hD] at x2; cases x2)⟩
    refine lc_range (lo := 0) (n := (4 : Int).toNat) (fun i H' => ∃ ms : List Nat, ms.Sublist (List.range i) ∧ H' D = some (.lst (ms.map fun n => (nm n).v)) ∧ Box H' b l ∧ Kp b l H H')
      ⟨[], List.nil_sublist _, upd_same, B.same (Same.new (Same.refl _) hD), Kp.of (Same.new (Same.refl _) hD)⟩ ?_ ?_
    · rintro i H2 hi ⟨ms, q1, q2, q4, q5⟩
      refine ⟨rfl, ?_⟩
      refine ⟨_, rfl, b, l, 3, rfl, q4, by decide, by decide, fun n H3 a1 a2 B3 K3 => ⟨rfl, _, rfl, ?_⟩⟩
      have r2 := K3 D _ q2 bx.1 bx.2
      refine ite2 (fun hz => ?_) (fun hz => ?_)
      · have hfl : ms.length ≤ 4 := Nat.le_trans q1.length_le (by rw [List.length_range]; have : (4 : Int).toNat = 4 := rfl; omega)
        refine ⟨_, rfl, _, r2, Nat.lt_of_le_of_lt (show _ ≤ 60 by rw [List.length_map]; omega) (by decide), ms ++ [i], ?_, ?_, ?_, ?_⟩
        · rw [List.range_succ]; exact q1.append (List.Sublist.refl _)
        · rw [upd_same, List.map_append]
          show some (HO.lst (_ ++ [V.int (0 + ((i : Nat) : Int))])) = _
          rw [Int.zero_add]
          rfl
        · obtain ⟨u1, u2, u3, u4, u5⟩ := B3.ex
          exact ⟨u1, u2, by rw [upd_ne bx.1.symm]; exact u3, by rw [upd_ne bx.2.symm]; exact u4, u5⟩
        · intro x o hx n1 n2
          rw [upd_ne (ne_of_none hx hD)]
          exact K3 x o (q5 x o hx n1 n2) n1 n2
      · exact ⟨ms, by rw [List.range_succ]; exact q1.trans (List.sublist_append_left _ _), r2, B3, q5.trans K3⟩
    · rintro H2 ⟨ms, q1, q2, q4, q5⟩
      have q1 : ms.Sublist (List.range 4) := q1
      have hfl : ms.length ≤ 4 := by have := q1.length_le; rwa [List.length_range] at this
      refine ⟨_, rfl, by show 0 ≤ sizeLine; decide, fun e he => ?_⟩
      have s2 := Same.new (Same.refl H2) he (o := .lst [])
      refine ⟨_, _, .lst (.inl (.inl (s2 _ _ q2))) (dpAll_nats ms), .lst (.inl (.inl upd_same)) .nil, sh_nats ms, sh_lnil, _, rfl, ?_⟩
      rw [eqv_lnil]
      cases ms with
      | nil =>
        refine iteF' rfl ?_
        refine ⟨_, rfl, b, l, 4, rfl, q4.same s2, by decide, by decide, fun n H4 a1 a2 B4 K4 => ⟨by show 1 ≤ sizeLine; decide, fun p hp => ?_⟩⟩
        have s5 := Same.new (Same.refl H4) hp (o := .tup [.int n])
        have en : V.int n = (nm n.toNat).v := by
          show V.int n = V.int ((n.toNat : Nat) : Int)
          rw [Int.toNat_of_nonneg a1]
        refine k [nm n.toNat] p _ (ascN_of (ms := [n.toNat]) (by simp) (by simp) (by intro m hm; rw [List.mem_singleton.mp hm]; omega)) (by simp) ?_ (B4.same s5) (q5.trans ((Kp.of s2).trans (K4.trans (Kp.of s5))))
        rw [upd_same, en]
        rfl
      | cons m r =>
        refine iteT' rfl ?_
        refine ⟨_, rfl, D, _, rfl, .inl ⟨.inl (.inl (s2 _ _ q2)), fun p hp => ?_⟩⟩
        have s5 := Same.new (Same.refl _) hp (o := .tup ((m :: r).map fun n => (nm n).v))
        refine k ((m :: r).map nm) p _ (ascN_of (by simp) (List.Pairwise.sublist q1 List.pairwise_lt_range) (fun x hx => List.mem_range.mp (q1.subset hx))) (by rw [List.length_map]; exact hfl) ?_ ((q4.same s2).same s5) (q5.trans ((Kp.of s2).trans (Kp.of s5)))
        rw [upd_same, List.map_map]
        rfl
end
end Om

namespace Om
open PySem PySem.Spec PyProof.Rows L2
/-! ### _law_instruction -/
abbrev sInstr : Stmt := top 63
theorem filter_sub : ∀ {t l : List Nat}, t.Sublist l → l.Nodup → l.filter (fun c => decide (c ∈ t)) = t := by
  intro t l h
  induction h with
  | slnil => intro _; rfl
  | @cons t l a h ih =>
    intro n
    obtain ⟨n1, n2⟩ := List.nodup_cons.mp n
    have ha : a ∉ t := fun z => n1 (h.subset z)
    rw [List.filter_cons, if_neg (by simp [ha]), ih n2]
  | @cons_cons t l a h ih =>
    intro n
    obtain ⟨n1, n2⟩ := List.nodup_cons.mp n
    rw [List.filter_cons, if_pos (by simp)]
    have e : l.filter (fun c => decide (c ∈ a :: t)) = l.filter (fun c => decide (c ∈ t)) := by
      refine List.filter_congr fun c hc => ?_
      have : c ≠ a := fun z => n1 (z ▸ hc)
      simp [this]
    rw [e, ih n2]
theorem ascS_of {t l : List Nat} (hne : t ≠ []) (h : t.Sublist l) (n : l.Nodup) : ascS t l = true := by
  unfold ascS
  rw [filter_sub h n, decide_eq_false hne, decide_eq_true rfl]
  rfl
theorem lands_nd : lands.Nodup := by decide
theorem alls_nd : alls.Nodup := by decide
def c5 : List Nat := [46, 65, 66, 75, 84]
def c5w : List Nat := [46, 65, 66, 75, 126]
def c4w : List Nat := [65, 66, 75, 126]
theorem c5_tx : Str.ofString ".ABKT" = tx c5 := by decide +kernel
theorem c5w_tx : Str.ofString ".ABK~" = tx c5w := by decide +kernel
theorem c4w_tx : Str.ofString "ABK~" = tx c4w := by decide +kernel
theorem c5_sub : c5.Sublist lands := by decide
theorem c5w_sub : c5w.Sublist alls := by decide
theorem c4w_sub : c4w.Sublist alls := by decide
theorem lo_of {t l : List Nat} (h : t.Sublist l) (hl : ∀ c ∈ l, c < 1000) : LoS t := fun c hc => hl c (h.subset hc)
/-- _law_take(box, [x, y][_law_take(box, 2)]) -/
theorem pick_read {K : PySem.W.Frag} {σ : L2.St} {H : Hp} {Q : VK} {b l : Addr} {x y : Int} (hσ : σ[0]? = some (some (.ref b))) (B : Box H b l) (hx : 0 < x ∧ x ≤ 100) (hy : 0 < y ∧ y ≤ 100)
    (k : ∀ n H', 0 ≤ n → (n < x ∨ n < y) → Box H' b l → Kp b l H H' → Q (.int n) H') :
    tCall spTake [] E0 (tCons (tVar 0) (tCons (tOp (rIxL K) (tLst (tCons (tC (.int x)) (tCons (tC (.int y)) tNil))) (tCall spTake [] E0 (tCons (tVar 0) (tCons (tC (.int 2)) tNil)))) tNil)) σ H Q := by
  refine ⟨_, hσ, by show 2 ≤ sizeLine; decide, fun q hq => ?_⟩
  have s1 := Same.new (Same.refl H) hq (o := .lst [.int x, .int y])
  have B1 := B.same s1
  have qb : q ≠ b ∧ q ≠ l := by
    obtain ⟨_, _, x1, x2, _⟩ := B.ex
    exact ⟨(fun e => by rw [← e, hq] at x1; cases x1), (fun e => by rw [← e, hq] at x2; cases x2)⟩
  refine ⟨_, hσ, b, l, 2, rfl, B1, by decide, by decide, fun n H2 a1 a2 B2 K2 => ?_⟩
  have hl := K2 q _ upd_same qb.1 qb.2
  have e : n = 0 ∨ n = 1 := by omega
  rcases e with rfl | rfl
  · exact ⟨q, _, 0, .int x, rfl, rfl, .inl (.inl hl), rfl, b, l, x, rfl, B2, hx.1, by omega, fun m H3 c1 c2 B3 K3 => k m H3 c1 (.inl c2) B3 ((Kp.of s1).trans (K2.trans K3))⟩
  · exact ⟨q, _, 1, .int y, rfl, rfl, .inl (.inl hl), rfl, b, l, y, rfl, B2, hy.1, by omega, fun m H3 c1 c2 B3 K3 => k m H3 c1 (.inr c2) B3 ((Kp.of s1).trans (K2.trans K3))⟩
def spInstr (K : PySem.W.Frag) : Sp := fun vs H Q _ => ∃ (b l : Addr), vs = [.ref b] ∧ Box H b l ∧ ∀ (i : Ins) (v : V) (H' : Hp), i.ok = true → i.small = true → i.lo → Dp K H' v i.d → Box H' b l → Kp b l H H' → Q v H'
section
variable {P : Program} {w : World} {K : PySem.W.Frag} {mg : Str → Option Value} {base : Heap}
abbrev nInstr : List Str := ["_law_box", "_law_word", "_law_least", "_law_most"]
theorem scInstr : FnScope nInstr ["_law_box"] (defScope sInstr) := ⟨rfl, rfl, rfl, by decide +kernel, rfl, by decide +kernel, by decide +kernel⟩
theorem ok_instr {f : Addr} {fd : FuncData} (F : FnP K "_law_instruction" "_law_instruction" sInstr f fd) (T : Cal P w K mg base CX0 1 "_law_take" ["_law_box", "_law_many"] spTake) (GT : Cal P w K mg base CX0 2 "_law_turns" ["_law_box"] spTurns)
    (GS : Cal P w K mg base CX0 2 "_law_signs" ["_law_box", "_law_known"] spSigns) : FnOk P w K mg base CX0 3 f fd ["_law_box"] (spInstr K) := by
  refine F.ok scInstr (fun vs H Q E h => ?_) (fun cdv A outer s H vs Q E hr h => ?_)
  · obtain ⟨b, l, rfl, _⟩ := h
    rfl
  · obtain ⟨b, l, rfl, B, k⟩ := h
    have nd := scInstr.nd
    have hr1 : Room 1 _ := hr.mono (by decide)
    refine ⟨_, PSs.nox (pss_cons (ps_par (i := 1) (j := 2) rfl nd rfl rfl (by decide) rfl rfl (pa_cons (pe_cal T hr1 pass0 (pa_cons (pv 0) (pa_cons pe_int pa_nil)))
          (pa_cons (pe_cal T hr1 pass0 (pa_cons (pv 0) (pa_cons (pe_ix (ixl_K (K := K) rfl) (pe_lst (pa_cons pe_int (pa_cons pe_int pa_nil))) (pe_cal T hr1 pass0 (pa_cons (pv 0) (pa_cons pe_int pa_nil))) (fun _ _ => rfl)) pa_nil))) pa_nil)) (by rfl))
      (pss_cons (ps_set (i := 3) nd rfl (.inl rfl) (pe_op op_add (pv 2) (pe_cal T hr1 pass0 (pa_cons (pv 0) (pa_cons (pe_ix (ixl_K (K := K) rfl) (pe_lst (pa_cons pe_int (pa_cons pe_int pa_nil))) (pe_cal T hr1 pass0 (pa_cons (pv 0) (pa_cons pe_int pa_nil))) (fun _ _ => rfl)) pa_nil)))))
      (pss_cons (ps_if (pt_cmpR op_lt (pv 1) pe_int (nomark _)) (pss_one (ps_ret (pe_tup (pa_cons pe_str (pa_cons (pe_cal GT hr pass0 (pa_cons (pv 0) pa_nil)) pa_nil))))) pss_nil)
      (pss_cons (ps_if (pt_cmpR op_lt (pv 1) pe_int (nomark _)) (pss_one (ps_ret (pe_tup (pa_cons pe_str (pa_cons (pv 2) (pa_cons (pv 3) pa_nil)))))) pss_nil)
      (pss_cons (ps_if (pt_cmpR op_eq (pv 1) pe_int (nomark _)) (pss_one (ps_ret (pe_tup (pa_cons pe_str (pa_cons (pe_cal GS hr pass0 (pa_cons (pv 0) (pa_cons pe_str pa_nil))) pa_nil))))) pss_nil)
      (pss_cons (ps_if (pt_cmpR op_eq (pv 1) pe_int (nomark _)) (pss_one (ps_ret (pe_tup (pa_cons pe_str (pa_cons (pe_cal GS hr pass0 (pa_cons (pv 0) (pa_cons pe_str pa_nil))) pa_nil))))) pss_nil)
      (pss_cons (ps_if (pt_cmpR op_eq (pv 1) pe_int (nomark _)) (pss_one (ps_ret (pe_tup (pa_cons pe_str (pa_cons (pe_cal T hr1 pass0 (pa_cons (pv 0) (pa_cons pe_int pa_nil))) (pa_cons (pe_cal GS hr pass0 (pa_cons (pv 0) (pa_cons pe_str pa_nil))) pa_nil)))))) pss_nil)
      (pss_cons (ps_if (pt_cmpR op_eq (pv 1) pe_int (nomark _)) (pss_one (ps_ret (pe_tup (pa_cons pe_str (pa_cons (pe_cal GS hr pass0 (pa_cons (pv 0) (pa_cons pe_str pa_nil))) (pa_cons (pe_cal T hr1 pass0 (pa_cons (pv 0) (pa_cons pe_int pa_nil))) pa_nil)))))) pss_nil)
      (pss_one (ps_ret (pe_tup (pa_cons pe_str (pa_cons (pe_ix (ixl_K (K := K) rfl) (pe_lst (pa_cons pe_int (pa_cons pe_int pa_nil))) (pe_cal T hr1 pass0 (pa_cons (pv 0) (pa_cons pe_int pa_nil))) (fun _ _ => rfl)) (pa_cons (pv 2)
          (pa_cons (pe_op op_add (pv 3) (pe_cal T hr1 pass0 (pa_cons (pv 0) (pa_cons pe_int pa_nil)))) pa_nil))))))))))))))), ?_⟩
    refine ⟨_, rfl, b, l, 9, rfl, B, by decide, by decide, fun wd H1 a1 a2 B1 K1 => ?_⟩
    refine pick_read rfl B1 (by decide) (by decide) fun le H2 b1 b2 B2 K2 => ?_
    refine nilArgs ⟨_, _, rfl, ?_⟩
    refine ⟨_, rfl, pick_read rfl B2 (by decide) (by decide) fun mo H3 c1 c2 B3 K3 => ⟨_, _, rfl, rfl, ?_⟩⟩
    have kk := K1.trans (K2.trans K3)
    refine ⟨_, rfl, _, _, rfl, rfl, _, rfl, ite2 (fun hz => ?_) (fun hz => ?_)⟩
    · refine ⟨_, rfl, b, l, rfl, B3, fun ns p H4 m1 m2 m3 B4 K4 => ⟨by show 2 ≤ sizeLine; decide, fun t ht => ?_⟩⟩
      have s5 := Same.new (Same.refl H4) ht (o := .tup [.str "turn", .ref p])
      exact k (.turn ns) _ _ m1 (decide_eq_true (by omega)) trivial (.tup (.inl (.inl upd_same)) (.cons (.str _) (.cons (.tup (.inl (.inl (s5 _ _ m3))) (nms_dp ns)) .nil))) (B4.same s5) (kk.trans (K4.trans (Kp.of s5)))
    · refine ⟨_, rfl, _, _, rfl, rfl, _, rfl, ite2 (fun hz2 => ?_) (fun hz2 => ?_)⟩
      · refine ⟨_, rfl, _, rfl, by show 3 ≤ sizeLine; decide, fun t ht => ?_⟩
        have s5 := Same.new (Same.refl H3) ht (o := .tup [.str "walk", .int le, .int (le + mo)])
        have ok : paces (.i le) (.i (le + mo)) = true := by
          show ((decide (0 ≤ le) && decide (le ≤ 20)) && (decide (le ≤ le + mo) && decide (le + mo ≤ 20))) = true
          rw [decide_eq_true (by omega), decide_eq_true (by omega), decide_eq_true (by omega), decide_eq_true (by omega)]
          rfl
        exact k (.walk (.i le) (.i (le + mo))) _ _ ok rfl trivial (.tup (.inl (.inl upd_same)) (.cons (.str _) (.cons (.int _) (.cons (.int _) .nil)))) (B3.same s5) (kk.trans (Kp.of s5))
      · have lo5 : ∀ c ∈ c5, c < 1000 := by decide
        have lo5w : ∀ c ∈ c5w, c < 1000 := by decide
        have lo4w : ∀ c ∈ c4w, c < 1000 := by decide
        refine ⟨_, rfl, rfl, _, rfl, ite2 (fun hz3 => ?_) (fun hz3 => ?_)⟩
        · refine ⟨_, rfl, b, l, c5, by rw [← c5_tx]; rfl, B3, by decide, by decide, by decide, lo5, fun z H4 m1 m2 B4 K4 => ⟨by show 2 ≤ sizeLine; decide, fun t ht => ?_⟩⟩
          have s5 := Same.new (Same.refl H4) ht (o := .tup [.str "until", vt z])
          exact k (.upto z) _ _ (ascS_of m1 (m2.trans c5_sub) lands_nd) rfl (lo_of m2 lo5) (.tup (.inl (.inl upd_same)) (.cons (.str _) (.cons (.str _) .nil))) (B4.same s5) (kk.trans (K4.trans (Kp.of s5)))
        · refine ⟨_, rfl, rfl, _, rfl, ite2 (fun hz4 => ?_) (fun hz4 => ?_)⟩
          · refine ⟨_, rfl, b, l, c5, by rw [← c5_tx]; rfl, B3, by decide, by decide, by decide, lo5, fun z H4 m1 m2 B4 K4 => ⟨by show 2 ≤ sizeLine; decide, fun t ht => ?_⟩⟩
            have s5 := Same.new (Same.refl H4) ht (o := .tup [.str "toward", vt z])
            exact k (.toward z) _ _ (ascS_of m1 (m2.trans c5_sub) lands_nd) rfl (lo_of m2 lo5) (.tup (.inl (.inl upd_same)) (.cons (.str _) (.cons (.str _) .nil))) (B4.same s5) (kk.trans (K4.trans (Kp.of s5)))
          · refine ⟨_, rfl, rfl, _, rfl, ite2 (fun hz5 => ?_) (fun hz5 => ?_)⟩
            · refine ⟨_, rfl, b, l, 4, rfl, B3, by decide, by decide, fun n H4 d1 d2 B4 K4 => ?_⟩
              refine ⟨_, rfl, b, l, c5w, by rw [← c5w_tx]; rfl, B4, by decide, by decide, by decide, lo5w, fun z H5 m1 m2 B5 K5 => ⟨by show 3 ≤ sizeLine; decide, fun t ht => ?_⟩⟩
              have s5 := Same.new (Same.refl H5) ht (o := .tup [.str "beside", .int n, vt z])
              have ok : (inN (.i n) 0 3 && ascS z alls) = true := by
                rw [ascS_of m1 (m2.trans c5w_sub) alls_nd]
                show ((decide (0 ≤ n) && decide (n ≤ 3)) && true) = true
                rw [decide_eq_true (by omega), decide_eq_true (by omega)]
                rfl
              exact k (.beside (.i n) z) _ _ ok rfl (lo_of m2 lo5w) (.tup (.inl (.inl upd_same)) (.cons (.str _) (.cons (.int _) (.cons (.str _) .nil)))) (B5.same s5) (kk.trans (K4.trans (K5.trans (Kp.of s5))))
            · refine ⟨_, rfl, rfl, _, rfl, ite2 (fun hz6 => ?_) (fun hz6 => ?_)⟩
              · refine ⟨_, rfl, b, l, c4w, by rw [← c4w_tx]; rfl, B3, by decide, by decide, by decide, lo4w, fun z H4 m1 m2 B4 K4 => ?_⟩
                refine ⟨_, rfl, b, l, 5, rfl, B4, by decide, by decide, fun n H5 d1 d2 B5 K5 => ⟨by show 3 ≤ sizeLine; decide, fun t ht => ?_⟩⟩
                have s5 := Same.new (Same.refl H5) ht (o := .tup [.str "near", vt z, .int n])
                have ok : (ascS z alls && inN (.i n) 0 22) = true := by
                  rw [ascS_of m1 (m2.trans c4w_sub) alls_nd]
                  show (true && (decide (0 ≤ n) && decide (n ≤ 22))) = true
                  rw [decide_eq_true (by omega), decide_eq_true (by omega)]
                  rfl
                exact k (.near z (.i n)) _ _ ok rfl (lo_of m2 lo4w) (.tup (.inl (.inl upd_same)) (.cons (.str _) (.cons (.str _) (.cons (.int _) .nil)))) (B5.same s5) (kk.trans (K4.trans (K5.trans (Kp.of s5))))
              · refine ⟨by show 2 ≤ sizeLine; decide, fun q hq => ?_⟩
                have s4 := Same.new (Same.refl H3) hq (o := .lst [.int 1, .int 3])
                have qb : q ≠ b ∧ q ≠ l := by
                  obtain ⟨_, _, x1, x2, _⟩ := B3.ex
                  exact ⟨(fun e => by rw [← e, hq] at x1; cases x1), (fun e => by rw [← e, hq] at x2; cases x2)⟩
                refine ⟨_, rfl, b, l, 2, rfl, B3.same s4, by decide, by decide, fun n H4 d1 d2 B4 K4 => ?_⟩
                have hl := K4 q _ upd_same qb.1 qb.2
                obtain ⟨sd, hs1, hs2⟩ : ∃ sd : Int, atI [V.int 1, V.int 3] n = some (.int sd) ∧ (sd = 1 ∨ sd = 3) := by
                  have e : n = 0 ∨ n = 1 := by omega
                  rcases e with rfl | rfl
                  · exact ⟨1, rfl, .inl rfl⟩
                  · exact ⟨3, rfl, .inr rfl⟩
                refine ⟨q, _, n, _, rfl, rfl, .inl (.inl hl), hs1, _, rfl, _, rfl, _, rfl, b, l, 8, rfl, B4, by decide, by decide, fun m H5 f1 f2 B5 K5 => ⟨_, _, rfl, rfl, by show 4 ≤ sizeLine; decide, fun t ht => ?_⟩⟩
                have s5 := Same.new (Same.refl H5) ht (o := .tup [.str "shore", .int sd, .int le, .int (le + mo + m)])
                have ok : (side (.i sd) && paces (.i le) (.i (le + mo + m))) = true := by
                  have e1 : side (.i sd) = true := by rcases hs2 with rfl | rfl <;> decide
                  rw [e1]
                  show (true && ((decide (0 ≤ le) && decide (le ≤ 20)) && (decide (le ≤ le + mo + m) && decide (le + mo + m ≤ 20)))) = true
                  rw [decide_eq_true (by omega), decide_eq_true (by omega), decide_eq_true (by omega), decide_eq_true (by omega)]
                  rfl
                exact k (.shore (.i sd) (.i le) (.i (le + mo + m))) _ _ ok rfl trivial (.tup (.inl (.inl upd_same)) (.cons (.str _) (.cons (.int _) (.cons (.int _) (.cons (.int _) .nil))))) (B5.same s5) (kk.trans ((Kp.of s4).trans (K4.trans (K5.trans (Kp.of s5)))))
end
end Om

/-! what a law of charts leans on: the box beside charts, islands, instructions; states as data -/
namespace Om
open PySem PySem.Spec PyProof.Rows L2 LamX Gk
theorem SqT.kpB {K : PySem.W.Frag} {H H' : Hp} {b l a : Addr} {xs : List V} (B : Box H b l) (k : Kp b l H H') (h : SqT K H a xs) : SqT K H' a xs := by
  obtain ⟨ns, z, h1, h2, _⟩ := B.ex
  rcases h with (h | ⟨o, h⟩) | h
  · exact .inl (.inl (k _ _ h (ne_of h h1 fun e => by cases e) (ne_of h h2 fun e => by cases e)))
  · exact .inl (.inr ⟨o, k _ _ h (ne_of h h1 fun e => by cases e) (ne_of h h2 fun e => by cases e)⟩)
  · exact .inr h
theorem Kp.tupB {b l a : Addr} {H H' : Hp} {xs : List V} (k : Kp b l H H') (B : Box H b l) (h : H a = some (.tup xs)) : H' a = some (.tup xs) := by
  obtain ⟨ns, z, h1, h2, _⟩ := id B.ex
  exact k _ _ h (ne_of h h1 fun e => by cases e) (ne_of h h2 fun e => by cases e)
theorem Kp.insB {b l a C dx : Addr} {H H' : Hp} {fs : List (Str × V)} (k : Kp b l H H') (B : Box H b l) (h : H a = some (.ins C dx fs)) : H' a = some (.ins C dx fs) := by
  obtain ⟨ns, z, h1, h2, _⟩ := id B.ex
  exact k _ _ h (ne_of h h1 fun e => by cases e) (ne_of h h2 fun e => by cases e)
theorem dp_kpB {K : PySem.W.Frag} {H H' : Hp} {b l : Addr} {v : V} {d : PyData} (B : Box H b l) (k : Kp b l H H') (hn : noL d = true) (h : Dp K H v d) : Dp K H' v d := dp_noL (fun _ _ => SqT.kpB B k) hn h
theorem dpAll_kpB {K : PySem.W.Frag} {H H' : Hp} {b l : Addr} {vs : List V} {ds : List PyData} (B : Box H b l) (k : Kp b l H H') (hn : noLs ds = true) (h : DpAll K H vs ds) : DpAll K H' vs ds := dpAll_noL (fun _ _ => SqT.kpB B k) hn h
theorem noL_nm (n : Nm) : noL n.d = true := by cases n <;> simp [Nm.d, noL]
theorem noL_nms : ∀ ns : List Nm, noLs (ns.map Nm.d) = true
  | [] => by simp [noLs]
  | n :: r => by simp [noLs, noL_nm, noL_nms r]
theorem noL_dt (s : List Nat) : noL (dt s) = true := by simp [dt, noL]
theorem noL_ins (i : Ins) : noL i.d = true := by cases i <;> simp [Ins.d, Ins.parts, noL, noLs, noL_nm, noL_nms, noL_dt]
theorem noL_inss : ∀ is : List Ins, noLs (is.map Ins.d) = true
  | [] => by simp [noLs]
  | i :: r => by simp [noLs, noL_ins, noL_inss r]
theorem Isl.kpB {K : PySem.W.Frag} {H H' : Hp} {CI a b l : Addr} {rows : List (List Nat)} (B : Box H b l) (k : Kp b l H H') (h : Isl K CI H a rows) : Isl K CI H' a rows := by
  obtain ⟨dx, p, h1, h2⟩ := h
  exact ⟨dx, p, k.insB B h1, SqT.kpB B k h2⟩
theorem Mp.kpB {K : PySem.W.Frag} {H H' : Hp} {CM CI a b l : Addr} {rows : List (List Nat)} {sg : List Nat} {fs : List Nm} {is : List Ins} (B : Box H b l) (k : Kp b l H H') (h : Mp K CM CI H a rows sg fs is) : Mp K CM CI H' a rows sg fs is := by
  obtain ⟨dx, li, lf, lt, xs, ha, hI, hF, hT, hD⟩ := h
  exact ⟨dx, li, lf, lt, xs, k.insB B ha, Isl.kpB B k hI, SqT.kpB B k hF, SqT.kpB B k hT, dpAll_kpB B k (noL_inss is) hD⟩
theorem Box.ne_new {H : Hp} {b l D : Addr} (B : Box H b l) (h : H D = none) : D ≠ b ∧ D ≠ l := by
  obtain ⟨_, _, x1, x2, _⟩ := B.ex
  exact ⟨(fun e => by rw [← e, h] at x1; cases x1), (fun e => by rw [← e, h] at x2; cases x2)⟩
/-! states as data -/
def sdp (s : ST) : PyData := .tuple [.int s.1.1, .int s.1.2, .int ((s.2 : Nat) : Int)]
theorem st_dp {K : PySem.W.Frag} {H : Hp} {a : Addr} {s : ST} (h : H a = some (.tup (stv s))) : Dp K H (.ref a) (sdp s) := .tup (.inl (.inl h)) (.cons (.int _) (.cons (.int _) (.cons (.int _) .nil)))
theorem states_dpAll {K : PySem.W.Frag} {H : Hp} : ∀ {t : TS}, CS H t → DpAll K H (vzS t) ((csS t).map sdp)
  | [], _ => .nil
  | p :: t, h => .cons (st_dp (h p List.mem_cons_self)) (states_dpAll fun q hq => h q (List.mem_cons_of_mem _ hq))
theorem states_dp {K : PySem.W.Frag} {H : Hp} {D : Addr} {t : TS} (h : H D = some (.lst (vzS t))) (c : CS H t) : Dp K H (.ref D) (.list ((csS t).map sdp)) := .lst (.inl (.inl h)) (states_dpAll c)
theorem okD_states {l : List ST} (h : l.length ≤ 10000) : okD 4 (.list (l.map sdp)) = true := by
  show (decide (_ ≤ 10000) && List.all _ (okD 3)) = true
  rw [Bool.and_eq_true, decide_eq_true_eq, List.length_map, List.all_map, List.all_eq_true]
  exact ⟨h, fun s _ => rfl⟩
/-- a method as its callers know it -/
structure CalM (P : Program) (w : World) (K : PySem.W.Frag) (mg : Str → Option Value) (base : Heap) (CX : CXT) (k : Nat) (f : Addr) (ps : List Str) (sp : Sp) : Prop where
  ex : ∃ fd : FuncData, FnOk P w K mg base CX k f fd ps sp ∧ Binds K fd ps []
theorem begF_len {rows : List (List Nat)} (vd : Vd rows) (sg fl : List Nat) (hf : fl.length ≤ 4) : (begF rows sg fl).length ≤ 1000 := by
  have h := flatMap_len (fun c => fl.map (stC c)) 4 (begC rows sg) fun x _ => by rw [List.length_map]; exact hf
  have h2 : (begC rows sg).length ≤ 144 := Nat.le_trans (List.length_filter_le ..) (cells_few vd)
  unfold begF
  omega
theorem up_len {rows : List (List Nat)} (vd : Vd rows) {l : List ST} (h : UpS l) (hl : ∀ s ∈ l, s ∈ allS rows) : l.length ≤ 1000 := Nat.le_trans (nodup_leB l (allS rows) h.nd hl) (Nat.le_trans (allS_len vd) (by decide))
/-- two lists of states, known by the same words, are alike -/
theorem alike_states {K : PySem.W.Frag} {H : Hp} {D E : Addr} {t u : TS} {Q : VK} (h1 : H D = some (.lst (vzS t))) (c1 : CS H t) (h2 : H E = some (.lst (vzS u))) (c2 : CS H u) (e : csS t = csS u) (hl : (csS t).length ≤ 10000) (k : Q (.bl true) H) : spAlike K 4 [.ref D, .ref E] H Q E0 :=
  ⟨.ref D, .ref E, _, rfl, states_dp h1 c1, by rw [e]; exact states_dp h2 c2, okD_states hl, k⟩
end Om

/-! charts as the laws draw them; _law_ends -/
namespace Om
open PySem PySem.Spec PyProof.Rows L2 LamX Gk
/-- what is known of a chart that is accepted -/
structure ChF (rows : List (List Nat)) (sg fl : List Nat) (vs : List VI) : Prop where
  vd : Vd rows
  f4 : ∀ f ∈ fl, f < 4
  fp : fl.Pairwise (· < ·)
  fl4 : fl.length ≤ 4
  w : 126 ∉ sg
  asc : ascS sg lands = true
  fok : ascN (fl.map nmN) 0 3 = true
  wf : ∀ v ∈ vs, v.wf
  wl : ∀ v ∈ vs, v.wl
  ok : ∀ v ∈ vs, v.ins.ok = true
  sm : ∀ v ∈ vs, v.ins.small = true
  lo : ∀ v ∈ vs, v.ins.lo
  len : vs.length ≤ 20
theorem ChF.bad {rows : List (List Nat)} {sg fl : List Nat} {vs : List VI} (h : ChF rows sg fl vs) : mapBad sg (fl.map nmN) (vs.map VI.ins) = none := mapBad_none.mpr ⟨h.asc, h.fok, fun x hx => by
  obtain ⟨v, hv, rfl⟩ := List.mem_map.mp hx
  exact h.ok v hv, by rw [List.length_map]; exact h.len⟩
theorem ChF.smi {rows : List (List Nat)} {sg fl : List Nat} {vs : List VI} (h : ChF rows sg fl vs) : SmI (vs.map VI.ins) := ⟨by rw [List.length_map]; exact Nat.le_trans h.len (by decide), fun x hx => by
  obtain ⟨v, hv, rfl⟩ := List.mem_map.mp hx
  exact h.sm v hv⟩
/-- some of a chart's instructions -/
theorem ChF.sub {rows : List (List Nat)} {sg fl : List Nat} {vs us : List VI} (h : ChF rows sg fl vs) (hs : ∀ v ∈ us, v ∈ vs) (hl : us.length ≤ 20) : ChF rows sg fl us :=
  ⟨h.vd, h.f4, h.fp, h.fl4, h.w, h.asc, h.fok, fun v hv => h.wf v (hs v hv), fun v hv => h.wl v (hs v hv), fun v hv => h.ok v (hs v hv), fun v hv => h.sm v (hs v hv), fun v hv => h.lo v (hs v hv), hl⟩
theorem ChF.snoc {rows : List (List Nat)} {sg fl : List Nat} {vs : List VI} {v : VI} (h : ChF rows sg fl vs) (h1 : v.wf) (h2 : v.wl) (h3 : v.ins.ok = true) (h4 : v.ins.small = true) (h5 : v.ins.lo) (hl : vs.length + 1 ≤ 20) : ChF rows sg fl (vs ++ [v]) := by
  have each : ∀ {p : VI → Prop}, (∀ x ∈ vs, p x) → p v → ∀ x ∈ vs ++ [v], p x := fun h1 h2 x hx => by
    rcases List.mem_append.mp hx with hx | hx
    · exact h1 x hx
    · rw [List.mem_singleton.mp hx]; exact h2
  exact ⟨h.vd, h.f4, h.fp, h.fl4, h.w, h.asc, h.fok, each h.wf h1, each h.wl h2, each h.ok h3, each h.sm h4, each h.lo h5, by rw [List.length_append, List.length_singleton]; exact hl⟩
theorem ChF.begUp {rows : List (List Nat)} {sg fl : List Nat} {vs : List VI} (h : ChF rows sg fl vs) : UpS (begF rows sg fl) := begF_up rows sg fl h.fp
theorem ChF.begIn {rows : List (List Nat)} {sg fl : List Nat} {vs : List VI} (h : ChF rows sg fl vs) : ∀ s ∈ begF rows sg fl, s ∈ allS rows := begF_land h.vd.toGood2 sg fl h.f4
theorem FolR.snoc {rows : List (List Nat)} : ∀ {vs : List VI} {A B C : List ST} {v : VI}, FolR rows vs A B → NextR rows v B C → FolR rows (vs ++ [v]) A C
  | [], A, B, C, v, h, n => by
    have h : B = A := h
    rw [h] at n
    exact ⟨C, n, rfl⟩
  | u :: vs, A, B, C, v, ⟨S, n1, f1⟩, n => ⟨S, n1, FolR.snoc f1 n⟩
theorem FolR.up {rows : List (List Nat)} : ∀ {vs : List VI} {A B : List ST}, FolR rows vs A B → UpS A → UpS B
  | [], A, B, h, u => by
    have h : B = A := h
    rw [h]; exact u
  | v :: vs, A, B, ⟨S, n, f⟩, _ => FolR.up f n.1
theorem FolR.land {rows : List (List Nat)} (vd : Vd rows) : ∀ {vs : List VI} {A B : List ST}, FolR rows vs A B → (∀ s ∈ A, s ∈ allS rows) → ∀ s ∈ B, s ∈ allS rows
  | [], A, B, h, u => by
    have h : B = A := h
    rw [h]; exact u
  | v :: vs, A, B, ⟨S, n, f⟩, u => FolR.land vd f (next_land vd n u)
/-- the instructions but those at some indexes -/
def kpt (ns : List Int) : Nat → List VI → List VI
  | _, [] => []
  | k, v :: r => if ((k : Nat) : Int) ∈ ns then kpt ns (k + 1) r else v :: kpt ns (k + 1) r
theorem kpt_snoc (ns : List Int) (v : VI) : ∀ (vs : List VI) (k : Nat), kpt ns k (vs ++ [v]) = kpt ns k vs ++ (if ((k + vs.length : Nat) : Int) ∈ ns then [] else [v])
  | [], k => by
    by_cases h : ((k : Nat) : Int) ∈ ns
    · simp [kpt, h]
    · simp [kpt, h]
  | u :: vs, k => by
    have ih := kpt_snoc ns v vs (k + 1)
    have e : k + 1 + vs.length = k + (u :: vs).length := by rw [List.length_cons]; omega
    rw [e] at ih
    rw [List.cons_append]
    unfold kpt
    rw [ih]
    split <;> rfl
theorem kpt_nil : ∀ (vs : List VI) (k : Nat), kpt [] k vs = vs
  | [], _ => rfl
  | v :: vs, k => by
    unfold kpt
    rw [if_neg (by simp), kpt_nil vs (k + 1)]
theorem kpt_sub (ns : List Int) : ∀ (vs : List VI) (k : Nat), ∀ v ∈ kpt ns k vs, v ∈ vs
  | [], _, v, h => by cases h
  | u :: vs, k, v, h => by
    unfold kpt at h
    split at h
    · exact List.mem_cons_of_mem _ (kpt_sub ns vs (k + 1) v h)
    · rcases List.mem_cons.mp h with rfl | h
      · exact List.mem_cons_self
      · exact List.mem_cons_of_mem _ (kpt_sub ns vs (k + 1) v h)
theorem kpt_len (ns : List Int) : ∀ (vs : List VI) (k : Nat), (kpt ns k vs).length ≤ vs.length
  | [], _ => Nat.le_refl _
  | u :: vs, k => by
    unfold kpt
    have := kpt_len ns vs (k + 1)
    split
    · rw [List.length_cons]; omega
    · rw [List.length_cons, List.length_cons]; omega
theorem inV_ints (i : Int) (ns : List Int) : inV (.int i) (ns.map V.int) = decide (i ∈ ns) := by
  unfold inV
  rw [List.any_map]
  induction ns with
  | nil => simp
  | cons n r ih =>
    rw [List.any_cons, ih]
    have e : (eqV (V.int n) (V.int i)) = decide (n = i) := rfl
    show (eqV (V.int n) (V.int i) || _) = _
    rw [e]
    by_cases h : n = i
    · subst h; simp
    · have h2 : ¬ i = n := fun z => h z.symm
      simp [h, h2]
def spLEn (K : PySem.W.Frag) (CM CI : Addr) : Sp := fun us H Q _ => ∃ (a lo : Addr) (rows : List (List Nat)) (sg fl : List Nat) (vs : List VI) (ns : List Int), us = [.ref a, .ref lo] ∧ Mp K CM CI H a rows sg (fl.map nmN) (vs.map VI.ins) ∧ ChF rows sg fl vs ∧ SqL K H lo (ns.map V.int) ∧
  ∀ (D : Addr) (t : TS) (H' : Hp), H D = none → Same H H' → H' D = some (.lst (vzS t)) → CS H' t → FolR rows (kpt ns 0 vs) (begF rows sg fl) (csS t) → Q (.ref D) H'
abbrev sLEn : Stmt := top 70
section
variable {P : Program} {w : World} {K : PySem.W.Frag} {mg : Str → Option Value} {base : Heap} {CM CI fM fN : Addr}
abbrev nLEn : List Str := ["_law_chart_here", "_law_left_out", "_law_states", "_law_index"]
theorem scLEn : FnScope nLEn ["_law_chart_here", "_law_left_out"] (defScope sLEn) := ⟨rfl, rfl, rfl, by decide +kernel, rfl, by decide +kernel, by decide +kernel⟩
theorem ok_len {f pI pR gI gR gL gG : Addr} {fd dI dR dL dG : FuncData} (F : FnP K "_law_ends" "_law_ends" sLEn f fd) (TM : MapF K mg CM fM) (TI : IslF K mg CI fN)
    (qI : PropOf K CM "island" pI gI) (GI : FnOk P w K mg base CX0 1 gI dI ["self"] (getSp CM "_island")) (bI : Binds K dI ["self"] [])
    (qR : PropOf K CI "rows" pR gR) (GR : FnOk P w K mg base CX0 1 gR dR ["self"] (spIRows K CI)) (bR : Binds K dR ["self"] [])
    (mL : OwnM K CM "__len__" gL) (GL : FnOk P w K mg base CX0 1 gL dL ["self"] (spMLen K CM CI)) (bL : Binds K dL ["self"] [])
    (mG : OwnM K CM "__getitem__" gG) (GG : FnOk P w K mg base CX0 1 gG dG ["self", "index"] (spMGet K CM CI)) (bG : Binds K dG ["self", "index"] [])
    (LB : Cal P w K mg base CX0 3 "_law_begins" ["_law_chart_here"] (spLBe K CM CI)) (LH : Cal P w K mg base CX0 5 "_law_behind" ["_law_rows_here", "_law_states", "_law_instruction_here"] (spLBh K))
    (glen : mg "len" = none) (grange : mg "range" = none) : FnOk P w K mg base CX0 6 f fd ["_law_chart_here", "_law_left_out"] (spLEn K CM CI) := by
  refine F.ok scLEn (fun vs H Q E h => ?_) (fun cdv A outer s H vs Q E hr h => ?_)
  · obtain ⟨a, lo, rows, sg, fl, vs, ns, rfl, _⟩ := h
    rfl
  · obtain ⟨a, lo, rows, sg, fl, vs, ns, rfl, hM, ch, hlo, k⟩ := h
    have nd := scLEn.nd
    have hr2 : Room 2 _ := hr.mono (by decide)
    have hr3 : Room 3 _ := hr.mono (by decide)
    refine ⟨_, PSs.nox (pss_cons (ps_set (i := 2) nd rfl (.inl rfl) (pe_cal LB hr3 pass0 (pa_cons (pv 0) pa_nil)))
      (pss_cons (ps_for PassesOwn.never rfl (pi_range1 rfl grange (pa_cons (pe_callB (call_lenOwn (E := E0) mL GL hr2 bL pass0) (by rfl) glen PySem.boot_len (pa_cons (pv 0) pa_nil)) pa_nil)) (pg_name (i := 3) nd rfl (.inl rfl))
        (pss_one (ps_if (pt_cmpR op_notIn_seq (pv 3) (pv 1) (by with_unfolding_all rfl))
          (pss_one (ps_set (i := 2) nd rfl (.inl rfl) (pe_cal LH hr pass0 (pa_cons (pe_prop (pe_prop (pv 0) TM.cl qI GI hr2 bI .nil pass0 rfl) TI.cl qR GR hr2 bR .nil pass0 rfl) (pa_cons (pv 2) (pa_cons (pe_ixOwn mG GG hr2 bG pass0 (pv 0) (pv 3)) pa_nil)))))) pss_nil)))
      (pss_one (ps_ret (pv 2))))), ?_⟩
    obtain ⟨dx, li, lf, lt, xs, ha, hI, hF, hT, hD⟩ := id hM
    obtain ⟨dxi, pr, hli, hrows⟩ := id hI
    have hlen : vs.length ≤ 20 := ch.len
    have hm : (vs.map VI.ins).length = vs.length := List.length_map ..
    refine ⟨_, rfl, a, rows, sg, fl, _, rfl, hM, ch.vd, ch.fl4, ch.w, fun D t H1 hD0 s1 h1 c1 e1 => ?_⟩
    refine ⟨_, rfl, a, dx, _, rfl, s1 _ _ ha, a, rows, sg, _, _, rfl, hM.same s1, _, rfl, by omega, by omega, _, rfl, by omega, by omega, for_range (lo := 0) (n := ((((vs.map VI.ins).length : Nat) : Int)).toNat) (fun i σ H' => ∃ (D : Addr) (t : TS) (v3 : Option V), σ = [some (.ref a), some (.ref lo), some (.ref D), v3] ∧ H D = none ∧ Same H H' ∧ H' D = some (.lst (vzS t)) ∧ CS H' t ∧ FolR rows (kpt ns 0 (vs.take i)) (begF rows sg fl) (csS t))
      ⟨D, t, _, rfl, hD0, s1, h1, c1, by rw [List.take_zero, e1]; rfl⟩ ?_ ?_⟩
    · rintro i σ H2 hi ⟨D2, t2, v3, rfl, hD2, s2, h2, c2, f2⟩
      have hi : i < vs.length := by
        have : i < ((((vs.map VI.ins).length : Nat) : Int)).toNat := hi
        omega
      have hv : vs[i]? = some vs[i] := List.getElem?_eq_getElem hi
      generalize vs[i] = v at hv
      have hvm := List.mem_of_getElem? hv
      have et : kpt ns 0 (vs.take (i + 1)) = kpt ns 0 (vs.take i) ++ (if ((i : Nat) : Int) ∈ ns then [] else [v]) := by
        rw [List.take_add_one, hv]
        show kpt ns 0 (vs.take i ++ [v]) = _
        rw [kpt_snoc, List.length_take, Nat.min_eq_left (by omega), Nat.zero_add]
      have hup := FolR.up f2 ch.begUp
      have hin := FolR.land ch.vd f2 ch.begIn
      rw [show (0 : Int) + (i : Nat) = (i : Nat) from Int.zero_add _]
      refine ⟨_, rfl, _, rfl, lo, _, rfl, .inl (Same.lst s2 hlo), rfl, (by rw [List.all_map]; exact List.all_eq_true.mpr fun _ _ => rfl), _, rfl, ?_⟩
      rw [inV_ints]
      by_cases hin2 : ((i : Nat) : Int) ∈ ns
      · refine iteF' (by rw [decide_eq_true hin2]; rfl) ⟨D2, t2, _, rfl, hD2, s2, h2, c2, ?_⟩
        rw [et, if_pos hin2, List.append_nil]
        exact f2
      · refine iteT' (by rw [decide_eq_false hin2]; rfl) ?_
        have ha2 := s2 _ _ ha
        have hli2 := s2 _ _ hli
        refine ⟨_, rfl, a, dx, _, rfl, ha2, a, dx, _, _, rfl, ha2, mapFs_i .., li, dxi, _, rfl, hli2, li, dxi, pr, rfl, hli2, _, rfl, ?_⟩
        refine ⟨_, rfl, _, rfl, a, dx, _, rfl, ha2, a, i, v.ins, rows, sg, _, _, rfl, hM.same s2, by rw [List.getElem?_map, hv]; rfl, fun iv hiv => ?_⟩
        refine ⟨pr, D2, iv, rows, t2, v, rfl, Same.tup s2 hrows, ch.vd, h2, c2, by rw [← csS_len]; exact up_len ch.vd hup hin, hin, hiv, ch.wf v hvm, ch.wl v hvm, fun D3 t3 H3 hD3 s3 h3 c3 n3 in3 => ?_⟩
        refine ⟨D3, t3, _, rfl, Same.none s2 hD3, s2.trans s3, h3, c3, ?_⟩
        rw [et, if_neg hin2]
        exact f2.snoc n3
    · rintro σ H2 ⟨D2, t2, v3, rfl, hD2, s2, h2, c2, f2⟩
      have en : ((((vs.map VI.ins).length : Nat) : Int)).toNat = vs.length := by omega
      rw [en, List.take_length] at f2
      exact ⟨_, rfl, k D2 t2 H2 hD2 s2 h2 c2 f2⟩
end
end Om

/-! set(xs), xs a list of fewer than a thousand tuples of ints -/
namespace Om.Bg
open Om PySem PySem.Spec PyProof.Rows L2
abbrev noneSet (w : World) : Obj := { cls := .type "set", dict := none, data := .set #[] 0 (.fresh 0 0 (!w.params.followText "set-order")) }
section
variable {P : Program} {w : World} {A : Around} {E : Value → Shared → Prop} {s : Shared}
theorem _root_.Om.SetQ.kept {h h' : Heap} {a : Addr} {L : List (Addr × List Int)} {es : Array (Int × Value)} {ep : Nat} {t : SetTable} (R : SetQ P w h a L es ep t) (ha : ∀ o, h.get? a = some o → h'.get? a = some o) (ht : ∀ p ∈ L, IsT P w h' p.2 p.1) : SetQ P w h' a L es ep t := by
  obtain ⟨o, ho, r⟩ := R.obj
  exact { obj := ⟨o, ha o ho, r⟩, es_ := R.es_, tab := R.tab, nd := R.nd, tups := ht, plain := R.plain, led := R.led, room := R.room, few := R.few }
theorem upd_q {I : Addr} {fp wr : List Addr} {G : Array GenState → Array GenState → Prop} {n : Nat} {Pv : Nat → Value → Prop} {St : Nat → Shared → Prop} {R : Result → Shared → Prop} (W : WalksS P w A.in1 I fp wr G n Pv St) (S : Addr) (away : S ∉ fp)
    (ks : List (Addr × List Int)) (many : n = ks.length) (few : ks.length < 1000) (val : ∀ i v, Pv i v → ∃ p, ks[i]? = some p ∧ v = .ref p.1) (h0 : Heap) (tups : ∀ p ∈ ks, IsT P w h0 p.2 p.1) (gone : h0.get? S = none) (wgone : ∀ b ∈ wr, h0.get? b = none) (room : A.in1.units < cLine) :
    ∀ (k i : Nat) (s : Shared), n - i = k → i ≤ n → St i s → (∀ b o, h0.get? b = some o → s.heap.get? b = some o) → (∃ L es ep t, SetQ P w s.heap S L es ep t ∧ Got ks i L) →
      (∀ s' L es ep t, Moved (S :: wr) G s s' → SetQ P w s'.heap S L es ep t → Got ks n L → (∀ b o, h0.get? b = some o → s'.heap.get? b = some o) → R (.ok (.ret .none)) s') → codeAny (model P w) A (.builtin "set.update.loop" ⟨[.ref S, .ref I], []⟩) R s := by
  have nS : S ∉ wr := fun z => away (W.sub _ z)
  have inW : ∀ b ∈ wr, b ∈ S :: wr := fun b z => List.mem_cons_of_mem _ z
  have mv : ∀ {s s' : Shared}, Moved wr G s s' → (∀ b o, h0.get? b = some o → s.heap.get? b = some o) → ∀ b o, h0.get? b = some o → s'.heap.get? b = some o := fun m kp b o e => m.heap b o (fun z => by rw [wgone b z] at e; cases e) (kp b o e)
  intro k
  induction k with
  | zero =>
    intro i s ek ei est ekp ⟨L, es, ep, t, Q, g⟩ fin
    obtain rfl : i = n := by omega
    refine codeAny_builtin F.entry_set_update_loop (show _ from ?_); rw [Around.under_plainId F.plain_set_update_loop _]
    show wpAny _ A.in1 (pyNext (.ref I) >>= _) _ _ _
    refine wpAny_bind (W.done s _ _ est fun s1 m => (show _ from ?_))
    show wpAny _ A.in1 (ret Value.none) _ _ _
    have ekp1 := mv m ekp
    exact wpAny_pure (fin s1 L es ep t (m.mono inW) (Q.kept (fun o e => m.heap S o nS e) fun p hp => isT_keep (tups p (List.mem_of_mem_take (g.sub p hp))) ekp1) g ekp1)
  | succ k ih =>
    intro i s ek ei est ekp ⟨L, es, ep, t, Q, g⟩ fin
    have lt : i < n := by omega
    refine codeAny_builtin F.entry_set_update_loop (show _ from ?_); rw [Around.under_plainId F.plain_set_update_loop _]
    show wpAny _ A.in1 (pyNext (.ref I) >>= _) _ _ _
    refine wpAny_bind (W.item i s _ _ lt est fun v s1 hv est1 m => (show _ from ?_))
    obtain ⟨p, hp, rfl⟩ := val i v hv
    have ekp1 := mv m ekp
    have Q1 : SetQ P w s1.heap S L es ep t := Q.kept (fun o e => m.heap S o nS e) fun q hq => isT_keep (tups q (List.mem_of_mem_take (g.sub q hq))) ekp1
    have tp : IsT P w s1.heap p.2 p.1 := isT_keep (tups p (List.mem_of_getElem? hp)) ekp1
    show wpAny _ A.in1 (holding [Value.ref p.1] (setAdd S (.ref p.1)) >>= _) _ _ _
    refine wpAny_bind (wpAny_holding (show _ from ?_)); unfold setAdd; refine wpAny_holding (show _ from ?_)
    refine wpAny_bind (wpAny_pyHash_tuple room tp (show _ from ?_))
    refine add_q (s := { s1 with toks := s1.toks + (p.2.length + 1) }) Q1 tp room (by have := g.len; omega) fun b h1 L1 es1 ep1 t1 sb Q2 c1 c2 => (show _ from ?_)
    have g1 : Got ks (i + 1) L1 := (Classical.em (p.2 ∈ L.map (·.2))).elim (fun c => by rw [c1 c]; exact g.same hp c) fun c => g.more hp (c2 c)
    have ekp2 : ∀ b o, h0.get? b = some o → h1.get? b = some o := fun b o e => (sb.2 b (fun z => by rw [z, gone] at e; cases e)).trans (ekp1 b o e)
    refine wpAny_pure ⟨plainId_quiet F.plain_set_update_loop _, ih (i + 1) _ (by omega) lt (W.frame _ s1 _ _ est1 (Nat.le_add_right _ _) fun b hb o e => (show _ from ?_)) ekp2 ⟨L1, es1, ep1, t1, Q2, g1⟩ fun s2 L2 es2 ep2 t2 m2 Q3 g2 ekp3 => (show _ from ?_)⟩
    · rw [sb.2 b fun z : b = S => away (by rw [← z]; exact hb)]; exact e
    · refine fin s2 L2 es2 ep2 t2 (Moved.trans W.gtrans ((m.mono inW).then_heap (Nat.le_add_right _ _) fun b o hb e => (show _ from ?_)) m2) Q3 g2 ekp3
      rw [sb.2 b fun z : b = S => hb (by rw [z]; exact List.mem_cons_self)]; exact e
set_option maxHeartbeats 8000000 in
theorem set_of_list {l : Addr} {items : Array Value} (ks : List (Addr × List Int)) {Q : Value → Shared → Prop} (hl : s.heap.IsList l items) (hh : A.handled = none)
    (hit : items.toList = ks.map fun p => Value.ref p.1) (hu : A.units + 3 < cLine) (hk : ∀ p ∈ ks, IsT P w s.heap p.2 p.1) (hfew : ks.length < 1000)
    (fin : ∀ (hp : Heap) (n : Nat) L es ep t, SetQ P w hp s.heap.objs.size L es ep t ∧ Got ks ks.length L ∧ (∀ b o, s.heap.get? b = some o → hp.get? b = some o) → Q (.ref s.heap.objs.size) { s with heap := hp, toks := n }) :
    wpAny (model P w) A (call (.type "set") [.ref l]) Q E s := by
  have many : items.size = ks.length := by rw [← Array.length_toList, hit, List.length_map]
  obtain ⟨c, tl, hm⟩ := F.called_set.mro; have g1 := F.called_set.made; have g2 := F.called_set.sub
  refine wpAny_call (codeAny_of_tree (show _ from ?_)); show wpAny _ _ (callAny (.type "set") _) _ _ _
  refine wpAny_pure ⟨Code.quiet_builtin _ (by decide +kernel), codeAny_builtin F.entry_type_call (show _ from ?_)⟩
  rw [Around.under_plain (weight_type_call_type "set" [.ref l] []) rfl]; have g3 := F.called_set.notType; have g4 := F.called_set.canCreate; have g5 := F.typeCall_set_1 (.ref l)
  repeat (any_goals (first | wp_step | assumption))
  refine codeAny_mono (code_set_led1 (E := E) (.ref l) (Q₁ := fun u s1 => u = .ref s.heap.objs.size ∧ s1 = { s with heap := s.heap.push (noneSet w) }) ⟨rfl, rfl⟩) fun r s1 hr => ?_
  cases r with
  | error e => exact hr
  | ok fl =>
    cases fl with
    | ret obj =>
      obtain ⟨rfl, rfl⟩ := hr
      have at0 : (s.heap.push (noneSet w)).get? s.heap.objs.size = some (noneSet w) := Heap.get?_push_size _ rfl
      have ty0 : Shared.TypeIs { s with heap := s.heap.push (noneSet w) } (.ref s.heap.objs.size) "set" := ⟨_, at0, rfl⟩
      have i1 := F.called_set.init.lookup; have i2 := F.called_set.init.bind (.ref s.heap.objs.size)
      repeat (any_goals (first | wp_step | assumption))
      refine codeAny_mono (codeAny_call_builtin (R := wants (fun r s2 => r = .none ∧ ∃ hp n L es ep t, s2 = { s with heap := hp, toks := n } ∧ SetQ P w hp s.heap.objs.size L es ep t ∧ Got ks ks.length L ∧ (∀ b o, s.heap.get? b = some o → hp.get? b = some o)) E)
        F.called_set.init.plain F.entry_set_init (check_set_init_1 ty0 (show _ from ?_))) fun r2 s2 hr2 => ?_
      · obtain ⟨⟨oc, od, dt, sl⟩, ho, hc, n, hd⟩ := hl
        simp only at hc hd; subst hc hd
        have at1 : (s.heap.push (noneSet w)).get? l = some ⟨.type "list", od, .seq items n, sl⟩ := Heap.get?_push_of_some _ ho
        have b1 := F.sub_list_set; have b2 := F.sub_list_frozenset; have b3 : (Value.type "list" == Value.type "dict") = false := by decide
        have lst1 : (s.heap.push (noneSet w)).IsList l items := ⟨_, at1, rfl, n, rfl⟩
        unfold Builtin.«set.__init__» noKeywords Builtin.Frozenset.updateFrom
        generalize eIt : pyIter = It0; wp_walk; subst eIt
        refine wpAny_pyIter_list lst1 (show _ from ?_); refine wpAny_bind (wpAny_runValue (show _ from ?_))
        have lt0 : l < s.heap.objs.size := Heap.lt_size ho
        have hd3 : A.in1.in1.in1.handled = none := by simp [hh]
        have fresh : ∀ b, s.heap.objs.size ≤ b → s.heap.get? b = none := fun b hb => Option.eq_none_iff_forall_ne_some.mpr fun o q => Nat.lt_irrefl _ (Nat.lt_of_lt_of_le (Heap.lt_size q) hb)
        have lI : l ≠ (s.heap.push (noneSet w)).objs.size := fun e => by
          rw [Heap.size_push] at e
          rw [e] at lt0
          exact absurd lt0 (Nat.not_lt.mpr (Nat.le_succ _))
        have nin : s.heap.objs.size ∉ [(s.heap.push (noneSet w)).objs.size, l] := fun e => by
          rw [Heap.size_push] at e
          rcases List.mem_cons.mp e with e | e
          · exact absurd e (Nat.ne_of_lt (Nat.lt_succ_self _))
          · have z := List.mem_singleton.mp e
            rw [← z] at lt0
            exact absurd lt0 (Nat.lt_irrefl _)
        refine upd_q ((Walks.list hd3 _ l lI items).toS) s.heap.objs.size nin ks many hfew (fun i v hv => ?_) s.heap hk (fresh _ (Nat.le_refl _)) (fun b hb => fresh b (by
            rw [List.mem_singleton.mp hb, Heap.size_push]; exact Nat.le_succ _)) hu (items.size - 0) 0 _ (by omega) (Nat.zero_le _)
          ⟨⟨_, Heap.get?_push_size _ rfl, rfl, rfl⟩, (lst1.push _)⟩ (fun b o e => Heap.get?_push_of_some _ (Heap.get?_push_of_some _ e)) ⟨[], #[], 0, _, fresh_q (Heap.get?_push_of_some _ at0), Got.zero ks⟩ fun s9 L es ep t mv st gt kp => ?_
        · have q : items.toList[i]? = some v := by rw [Array.getElem?_toList]; exact hv
          rw [hit, List.getElem?_map] at q
          obtain ⟨p, hp, e⟩ := Option.map_eq_some_iff.mp q
          exact ⟨p, hp, e.symm⟩
        · obtain ⟨hp, gg, dd, nn, oo⟩ := s9
          have e1 : gg = s.gens := mv.gens; have e2 : dd = s.drawn := mv.drawn; have e3 : oo = s.os := mv.os
          subst e1 e2 e3
          show wpAny _ _ _ _ _ _
          refine wpAny_pure (show _ from ?_); show wpAny _ _ (ret Value.none) _ _ _
          rw [many] at gt
          exact wpAny_pure ⟨rfl, hp, nn, L, es, ep, t, rfl, st, gt, kp⟩
      · cases r2 with
        | error e => exact hr2
        | ok fl2 =>
          cases fl2 with
          | ret r =>
            obtain ⟨rfl, hp, n, L, es, ep, t, rfl, st, gt, kp⟩ := hr2
            repeat (any_goals (first | wp_step | assumption))
            exact fin _ _ _ _ _ _ ⟨st, gt, kp⟩
          | _ => exact hr2.elim
    | _ => exact hr.elim
end
/-- set(xs), told of the layer -/
def rSetOf (K : PySem.W.Frag) (P : Program) (w : World) : List V → Hp → VK → Prop := fun xs H Q => ∃ (l : Addr) (ks : List (Addr × List Int)), xs = [V.ref l] ∧ SqL K H l (ks.map fun p => V.ref p.1) ∧ ks.length < 1000 ∧ (∀ p ∈ ks, SqT K H p.1 (p.2.map V.int)) ∧
  ∀ a L, H a = none → (∀ p ∈ L, p ∈ ks) → (∀ p ∈ ks, p.2 ∈ L.map (·.2)) → Q (.ref a) (upd H a (SetQO P w a L))
theorem cr_setOf {X : Cx} (hc : X.calm = true) (hu : X.A.units + 64 < cLine) : CallR X (.type "set") (rSetOf X.K X.prog X.w) := by
  intro pins s σ H xs us Q I r h
  obtain ⟨l, ks, rfl, hl, hf, hk, q⟩ := h
  rw [Vals.ref1 r]
  obtain ⟨its, rv, pl, _⟩ := I.list hl
  have hn : H s.heap.objs.size = none := I.hok.fresh (Nat.le_refl _)
  refine set_of_list (P := X.prog) (w := X.w) (items := its.toArray) ks pl.isList (I.ok.hd hc) (by simpa using refs_of_vals rv) (by omega) (fun p hp => I.isT (hk p hp)) hf fun hp n L es ep t ⟨R, g, k⟩ => ?_
  refine ⟨.ref s.heap.objs.size, upd H s.heap.objs.size (SetQO X.prog X.w s.heap.objs.size L), I.laid (t' := n) k (Nat.le_refl _) (qo_new R.q0), rfl, q _ L hn (fun p hp => List.mem_of_mem_take (g.sub p hp)) fun p hp => g.all p (by rw [List.take_length]; exact hp)⟩
end Om.Bg

/-! cells of states: cells_of, places; _law_cells -/
namespace Om
open PySem PySem.Spec PyProof.Rows L2 LamX Gk
abbrev TC2 := List (Addr × IC)
def CSc (H : Hp) (t : TC2) : Prop := ∀ p ∈ t, H p.1 = some (.tup (icv p.2))
def vzc (t : TC2) : List V := t.map fun p => V.ref p.1
def csc (t : TC2) : List IC := t.map fun p => p.2
theorem CSc.same {H H' : Hp} {t : TC2} (h : CSc H t) (s : Same H H') : CSc H' t := fun p hp => s _ _ (h p hp)
theorem vzc_len (t : TC2) : (vzc t).length = t.length := List.length_map ..
theorem csc_len (t : TC2) : (csc t).length = t.length := List.length_map ..
/-- the ints of a cell -/
def icl (c : IC) : List Int := [c.1, c.2]
theorem icl_v (c : IC) : (icl c).map V.int = icv c := rfl
theorem icl_inj {c d : IC} (h : icl c = icl d) : c = d := by
  unfold icl at h
  injection h with h1 h
  injection h with h2 _
  exact Prod.ext h1 h2
def UpC (l : List IC) : Prop := l.Pairwise fun x y => icl x < icl y
theorem UpC.uniq : ∀ {l m : List IC}, UpC l → UpC m → (∀ x, x ∈ l ↔ x ∈ m) → l = m
  | [], [], _, _, _ => rfl
  | [], y :: m, _, _, h => absurd ((h y).mpr List.mem_cons_self) (by simp)
  | x :: l, [], _, _, h => absurd ((h x).mp List.mem_cons_self) (by simp)
  | x :: l, y :: m, hl, hm, h => by
    obtain ⟨l1, l2⟩ := List.pairwise_cons.mp hl
    obtain ⟨m1, m2⟩ := List.pairwise_cons.mp hm
    have e : x = y := by
      rcases List.mem_cons.mp ((h x).mp List.mem_cons_self) with e | hx
      · exact e
      rcases List.mem_cons.mp ((h y).mpr List.mem_cons_self) with e | hy
      · exact e.symm
      exact absurd (List.lt_trans (m1 x hx) (l1 y hy)) (List.lt_irrefl _)
    subst e
    have nx : x ∉ l := fun q => List.lt_irrefl _ (l1 x q)
    have ny : x ∉ m := fun q => List.lt_irrefl _ (m1 x q)
    rw [UpC.uniq l2 m2 fun z => ⟨fun hz => (List.mem_cons.mp ((h z).mp (List.mem_cons_of_mem _ hz))).elim (fun e => absurd (e ▸ hz) nx) id, fun hz => (List.mem_cons.mp ((h z).mpr (List.mem_cons_of_mem _ hz))).elim (fun e => absurd (e ▸ hz) ny) id⟩]
/-- the cells of some states, ascending -/
def CelR (S : List ST) (C : List IC) : Prop := UpC C ∧ ∀ c, c ∈ C ↔ ∃ s ∈ S, s.1 = c
theorem CelR.uniq {S : List ST} {C D : List IC} (h1 : CelR S C) (h2 : CelR S D) : C = D := UpC.uniq h1.1 h2.1 fun c => (h1.2 c).trans (h2.2 c).symm
theorem tc_of {H : Hp} : ∀ {L : List (Addr × List Int)}, (∀ q ∈ L, ∃ c : IC, q.2 = icl c ∧ H q.1 = some (.tup (icv c))) → ∃ t : TC2, L = t.map (fun p => (p.1, icl p.2)) ∧ CSc H t
  | [], _ => ⟨[], rfl, fun p hp => by cases hp⟩
  | q :: L, h => by
    obtain ⟨t, e, ht⟩ := tc_of fun x hx => h x (List.mem_cons_of_mem _ hx)
    obtain ⟨s, e1, e2⟩ := h q List.mem_cons_self
    refine ⟨(q.1, s) :: t, by rw [e, List.map_cons, ← e1], fun p hp => ?_⟩
    rcases List.mem_cons.mp hp with rfl | hp
    · exact e2
    · exact ht p hp
theorem upc_of {t : TC2} (nd : ((t.map fun p => (p.1, icl p.2)).map (·.2)).Nodup) (pw : (t.map fun p : Addr × IC => (p.1, icl p.2)).Pairwise fun q r => q.2 ≤ r.2) : UpC (csc t) := by
  rw [List.map_map] at nd
  have nd : (t.map fun p => icl p.2).Nodup := nd
  have pw := List.pairwise_map.mp pw
  have nd := List.pairwise_map.mp nd
  refine List.pairwise_map.mpr (List.Pairwise.imp₂ (fun a b h1 h2 => ?_) nd pw)
  rcases List.le_iff_lt_or_eq.mp h2 with h | h
  · exact h
  · exact absurd h h1
/-- a sorted list of a set's tuples, told as cells -/
theorem cells_told {H : Hp} {L' : List (Addr × List Int)} {S : List ST} (nd : (L'.map (·.2)).Nodup) (pw : L'.Pairwise fun q r => q.2 ≤ r.2) (tup : ∀ q ∈ L', H q.1 = some (.tup (q.2.map V.int))) (mem : ∀ k, k ∈ L'.map (·.2) ↔ ∃ s ∈ S, icl s.1 = k) :
    ∃ u : TC2, (L'.map fun q => V.ref q.1) = vzc u ∧ CSc H u ∧ CelR S (csc u) := by
  obtain ⟨u, e, c⟩ := tc_of (H := H) (L := L') fun q hq => by
    obtain ⟨s, _, e⟩ := (mem q.2).mp (List.mem_map_of_mem hq)
    exact ⟨s.1, e.symm, by rw [tup q hq, ← e]; rfl⟩
  refine ⟨u, by rw [e, List.map_map]; rfl, c, upc_of (e ▸ nd) (e ▸ pw), fun x => ?_⟩
  have hm := mem (icl x)
  rw [e, List.map_map] at hm
  constructor
  · intro h
    obtain ⟨y, hy, rfl⟩ := List.mem_map.mp h
    obtain ⟨s, hs, e2⟩ := hm.mp (List.mem_map.mpr ⟨y, hy, rfl⟩)
    exact ⟨s, hs, icl_inj e2⟩
  · rintro ⟨s, hs, rfl⟩
    obtain ⟨y, hy, e2⟩ := List.mem_map.mp (hm.mpr ⟨s, hs, rfl⟩)
    rw [← icl_inj e2]
    exact List.mem_map_of_mem hy
def spCel (K : PySem.W.Frag) : Sp := fun vs H Q _ => ∃ (la : Addr) (t : TS), vs = [.ref la] ∧ H la = some (.lst (vzS t)) ∧ CS H t ∧ t.length ≤ 900 ∧
  ∀ (D : Addr) (u : TC2) (H' : Hp), H D = none → Same H H' → H' D = some (.lst (vzc u)) → CSc H' u → CelR (csS t) (csc u) → Q (.ref D) H'
/-- a set of ints' tuples in the making -/
structure IB (P : Program) (w : World) (H : Hp) (D : Addr) (L : List (Addr × List Int)) (Pr : List Int → Prop) : Prop where
  at_ : H D = some (SetQO P w D L)
  nd : (L.map (·.2)).Nodup
  tup : ∀ q ∈ L, H q.1 = some (.tup (q.2.map V.int))
  mem : ∀ k, k ∈ L.map (·.2) ↔ Pr k
section
variable {P : Program} {w : World} {H H' : Hp} {D : Addr} {L L' : List (Addr × List Int)} {Pr Pr' : List Int → Prop}
theorem IB.start {D : Addr} (h : H D = some (SetQO P w D [])) (hp : ∀ k, ¬ Pr k) : IB P w H D [] Pr := ⟨h, List.nodup_nil, (fun q hq => by cases hq), fun k => ⟨(fun z => by cases z), fun z => absurd z (hp k)⟩⟩
theorem IB.congr (S : IB P w H D L Pr) (h : ∀ k, Pr k ↔ Pr' k) : IB P w H D L Pr' := ⟨S.at_, S.nd, S.tup, fun k => (S.mem k).trans (h k)⟩
theorem IB.same (S : IB P w H D L Pr) (s : Same H H') : IB P w H' D L Pr := ⟨s _ _ S.at_, S.nd, fun q hq => s _ _ (S.tup q hq), S.mem⟩
theorem IB.put {b : Addr} {k : List Int} (S : IB P w H D L Pr) (hb : H b = some (.tup (k.map V.int))) (c1 : k ∈ L.map (·.2) → L' = L) (c2 : k ∉ L.map (·.2) → L'.Perm ((b, k) :: L)) :
    IB P w (upd H D (SetQO P w D L')) D L' (fun x => Pr x ∨ x = k) := by
  have ne : ∀ {a : Addr} {xs : List V}, H a = some (.tup xs) → a ≠ D := fun h e => by rw [e, S.at_] at h; cases h
  by_cases h : k ∈ L.map (·.2)
  · rw [c1 h]
    refine ⟨upd_same, S.nd, fun q hq => ?_, fun x => ?_⟩
    · rw [upd_ne (ne (S.tup q hq))]; exact S.tup q hq
    · rw [S.mem]
      exact ⟨.inl, fun z => z.elim id fun z => by rw [z]; exact (S.mem k).mp h⟩
  · have pm := c2 h
    have pm2 := pm.map (·.2)
    refine ⟨upd_same, pm2.nodup_iff.mpr (List.nodup_cons.mpr ⟨h, S.nd⟩), fun q hq => ?_, fun x => ?_⟩
    · rcases List.mem_cons.mp (pm.mem_iff.mp hq) with rfl | hq
      · rw [upd_ne (ne hb)]; exact hb
      · rw [upd_ne (ne (S.tup q hq))]; exact S.tup q hq
    · rw [pm2.mem_iff]
      show x ∈ k :: L.map (·.2) ↔ _
      rw [List.mem_cons, S.mem]
      exact Or.comm
theorem IB.len1 {b : Addr} {k : List Int} (c1 : k ∈ L.map (·.2) → L' = L) (c2 : k ∉ L.map (·.2) → L'.Perm ((b, k) :: L)) : L'.length ≤ L.length + 1 := by
  by_cases h : k ∈ L.map (·.2)
  · rw [c1 h]; omega
  · rw [(c2 h).length_eq, List.length_cons]; omega
end
abbrev sCel : Stmt := top 43
abbrev sPlc : Stmt := top 41
abbrev sLCl : Stmt := top 71
section
variable {P : Program} {w : World} {K : PySem.W.Frag} {mg : Str → Option Value} {base : Heap} {CM CI : Addr}
abbrev nCel : List Str := ["states", "state"]
theorem scCel : FnScope nCel ["states"] (defScope sCel) := ⟨rfl, rfl, rfl, by decide +kernel, rfl, by decide +kernel, by decide +kernel⟩
def celSc : Expr := arg0 (retExpr ((defBody sCel).getD 0 noS))
theorem blkCel : BlkOk nCel (defScope sCel) (scS celSc) [("state", 1)] := blkOk_by (by decide +kernel)
theorem slT_K {X : Cx} {K : PySem.W.Frag} (hK : X.K = K) : SlR X (rSlT K) := by
  subst hK
  exact sl_tup
theorem ok_cel {f : Addr} {fd : FuncData} (F : FnP K "cells_of" "cells_of" sCel f fd) (gsorted : mg "sorted" = none) : FnOk P w K mg base CX0 1 f fd ["states"] (spCel K) := by
  refine F.ok scCel (fun vs H Q E h => ?_) (fun cdv A outer s H vs Q E hr h => ?_)
  · obtain ⟨la, t, rfl, _⟩ := h
    rfl
  · obtain ⟨la, t, rfl, hL, hC, ht9, k⟩ := h
    have nd := scCel.nd
    have hu := hr.units
    have hu3 : _ + 3 < cLine := Nat.lt_of_le_of_lt (Nat.add_le_add_left (show 3 ≤ 64 by decide) _) hu
    refine ⟨_, PSs.nox (pss_one (ps_ret (pe_callB (Bg.cr_sortSet rfl hu) (by rfl) gsorted (by decide +kernel) (pa_cons (Bg.pe_sc1 (own := [("state", 1)]) (g := gName 1) rfl hu3 nd (pi_list (pv 0)) blkCel (fun _ _ _ _ _ => pg_name (i := 1) nd rfl (.inl rfl)) (fun _ _ _ _ _ => pts_nil)
      (fun _ _ _ _ _ => pe_slice (slT_K (K := K) rfl) (pv 1) po_none (po_some pe_int))) pa_nil)))), ?_⟩
    refine ⟨_, rfl, la, rfl, ⟨_, .inl (.inl hL)⟩, fun D hDn => ?_⟩
    have sD := Same.new (Same.refl H) hDn (o := SetQO P w D [])
    refine wlk_itB (walk_list (K := K) (a := la) (xs := vzS t)) (fun j H5 => Same H H5 ∧ ∃ L, IB P w H5 D L (fun k => ∃ r ∈ (csS t).take j, icl r.1 = k) ∧ L.length ≤ j)
      ⟨sD, [], IB.start upd_same (fun k ⟨r, hr, _⟩ => by rw [List.take_zero] at hr; cases hr), Nat.le_refl _⟩ (fun j H5 _ q => .inl (.inl (q.1 _ _ hL))) ?_ ?_
    · rintro j y0 H5 H5' hj ⟨s5, L, S, hl⟩ ⟨rfl, hy0⟩
      obtain ⟨y, hy, rfl, my⟩ := atS hy0
      rw [vzS_len] at hj
      have hyS : (csS t)[j]? = some y.2 := by
        unfold csS
        rw [List.getElem?_map, hy]
        rfl
      have hy5 := s5 _ _ (hC y my)
      refine ⟨rfl, tyes ?_⟩
      refine ⟨_, rfl, noPart ⟨_, rfl, y.1, stv y.2, rfl, .inl (.inl hy5), by show ¬ (HT.sIx 3 0 none = 0 ∧ HT.sIx 3 3 (some 2) = 3); decide, fun q hq => ?_⟩⟩
      have ecut : cutV (stv y.2) none (some 2) = icv y.2.1 := cutV_upto (stv y.2) 2
      rw [ecut]
      have s6 := Same.new (Same.refl H5') hq (o := .tup (icv y.2.1))
      have S6 := S.same s6
      have e6 : (upd H5' q (.tup (icv y.2.1))) q = some (.tup ((icl y.2.1).map V.int)) := upd_same
      generalize upd H5' q (.tup (icv y.2.1)) = H6 at s6 S6 e6 ⊢
      refine ⟨q, icl y.2.1, L, rfl, .inl (.inl e6), S6.at_, fun q hq => .inl (.inl (S6.tup q hq)), by omega, fun L' c1 c2 => ⟨Same.updN (s5.trans s6) hDn, L', (S6.put e6 c1 c2).congr fun k => ?_, Nat.le_trans (IB.len1 c1 c2) (by omega)⟩⟩
      rw [List.take_add_one, hyS]
      constructor
      · rintro (⟨r, hr, h⟩ | rfl)
        · exact ⟨r, List.mem_append_left _ hr, h⟩
        · exact ⟨y.2, List.mem_append_right _ List.mem_cons_self, rfl⟩
      · rintro ⟨r, hr, h⟩
        rcases List.mem_append.mp hr with hr | hr
        · exact .inl ⟨r, hr, h⟩
        · rw [List.mem_singleton.mp hr] at h
          exact .inr h.symm
    · rintro H5 ⟨s5, L, S, hl⟩
      rw [vzS_len, ← csS_len, List.take_length] at S
      refine nilArgs ⟨D, L, rfl, S.at_, fun q hq => .inl (.inl (S.tup q hq)), fun L' p pm nd pw hp => ?_⟩
      obtain ⟨u, eu, cu, ru⟩ := cells_told (H := H5) (S := csS t) nd pw (fun q hq => S.tup q (pm.mem_iff.mp hq)) fun k => by
        rw [(pm.map (·.2)).mem_iff, S.mem]
      rw [eu]
      exact k p u _ (Same.none s5 hp) (s5.trans (Same.new (Same.refl H5) hp)) upd_same (cu.same (Same.new (Same.refl H5) hp)) ru
end
end Om

/-! places; _law_cells -/
namespace Om
open PySem PySem.Spec PyProof.Rows L2 LamX Gk
def spPlc (K : PySem.W.Frag) (CM CI : Addr) : Sp := fun us H Q _ => ∃ (a : Addr) (rows : List (List Nat)) (sg fl : List Nat) (vs : List VI), us = [.ref a] ∧ Mp K CM CI H a rows sg (fl.map nmN) (vs.map VI.ins) ∧ ChF rows sg fl vs ∧
  ∀ (D : Addr) (u : TC2) (S : List ST) (H' : Hp), H D = none → Same H H' → H' D = some (.lst (vzc u)) → CSc H' u → FolR rows vs (begF rows sg fl) S → CelR S (csc u) → Q (.ref D) H'
theorem fol_len {rows : List (List Nat)} {sg fl : List Nat} {vs us : List VI} (ch : ChF rows sg fl vs) {S : List ST} (h : FolR rows us (begF rows sg fl) S) : S.length ≤ 900 :=
  Nat.le_trans (nodup_leB S (allS rows) (FolR.up h ch.begUp).nd (FolR.land ch.vd h ch.begIn)) (allS_len ch.vd)
section
variable {P : Program} {w : World} {K : PySem.W.Frag} {mg : Str → Option Value} {base : Heap} {CM CI : Addr}
theorem scPlc : FnScope ["chart"] ["chart"] (defScope sPlc) := ⟨rfl, rfl, rfl, by decide +kernel, rfl, by decide +kernel, by decide +kernel⟩
theorem ok_plc {f : Addr} {fd : FuncData} (F : FnP K "places" "places" sPlc f fd) (CL : Cal P w K mg base CX0 1 "cells_of" ["states"] (spCel K)) (FI : Cal P w K mg base CX0 9 "final_states" ["chart"] (spFin K CM CI)) : FnOk P w K mg base CX0 10 f fd ["chart"] (spPlc K CM CI) := by
  refine F.ok scPlc (fun vs H Q E h => ?_) (fun cdv A outer s H vs Q E hr h => ?_)
  · obtain ⟨a, rows, sg, fl, vs, rfl, _⟩ := h
    rfl
  · obtain ⟨a, rows, sg, fl, vs, rfl, hM, ch, k⟩ := h
    refine ⟨_, PSs.nox (pss_one (ps_ret (pe_cal CL (hr.mono (by decide)) pass0 (pa_cons (pe_cal FI hr pass0 (pa_cons (pv 0) pa_nil)) pa_nil)))), ?_⟩
    refine ⟨_, rfl, a, rows, sg, fl, vs, rfl, hM, ch.vd, ch.fl4, ch.fp, ch.f4, ch.wf, Nat.le_trans ch.len (by decide), fun c t H1 s1 h1 c1 u1 f1 in1 => ?_⟩
    refine nilArgs ⟨c, t, rfl, h1, c1, by rw [← csS_len]; exact fol_len ch f1, fun D u H2 hD s2 h2 c2 r2 => ?_⟩
    exact k D u (csS t) H2 (Same.none s1 hD) (s1.trans s2) h2 c2 f1 r2
abbrev nLCl : List Str := ["_law_states", "_law_state"]
theorem scLCl : FnScope nLCl ["_law_states"] (defScope sLCl) := ⟨rfl, rfl, rfl, by decide +kernel, rfl, by decide +kernel, by decide +kernel⟩
def lclLc : Expr := arg0 (arg0 (retExpr ((defBody sLCl).getD 0 noS)))
theorem blkLCl : BlkOk nLCl (defScope sLCl) (lcScope lclLc) [("_law_state", 1)] := blkOk_by (by decide +kernel)
theorem ok_lcl {f : Addr} {fd : FuncData} (F : FnP K "_law_cells" "_law_cells" sLCl f fd) (gsorted : mg "sorted" = none) (gset : mg "set" = none) : FnOk P w K mg base CX0 1 f fd ["_law_states"] (spCel K) := by
  refine F.ok scLCl (fun vs H Q E h => ?_) (fun cdv A outer s H vs Q E hr h => ?_)
  · obtain ⟨la, t, rfl, _⟩ := h
    rfl
  · obtain ⟨la, t, rfl, hL, hC, ht9, k⟩ := h
    have nd := scLCl.nd
    have hu := hr.units
    refine ⟨_, PSs.nox (pss_one (ps_ret (pe_callB (Bg.cr_sortSet rfl hu) (by rfl) gsorted (by decide +kernel) (pa_cons (pe_callTy (Bg.cr_setOf rfl hu) (by rfl) gset (by decide +kernel) (pa_cons (pe_lc (own := [("_law_state", 1)]) (g := gName 1) rfl nd (pi_list (pv 0)) blkLCl (fun _ _ _ _ _ => pg_name (i := 1) nd rfl (.inl rfl)) (fun _ _ _ _ _ => pts_nil)
      (fun _ _ _ _ _ => pe_slice (slT_K (K := K) rfl) (pv 1) po_none (po_some pe_int))) pa_nil)) pa_nil)))), ?_⟩
    refine ⟨_, rfl, la, rfl, ⟨_, .inl (.inl hL)⟩, fun D hDn => ?_⟩
    refine lc_list (K := K) (a := la) (xs := vzS t) (fun i H' => Same H H' ∧ ∃ u : TC2, H' D = some (.lst (vzc u)) ∧ CSc H' u ∧ csc u = ((csS t).take i).map (·.1)) ⟨Same.new (Same.refl H) hDn, [], upd_same, (fun p hp => by cases hp), by rw [List.take_zero]; rfl⟩ (fun i H' _ q => .inl (.inl (q.1 _ _ hL))) ?_ ?_
    · rintro i x H5 hx ⟨s5, u, h5, c5, e5⟩
      obtain ⟨y, hy, rfl, my⟩ := atS hx
      have hyS : (csS t)[i]? = some y.2 := by
        unfold csS
        rw [List.getElem?_map, hy]
        rfl
      have hy5 := s5 _ _ (hC y my)
      refine ⟨rfl, tyes ?_⟩
      refine ⟨_, rfl, noPart ⟨_, rfl, y.1, stv y.2, rfl, .inl (.inl hy5), by show ¬ (HT.sIx 3 0 none = 0 ∧ HT.sIx 3 3 (some 2) = 3); decide, fun q hq => ?_⟩⟩
      have ecut : cutV (stv y.2) none (some 2) = icv y.2.1 := cutV_upto (stv y.2) 2
      rw [ecut]
      have s6 := Same.new (Same.refl H5) hq (o := .tup (icv y.2.1))
      have e6 : (upd H5 q (.tup (icv y.2.1))) q = some (.tup (icv y.2.1)) := upd_same
      generalize upd H5 q (.tup (icv y.2.1)) = H6 at s6 e6 ⊢
      have h6 := s6 _ _ h5
      have lu : u.length ≤ 900 := by
        have := congrArg List.length e5
        rw [csc_len, List.length_map, List.length_take, csS_len] at this
        omega
      refine ⟨vzc u, h6, Nat.lt_of_le_of_lt (show _ ≤ 1000 by rw [vzc_len]; omega) (by decide), Same.updN (s5.trans s6) hDn, u ++ [(q, y.2.1)], by rw [upd_same]; unfold vzc; rw [List.map_append]; rfl, fun p hp => ?_, ?_⟩
      · rcases List.mem_append.mp hp with hp | hp
        · have := s6 _ _ (c5 p hp)
          rw [upd_ne (ne_of this h6 fun e => by cases e)]
          exact this
        · rw [List.mem_singleton.mp hp, upd_ne (ne_of e6 h6 fun e => by cases e)]
          exact e6
      · rw [List.take_add_one, hyS, List.map_append, ← e5]
        unfold csc
        rw [List.map_append]
        rfl
    · rintro H5 ⟨s5, u, h5, c5, e5⟩
      rw [vzS_len, ← csS_len, List.take_length] at e5
      have lu : u.length ≤ 900 := by
        have := congrArg List.length e5
        rw [csc_len, List.length_map, csS_len] at this
        omega
      have hvz : vzc u = (u.map fun p => (p.1, icl p.2)).map fun q : Addr × List Int => V.ref q.1 := by
        unfold vzc
        rw [List.map_map]
        rfl
      refine nilArgs ⟨D, u.map fun p => (p.1, icl p.2), rfl, .inl (.inl (by rw [← hvz]; exact h5)), by rw [List.length_map]; omega, fun q hq => ?_, fun a L ha hin hall => ?_⟩
      · obtain ⟨p, hp, rfl⟩ := List.mem_map.mp hq
        exact .inl (.inl (c5 p hp))
      have s6 := Same.new (Same.refl H5) ha (o := SetQO P w a L)
      have tupL : ∀ q ∈ L, (upd H5 a (SetQO P w a L)) q.1 = some (.tup (q.2.map V.int)) := fun q hq => by
        obtain ⟨p, hp, rfl⟩ := List.mem_map.mp (hin q hq)
        exact s6 _ _ (c5 p hp)
      refine ⟨a, L, rfl, upd_same, fun q hq => .inl (.inl (tupL q hq)), fun L' p pm nd2 pw hp => ?_⟩
      obtain ⟨u2, eu, cu, ru⟩ := cells_told (H := upd H5 a (SetQO P w a L)) (S := csS t) nd2 pw (fun q hq => tupL q (pm.mem_iff.mp hq)) fun k => by
        rw [(pm.map (·.2)).mem_iff]
        constructor
        · intro h
          obtain ⟨q, hq, rfl⟩ := List.mem_map.mp h
          obtain ⟨x, hx, rfl⟩ := List.mem_map.mp (hin q hq)
          have : x.2 ∈ csc u := List.mem_map_of_mem hx
          rw [e5] at this
          obtain ⟨s, hs, e⟩ := List.mem_map.mp this
          exact ⟨s, hs, by rw [e]⟩
        · rintro ⟨s, hs, rfl⟩
          have : s.1 ∈ csc u := by rw [e5]; exact List.mem_map_of_mem hs
          obtain ⟨x, hx, e⟩ := List.mem_map.mp this
          have h2 := hall (x.1, icl x.2) (List.mem_map_of_mem (f := fun p : Addr × IC => (p.1, icl p.2)) hx)
          rw [← e]
          exact h2
      rw [eu]
      exact k p u2 _ (Same.none (s5.trans s6) hp) ((s5.trans s6).trans (Same.new (Same.refl _) hp)) upd_same (cu.same (Same.new (Same.refl _) hp)) ru
end
end Om

/-! _law_chart -/
namespace Om
open PySem PySem.Spec PyProof.Rows L2 LamX Gk
def cABK : List Nat := [46, 65, 66, 75]
theorem cABK_tx : Str.ofString ".ABK" = tx cABK := by decide +kernel
theorem cABK_ok : cABK.Pairwise (· < ·) ∧ cABK ≠ [] ∧ cABK.length ≤ 60 ∧ ∀ c ∈ cABK, c < 1000 := by decide
theorem sdps_lay : ∀ l : List ST, PyData.canLayAll0 (l.map sdp) = true
  | [] => by simp [PyData.canLayAll0]
  | s :: l => by
    rw [List.map_cons]
    have h := sdps_lay l
    simp [PyData.canLayAll0, sdp, PyData.canLay0, h]
theorem sdps_dep : ∀ l : List ST, PyData.depthAll (l.map sdp) ≤ 1
  | [] => by simp [PyData.depthAll]
  | s :: l => by
    rw [List.map_cons]
    have h := sdps_dep l
    simp only [PyData.depthAll, sdp, PyData.depth] at h ⊢
    omega
theorem sh_states (l : List ST) : SeqAt.shaped (.list (l.map sdp)) = true := shaped_of (by simp only [PyData.canLay0]; exact sdps_lay l) (by have := sdps_dep l; simp only [PyData.depth]; omega)
def spLCh (K : PySem.W.Frag) (CM CI : Addr) : Sp := fun us H Q _ => ∃ (b l : Addr) (m n : Nat), us = [.ref b, .int (m : Nat), .int (n : Nat)] ∧ Box H b l ∧ 1 ≤ m ∧ m ≤ 12 ∧ n ≤ 20 ∧
  ∀ (a : Addr) (rows : List (List Nat)) (sg fl : List Nat) (vs : List VI) (H' : Hp), RowsOk m rows → Mp K CM CI H' a rows sg (fl.map nmN) (vs.map VI.ins) → ChF rows sg fl vs → vs.length ≤ n → Box H' b l → Kp b l H H' → Q (.ref a) H'
abbrev sLCh : Stmt := top 72
section
variable {P : Program} {w : World} {K : PySem.W.Frag} {mg : Str → Option Value} {base : Heap} {CI C0 CM CB fN fM fA : Addr}
abbrev nLCh : List Str := ["_law_box", "_law_size", "_law_most", "_law_island", "_law_signs_here", "_law_facings", "_law_chart_here", "_law_turn", "_law_instruction_here", "_law_later"]
theorem scLCh : FnScope nLCh ["_law_box", "_law_size", "_law_most"] (defScope sLCh) := ⟨rfl, rfl, rfl, by decide +kernel, rfl, by decide +kernel, by decide +kernel⟩
theorem ok_lch {f : Addr} {fd fI fMd fAd : FuncData} (F : FnP K "_law_chart" "_law_chart" sLCh f fd) (TI : IslF K mg CI fN) (TM : MapF K mg CM fM)
    (GI : FnOk P w K mg base (L2.CX P w) 4 fN fI ["self", "rows"] (spIsl K CI C0)) (bI : Binds K fI ["self", "rows"] []) (GM : FnOk P w K mg base (L2.CX P w) 5 fM fMd nMapI (spMapI K CM CB)) (bM : Binds K fMd nMapI [])
    (mA : OwnM K CM "__add__" fA) (hsf : PySem.W.selfFirst K CM = true) (GA : FnOk P w K mg base (L2.CX P w) 7 fA fAd ["self", "other"] (spAdd K CM CI CB)) (bA : Binds K fAd ["self", "other"] [])
    (TK : Cal P w K mg base CX0 1 "_law_take" ["_law_box", "_law_many"] spTake) (RW : Cal P w K mg base CX0 2 "_law_rows" ["_law_box", "_law_most"] spRows) (SG : Cal P w K mg base CX0 2 "_law_signs" ["_law_box", "_law_known"] spSigns) (TU : Cal P w K mg base CX0 2 "_law_turns" ["_law_box"] spTurns)
    (IN : Cal P w K mg base CX0 3 "_law_instruction" ["_law_box"] (spInstr K)) (LE : Cal P w K mg base CX0 6 "_law_ends" ["_law_chart_here", "_law_left_out"] (spLEn K CM CI)) (grange : mg "range" = none) : FnOk P w K mg base CX0 8 f fd ["_law_box", "_law_size", "_law_most"] (spLCh K CM CI) := by
  refine F.ok scLCh (fun vs H Q E h => ?_) (fun cdv A outer s H vs Q E hr h => ?_)
  · obtain ⟨b, l, m, n, rfl, _⟩ := h
    rfl
  · obtain ⟨b, l, m, n, rfl, B0, hm1, hm2, hn, k⟩ := h
    have nd := scLCh.nd
    have hu := hr.units
    have hr1 : Room 1 _ := hr.mono (by decide)
    have hr2 : Room 2 _ := hr.mono (by decide)
    have hr3 : Room 3 _ := hr.mono (by decide)
    have hr5 : Room 5 _ := hr.mono (by decide)
    have hr6 : Room 6 _ := hr.mono (by decide)
    refine ⟨_, PSs.nox (pss_cons (ps_par3 (i := 3) (j := 4) (l := 5) rfl nd rfl rfl rfl (by decide) (by decide) (by decide) rfl rfl rfl (pa_cons (pe_make TI.made GI hr5 rfl TI.gI bI .nil passE0 (pa_cons (pe_cal RW hr2 pass0 (pa_cons (pv 0) (pa_cons (pv 1) pa_nil))) pa_nil)) (pa_cons (pe_cal SG hr2 pass0 (pa_cons (pv 0) (pa_cons pe_str pa_nil))) (pa_cons (pe_cal TU hr2 pass0 (pa_cons (pv 0) pa_nil)) pa_nil))) (by rfl))
      (pss_cons (ps_set (i := 6) nd rfl (.inl rfl) (pe_make TM.made GM hr6 rfl TM.gM bM .nil passE0 (pa_cons (pv 3) (pa_cons (pv 4) (pa_cons (pv 5) (pa_cons (pe_lst pa_nil) pa_nil))))))
      (pss_cons (ps_for PassesOwn.never rfl (pi_range1 rfl grange (pa_cons (pe_cal TK hr1 pass0 (pa_cons (pv 0) (pa_cons (pe_op op_add (pv 2) pe_int) pa_nil))) pa_nil)) (pg_name (i := 7) nd rfl (.inl rfl))
        (pss_cons (ps_set (i := 8) nd rfl (.inl rfl) (pe_cal IN hr3 pass0 (pa_cons (pv 0) pa_nil)))
        (pss_cons (ps_set (i := 9) nd rfl (.inl rfl) (pe_op (op_addOwn mA hsf GA hr bA passE0) (pv 6) (pe_lst (pa_cons (pv 8) pa_nil))))
        (pss_one (ps_if (PW.pt (pw_or (pt_cmpR op_eq (pe_cal TK hr1 pass0 (pa_cons (pv 0) (pa_cons pe_int pa_nil))) pe_int (nomark _)) (pw_or1 (pt_cmpR (op_neD hu) (pe_cal LE hr6 pass0 (pa_cons (pv 9) (pa_cons (pe_lst pa_nil) pa_nil))) (pe_lst pa_nil) (nomark _)))))
          (pss_one (ps_set (i := 6) nd rfl (.inl rfl) (pv 9))) pss_nil)))))
      (pss_one (ps_ret (pv 6)))))), ?_⟩
    refine ⟨_, rfl, _, rfl, b, l, m, rfl, B0, hm1, hm2, fun p rows H2 ok hp0 hp B2 K2 => nilArgs ?_⟩
    have vd := ok.vd hm2
    have g := vd.toGood2
    intro xi dx hxi hdx hne
    have s2 : Same H2 (upd (upd H2 dx (.own xi)) xi (.ins CI dx [])) := fun c o hc => by
      rw [upd_ne (ne_of_none hc hxi), upd_ne (ne_of_none hc hdx)]
      exact hc
    refine ⟨xi, dx, p, rows, rfl, upd_same, Same.tup s2 (.inl (.inl hp)), Nat.le_trans ok.hm (by omega), (fun r hr => g.toShp.row r hr), fun _ H3 k1 k2 => ⟨rfl, ?_⟩, fun r c e => by rw [chk_rows ok hm2] at e; cases e⟩
    have s3 : Same H2 H3 := fun c o hc => k1 c o (s2 c o hc) (ne_of_none hc hxi)
    have hI3 : Isl K CI H3 xi rows := ⟨dx, p, k2, Same.tup s3 (.inl (.inl hp))⟩
    have B3 := B2.same s3
    refine ⟨_, rfl, b, l, cABK, by rw [← cABK_tx]; rfl, B3, cABK_ok.1, cABK_ok.2.1, cABK_ok.2.2.1, cABK_ok.2.2.2, fun sg H5 hsg hss B5 K5 => ?_⟩
    refine ⟨_, rfl, b, l, rfl, B5, fun fs pf H6 hfs hfl hpf B6 K6 => ⟨_, _, _, rfl, ?_⟩⟩
    obtain ⟨fl, rfl, hf4, hfp, hfl4⟩ := asc_of hfs
    have hI6 := Isl.kpB B5 K6 (Isl.kpB B3 K5 hI3)
    have h126 : 126 ∉ sg := fun z => absurd (hss.subset z) (by decide)
    have hsok : ascS sg lands = true := ascS_of hsg (hss.trans (by decide)) lands_nd
    have ch0 : ChF rows sg fl [] := ⟨vd, hf4, hfp, hfl4, h126, hsok, hfs, (fun v hv => by cases hv), (fun v hv => by cases hv), (fun v hv => by cases hv), (fun v hv => by cases hv), (fun v hv => by cases hv), by show 0 ≤ 20; decide⟩
    have K06 : Kp b l H H6 := K2.trans ((Kp.of s3).trans (K5.trans K6))
    refine ⟨_, rfl, _, rfl, _, rfl, by show 0 ≤ sizeLine; decide, fun L hL => nilArgs ?_⟩
    have sL := Same.new (Same.refl H6) hL (o := .lst [])
    have eL : (upd H6 L (.lst [])) L = some (.lst []) := upd_same
    have B7 := B6.same sL
    have hI7 := hI6.same sL
    have hpf7 := sL _ _ hpf
    have K07 := K06.trans (Kp.of sL)
    generalize upd H6 L (.lst []) = H7 at sL eL B7 hI7 hpf7 K07 ⊢
    intro xm dm hxm hdm hne2
    have s9 : Same H7 (upd (upd H7 dm (.own xm)) xm (.ins CM dm [])) := fun c o hc => by
      rw [upd_ne (ne_of_none hc hxm), upd_ne (ne_of_none hc hdm)]
      exact hc
    refine ⟨xm, dm, xi, pf, L, sg, fl.map nmN, [], rfl, upd_same, .inl (.inl (s9 _ _ hpf7)), by omega, ⟨[], .inl (.inl (.inl (s9 _ _ eL))), .nil⟩, ch0.smi, fun _ lt ys H9 k1 hYm9 hDm9 hm9 => ⟨rfl, ?_⟩, fun n e => by rw [show mapBad sg (fl.map nmN) [] = none from ch0.bad] at e; cases e⟩
    have s79 : Same H7 H9 := fun c o hc => k1 c o (s9 c o hc) (ne_of_none hc hxm)
    have hM9 : Mp K CM CI H9 xm rows sg (fl.map nmN) (([] : List VI).map VI.ins) := ⟨dm, xi, pf, lt, ys, hm9, hI7.same s79, .inl (.inl (s79 _ _ hpf7)), hYm9, hDm9⟩
    have B9 := B7.same s79
    have K09 := K07.trans (Kp.of s79)
    refine ⟨_, rfl, _, rfl, _, _, rfl, rfl, b, l, ((n : Nat) : Int) + 1, rfl, B9, by omega, by omega, fun tn H10 t0 t1 B10 K10 => ?_⟩
    have hM10 := Mp.kpB B9 K10 hM9
    have K010 := K09.trans K10
    refine ⟨_, rfl, by omega, by omega, for_range (lo := 0) (n := tn.toNat) (fun i σ H' => ∃ (x : Addr) (vs : List VI) (v7 v8 v9 : Option V), σ = [some (.ref b), some (.int (m : Nat)), some (.int (n : Nat)), some (.ref xi), some (.str (tx sg)), some (.ref pf), some (.ref x), v7, v8, v9] ∧ Mp K CM CI H' x rows sg (fl.map nmN) (vs.map VI.ins) ∧ ChF rows sg fl vs ∧ vs.length ≤ i ∧ Box H' b l ∧ Kp b l H H')
      ⟨xm, [], _, _, _, rfl, hM10, ch0, Nat.le_refl _, B10, K010⟩ ?_ ?_⟩
    · rintro i σ H11 hi ⟨x, vs, v7, v8, v9, rfl, hM11, ch, hvl, B11, K11⟩
      have hi20 : vs.length + 1 ≤ 20 := by omega
      refine ⟨_, rfl, b, l, rfl, B11, fun ins v H12 i1 i2 i3 i4 B12 K12 => ?_⟩
      obtain ⟨vi, rfl, hw, hwl⟩ := vi_of2 i1
      have ch2 := ch.snoc hw hwl i1 i2 i3 hi20
      have hM12 := Mp.kpB B11 K12 hM11
      obtain ⟨dm5, li5, lf5, lt5, ys5, hm12, _⟩ := id hM12
      refine ⟨_, rfl, _, rfl, by show 1 ≤ sizeLine; decide, fun L2 hL2 => ?_⟩
      have sL2 := Same.new (Same.refl H12) hL2 (o := .lst [v])
      have eL2 : (upd H12 L2 (.lst [v])) L2 = some (.lst [v]) := upd_same
      generalize upd H12 L2 (.lst [v]) = H13 at sL2 eL2 ⊢
      have eM : (vs ++ [vi]).map VI.ins = vs.map VI.ins ++ [vi.ins] := by rw [List.map_append]; rfl
      have hb2 : mapBad sg (fl.map nmN) (vs.map VI.ins ++ [vi.ins]) = none := by rw [← eM]; exact ch2.bad
      refine ⟨x, dm5, _, L2, _, rfl, sL2 _ _ hm12, rfl, .inl (.inl eL2), x, L2, rows, sg, fl.map nmN, vs.map VI.ins, [vi.ins], rfl, hM12.same sL2, by rw [List.length_map]; omega, ⟨[v], .inl (.inl (.inl eL2)), .cons (Same.dp sL2 i4) .nil⟩, by rw [← eM]; exact ch2.smi, fun _ xn H14 s14 hxn hM14 => ⟨xn, rfl, ?_⟩, fun n e => by rw [hb2] at e; cases e⟩
      rw [← eM] at hM14
      have s1214 := sL2.trans s14
      have B14 := B12.same s1214
      have K14 := K11.trans (K12.trans (Kp.of s1214))
      have hMx14 := hM12.same s1214
      refine ⟨_, rfl, b, l, 5, rfl, B14, by decide, by decide, fun t5 H15 a0 a1 B15 K15 => ⟨rfl, _, rfl, ?_⟩⟩
      have hM15 := Mp.kpB B14 K15 hM14
      have hMx15 := Mp.kpB B14 K15 hMx14
      have K015 := K14.trans K15
      by_cases h5 : t5 = 0
      · exact iteT' (by rw [h5]; rfl) ⟨_, rfl, xn, vs ++ [vi], _, _, _, rfl, hM15, ch2, by rw [List.length_append, List.length_singleton]; omega, B15, K015⟩
      · refine iteF' (decide_eq_false fun e => h5 (V.int.inj e)) ?_
        refine ⟨_, rfl, by show 0 ≤ sizeLine; decide, fun L3 hL3 => ?_⟩
        have sL3 := Same.new (Same.refl H15) hL3 (o := .lst [])
        have eL3 : (upd H15 L3 (.lst [])) L3 = some (.lst []) := upd_same
        generalize upd H15 L3 (.lst []) = H16 at sL3 eL3 ⊢
        refine ⟨xn, L3, rows, sg, fl, vs ++ [vi], [], rfl, hM15.same sL3, ch2, .inl (.inl eL3), fun D t H17 hD17 s17 h17 c17 f17 => ?_⟩
        refine ⟨by show 0 ≤ sizeLine; decide, fun L4 hL4 => ?_⟩
        have s18 := Same.new (Same.refl H17) hL4 (o := .lst [])
        have s1518 := sL3.trans (s17.trans s18)
        refine ⟨_, _, states_dp (s18 _ _ h17) (c17.same s18), .lst (.inl (.inl upd_same)) .nil, sh_states _, sh_lnil, _, rfl, ?_⟩
        have done1 := hM15.same s1518
        have done2 := hMx15.same s1518
        have B18 := B15.same s1518
        have K18 := K015.trans (Kp.of s1518)
        cases hq : PyData.eqv (.list ((csS t).map sdp)) (.list []) with
        | true => exact iteF' rfl ⟨x, vs, _, _, _, rfl, done2, ch, by omega, B18, K18⟩
        | false => exact iteT' rfl ⟨_, rfl, xn, vs ++ [vi], _, _, _, rfl, done1, ch2, by rw [List.length_append, List.length_singleton]; omega, B18, K18⟩
    · rintro σ H11 ⟨x, vs, v7, v8, v9, rfl, hM11, ch, hvl, B11, K11⟩
      exact ⟨_, rfl, k x rows sg fl vs H11 ok hM11 ch (by omega) B11 K11⟩
end
end Om

/-! impossible_at -/
namespace Om
open PySem PySem.Spec PyProof.Rows L2 LamX Gk
/-- the layers of states: what the first so many instructions lead to -/
theorem fol_take {rows : List (List Nat)} : ∀ {vs : List VI} {Ls : List (List ST)} {S : List ST}, Ls[0]? = some S → Ls.length = vs.length + 1 → Ch rows vs Ls vs.length → ∀ j T, Ls[j]? = some T → FolR rows (vs.take j) S T
  | [], Ls, S, h0, hl, hc, j, T, hT => by
    have hj : j = 0 := by
      have := (List.getElem?_eq_some_iff.mp hT).1
      simp only [List.length_nil] at hl
      omega
    rw [hj, h0] at hT
    rw [List.take_nil]
    exact (Option.some.inj hT).symm
  | v :: vs, [], S, h0, _, _, _, _, _ => by cases h0
  | v :: vs, [x], S, _, hl, _, _, _, _ => by
    simp only [List.length_cons, List.length_nil] at hl
    omega
  | v :: vs, x :: y :: Ls, S, h0, hl, hc, 0, T, hT => by
    rw [h0] at hT
    rw [List.take_zero]
    exact (Option.some.inj hT).symm
  | v :: vs, x :: y :: Ls, S, h0, hl, hc, j + 1, T, hT => by
    have h0 : some x = some S := h0
    obtain rfl := Option.some.inj h0
    rw [List.take_succ_cons]
    refine ⟨y, hc 0 (by rw [List.length_cons]; omega) v x y rfl rfl rfl, fol_take (Ls := y :: Ls) rfl (by simp only [List.length_cons] at hl ⊢; omega) (fun i hi v' A A' hv hA hA' => ?_) j T hT⟩
    exact hc (i + 1) (by rw [List.length_cons]; omega) v' A A' hv hA hA'
/-- the least number of instructions behind which no state is left -/
def ImpR (rows : List (List Nat)) (vs : List VI) (B : List ST) : Option Nat → Prop
  | some j => j ≤ vs.length ∧ FolR rows (vs.take j) B [] ∧ ∀ i, i < j → ∀ S, FolR rows (vs.take i) B S → S ≠ []
  | none => ∀ i, i ≤ vs.length → ∀ S, FolR rows (vs.take i) B S → S ≠ []
def onV : Option Nat → V
  | some j => .int ((j : Nat) : Int)
  | none => .non
theorem ImpR.uniq {rows : List (List Nat)} {vs : List VI} {B : List ST} : ∀ {o q : Option Nat}, ImpR rows vs B o → ImpR rows vs B q → o = q
  | none, none, _, _ => rfl
  | none, some j, h1, h2 => absurd rfl (h1 j h2.1 [] h2.2.1)
  | some j, none, h1, h2 => absurd rfl (h2 j h1.1 [] h1.2.1)
  | some i, some j, h1, h2 => by
    rcases Nat.lt_trichotomy i j with h | h | h
    · exact absurd rfl (h2.2.2 i h [] h1.2.1)
    · rw [h]
    · exact absurd rfl (h1.2.2 j h [] h2.2.1)
def spImp (K : PySem.W.Frag) (CM CI : Addr) : Sp := fun us H Q _ => ∃ (a : Addr) (rows : List (List Nat)) (sg fl : List Nat) (vs : List VI), us = [.ref a] ∧ Mp K CM CI H a rows sg (fl.map nmN) (vs.map VI.ins) ∧ ChF rows sg fl vs ∧
  ∀ (o : Option Nat) (H' : Hp), Same H H' → ImpR rows vs (begF rows sg fl) o → Q (onV o) H'
abbrev sImp : Stmt := top 42
section
variable {P : Program} {w : World} {K : PySem.W.Frag} {mg : Str → Option Value} {base : Heap} {CM CI CT fM fN fT : Addr}
abbrev nImp : List Str := ["chart", "number", "states"]
theorem scImp : FnScope nImp ["chart"] (defScope sImp) := ⟨rfl, rfl, rfl, by decide +kernel, rfl, by decide +kernel, by decide +kernel⟩
theorem ok_imp {f pI pN pR gI gN gR gE : Addr} {fd dI dN dR dE dT : FuncData} (F : FnP K "impossible_at" "impossible_at" sImp f fd) (TM : MapF K mg CM fM) (TI : IslF K mg CI fN) (T : StpF K mg CT fT)
    (qI : PropOf K CM "island" pI gI) (GI : FnOk P w K mg base CX0 1 gI dI ["self"] (getSp CM "_island")) (bI : Binds K dI ["self"] [])
    (qN : PropOf K CM "instructions" pN gN) (GN : FnOk P w K mg base CX0 1 gN dN ["self"] (getSp CM "_instructions")) (bN : Binds K dN ["self"] [])
    (qR : PropOf K CI "rows" pR gR) (GR : FnOk P w K mg base CX0 1 gR dR ["self"] (spIRows K CI)) (bR : Binds K dR ["self"] [])
    (GT : FnOk P w K mg base CX0 1 fT dT ["self", "rows"] (spStpI P w CT)) (bT : Binds K dT ["self", "rows"] [])
    (mE : Meth K CT "layers" gE) (GE : FnOk P w K mg base CX0 7 gE dE ["self", "instructions", "states"] (spLay K P w CT)) (bE : Binds K dE ["self", "instructions", "states"] [])
    (BG : Cal P w K mg base CX0 5 "begin_states" ["chart"] (spBeg K CM CI)) (genum : mg "enumerate" = none) (glen : mg "len" = none) : FnOk P w K mg base CX0 8 f fd ["chart"] (spImp K CM CI) := by
  refine F.ok scImp (fun vs H Q E h => ?_) (fun cdv A outer s H vs Q E hr h => ?_)
  · obtain ⟨a, rows, sg, fl, vs, rfl, _⟩ := h
    rfl
  · obtain ⟨a, rows, sg, fl, vs, rfl, hM, ch, k⟩ := h
    obtain ⟨dx, li, lf, lt, xs, ha, hI, hF, hT, hD⟩ := id hM
    obtain ⟨dxi, pr, hli, hrows⟩ := id hI
    have nd := scImp.nd
    have vd := ch.vd
    have hr2 : Room 2 _ := hr.mono (by decide)
    have hr5 : Room 5 _ := hr.mono (by decide)
    refine ⟨_, PSs.nox (pss_cons (ps_for PassesOwn.never rfl (pi_enum (by rfl) genum (pa_cons (pe_meth (pe_make T.made GT hr2 rfl T.gT bT .nil pass0 (pa_cons (pe_prop (pe_prop (pv 0) TM.cl qI GI hr2 bI .nil pass0 rfl) TI.cl qR GR hr2 bR .nil pass0 rfl) pa_nil)) T.cl mE GE hr bE .nil pass0
        (pa_cons (pe_prop (pv 0) TM.cl qN GN hr2 bN .nil pass0 rfl) (pa_cons (pe_cal BG hr5 pass0 (pa_cons (pv 0) pa_nil)) pa_nil))) pa_nil)) (pg_tup rfl (pgs_cons (pg_name (i := 1) nd rfl (.inl rfl)) (pgs_cons (pg_name (i := 2) nd rfl (.inl rfl)) pgs_nil)))
        (pss_one (ps_if (pt_cmpR op_eq (pe_callB call_len_seq (by rfl) glen PySem.boot_len (pa_cons (pv 2) pa_nil)) pe_int (nomark _)) (pss_one (ps_ret (pv 1))) pss_nil)))
      (pss_one (ps_ret pe_non))), ?_⟩
    refine ⟨_, rfl, a, dx, _, rfl, ha, a, dx, _, _, rfl, ha, mapFs_i .., li, dxi, _, rfl, hli, li, dxi, pr, rfl, hli, fun x dx2 hx hdx hne => ?_⟩
    refine ⟨x, dx2, pr, rfl, upd_same, fun d H2 hd e2 h2 h3 => ⟨rfl, ?_⟩⟩
    have s2 : Same H H2 := fun b o hb => e2 b o (by rw [upd_ne (ne_of_none hb hx), upd_ne (ne_of_none hb hdx)]; exact hb) (ne_of_none hb hx)
    have hdH : H d = none := by
      cases e : H d with
      | none => rfl
      | some o =>
        rw [upd_ne (ne_of_none e hx), upd_ne (ne_of_none e hdx), e] at hd
        cases hd
    have ha2 := s2 _ _ ha
    refine ⟨x, dx2, _, rfl, h2, stpFs_no _ _ (by decide +kernel) (by decide +kernel), ?_⟩
    refine ⟨_, rfl, a, dx, _, rfl, ha2, a, dx, _, .ref lt, rfl, ha2, mapFs_t .., ?_⟩
    refine ⟨_, rfl, a, rows, sg, fl, vs.map VI.ins, rfl, hM.same s2, vd, ch.fl4, fun D t H3 s3 hD3 hC3 ht3 => ?_⟩
    have s23 := s2.trans s3
    have hin : ∀ s ∈ csS t, s ∈ allS rows := by rw [ht3]; exact ch.begIn
    have hup : UpS (csS t) := by rw [ht3]; exact ch.begUp
    have hst : Stp K P w CT H3 x d 0 rows (fun _ => False) := ⟨dx2, pr, [], s3 _ _ h2, Same.tup s23 hrows, s3 _ _ h3, (fun z hz => by cases hz), Nat.le_refl _, fun z hz => by cases hz⟩
    have hDv : DpAll K H3 xs (vs.map fun v => v.ins.d) := by
      have := Same.dpAll s23 hD
      rw [List.map_map] at this
      exact this
    have hl20 := ch.len
    refine ⟨x, lt, D, d, 0, rows, vs, xs, t, allS rows, rfl, hst, vd.toGood2, Same.tup s23 hT, hDv, ch.wf, hD3, hC3, hup, allS_len vd, (fun s hs => ((allS_mem vd.toGood2 s).mp hs).2), (fun v _ s hs y hy => (allS_mem vd.toGood2 y).mpr (led_land rows v s y ((allS_mem vd.toGood2 s).mp hs) hy)), hin, by omega, by omega, fun Fa Ly H4 e4 _ _ hF4 ly4 hl4 h04 ch4 in4 => ?_⟩
    have s4 : Same H H4 := fun b o hb => e4 b o (s23 b o hb) (ne_of_none hb hdH)
    have lS : (lyS Ly).length = vs.length + 1 := by
      unfold lyS
      rw [List.length_map, hl4]
    rw [ht3] at h04
    have each := fol_take h04 lS ch4
    have lV : (lyV Ly).length = vs.length + 1 := by
      unfold lyV
      rw [List.length_map, hl4]
    refine nilArgs ⟨Fa, _, rfl, .inl (.inl hF4), ?_⟩
    refine for_it (walk_enum (K := K) (a := Fa) (xs := lyV Ly)) (fun i σ H' => Same H4 H' ∧ (∃ v1 v2, σ = [some (.ref a), v1, v2]) ∧ ∀ j, j < i → ∀ S, FolR rows (vs.take j) (begF rows sg fl) S → S ≠ [])
      ⟨Same.refl H4, ⟨_, _, rfl⟩, fun j hj => absurd hj (Nat.not_lt_zero _)⟩ (fun i σ H' _ q => .inl (.inl (q.1 _ _ hF4))) ?_ ?_
    · rintro i y σ H5 H5' hi ⟨s5, ⟨v1, v2, rfl⟩, hno⟩ ⟨Tp, y1, y2, rfl, hTp, rfl, hy1, hy2⟩
      obtain rfl := Option.some.inj hy1
      obtain ⟨q, hq, rfl⟩ : ∃ q, Ly[i]? = some q ∧ V.ref q.1 = y2 := by
        have hy2 : (Ly.map fun q => V.ref q.1)[i]? = some y2 := hy2
        rw [List.getElem?_map] at hy2
        obtain ⟨q, hq, e⟩ := Option.map_eq_some_iff.mp hy2
        exact ⟨q, hq, e⟩
      obtain ⟨_, q2, _, _⟩ := ly4 q (List.mem_of_getElem? hq)
      have hS : (lyS Ly)[i]? = some (csS q.2) := by
        unfold lyS
        rw [List.getElem?_map, hq]
        rfl
      have hf := each i _ hS
      have s6 := s5.trans (Same.new (Same.refl H5) hTp (o := .tup [.int ((i : Nat) : Int), .ref q.1]))
      have e6 : (upd H5 Tp (.tup [.int ((i : Nat) : Int), .ref q.1])) Tp = some (.tup [.int ((i : Nat) : Int), .ref q.1]) := upd_same
      generalize upd H5 Tp (.tup [.int ((i : Nat) : Int), .ref q.1]) = H6 at s6 e6 ⊢
      refine ⟨Tp, _, rfl, .inl (.inl e6), rfl, _, _, rfl, _, _, rfl, rfl, ?_⟩
      have q6 := s6 _ _ q2
      have il : i < vs.length + 1 := by omega
      refine ⟨_, rfl, q.1, _, rfl, .inl (.inl (.inl q6)), rfl, _, rfl, ?_⟩
      by_cases h0 : csS q.2 = []
      · have hv0 : (vzS q.2).length = 0 := by rw [vzS_len, ← csS_len, h0]; rfl
        refine iteT' (by rw [hv0]; rfl) ⟨_, rfl, ?_⟩
        rw [h0] at hf
        exact k (some i) H6 (s4.trans s6) ⟨by omega, hf, hno⟩
      · have hv0 : (vzS q.2).length ≠ 0 := by
          rw [vzS_len, ← csS_len]
          exact fun z => h0 (List.length_eq_zero_iff.mp z)
        refine iteF' (decide_eq_false fun z => hv0 (by have := V.int.inj z; omega)) ⟨s6, ⟨_, _, rfl⟩, fun j hj S hS2 => ?_⟩
        rcases Nat.lt_succ_iff_lt_or_eq.mp hj with hj | hj
        · exact hno j hj S hS2
        · rw [hj] at hS2
          rw [FolR.uniq hS2 hf]
          exact h0
    · rintro σ H5 ⟨s5, ⟨v1, v2, rfl⟩, hno⟩
      rw [lV] at hno
      exact k none H5 (s4.trans s5) fun i hi S hS => hno i (by omega) S hS
end
end Om

/-! the law -/
namespace Om
open PySem PySem.Spec PyProof.Rows L2 LamX Gk
def cdpI (c : IC) : PyData := .tuple [.int c.1, .int c.2]
theorem cell_dpI {K : PySem.W.Frag} {H : Hp} {a : Addr} {c : IC} (h : H a = some (.tup (icv c))) : Dp K H (.ref a) (cdpI c) := .tup (.inl (.inl h)) (.cons (.int _) (.cons (.int _) .nil))
theorem cells_dpAll {K : PySem.W.Frag} {H : Hp} : ∀ {t : TC2}, CSc H t → DpAll K H (vzc t) ((csc t).map cdpI)
  | [], _ => .nil
  | p :: t, h => .cons (cell_dpI (h p List.mem_cons_self)) (cells_dpAll fun q hq => h q (List.mem_cons_of_mem _ hq))
theorem cells_dpI {K : PySem.W.Frag} {H : Hp} {D : Addr} {t : TC2} (h : H D = some (.lst (vzc t))) (c : CSc H t) : Dp K H (.ref D) (.list ((csc t).map cdpI)) := .lst (.inl (.inl h)) (cells_dpAll c)
theorem okD_cells {l : List IC} (h : l.length ≤ 10000) : okD 4 (.list (l.map cdpI)) = true := by
  show (decide (_ ≤ 10000) && List.all _ (okD 3)) = true
  rw [Bool.and_eq_true, decide_eq_true_eq, List.length_map, List.all_map, List.all_eq_true]
  exact ⟨h, fun s _ => rfl⟩
theorem cel_len {S : List ST} {C : List IC} (h : CelR S C) : C.length ≤ S.length := by
  have nd : C.Nodup := h.1.imp fun {a b} q e => by rw [e] at q; exact List.lt_irrefl _ q
  have := nodup_leB C (S.map (·.1)) nd fun c hc => by
    obtain ⟨s, hs, e⟩ := (h.2 c).mp hc
    rw [← e]
    exact List.mem_map_of_mem hs
  rwa [List.length_map] at this
def onD : Option Nat → PyData
  | some j => .int ((j : Nat) : Int)
  | none => .none
theorem on_dp {K : PySem.W.Frag} {H : Hp} : ∀ o : Option Nat, Dp K H (onV o) (onD o)
  | some _ => .int _
  | none => .non
theorem okD_on (o : Option Nat) : okD 5 (onD o) = true := by cases o <;> rfl
def spLaw (K : PySem.W.Frag) : Sp := fun vs H Q _ => ∃ (a : Addr) (ns : List Int), vs = [.ref a] ∧ SqL K H a (ns.map V.int) ∧ ns.length ≤ 63 ∧ ∀ H', Q (.bl true) H'
/-- what is due when the first i numbers are done -/
def DueI (rows : List (List Nat)) (vs : List VI) (B : List ST) (i : Nat) : Option Nat → Prop
  | some j => j < i ∧ FolR rows (vs.take j) B [] ∧ ∀ k, k < j → ∀ S, FolR rows (vs.take k) B S → S ≠ []
  | none => ∀ k, k < i → ∀ S, FolR rows (vs.take k) B S → S ≠ []
theorem DueI.imp {rows : List (List Nat)} {vs : List VI} {B : List ST} {i : Nat} (hi : i ≤ vs.length) : ∀ {o : Option Nat}, DueI rows vs B (i + 1) o → ImpR rows (vs.take i) B o
  | some j, ⟨h1, h2, h3⟩ => by
    refine ⟨by rw [List.length_take]; omega, ?_, fun k hk S hS => h3 k hk S ?_⟩
    · rw [List.take_take, Nat.min_eq_left (by omega)]; exact h2
    · rw [List.take_take, Nat.min_eq_left (by omega)] at hS; exact hS
  | none, h => fun k hk S hS => by
    rw [List.length_take] at hk
    rw [List.take_take, Nat.min_eq_left (by omega)] at hS
    exact h k (by omega) S hS
structure LP (P : Program) (w : World) (K : PySem.W.Frag) (mg : Str → Option Value) (base : Heap) (CI CM fN fM pI gI pR gR gL gG gU : Addr) : Prop where
  beg : Cal P w K mg base CX0 1 "_law_begun" ["_law_script"] (spBegun K)
  lch : Cal P w K mg base CX0 8 "_law_chart" ["_law_box", "_law_size", "_law_most"] (spLCh K CM CI)
  alk : Cal P w K mg base CX0 6 "_law_alike" ["_law_found", "_law_due"] (spAlike K 5)
  lbe : Cal P w K mg base CX0 3 "_law_begins" ["_law_chart_here"] (spLBe K CM CI)
  lbh : Cal P w K mg base CX0 5 "_law_behind" ["_law_rows_here", "_law_states", "_law_instruction_here"] (spLBh K)
  lcl : Cal P w K mg base CX0 1 "_law_cells" ["_law_states"] (spCel K)
  fst : Cal P w K mg base CX0 9 "final_states" ["chart"] (spFin K CM CI)
  plc : Cal P w K mg base CX0 10 "places" ["chart"] (spPlc K CM CI)
  imp : Cal P w K mg base CX0 8 "impossible_at" ["chart"] (spImp K CM CI)
  isl : IslF K mg CI fN
  map : MapF K mg CM fM
  qI : PropOf K CM "island" pI gI
  GI : CalM P w K mg base CX0 1 gI ["self"] (getSp CM "_island")
  qR : PropOf K CI "rows" pR gR
  GR : CalM P w K mg base CX0 1 gR ["self"] (spIRows K CI)
  mL : OwnM K CM "__len__" gL
  GL : CalM P w K mg base CX0 1 gL ["self"] (spMLen K CM CI)
  mG : OwnM K CM "__getitem__" gG
  GG : CalM P w K mg base CX0 1 gG ["self", "index"] (spMGet K CM CI)
  mU : Meth K CM "until" gU
  GU : CalM P w K mg base (L2.CX P w) 8 gU ["self", "number"] (spUpto K CM CI)
abbrev sLaw : Stmt := top 73
abbrev nLaw : List Str := ["_law_script", "_law_box", "_law_chart_here", "_law_states", "_law_due", "_law_number", "_law_part"]
theorem scLaw : FnScope nLaw ["_law_script"] (defScope sLaw) := ⟨rfl, rfl, rfl, by decide +kernel, rfl, by decide +kernel, by decide +kernel⟩
section
variable {P : Program} {w : World} {K : PySem.W.Frag} {mg : Str → Option Value} {base : Heap} {CI CM fN fM pI gI pR gR gL gG gU : Addr}
def lb : List Stmt := forB ((defBody sLaw).getD 3 noS)
abbrev sT5 (a b x D : Addr) (o : Option Nat) (i : Nat) (v6 : Option V) : L2.St := [some (.ref a), some (.ref b), some (.ref x), some (.ref D), some (onV o), some (.int ((i : Nat) : Int)), v6]
theorem law_ta {f : Addr} {cdv : Value} (PP : LP P w K mg base CI CM fN fM pI gI pR gR gL gG gU) {A : Around} {outer : List Env} {s : Shared} {H0 : Hp} {E : XK} (hr : Room 10 (A.deeper (envOfC "law" (defScope sLaw) s.heap.objs.size f cdv))) :
    ∃ t, PSs (cxOf CX0 P w K mg base nLaw "law" (defScope sLaw) f cdv A outer s H0 E).nox (lb.drop 2) t ∧
      ∀ (Dn : Ends) (a b x D : Addr) (o : Option Nat) (i : Nat) (v6 : Option V) (rows : List (List Nat)) (sg fl : List Nat) (vs : List VI) (t5 : TS) (H : Hp), Mp K CM CI H x rows sg (fl.map nmN) (vs.map VI.ins) → ChF rows sg fl vs → i ≤ vs.length →
        H D = some (.lst (vzS t5)) → CS H t5 → FolR rows (vs.take i) (begF rows sg fl) (csS t5) → DueI rows vs (begF rows sg fl) (i + 1) o → (∀ H' v6, Same H H' → Dn.nx (sT5 a b x D o i v6) H') → t Dn (sT5 a b x D o i v6) H := by
  obtain ⟨dU, GU, bU⟩ := PP.GU.ex
  have TM := PP.map
  have nd := scLaw.nd
  have hr1 : Room 1 _ := hr.mono (by decide)
  have hr6 : Room 6 _ := hr.mono (by decide)
  have hr8 : Room 8 _ := hr.mono (by decide)
  have hr9 : Room 9 _ := hr.mono (by decide)
  refine ⟨_, pss_cons (ps_set (i := 6) nd rfl (.inl rfl) (pe_meth (pv 2) TM.cl PP.mU GU hr8 bU .nil passE0 (pa_cons (pv 5) pa_nil)))
        (pss_cons (ps_if (pt_not (pt_val (pe_cal PP.alk hr6 pass0 (pa_cons (pe_lst (pa_cons (pe_cal PP.fst hr9 pass0 (pa_cons (pv 6) pa_nil)) (pa_cons (pe_cal PP.plc hr pass0 (pa_cons (pv 6) pa_nil)) pa_nil))) (pa_cons (pe_lst (pa_cons (pv 3) (pa_cons (pe_cal PP.lcl hr1 pass0 (pa_cons (pv 3) pa_nil)) pa_nil))) pa_nil))))) (pss_one (ps_ret pe_bl)) pss_nil)
        (pss_one (ps_if (pt_not (pt_val (pe_cal PP.alk hr6 pass0 (pa_cons (pe_cal PP.imp hr8 pass0 (pa_cons (pv 6) pa_nil)) (pa_cons (pv 4) pa_nil))))) (pss_one (ps_ret pe_bl)) pss_nil))), ?_⟩
  intro Dn a b x D o i v6 rows sg fl vs t5 H hM ch hi h5 c5 f5 du kn
  have vd := ch.vd
  obtain ⟨dx, li, lf, lt, xs, ha, _⟩ := id hM
  refine ⟨_, rfl, x, dx, _, rfl, ha, mapFs_no _ _ _ _ (by decide +kernel) (by decide +kernel) (by decide +kernel) (by decide +kernel), _, rfl, ?_⟩
  refine ⟨x, _, rows, sg, fl.map nmN, _, rfl, hM, by have := ch.fl4; rw [List.length_map]; omega, ch.smi, ch.bad, fun xp H6 s6 hxp hMp => ?_⟩
  have hMp : Mp K CM CI H6 xp rows sg (fl.map nmN) ((vs.take i).map VI.ins) := by
    have e : (vs.map VI.ins).take ((i : Nat) : Int).toNat = (vs.take i).map VI.ins := by rw [Int.toNat_natCast, List.map_take]
    rw [e] at hMp
    exact hMp
  have chP : ChF rows sg fl (vs.take i) := ch.sub (fun v hv => List.mem_of_mem_take hv) (Nat.le_trans (List.length_take_le ..) (by have := ch.len; omega))
  refine ⟨_, rfl, xp, rows, sg, fl, vs.take i, rfl, hMp, vd, ch.fl4, ch.fp, ch.f4, chP.wf, Nat.le_trans chP.len (by decide), fun D7 t7 H7 s7 h7 c7 u7 f7 in7 => ?_⟩
  refine ⟨_, rfl, xp, rows, sg, fl, vs.take i, rfl, hMp.same s7, chP, fun D8 u8 S8 H8 hD8 s8 h8 c8 f8 r8 => ⟨by show 2 ≤ sizeLine; decide, fun La hLa => ?_⟩⟩
  have e7 : csS t7 = csS t5 := FolR.uniq f7 f5
  have e8 : S8 = csS t5 := FolR.uniq f8 f5
  subst e8
  have s9 := Same.new (Same.refl H8) hLa (o := .lst [.ref D7, .ref D8])
  have hA9 : (upd H8 La (.lst [.ref D7, .ref D8])) La = some (.lst [.ref D7, .ref D8]) := upd_same
  generalize upd H8 La (.lst [.ref D7, .ref D8]) = H9 at s9 hA9 ⊢
  have s79 := s8.trans s9
  have s09 := s6.trans (s7.trans s79)
  have l5 : t5.length ≤ 900 := by rw [← csS_len]; exact fol_len ch f5
  refine ⟨_, rfl, _, rfl, D, t5, rfl, s09 _ _ h5, c5.same s09, l5, fun D10 u10 H10 hD10 s10 h10 c10 r10 => ⟨by show 2 ≤ sizeLine; decide, fun Lb hLb => ?_⟩⟩
  have s11 := Same.new (Same.refl H10) hLb (o := .lst [.ref D, .ref D10])
  have hB11 : (upd H10 Lb (.lst [.ref D, .ref D10])) Lb = some (.lst [.ref D, .ref D10]) := upd_same
  generalize upd H10 Lb (.lst [.ref D, .ref D10]) = H11 at s11 hB11 ⊢
  have s911 := s10.trans s11
  have ec : csc u8 = csc u10 := r8.uniq r10
  have lc : (csc u8).length ≤ 10000 := Nat.le_trans (cel_len r8) (by rw [csS_len]; omega)
  refine ⟨.ref La, .ref Lb, .list [.list ((csS t5).map sdp), .list ((csc u8).map cdpI)], rfl,
    .lst (.inl (.inl (s911 _ _ hA9))) (.cons (by rw [← e7]; exact states_dp ((s79.trans s911) _ _ h7) (c7.same (s79.trans s911))) (.cons (cells_dpI ((s9.trans s911) _ _ h8) (c8.same (s9.trans s911))) .nil)),
    .lst (.inl (.inl hB11)) (.cons (states_dp ((s09.trans s911) _ _ h5) (c5.same (s09.trans s911))) (.cons (by rw [ec]; exact cells_dpI (s11 _ _ h10) (c10.same s11)) .nil)), ?_, true, rfl, iteF' rfl ?_⟩
  · show (decide (_ ≤ 10000) && List.all _ (okD 4)) = true
    rw [List.all_cons, List.all_cons, okD_states (by rw [csS_len]; omega), okD_cells lc]
    rfl
  have s611 := s7.trans (s79.trans s911)
  have s011 := s6.trans s611
  refine ⟨_, rfl, xp, rows, sg, fl, vs.take i, rfl, hMp.same s611, chP, fun o9 H12 s12 r12 => ⟨_, rfl, ?_⟩⟩
  have eo : o9 = o := r12.uniq (du.imp hi)
  subst eo
  exact ⟨onV o9, onV o9, onD o9, rfl, on_dp o9, on_dp o9, okD_on o9, true, rfl, iteF' rfl (kn H12 _ (s011.trans s12))⟩
theorem law_tb {f : Addr} {cdv : Value} (PP : LP P w K mg base CI CM fN fM pI gI pR gR gL gG gU) {A : Around} {outer : List Env} {s : Shared} {H0 : Hp} {E : XK} (hr : Room 10 (A.deeper (envOfC "law" (defScope sLaw) s.heap.objs.size f cdv))) :
    ∃ t, PSs (cxOf CX0 P w K mg base nLaw "law" (defScope sLaw) f cdv A outer s H0 E).nox (lb.drop 1) t ∧
      ∀ (Dn : Ends) (a b x D : Addr) (o : Option Nat) (i : Nat) (v6 : Option V) (rows : List (List Nat)) (sg fl : List Nat) (vs : List VI) (t5 : TS) (H : Hp), Mp K CM CI H x rows sg (fl.map nmN) (vs.map VI.ins) → ChF rows sg fl vs → i ≤ vs.length →
        H D = some (.lst (vzS t5)) → CS H t5 → FolR rows (vs.take i) (begF rows sg fl) (csS t5) → DueI rows vs (begF rows sg fl) i o → (∀ H' v6 o, Same H H' → DueI rows vs (begF rows sg fl) (i + 1) o → Dn.nx (sT5 a b x D o i v6) H') → t Dn (sT5 a b x D o i v6) H := by
  obtain ⟨tA, qA, rA⟩ := law_ta (f := f) (cdv := cdv) (H0 := H0) (E := E) (s := s) (A := A) (outer := outer) PP hr
  have nd := scLaw.nd
  have hu := hr.units
  refine ⟨_, pss_cons (ps_set (i := 4) nd rfl (.inl rfl) (pe_ifExp (PW.pt (pw_and (pt_cmpR op_isN (pv 4) pe_non (nomark _)) (pw_and1 (pt_cmpR (op_eqD hu) (pv 3) (pe_lst pa_nil) (nomark _))))) (pv 5) (pv 4))) qA, ?_⟩
  intro Dn a b x D o i v6 rows sg fl vs t5 H hM ch hi h5 c5 f5 du kn
  cases o with
  | some j =>
    have du5 : DueI rows vs (begF rows sg fl) (i + 1) (some j) := ⟨by have := du.1; omega, du.2⟩
    refine ⟨_, rfl, rfl, _, rfl, iteF' rfl (iteF' rfl ⟨_, rfl, ?_⟩)⟩
    exact rA Dn a b x D (some j) i v6 rows sg fl vs t5 H hM ch hi h5 c5 f5 du5 fun H' v6 s' => kn H' v6 _ s' du5
  | none =>
    refine ⟨_, rfl, rfl, _, rfl, iteT' rfl ⟨_, rfl, by show 0 ≤ sizeLine; decide, fun L hL => ?_⟩⟩
    have sL := Same.new (Same.refl H) hL (o := .lst [])
    refine ⟨_, _, states_dp (sL _ _ h5) (c5.same sL), .lst (.inl (.inl upd_same)) .nil, sh_states _, sh_lnil, _, rfl, ?_⟩
    rw [eqv_lnil]
    by_cases hq : csS t5 = []
    · have du5 : DueI rows vs (begF rows sg fl) (i + 1) (some i) := ⟨by omega, by rw [← hq]; exact f5, du⟩
      refine iteT' (by rw [hq]; rfl) ⟨_, rfl, ?_⟩
      exact rA Dn a b x D (some i) i v6 rows sg fl vs t5 _ (hM.same sL) ch hi (sL _ _ h5) (c5.same sL) f5 du5 fun H' v6 s' => kn H' v6 _ (sL.trans s') du5
    · have du5 : DueI rows vs (begF rows sg fl) (i + 1) none := fun k hk S hS => by
        rcases Nat.lt_succ_iff_lt_or_eq.mp hk with hk | hk
        · exact du k hk S hS
        · rw [hk] at hS
          rw [FolR.uniq hS f5]
          exact hq
      refine iteF' (by cases h : csS t5 with | nil => exact absurd h hq | cons => rfl) ⟨_, rfl, ?_⟩
      exact rA Dn a b x D none i v6 rows sg fl vs t5 _ (hM.same sL) ch hi (sL _ _ h5) (c5.same sL) f5 du5 fun H' v6 s' => kn H' v6 _ (sL.trans s') du5
theorem ok_law {f : Addr} {fd : FuncData} (F : FnP K "law" "law" sLaw f fd) (PP : LP P w K mg base CI CM fN fM pI gI pR gR gL gG gU) (grange : mg "range" = none) (glen : mg "len" = none) : FnOk P w K mg base CX0 11 f fd ["_law_script"] (spLaw K) := by
  obtain ⟨dI, GI, bI⟩ := PP.GI.ex
  obtain ⟨dR, GR, bR⟩ := PP.GR.ex
  obtain ⟨dL, GL, bL⟩ := PP.GL.ex
  obtain ⟨dG, GG, bG⟩ := PP.GG.ex
  have TI := PP.isl
  have TM := PP.map
  refine F.ok scLaw (fun vs H Q E h => ?_) (fun cdv A outer s H vs Q E hr h => ?_)
  · obtain ⟨a, ns, rfl, _⟩ := h
    rfl
  · obtain ⟨a, ns, rfl, hS, hlen, k⟩ := h
    have nd := scLaw.nd
    have hu := hr.units
    have hr1 : Room 1 _ := hr.mono (by decide)
    have hr2 : Room 2 _ := hr.mono (by decide)
    have hr3 : Room 3 _ := hr.mono (by decide)
    have hr5 : Room 5 _ := hr.mono (by decide)
    have hr8 : Room 8 _ := hr.mono (by decide)
    obtain ⟨tB, qB, rB⟩ := law_tb (f := f) (cdv := cdv) (H0 := H) (E := E) (s := s) (A := A) (outer := outer) PP hr
    refine ⟨_, PSs.nox (pss_cons (ps_set (i := 1) nd rfl (.inl rfl) (pe_cal PP.beg hr1 pass0 (pa_cons (pv 0) pa_nil)))
      (pss_cons (ps_set (i := 2) nd rfl (.inl rfl) (pe_cal PP.lch hr8 pass0 (pa_cons (pv 1) (pa_cons pe_int (pa_cons pe_int pa_nil)))))
      (pss_cons (ps_par (i := 3) (j := 4) rfl nd rfl rfl (by decide) rfl rfl (pa_cons (pe_cal PP.lbe hr3 pass0 (pa_cons (pv 2) pa_nil)) (pa_cons pe_non pa_nil)) (by rfl))
      (pss_cons (ps_for PassesOwn.never rfl (pi_range1 rfl grange (pa_cons (pe_op op_add (pe_callB (call_lenOwn (E := E0) PP.mL GL hr2 bL pass0) (by rfl) glen PySem.boot_len (pa_cons (pv 2) pa_nil)) pe_int) pa_nil)) (pg_name (i := 5) nd rfl (.inl rfl))
        (pss_cons (ps_if (pt_cmpR op_gt (pv 5) pe_int (nomark _))
          (pss_one (ps_set (i := 3) nd rfl (.inl rfl) (pe_cal PP.lbh hr5 pass0 (pa_cons (pe_prop (pe_prop (pv 2) TM.cl PP.qI GI hr2 bI .nil pass0 rfl) TI.cl PP.qR GR hr2 bR .nil pass0 rfl) (pa_cons (pv 3) (pa_cons (pe_ixOwn PP.mG GG hr2 bG pass0 (pv 2) (pe_op op_sub (pv 5) pe_int)) pa_nil)))))) pss_nil)
          qB))
      (pss_one (ps_ret pe_bl)))))), ?_⟩
    refine ⟨_, rfl, a, ns, rfl, hS, hlen, fun b l H1 nb nl s1 B1 => ?_⟩
    refine ⟨_, rfl, b, l, 6, 8, rfl, B1, by decide, by decide, by decide, fun x rows sg fl vs H2 ok hM ch hv8 B2 K2 => ?_⟩
    have vd := ch.vd
    obtain ⟨dx, li, lf, lt, xs, ha, hI, hF, hT, hD⟩ := id hM
    obtain ⟨dxi, pr, hli, hrows⟩ := id hI
    have hm : (vs.map VI.ins).length = vs.length := List.length_map ..
    refine ⟨_, rfl, x, rows, sg, fl, _, rfl, hM, vd, ch.fl4, ch.w, fun D0 t0 H3 hD0 s3 h3 c3 e3 => ⟨_, _, rfl, ?_⟩⟩
    refine ⟨_, rfl, x, dx, _, rfl, s3 _ _ ha, x, rows, sg, _, _, rfl, hM.same s3, _, rfl, by omega, by omega, _, _, rfl, rfl, _, rfl, by omega, by omega, for_range (lo := 0) (n := ((((vs.map VI.ins).length : Nat) : Int) + 1).toNat) (fun i σ H' => ∃ (D : Addr) (t : TS) (o : Option Nat) (v5 v6 : Option V), σ = [some (.ref a), some (.ref b), some (.ref x), some (.ref D), some (onV o), v5, v6] ∧ Same H2 H' ∧ H' D = some (.lst (vzS t)) ∧ CS H' t ∧ FolR rows (vs.take (i - 1)) (begF rows sg fl) (csS t) ∧ DueI rows vs (begF rows sg fl) i o)
      ⟨D0, t0, none, _, _, rfl, s3, h3, c3, by rw [show 0 - 1 = 0 from rfl, List.take_zero, e3]; rfl, fun j hj => absurd hj (Nat.not_lt_zero _)⟩ ?_ (fun σ H' _ => k H')⟩
    rintro i σ H4 hi ⟨D, t, o, v5, v6, rfl, s4, h4, c4, f4, du⟩
    have hi : i ≤ vs.length := by omega
    rw [show (0 : Int) + (i : Nat) = (i : Nat) from Int.zero_add _]
    refine ⟨_, rfl, _, _, rfl, rfl, _, rfl, ?_⟩
    rcases Nat.eq_zero_or_pos i with h0 | h0
    · have f5 : FolR rows (vs.take i) (begF rows sg fl) (csS t) := by rw [h0] at f4 ⊢; exact f4
      refine iteF' (decide_eq_false (by omega)) ?_
      exact rB _ a b x D o i v6 rows sg fl vs t H4 (hM.same s4) ch hi h4 c4 f5 du fun H' v6 o' s' d' => ⟨D, t, o', _, _, rfl, s4.trans s', s' _ _ h4, c4.same s', f5, d'⟩
    · refine iteT' (decide_eq_true (by omega)) ?_
      have hv : vs[i - 1]? = some vs[i - 1] := List.getElem?_eq_getElem (by omega)
      generalize vs[i - 1] = v at hv
      have hvm := List.mem_of_getElem? hv
      have ha4 := s4 _ _ ha
      have hli4 := s4 _ _ hli
      have hup := FolR.up f4 ch.begUp
      have hin := FolR.land vd f4 ch.begIn
      refine ⟨_, rfl, x, dx, _, rfl, ha4, x, dx, _, _, rfl, ha4, mapFs_i .., li, dxi, _, rfl, hli4, li, dxi, pr, rfl, hli4, _, rfl, ?_⟩
      refine ⟨_, rfl, _, rfl, _, _, rfl, rfl, x, dx, _, rfl, ha4, x, i - 1, v.ins, rows, sg, _, _, by rw [show ((i - 1 : Nat) : Int) = (i : Nat) - 1 by omega], hM.same s4, by rw [List.getElem?_map, hv]; rfl, fun iv hiv => ?_⟩
      refine ⟨pr, D, iv, rows, t, v, rfl, Same.tup s4 hrows, vd, h4, c4, by rw [← csS_len]; exact up_len vd hup hin, hin, hiv, ch.wf v hvm, ch.wl v hvm, fun D3 t3 H5 hD3 s5 h5 c5 n5 in5 => ?_⟩
      have f5 : FolR rows (vs.take i) (begF rows sg fl) (csS t3) := by
        have e : vs.take i = vs.take (i - 1) ++ [v] := by
          have : i = (i - 1) + 1 := by omega
          rw [this, List.take_add_one, show i - 1 + 1 - 1 = i - 1 from rfl, hv]
          rfl
        rw [e]
        exact f4.snoc n5
      have s45 := s4.trans s5
      exact rB _ a b x D3 o i v6 rows sg fl vs t3 H5 (hM.same s45) ch hi h5 c5 f5 du fun H' v6 o' s' d' => ⟨D3, t3, o', _, _, rfl, s45.trans s', s' _ _ h5, c5.same s', f5, d'⟩
end
end Om

namespace Om
open PySem PySem.Spec PyProof.Rows L2 LamX He OmH
theorem errIB_ok {K : PySem.W.Frag} {x : Str} (h : errIB K x = true) : OexC K (ga K x) ∧ PySem.W.findIn K (.ref (ga K x)) "__init__" = some (some (.ref (ma K (ga K x) "__init__"))) ∧ PySem.W.typeIn K (.ref (ma K (ga K x) "__init__")) = some (.type "function") := by
  obtain ⟨h1, h2⟩ := ba h
  obtain ⟨h2, h3⟩ := ba h2
  exact ⟨oexB_ok h1, eqO_ok h2, of_decide_eq_true h3⟩
theorem b1 {K : PySem.W.Frag} {x q a : Str} {st : Stmt} {f : Addr} {fd : FuncData} (F : FnP K x q st f fd) (h : ∀ (kV doc pm : Value) (an : Option Addr) (cdv ct : Value) (u : Value), bindArgs (PySem.W.fnOf x q (defArgs st) (defBody st) (defScope st) .none kV doc pm an cdv ct) ⟨[u], []⟩ = pure [(a, u)]) : Binds K fd [a] [] :=
  FunD.bindsN F fun _ _ _ _ _ _ us hl => match us, hl with | [_], _ => h ..
theorem b2 {K : PySem.W.Frag} {x q a b : Str} {st : Stmt} {f : Addr} {fd : FuncData} (F : FnP K x q st f fd) (h : ∀ (kV doc pm : Value) (an : Option Addr) (cdv ct : Value) (u v : Value), bindArgs (PySem.W.fnOf x q (defArgs st) (defBody st) (defScope st) .none kV doc pm an cdv ct) ⟨[u, v], []⟩ = pure [(a, u), (b, v)]) : Binds K fd [a, b] [] :=
  FunD.bindsN F fun _ _ _ _ _ _ us hl => match us, hl with | [_, _], _ => h ..
theorem b3 {K : PySem.W.Frag} {x q a b c : Str} {st : Stmt} {f : Addr} {fd : FuncData} (F : FnP K x q st f fd) (h : ∀ (kV doc pm : Value) (an : Option Addr) (cdv ct : Value) (u v z : Value), bindArgs (PySem.W.fnOf x q (defArgs st) (defBody st) (defScope st) .none kV doc pm an cdv ct) ⟨[u, v, z], []⟩ = pure [(a, u), (b, v), (c, z)]) : Binds K fd [a, b, c] [] :=
  FunD.bindsN F fun _ _ _ _ _ _ us hl => match us, hl with | [_, _, _], _ => h ..
theorem b4 {K : PySem.W.Frag} {x q a b c d : Str} {st : Stmt} {f : Addr} {fd : FuncData} (F : FnP K x q st f fd) (h : ∀ (kV doc pm : Value) (an : Option Addr) (cdv ct : Value) (u v z y : Value), bindArgs (PySem.W.fnOf x q (defArgs st) (defBody st) (defScope st) .none kV doc pm an cdv ct) ⟨[u, v, z, y], []⟩ = pure [(a, u), (b, v), (c, z), (d, y)]) : Binds K fd [a, b, c, d] [] :=
  FunD.bindsN F fun _ _ _ _ _ _ us hl => match us, hl with | [_, _, _, _], _ => h ..
abbrev gI (K : PySem.W.Frag) : Addr := ga K "Island"
abbrev gMp (K : PySem.W.Frag) : Addr := ga K "Map"
abbrev gSt (K : PySem.W.Frag) : Addr := ga K "Steps"
theorem b5 {K : PySem.W.Frag} {x q a b c d e : Str} {st : Stmt} {f : Addr} {fd : FuncData} (F : FnP K x q st f fd) (h : ∀ (kV doc pm : Value) (an : Option Addr) (cdv ct : Value) (u1 u2 u3 u4 u5 : Value), bindArgs (PySem.W.fnOf x q (defArgs st) (defBody st) (defScope st) .none kV doc pm an cdv ct) ⟨[u1, u2, u3, u4, u5], []⟩ = pure [(a, u1), (b, u2), (c, u3), (d, u4), (e, u5)]) : Binds K fd [a, b, c, d, e] [] :=
  FunD.bindsN F fun _ _ _ _ _ _ us hl => match us, hl with | [_, _, _, _, _], _ => h ..
theorem parts_at {P : Program} {w : World} {K : PySem.W.Frag} {h base : Heap} {mg : Str → Option Value} (X : K.In h) (G : h.Ns mainGlobals mg) (c : He.SaysX (fa ++ fa2) fnD [] tfD exB w h K) (cg : obsA gsD K = valA gsD) : LP P w K mg base (gI K) (gMp K) (ma K (gI K) "__init__") (ma K (gMp K) "__init__") (ma K (gMp K) "island") (getA K (gMp K) "island") (ma K (gI K) "rows") (getA K (gI K) "rows") (ma K (gMp K) "__len__") (ma K (gMp K) "__getitem__") (ma K (gMp K) "until") := by
  have d := c.t.d
  obtain ⟨f0, F0⟩ := d.def_ 0 (d := dG "_law_begun" (top 55)) rfl
  have F0 : FnP K "_law_begun" "_law_begun" (top 55) _ f0 := F0
  obtain ⟨f1, F1⟩ := d.def_ 1 (d := dG "_law_take" (top 56)) rfl
  have F1 : FnP K "_law_take" "_law_take" (top 56) _ f1 := F1
  obtain ⟨f2, F2⟩ := d.def_ 2 (d := dG "_law_alike" (top 57)) rfl
  have F2 : FnP K "_law_alike" "_law_alike" (top 57) _ f2 := F2
  obtain ⟨f3, F3⟩ := d.def_ 3 (d := dG "_law_rows" (top 58)) rfl
  have F3 : FnP K "_law_rows" "_law_rows" (top 58) _ f3 := F3
  obtain ⟨f4, F4⟩ := d.def_ 4 (d := dG "_law_sign" (top 59)) rfl
  have F4 : FnP K "_law_sign" "_law_sign" (top 59) _ f4 := F4
  obtain ⟨f5, F5⟩ := d.def_ 5 (d := dG "_law_next" (top 60)) rfl
  have F5 : FnP K "_law_next" "_law_next" (top 60) _ f5 := F5
  obtain ⟨f6, F6⟩ := d.def_ 6 (d := dG "_law_signs" (top 61)) rfl
  have F6 : FnP K "_law_signs" "_law_signs" (top 61) _ f6 := F6
  obtain ⟨f7, F7⟩ := d.def_ 7 (d := dG "_law_turns" (top 62)) rfl
  have F7 : FnP K "_law_turns" "_law_turns" (top 62) _ f7 := F7
  obtain ⟨f8, F8⟩ := d.def_ 8 (d := dG "_law_instruction" (top 63)) rfl
  have F8 : FnP K "_law_instruction" "_law_instruction" (top 63) _ f8 := F8
  obtain ⟨f9, F9⟩ := d.def_ 9 (d := dG "_law_shore" (top 64)) rfl
  have F9 : FnP K "_law_shore" "_law_shore" (top 64) _ f9 := F9
  obtain ⟨f10, F10⟩ := d.def_ 10 (d := dG "_law_paced" (top 65)) rfl
  have F10 : FnP K "_law_paced" "_law_paced" (top 65) _ f10 := F10
  obtain ⟨f11, F11⟩ := d.def_ 11 (d := dG "_law_lead" (top 66)) rfl
  have F11 : FnP K "_law_lead" "_law_lead" (top 66) _ f11 := F11
  obtain ⟨f12, F12⟩ := d.def_ 12 (d := dG "_law_sees" (top 67)) rfl
  have F12 : FnP K "_law_sees" "_law_sees" (top 67) _ f12 := F12
  obtain ⟨f13, F13⟩ := d.def_ 13 (d := dG "_law_begins" (top 68)) rfl
  have F13 : FnP K "_law_begins" "_law_begins" (top 68) _ f13 := F13
  obtain ⟨f14, F14⟩ := d.def_ 14 (d := dG "_law_behind" (top 69)) rfl
  have F14 : FnP K "_law_behind" "_law_behind" (top 69) _ f14 := F14
  obtain ⟨f15, F15⟩ := d.def_ 15 (d := dG "_law_ends" (top 70)) rfl
  have F15 : FnP K "_law_ends" "_law_ends" (top 70) _ f15 := F15
  obtain ⟨f16, F16⟩ := d.def_ 16 (d := dG "_law_chart" (top 72)) rfl
  have F16 : FnP K "_law_chart" "_law_chart" (top 72) _ f16 := F16
  obtain ⟨f17, F17⟩ := d.def_ 17 (d := dG "_law_cells" (top 71)) rfl
  have F17 : FnP K "_law_cells" "_law_cells" (top 71) _ f17 := F17
  obtain ⟨f19, F19⟩ := d.def_ 19 (d := dG "in_range" (top 5)) rfl
  have F19 : FnP K "in_range" "in_range" (top 5) _ f19 := F19
  obtain ⟨f20, F20⟩ := d.def_ 20 (d := dG "ascending_numbers" (top 6)) rfl
  have F20 : FnP K "ascending_numbers" "ascending_numbers" (top 6) _ f20 := F20
  obtain ⟨f21, F21⟩ := d.def_ 21 (d := dG "ascending_signs" (top 7)) rfl
  have F21 : FnP K "ascending_signs" "ascending_signs" (top 7) _ f21 := F21
  obtain ⟨f22, F22⟩ := d.def_ 22 (d := dG "_lies_within" (top 16)) rfl
  have F22 : FnP K "_lies_within" "_lies_within" (top 16) _ f22 := F22
  obtain ⟨f23, F23⟩ := d.def_ 23 (d := dG "_check_rows" (top 17)) rfl
  have F23 : FnP K "_check_rows" "_check_rows" (top 17) _ f23 := F23
  obtain ⟨f24, F24⟩ := d.def_ 24 (d := dG "_first_wrong_column" (top 18)) rfl
  have F24 : FnP K "_first_wrong_column" "_first_wrong_column" (top 18) _ f24 := F24
  obtain ⟨f25, F25⟩ := d.def_ 25 (d := dG "sign_at" (top 22)) rfl
  have F25 : FnP K "sign_at" "sign_at" (top 22) _ f25 := F25
  obtain ⟨f26, F26⟩ := d.def_ 26 (d := dG "next_cell" (top 23)) rfl
  have F26 : FnP K "next_cell" "next_cell" (top 23) _ f26 := F26
  obtain ⟨f27, F27⟩ := d.def_ 27 (d := dG "sign_ahead" (top 24)) rfl
  have F27 : FnP K "sign_ahead" "sign_ahead" (top 24) _ f27 := F27
  obtain ⟨f28, F28⟩ := d.def_ 28 (d := dG "facing_by" (top 25)) rfl
  have F28 : FnP K "facing_by" "facing_by" (top 25) _ f28 := F28
  obtain ⟨f29, F29⟩ := d.def_ 29 (d := dG "paces_ahead" (top 26)) rfl
  have F29 : FnP K "paces_ahead" "paces_ahead" (top 26) _ f29 := F29
  obtain ⟨f30, F30⟩ := d.def_ 30 (d := dG "paces_along" (top 27)) rfl
  have F30 : FnP K "paces_along" "paces_along" (top 27) _ f30 := F30
  obtain ⟨f31, F31⟩ := d.def_ 31 (d := dG "_pace" (top 28)) rfl
  have F31 : FnP K "_pace" "_pace" (top 28) _ f31 := F31
  obtain ⟨f32, F32⟩ := d.def_ 32 (d := dG "_looked" (top 29)) rfl
  have F32 : FnP K "_looked" "_looked" (top 29) _ f32 := F32
  obtain ⟨f33, F33⟩ := d.def_ 33 (d := dG "led_to" (top 31)) rfl
  have F33 : FnP K "led_to" "led_to" (top 31) _ f33 := F33
  obtain ⟨f34, F34⟩ := d.def_ 34 (d := dG "_until" (top 32)) rfl
  have F34 : FnP K "_until" "_until" (top 32) _ f34 := F34
  obtain ⟨f35, F35⟩ := d.def_ 35 (d := dG "_all_sides" (top 33)) rfl
  have F35 : FnP K "_all_sides" "_all_sides" (top 33) _ f35 := F35
  obtain ⟨f36, F36⟩ := d.def_ 36 (d := dG "_is_ahead" (top 34)) rfl
  have F36 : FnP K "_is_ahead" "_is_ahead" (top 34) _ f36 := F36
  obtain ⟨f37, F37⟩ := d.def_ 37 (d := dG "_is_near" (top 35)) rfl
  have F37 : FnP K "_is_near" "_is_near" (top 35) _ f37 := F37
  obtain ⟨f38, F38⟩ := d.def_ 38 (d := dG "begin_states" (top 39)) rfl
  have F38 : FnP K "begin_states" "begin_states" (top 39) _ f38 := F38
  obtain ⟨f39, F39⟩ := d.def_ 39 (d := dG "final_states" (top 40)) rfl
  have F39 : FnP K "final_states" "final_states" (top 40) _ f39 := F39
  obtain ⟨f40, F40⟩ := d.def_ 40 (d := dG "is_instruction" (top 47)) rfl
  have F40 : FnP K "is_instruction" "is_instruction" (top 47) _ f40 := F40
  obtain ⟨f41, F41⟩ := d.def_ 41 (d := dG "_is_side" (top 48)) rfl
  have F41 : FnP K "_is_side" "_is_side" (top 48) _ f41 := F41
  obtain ⟨f42, F42⟩ := d.def_ 42 (d := dG "_are_paces" (top 49)) rfl
  have F42 : FnP K "_are_paces" "_are_paces" (top 49) _ f42 := F42
  obtain ⟨f43, F43⟩ := d.def_ 43 (d := dG "_check_instructions" (top 53)) rfl
  have F43 : FnP K "_check_instructions" "_check_instructions" (top 53) _ f43 := F43
  obtain ⟨f44, F44⟩ := d.def_ 44 (d := dG "places" (top 41)) rfl
  have F44 : FnP K "places" "places" (top 41) _ f44 := F44
  obtain ⟨f45, F45⟩ := d.def_ 45 (d := dG "impossible_at" (top 42)) rfl
  have F45 : FnP K "impossible_at" "impossible_at" (top 42) _ f45 := F45
  obtain ⟨f46, F46⟩ := d.def_ 46 (d := dG "cells_of" (top 43)) rfl
  have F46 : FnP K "cells_of" "cells_of" (top 43) _ f46 := F46
  obtain ⟨f47, F47⟩ := d.def_ 47 (d := dM "Island" "__init__" "Island.__init__" sIslI) rfl
  have F47 : FnP K "__init__" "Island.__init__" sIslI _ f47 := F47
  obtain ⟨f48, F48⟩ := d.def_ 48 (d := dM "Island" "__getitem__" "Island.__getitem__" (sIslM 7)) rfl
  have F48 : FnP K "__getitem__" "Island.__getitem__" (sIslM 7) _ f48 := F48
  obtain ⟨f49, F49⟩ := d.def_ 49 (d := dM "InvalidIsland" "__init__" "InvalidIsland.__init__" sII) rfl
  have F49 : FnP K "__init__" "InvalidIsland.__init__" sII _ f49 := F49
  obtain ⟨f50, F50⟩ := d.def_ 50 (d := dM "InvalidMap" "__init__" "InvalidMap.__init__" sIM) rfl
  have F50 : FnP K "__init__" "InvalidMap.__init__" sIM _ f50 := F50
  obtain ⟨f51, F51⟩ := d.def_ 51 (d := dM "Map" "__init__" "Map.__init__" (sMapM 0)) rfl
  have F51 : FnP K "__init__" "Map.__init__" (sMapM 0) _ f51 := F51
  obtain ⟨f52, F52⟩ := d.def_ 52 (d := dM "Map" "__add__" "Map.__add__" (sMapM 12)) rfl
  have F52 : FnP K "__add__" "Map.__add__" (sMapM 12) _ f52 := F52
  obtain ⟨f53, F53⟩ := d.def_ 53 (d := dM "Steps" "__init__" "Steps.__init__" (sStp 0)) rfl
  have F53 : FnP K "__init__" "Steps.__init__" (sStp 0) _ f53 := F53
  obtain ⟨f54, F54⟩ := d.def_ 54 (d := dM "Steps" "behind" "Steps.behind" (sStp 1)) rfl
  have F54 : FnP K "behind" "Steps.behind" (sStp 1) _ f54 := F54
  obtain ⟨f55, F55⟩ := d.def_ 55 (d := dM "Steps" "layers" "Steps.layers" (sStp 2)) rfl
  have F55 : FnP K "layers" "Steps.layers" (sStp 2) _ f55 := F55
  obtain ⟨f56, F56⟩ := d.def_ 56 (d := dM "Steps" "ends" "Steps.ends" (sStp 3)) rfl
  have F56 : FnP K "ends" "Steps.ends" (sStp 3) _ f56 := F56
  obtain ⟨f57, F57⟩ := d.def_ 57 (d := dM "Map" "__len__" "Map.__len__" (sMapM 9)) rfl
  have F57 : FnP K "__len__" "Map.__len__" (sMapM 9) _ f57 := F57
  obtain ⟨f58, F58⟩ := d.def_ 58 (d := dM "Map" "__getitem__" "Map.__getitem__" (sMapM 10)) rfl
  have F58 : FnP K "__getitem__" "Map.__getitem__" (sMapM 10) _ f58 := F58
  obtain ⟨f59, F59⟩ := d.def_ 59 (d := dM "Map" "until" "Map.until" (sMapM 5)) rfl
  have F59 : FnP K "until" "Map.until" (sMapM 5) _ f59 := F59
  obtain ⟨f60, F60⟩ := d.def_ 60 (d := dM "Map" "with_instructions" "Map.with_instructions" (sMapM 7)) rfl
  have F60 : FnP K "with_instructions" "Map.with_instructions" (sMapM 7) _ f60 := F60
  obtain ⟨g0, P0⟩ := getter cg 0 (d := gG "Map" "island" "Map.island" (sMapM 1)) rfl
  have P0 : FnP K "island" "Map.island" (sMapM 1) _ g0 := P0
  obtain ⟨g1, P1⟩ := getter cg 1 (d := gG "Map" "signs" "Map.signs" (sMapM 2)) rfl
  have P1 : FnP K "signs" "Map.signs" (sMapM 2) _ g1 := P1
  obtain ⟨g2, P2⟩ := getter cg 2 (d := gG "Map" "facings" "Map.facings" (sMapM 3)) rfl
  have P2 : FnP K "facings" "Map.facings" (sMapM 3) _ g2 := P2
  obtain ⟨g3, P3⟩ := getter cg 3 (d := gG "Map" "instructions" "Map.instructions" (sMapM 4)) rfl
  have P3 : FnP K "instructions" "Map.instructions" (sMapM 4) _ g3 := P3
  obtain ⟨g4, P4⟩ := getter cg 4 (d := gG "Island" "rows" "Island.rows" (sIslM 1)) rfl
  have P4 : FnP K "rows" "Island.rows" (sIslM 1) _ g4 := P4
  obtain ⟨g5, P5⟩ := getter cg 5 (d := gG "Island" "cells" "Island.cells" (sIslM 4)) rfl
  have P5 : FnP K "cells" "Island.cells" (sIslM 4) _ g5 := P5
  have fr : ∀ {x : Str}, Fa.free x ∈ fa ++ fa2 → mg x = none := fun hx => free_ok X G (d.facts hx)
  have gl : ∀ {x : Str}, Fa.glo x ∈ fa ++ fa2 → mg x = some (.ref (ga K x)) := fun hx => glo_ok X G (d.facts hx)
  have fact : ∀ {f : Fa}, f ∈ fa ++ fa2 → f.ok K = true := fun hf => d.facts hf
  have gint : mg "int" = none := fr (by simp [fa])
  have glist : mg "list" = none := fr (by simp [fa])
  have glen : mg "len" = none := fr (by simp [fa])
  have grange : mg "range" = none := fr (by simp [fa])
  have gtuple : mg "tuple" = none := fr (by simp [fa])
  have gmax : mg "max" = none := fr (by simp [fa])
  have gmin : mg "min" = none := fr (by simp [fa])
  have genum : mg "enumerate" = none := fr (by simp [fa])
  have gisi : mg "isinstance" = none := fr (by simp [fa])
  have gbool : mg "bool" = none := fr (by simp [fa])
  have gstr : mg "str" = none := fr (by simp [fa])
  have gsorted : mg "sorted" = none := fr (by simp [fa])
  have gall : mg "all" = none := fr (by simp [fa])
  have gzip : mg "zip" = none := fr (by simp [fa])
  have gdict : mg "dict" = none := fr (by simp [fa])
  have gset : mg "set" = none := fr (by simp [fa])
  have gabs : mg "abs" = none := fr (by simp [fa])
  have sall := str_ok X G (fact (f := .str "ALL_SIGNS" allSigns) (by simp [fa]))
  have sland := str_ok X G (fact (f := .str "LAND_SIGNS" (Str.ofString ".ABCDEFGHIJKLMNOPQRSTUVWXYZ")) (by simp [fa]))
  have swat := str_ok X G (fact (f := .str "WATER" (Str.ofString "~")) (by simp [fa]))
  have slarge := int_ok X G (fact (f := .int "LARGEST" 12) (by simp [fa]))
  have spac := int_ok X G (fact (f := .int "MOST_PACES" 20) (by simp [fa]))
  have saway := int_ok X G (fact (f := .int "MOST_AWAY" 22) (by simp [fa]))
  have sins := int_ok X G (fact (f := .int "MOST_INSTRUCTIONS" 20) (by simp [fa]))
  have sl2 : ∃ t, mg "LAND_SIGNS" = some (.str (tx lands) t) := by rw [← lands_tx]; exact sland
  have sa2 : ∃ t, mg "ALL_SIGNS" = some (.str (tx alls) t) := by rw [← alls_tx]; exact sall
  obtain ⟨x1, x2⟩ := ba c.more
  obtain ⟨x2, x3⟩ := ba x2
  obtain ⟨x3, x4⟩ := ba x3
  obtain ⟨x4, x5⟩ := ba x4
  obtain ⟨x5, x6⟩ := ba x5
  obtain ⟨x6, x7⟩ := ba x6
  obtain ⟨x7, x8⟩ := ba x7
  obtain ⟨x8, x9⟩ := ba x8
  obtain ⟨x9, x10⟩ := ba x9
  obtain ⟨x10, x11⟩ := ba x10
  obtain ⟨x11, x12⟩ := ba x11
  obtain ⟨x12, x13⟩ := ba x12
  obtain ⟨x13, x14⟩ := ba x13
  obtain ⟨x14, x15⟩ := ba x14
  obtain ⟨x15, x16⟩ := ba x15
  obtain ⟨oII, iII, tII⟩ := errIB_ok x1
  obtain ⟨oIM, iIM, tIM⟩ := errIB_ok x2
  have nR := noat_ok (fact (f := .noat "InvalidIsland" "row") (by simp [fa, fa2]))
  have nC := noat_ok (fact (f := .noat "InvalidIsland" "column") (by simp [fa, fa2]))
  have nI := noat_ok (fact (f := .noat "InvalidMap" "index") (by simp [fa, fa2]))
  have isi : IsI K mg (ga K "InvalidIsland") (ma K (ga K "InvalidIsland") "__init__") := ⟨oII, nR, nC, iII, tII, gl (by simp [fa])⟩
  have ism : IsM K mg (ga K "InvalidMap") (ma K (ga K "InvalidMap") "__init__") := ⟨oIM, nI, iIM, tIM, gl (by simp [fa])⟩
  have isl : IslF K mg (gI K) (ma K (gI K) "__init__") := ⟨cls_ok (fact (f := .cls "Island") (by simp [fa, fa2])), noat_ok (fact (f := .noat "Island" "_rows") (by simp [fa, fa2])), mkr_ok (fact (f := .mkr "Island") (by simp [fa, fa2])), gl (by simp [fa])⟩
  have mp : MapF K mg (gMp K) (ma K (gMp K) "__init__") := ⟨cls_ok (fact (f := .cls "Map") (by simp [fa, fa2])), noat_ok (fact (f := .noat "Map" "_island") (by simp [fa, fa2])), noat_ok (fact (f := .noat "Map" "_signs") (by simp [fa, fa2])), noat_ok (fact (f := .noat "Map" "_facings") (by simp [fa, fa2])), noat_ok (fact (f := .noat "Map" "_instructions") (by simp [fa, fa2])), mkr_ok (fact (f := .mkr "Map") (by simp [fa, fa2])), gl (by simp [fa])⟩
  have stp : StpF K mg (gSt K) (ma K (gSt K) "__init__") := ⟨cls_ok (fact (f := .cls "Steps") (by simp [fa, fa2])), noat_ok (fact (f := .noat "Steps" "_rows") (by simp [fa, fa2])), noat_ok (fact (f := .noat "Steps" "_known") (by simp [fa, fa2])), mkr_ok (fact (f := .mkr "Steps") (by simp [fa, fa2])), gl (by simp [fa])⟩
  have eu : ErrU K mg "UnknownCell" (ga K "UnknownCell") := by
    obtain ⟨y1, y2⟩ := ba x3
    obtain ⟨y2, y3⟩ := ba y2
    obtain ⟨y3, y4⟩ := ba y3
    exact ⟨y1, y2, of_decide_eq_true y3, of_decide_eq_true y4, gl (by simp [fa])⟩
  have tRow : TupF K mg "ROW_STEPS" rsL := ⟨_, gl (by simp [fa]), tupB_ok x13⟩
  have tCol : TupF K mg "COLUMN_STEPS" csL := ⟨_, gl (by simp [fa]), tupB_ok x14⟩
  have kTk : Cal P w K mg base CX0 1 "_law_take" ["_law_box", "_law_many"] spTake := ⟨_, _, ok_take F1 gint, gl (by simp [fa, fa2]), F1.kp, b2 F1 fun _ _ _ _ _ _ _ _ => rfl⟩
  have kRg : Cal P w K mg base CX0 1 "in_range" nInR spInR := ⟨_, _, ok_inR F19 gisi gint gbool, gl (by simp [fa, fa2]), F19.kp, b3 F19 fun _ _ _ _ _ _ _ _ _ => rfl⟩
  have kRn : Cal P w K mg base CX0 1 "in_range" nInR spInN := ⟨_, _, ok_inN F19 gisi gint gbool, gl (by simp [fa, fa2]), F19.kp, b3 F19 fun _ _ _ _ _ _ _ _ _ => rfl⟩
  have kAN : Cal P w K mg base CX0 2 "ascending_numbers" ["numbers", "least", "most"] (spAscN K) := ⟨_, _, ok_ascN F20 kRn glen gall gzip, gl (by simp [fa, fa2]), F20.kp, b3 F20 fun _ _ _ _ _ _ _ _ _ => rfl⟩
  have kAS : Cal P w K mg base CX0 1 "ascending_signs" ["text", "allowed"] spAscS := ⟨_, _, ok_ascS F21, gl (by simp [fa, fa2]), F21.kp, b2 F21 fun _ _ _ _ _ _ _ _ => rfl⟩
  have kSd : Cal P w K mg base CX0 2 "_is_side" ["side"] spSide := ⟨_, _, ok_side F41 kRn, gl (by simp [fa, fa2]), F41.kp, b1 F41 fun _ _ _ _ _ _ _ => rfl⟩
  have kPa : Cal P w K mg base CX0 2 "_are_paces" ["least", "most"] spPaces := ⟨_, _, ok_paces F42 kRn spac, gl (by simp [fa, fa2]), F42.kp, b2 F42 fun _ _ _ _ _ _ _ _ => rfl⟩
  have kIs : Cal P w K mg base CX0 3 "is_instruction" ["instruction"] (spIsIns K) := ⟨_, _, ok_isIns F40 kRn kAN kAS kPa kSd sl2 sa2 saway, gl (by simp [fa, fa2]), F40.kp, b1 F40 fun _ _ _ _ _ _ _ => rfl⟩
  have bIM : Binds K f50 ["self", "index"] [] := b2 F50 fun _ _ _ _ _ _ _ _ => rfl
  have kCI : Cal P w K mg base (L2.CX P w) 4 "_check_instructions" ["instructions"] (spChkI K (ga K "InvalidMap")) := ⟨_, _, ok_chkI F43 ism (ok_IM F50 ism) bIM kIs genum sins, gl (by simp [fa, fa2]), F43.kp, b1 F43 fun _ _ _ _ _ _ _ => rfl⟩
  have bM : Binds K f51 nMapI [] := b5 F51 fun _ _ _ _ _ _ _ _ _ _ _ => rfl
  have okM : FnOk P w K mg base (L2.CX P w) 5 (ma K (gMp K) "__init__") f51 nMapI (spMapI K (gMp K) (ga K "InvalidMap")) := ok_mapI F51 mp ism (ok_IM F50 ism) bIM kCI kAN kAS sl2 gtuple
  have kLi : Cal P w K mg base CX0 2 "_lies_within" ["rows", "cell"] (spLies K) := ⟨_, _, ok_lies F22 kRg glen, gl (by simp [fa, fa2]), F22.kp, b2 F22 fun _ _ _ _ _ _ _ _ => rfl⟩
  have kFw : Cal P w K mg base CX0 1 "_first_wrong_column" ["signs", "width"] spFwc := ⟨_, _, ok_fwc F24 grange glen sall, gl (by simp [fa, fa2]), F24.kp, b2 F24 fun _ _ _ _ _ _ _ _ => rfl⟩
  have bII : Binds K f49 ["self", "row", "column"] [] := b3 F49 fun _ _ _ _ _ _ _ _ _ => rfl
  have kCk : Cal P w K mg base (L2.CX P w) 3 "_check_rows" ["rows"] (spChk K (ga K "InvalidIsland")) := ⟨_, _, ok_chk F23 isi (ok_II F49 isi) bII kFw glen gmax gmin genum slarge, gl (by simp [fa, fa2]), F23.kp, b1 F23 fun _ _ _ _ _ _ _ => rfl⟩
  have bN : Binds K f47 ["self", "rows"] [] := b2 F47 fun _ _ _ _ _ _ _ _ => rfl
  have okN : FnOk P w K mg base (L2.CX P w) 4 (ma K (gI K) "__init__") f47 ["self", "rows"] (spIsl K (gI K) (ga K "InvalidIsland")) := ok_isl F47 isl kCk gtuple
  have bAl : Binds K f2 ["_law_found", "_law_due"] [] := b2 F2 fun _ _ _ _ _ _ _ _ => rfl
  have gAl : mg "_law_alike" = some (.ref (ga K "_law_alike")) := gl (by simp [fa, fa2])
  have pIs := propB_ok x7
  have okIs : FnOk P w K mg base CX0 1 (getA K (gMp K) "island") g0 ["self"] (getSp (gMp K) "_island") := ok_mIsl P0 mp
  have bIs : Binds K g0 ["self"] [] := b1 P0 fun _ _ _ _ _ _ _ => rfl
  have pSg := propB_ok x8
  have okSg : FnOk P w K mg base CX0 1 (getA K (gMp K) "signs") g1 ["self"] (getSp (gMp K) "_signs") := ok_mSig P1 mp
  have bSg : Binds K g1 ["self"] [] := b1 P1 fun _ _ _ _ _ _ _ => rfl
  have pFc := propB_ok x9
  have okFc : FnOk P w K mg base CX0 1 (getA K (gMp K) "facings") g2 ["self"] (getSp (gMp K) "_facings") := ok_mFac P2 mp
  have bFc : Binds K g2 ["self"] [] := b1 P2 fun _ _ _ _ _ _ _ => rfl
  have pIn := propB_ok x10
  have okIn : FnOk P w K mg base CX0 1 (getA K (gMp K) "instructions") g3 ["self"] (getSp (gMp K) "_instructions") := ok_mIns P3 mp
  have bIn : Binds K g3 ["self"] [] := b1 P3 fun _ _ _ _ _ _ _ => rfl
  have pRw := propB_ok x11
  have okRw : FnOk P w K mg base CX0 1 (getA K (gI K) "rows") g4 ["self"] (spIRows K (gI K)) := ok_irows P4 isl
  have bRw : Binds K g4 ["self"] [] := b1 P4 fun _ _ _ _ _ _ _ => rfl
  have pCl := propB_ok x12
  have okCl : FnOk P w K mg base CX0 1 (getA K (gI K) "cells") g5 ["self"] (spICells K (gI K)) := ok_icells P5 isl genum swat
  have bCl : Binds K g5 ["self"] [] := b1 P5 fun _ _ _ _ _ _ _ => rfl
  have okGt : FnOk P w K mg base (L2.CX P w) 3 (ma K (gI K) "__getitem__") f48 ["self", "cell"] (spGet K (gI K) (ga K "UnknownCell")) := ok_get F48 isl eu kLi
  have bGt : Binds K f48 ["self", "cell"] [] := b2 F48 fun _ _ _ _ _ _ _ _ => rfl
  have mGt := ownB_ok x4
  have mAd := ownB_ok x5
  have okAd : FnOk P w K mg base (L2.CX P w) 7 (ma K (gMp K) "__add__") f52 ["self", "other"] (spAdd K (gMp K) (gI K) (ga K "InvalidMap")) := ok_add F52 mp okM bM gtuple
  have bAd : Binds K f52 ["self", "other"] [] := b2 F52 fun _ _ _ _ _ _ _ _ => rfl
  have kNc : Cal P w K mg base CX0 1 "next_cell" ["state"] (spNextC K) := ⟨_, _, ok_nextC F26 tRow tCol, gl (by simp [fa, fa2]), F26.kp, b1 F26 fun _ _ _ _ _ _ _ => rfl⟩
  have kSA : Cal P w K mg base CX0 1 "sign_at" ["rows", "row", "column"] (spSgAt K) := ⟨_, _, ok_sgat F25 glen swat, gl (by simp [fa, fa2]), F25.kp, b3 F25 fun _ _ _ _ _ _ _ _ _ => rfl⟩
  have kAh : Cal P w K mg base CX0 2 "sign_ahead" ["rows", "state"] (spSgAh K) := ⟨_, _, ok_sgah F27 kNc kSA, gl (by simp [fa, fa2]), F27.kp, b2 F27 fun _ _ _ _ _ _ _ _ => rfl⟩
  have kFb : Cal P w K mg base CX0 1 "facing_by" ["state", "turn"] spFaBy := ⟨_, _, ok_faby F28, gl (by simp [fa, fa2]), F28.kp, b2 F28 fun _ _ _ _ _ _ _ _ => rfl⟩
  have kPc : Cal P w K mg base CX0 2 "_pace" ["state"] spPac := ⟨_, _, ok_pac F31 kNc, gl (by simp [fa, fa2]), F31.kp, b1 F31 fun _ _ _ _ _ _ _ => rfl⟩
  have kPh : Cal P w K mg base CX0 3 "paces_ahead" ["rows", "state", "most"] (spPA K) := ⟨_, _, ok_pa F29 kAh kPc glen swat, gl (by simp [fa, fa2]), F29.kp, b3 F29 fun _ _ _ _ _ _ _ _ _ => rfl⟩
  have kLk : Cal P w K mg base CX0 3 "_looked" ["rows", "state", "side"] (spLk K) := ⟨_, _, ok_lk F32 kAh kFb swat, gl (by simp [fa, fa2]), F32.kp, b3 F32 fun _ _ _ _ _ _ _ _ _ => rfl⟩
  have kPl : Cal P w K mg base CX0 4 "paces_along" ["rows", "state", "side", "most"] (spPL K) := ⟨_, _, ok_pl F30 kAh kPc kLk glen swat, gl (by simp [fa, fa2]), F30.kp, b4 F30 fun _ _ _ _ _ _ _ _ _ _ => rfl⟩
  have kUt : Cal P w K mg base CX0 4 "_until" ["rows", "state", "signs"] (spUt K) := ⟨_, _, ok_ut F34 kPh kSA slarge, gl (by simp [fa, fa2]), F34.kp, b3 F34 fun _ _ _ _ _ _ _ _ _ => rfl⟩
  have kAl : Cal P w K mg base CX0 2 "_all_sides" ["state"] spSid := ⟨_, _, ok_sid F35 kFb grange, gl (by simp [fa, fa2]), F35.kp, b1 F35 fun _ _ _ _ _ _ _ => rfl⟩
  have kIA : Cal P w K mg base CX0 2 "_is_ahead" ["rows", "state", "signs"] (spIA K) := ⟨_, _, ok_ia F36 kNc kSA grange slarge, gl (by simp [fa, fa2]), F36.kp, b3 F36 fun _ _ _ _ _ _ _ _ _ => rfl⟩
  have kNr : Cal P w K mg base CX0 2 "_is_near" ["rows", "state", "signs", "most"] (spNear K) := ⟨_, _, ok_near F37 kSA grange glen gabs, gl (by simp [fa, fa2]), F37.kp, b4 F37 fun _ _ _ _ _ _ _ _ _ _ => rfl⟩
  have kLd : Cal P w K mg base CX0 5 "led_to" ["rows", "instruction", "state"] (spLed K) := ⟨_, _, ok_led F33 kFb kPh kUt kAl kIA kAh kNr kPl gsorted gset, gl (by simp [fa, fa2]), F33.kp, b3 F33 fun _ _ _ _ _ _ _ _ _ => rfl⟩
  have okSI : FnOk P w K mg base CX0 1 (ma K (gSt K) "__init__") f53 ["self", "rows"] (spStpI P w (gSt K)) := ok_stpI F53 stp
  have bSI : Binds K f53 ["self", "rows"] [] := b2 F53 fun _ _ _ _ _ _ _ _ => rfl
  have okSB : FnOk P w K mg base CX0 6 (ma K (gSt K) "behind") f54 ["self", "instruction", "state"] (spBeh K P w (gSt K)) := ok_beh F54 stp kLd
  have bSB : Binds K f54 ["self", "instruction", "state"] [] := b3 F54 fun _ _ _ _ _ _ _ _ _ => rfl
  have mSB := meth_ok (fact (f := .meth "Steps" "behind") (by simp [fa, fa2]))
  have okSL : FnOk P w K mg base CX0 7 (ma K (gSt K) "layers") f55 ["self", "instructions", "states"] (spLay K P w (gSt K)) := ok_lay F55 stp mSB okSB bSB gsorted
  have bSL : Binds K f55 ["self", "instructions", "states"] [] := b3 F55 fun _ _ _ _ _ _ _ _ _ => rfl
  have mSL := meth_ok (fact (f := .meth "Steps" "layers") (by simp [fa, fa2]))
  have okSE : FnOk P w K mg base CX0 8 (ma K (gSt K) "ends") f56 ["self", "instructions", "states"] (spEnds K P w (gSt K)) := ok_ends F56 stp mSL okSL bSL
  have bSE : Binds K f56 ["self", "instructions", "states"] [] := b3 F56 fun _ _ _ _ _ _ _ _ _ => rfl
  have mSE := meth_ok (fact (f := .meth "Steps" "ends") (by simp [fa, fa2]))
  have kBg : Cal P w K mg base CX0 5 "begin_states" ["chart"] (spBeg K (gMp K) (gI K)) := ⟨_, _, ok_beg F38 mp isl pIs okIs bIs pSg okSg bSg pFc okFc bFc pCl okCl bCl mGt okGt bGt, gl (by simp [fa, fa2]), F38.kp, b1 F38 fun _ _ _ _ _ _ _ => rfl⟩
  have kFi : Cal P w K mg base CX0 9 "final_states" ["chart"] (spFin K (gMp K) (gI K)) := ⟨_, _, ok_fin F39 mp isl stp pIs okIs bIs pIn okIn bIn pRw okRw bRw okSI bSI mSE okSE bSE kBg, gl (by simp [fa, fa2]), F39.kp, b1 F39 fun _ _ _ _ _ _ _ => rfl⟩
  have kSg : Cal P w K mg base CX0 1 "_law_sign" ["_law_rows_here", "_law_cell"] (spLSign K) := ⟨_, _, ok_lsign F4 glen, gl (by simp [fa, fa2]), F4.kp, b2 F4 fun _ _ _ _ _ _ _ _ => rfl⟩
  have kNx : Cal P w K mg base CX0 1 "_law_next" ["_law_cell", "_law_facing"] (spLNextI K) := ⟨_, _, ok_lnextI F5 gint, gl (by simp [fa, fa2]), F5.kp, b2 F5 fun _ _ _ _ _ _ _ _ => rfl⟩
  have kSh : Cal P w K mg base CX0 2 "_law_shore" ["_law_rows_here", "_law_state", "_law_side"] (spLSh K) := ⟨_, _, ok_lsh F9 kSg kNx gint grange, gl (by simp [fa, fa2]), F9.kp, b3 F9 fun _ _ _ _ _ _ _ _ _ => rfl⟩
  have kSe : Cal P w K mg base CX0 2 "_law_sees" ["_law_rows_here", "_law_cell", "_law_turn", "_law_signs_here"] (spLSe K) := ⟨_, _, ok_lse F12 kNx glen, gl (by simp [fa, fa2]), F12.kp, b4 F12 fun _ _ _ _ _ _ _ _ _ _ => rfl⟩
  have kPd : Cal P w K mg base CX0 3 "_law_paced" ["_law_rows_here", "_law_state", "_law_side", "_law_least", "_law_most"] (spLPd K) := ⟨_, _, ok_lpd F10 kSg kNx kSh grange glist, gl (by simp [fa, fa2]), F10.kp, b5 F10 fun _ _ _ _ _ _ _ _ _ _ _ => rfl⟩
  have kLl : Cal P w K mg base CX0 4 "_law_lead" ["_law_rows_here", "_law_state", "_law_instruction_here"] (spLLd K) := ⟨_, _, ok_lld F11 kSg kNx kPd kSe gint grange gdict glen gmin gabs, gl (by simp [fa, fa2]), F11.kp, b3 F11 fun _ _ _ _ _ _ _ _ _ => rfl⟩
  have kSs : Cal P w K mg base CX0 2 "_law_signs" ["_law_box", "_law_known"] spSigns := ⟨_, _, ok_signs F6 kTk gsorted glen, gl (by simp [fa, fa2]), F6.kp, b2 F6 fun _ _ _ _ _ _ _ _ => rfl⟩
  have kTu : Cal P w K mg base CX0 2 "_law_turns" ["_law_box"] spTurns := ⟨_, _, ok_turns F7 kTk grange gtuple, gl (by simp [fa, fa2]), F7.kp, b1 F7 fun _ _ _ _ _ _ _ => rfl⟩
  have kIn : Cal P w K mg base CX0 3 "_law_instruction" ["_law_box"] (spInstr K) := ⟨_, _, ok_instr F8 kTk kTu kSs, gl (by simp [fa, fa2]), F8.kp, b1 F8 fun _ _ _ _ _ _ _ => rfl⟩
  have kLb : Cal P w K mg base CX0 3 "_law_begins" ["_law_chart_here"] (spLBe K (gMp K) (gI K)) := ⟨_, _, ok_lbe F13 mp isl pIs okIs bIs pSg okSg bSg pFc okFc bFc pRw okRw bRw glen grange, gl (by simp [fa, fa2]), F13.kp, b1 F13 fun _ _ _ _ _ _ _ => rfl⟩
  have kBh : Cal P w K mg base CX0 5 "_law_behind" ["_law_rows_here", "_law_states", "_law_instruction_here"] (spLBh K) := ⟨_, _, ok_lbh F14 kLl gsorted, gl (by simp [fa, fa2]), F14.kp, b3 F14 fun _ _ _ _ _ _ _ _ _ => rfl⟩
  have mLn := ownB_ok x15
  have okLn : FnOk P w K mg base CX0 1 (ma K (gMp K) "__len__") f57 ["self"] (spMLen K (gMp K) (gI K)) := ok_mLen F57 mp glen
  have bLn : Binds K f57 ["self"] [] := b1 F57 fun _ _ _ _ _ _ _ => rfl
  have mGi := ownB_ok x16
  have okGi : FnOk P w K mg base CX0 1 (ma K (gMp K) "__getitem__") f58 ["self", "index"] (spMGet K (gMp K) (gI K)) := ok_mGet F58 mp
  have bGi : Binds K f58 ["self", "index"] [] := b2 F58 fun _ _ _ _ _ _ _ _ => rfl
  have kLe : Cal P w K mg base CX0 6 "_law_ends" ["_law_chart_here", "_law_left_out"] (spLEn K (gMp K) (gI K)) := ⟨_, _, ok_len F15 mp isl pIs okIs bIs pRw okRw bRw mLn okLn bLn mGi okGi bGi kLb kBh glen grange, gl (by simp [fa, fa2]), F15.kp, b2 F15 fun _ _ _ _ _ _ _ _ => rfl⟩
  have kRo : Cal P w K mg base CX0 2 "_law_rows" ["_law_box", "_law_most"] spRows := ⟨_, _, ok_rows F3 kTk grange gtuple glen, gl (by simp [fa, fa2]), F3.kp, b2 F3 fun _ _ _ _ _ _ _ _ => rfl⟩
  have kLh : Cal P w K mg base CX0 8 "_law_chart" ["_law_box", "_law_size", "_law_most"] (spLCh K (gMp K) (gI K)) := ⟨_, _, ok_lch F16 isl mp okN bN okM bM mAd x6 okAd bAd kTk kRo kSs kTu kIn kLe grange, gl (by simp [fa, fa2]), F16.kp, b3 F16 fun _ _ _ _ _ _ _ _ _ => rfl⟩
  have kLc : Cal P w K mg base CX0 1 "_law_cells" ["_law_states"] (spCel K) := ⟨_, _, ok_lcl F17 gsorted gset, gl (by simp [fa, fa2]), F17.kp, b1 F17 fun _ _ _ _ _ _ _ => rfl⟩
  have kCo : Cal P w K mg base CX0 1 "cells_of" ["states"] (spCel K) := ⟨_, _, ok_cel F46 gsorted, gl (by simp [fa, fa2]), F46.kp, b1 F46 fun _ _ _ _ _ _ _ => rfl⟩
  have kPz : Cal P w K mg base CX0 10 "places" ["chart"] (spPlc K (gMp K) (gI K)) := ⟨_, _, ok_plc F44 kCo kFi, gl (by simp [fa, fa2]), F44.kp, b1 F44 fun _ _ _ _ _ _ _ => rfl⟩
  have kIz : Cal P w K mg base CX0 8 "impossible_at" ["chart"] (spImp K (gMp K) (gI K)) := ⟨_, _, ok_imp F45 mp isl stp pIs okIs bIs pIn okIn bIn pRw okRw bRw okSI bSI mSL okSL bSL kBg genum glen, gl (by simp [fa, fa2]), F45.kp, b1 F45 fun _ _ _ _ _ _ _ => rfl⟩
  have okWi : FnOk P w K mg base (L2.CX P w) 7 (ma K (gMp K) "with_instructions") f60 ["self", "instructions"] (spWith K (gMp K) (gI K) (ga K "InvalidMap")) := ok_with F60 mp okM bM
  have bWi : Binds K f60 ["self", "instructions"] [] := b2 F60 fun _ _ _ _ _ _ _ _ => rfl
  have mWi := meth_ok (fact (f := .meth "Map" "with_instructions") (by simp [fa, fa2]))
  have okUn : FnOk P w K mg base (L2.CX P w) 8 (ma K (gMp K) "until") f59 ["self", "number"] (spUpto K (gMp K) (gI K)) := ok_upto F59 mp mWi okWi bWi gmax
  have bUn : Binds K f59 ["self", "number"] [] := b2 F59 fun _ _ _ _ _ _ _ _ => rfl
  have mUn := meth_ok (fact (f := .meth "Map" "until") (by simp [fa, fa2]))
  exact {
    beg := ⟨_, _, ok_begun F0 gint glist glen, gl (by simp [fa, fa2]), F0.kp, b1 F0 fun _ _ _ _ _ _ _ => rfl⟩
    lch := kLh
    alk := ⟨_, _, ok_alike F2 gAl F2.kp bAl gisi gint gbool gstr gtuple glist glen grange 5, gAl, F2.kp, bAl⟩
    lbe := kLb
    lbh := kBh
    lcl := kLc
    fst := kFi
    plc := kPz
    imp := kIz
    isl := isl
    map := mp
    qI := pIs
    GI := ⟨_, okIs, bIs⟩
    qR := pRw
    GR := ⟨_, okRw, bRw⟩
    mL := mLn
    GL := ⟨_, okLn, bLn⟩
    mG := mGi
    GG := ⟨_, okGi, bGi⟩
    mU := mUn
    GU := ⟨_, okUn, bUn⟩ }
theorem law_at {w : World} {K : PySem.W.Frag} {h : Heap} {mg : Str → Option Value} {f : Addr} (X : K.In h) (G : h.Ns mainGlobals mg) (hfa : mg ("law" : Str) = some (.ref f)) (c : He.SaysX (fa ++ fa2) fnD [] tfD exB w h K) (cg : obsA gsD K = valA gsD) :
    LawAtS PySem.Challenge.rw_oldmap_k05_whole_places_at_the_end w K CX0 11 63 "_law_script" mg f h := by
  have d := c.t.d
  have fr : ∀ {x : Str}, Fa.free x ∈ fa ++ fa2 → mg x = none := fun hx => free_ok X G (d.facts hx)
  have gl : ∀ {x : Str}, Fa.glo x ∈ fa ++ fa2 → mg x = some (.ref (ga K x)) := fun hx => glo_ok X G (d.facts hx)
  have fact : ∀ {f : Fa}, f ∈ fa ++ fa2 → f.ok K = true := fun hf => d.facts hf
  have e := hfa.symm.trans (gl (x := "law") (by simp [fa, fa2]))
  cases e
  obtain ⟨fd, F⟩ := d.def_ 18 (d := dG "law" (top 73)) rfl
  have F : FnP K "law" "law" sLaw _ fd := F
  have bL := FunD.bindsA (ps := ["_law_script"]) F fun _ _ _ _ _ _ us hl => match us, hl with | [_], _ => rfl
  refine ⟨fd, [], spLaw K, fun p hp => (by cases hp), fun p hp => (by cases hp), fun p hp => (by cases hp), fun s u => bL s [u] rfl, fun H a ns hl _ _ hS => ⟨a, ns, rfl, hS, hl, fun _ => rfl⟩, fun base KB GB TB => ?_⟩
  have PP := parts_at (P := PySem.Challenge.rw_oldmap_k05_whole_places_at_the_end.prog) (w := w) (base := base) X G c cg
  exact ok_law F PP (fr (x := "range") (by simp [fa])) (fr (x := "len") (by simp [fa]))
end Om
open PySem PySem.W PySem.Calls PyProof.Rows
theorem PySem.Challenge.cw_oldmap_k05_whole_places_at_the_end_holds : PySem.Challenge.rw_oldmap_k05_whole_places_at_the_end.Holds := by
  w_on; o_law
  refine HandSHeadRun.head_any (r := OpenLaw.row PySem.Challenge.rw_oldmap_k05_whole_places_at_the_end) (q := view (OpenLaw.row PySem.Challenge.rw_oldmap_k05_whole_places_at_the_end).prog [73]) (H := Om.hk) (ob := Om.ob) (M := 12000) (loose := Om.loose) (d := HandSHeadRun.topDef (OpenLaw.row PySem.Challenge.rw_oldmap_k05_whole_places_at_the_end).prog 73) (kwd := []) Om.ob_eq
    (by kernel_rfl) (fun s => by kernel_rfl) Om.run (by kernel_rfl) (by kernel_rfl) (by kernel_rfl) (by rfl) (by first | assumption | decide +kernel) (by decide +kernel) ⟨rfl, rfl, rfl, rfl, rfl, by decide +kernel⟩ ?hw ?hc
  case hw => w_witness2
  case hc =>
    refine LamX.walk_ofTsE (l := PySem.Challenge.rw_oldmap_k05_whole_places_at_the_end) (n := 63) (k := 11) (x := "_law_script") (CX := fun _ => L2.CX0) rfl (by decide) (by kernel_rfl) ⟨rfl, by decide, by decide⟩ ?F (fun _ _ _ _ _ z => z)
    intro w mg fa h Y G hmg0
    obtain ⟨K, KX, c, cg⟩ := Y
    have hmg : mg ("law" : PySem.Str) = some (.ref fa) := by
      have e : (HandSHeadRun.topDef (OpenLaw.row PySem.Challenge.rw_oldmap_k05_whole_places_at_the_end).prog 73).name = ("law" : PySem.Str) := by kernel_rfl
      rw [← e]
      exact hmg0
    exact ⟨K, KX, Om.law_at KX G hmg c cg⟩
